/-
  Calls that are known, or carried out elsewhere, level 1: each is carried out as its row says.
-/
import Derived.Test.YtjnckbefajfgbaaXBase
import Derived.KernelRfl
namespace Go.Proofs.Ytjnckbefajfgbaa
open Go Go.Ev

set_option maxRecDepth 100000

def e1_59_0 : List Ent := [
  ⟨59, [.agg [.sl 0 0 2 2, .sl 1 0 4 4, .nils]], [[.int .i64 5, .int .i64 4, .int .i64 4, .int .i64 3], [.int .i64 3, .int .i64 4, .int .i64 2, .int .i64 2, .int .i64 3, .int .i64 3, .int .i64 3, .int .i64 3, .int .i64 6, .int .i64 4, .int .i64 4, .int .i64 2]], .int .i64 0, [], 15⟩,
  ⟨59, [.agg [.sl 0 0 2 2, .sl 1 0 4 4, .sl 2 0 1 1]], [[.int .i64 5, .int .i64 4, .int .i64 4, .int .i64 3], [.int .i64 3, .int .i64 4, .int .i64 2, .int .i64 2, .int .i64 3, .int .i64 3, .int .i64 3, .int .i64 3, .int .i64 6, .int .i64 4, .int .i64 4, .int .i64 2], [.int .i64 2, .int .i64 0]], .int .i64 0, [], 20⟩,
  ⟨59, [.agg [.sl 0 0 2 2, .sl 1 0 4 4, .sl 2 0 1 1]], [[.int .i64 5, .int .i64 4, .int .i64 4, .int .i64 3], [.int .i64 3, .int .i64 4, .int .i64 2, .int .i64 2, .int .i64 3, .int .i64 3, .int .i64 3, .int .i64 3, .int .i64 6, .int .i64 4, .int .i64 4, .int .i64 2], [.int .i64 1, .int .i64 1]], .int .i64 0, [], 20⟩,
  ⟨59, [.agg [.sl 0 0 2 2, .sl 1 0 4 4, .sl 2 0 2 2]], [[.int .i64 5, .int .i64 4, .int .i64 4, .int .i64 3], [.int .i64 3, .int .i64 4, .int .i64 2, .int .i64 2, .int .i64 3, .int .i64 3, .int .i64 3, .int .i64 3, .int .i64 6, .int .i64 4, .int .i64 4, .int .i64 2], [.int .i64 1, .int .i64 1, .int .i64 2, .int .i64 0]], .int .i64 0, [], 24⟩]
theorem e1_59_0_ok : EntsOK 0 Try.prog gl0 e1_59_0 := .of (run_ok tbl0_ok xt0_ok) (by kernel_rfl)

end Go.Proofs.Ytjnckbefajfgbaa
