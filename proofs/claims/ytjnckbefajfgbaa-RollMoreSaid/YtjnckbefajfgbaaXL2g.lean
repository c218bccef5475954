/-
  Calls that are known, or carried out elsewhere, level 2: each is carried out as its row says.
-/
import Derived.Test.YtjnckbefajfgbaaXT1
import Derived.KernelRfl
namespace Go.Proofs.Ytjnckbefajfgbaa
open Go Go.Ev

set_option maxRecDepth 100000

def e2_27_0 : List Ent := [
  ⟨27, [.agg [.sl 0 0 2 2, .sl 1 0 4 4, .sl 2 0 2 2]], [[.int .i64 5, .int .i64 4, .int .i64 4, .int .i64 3], [.int .i64 3, .int .i64 4, .int .i64 2, .int .i64 2, .int .i64 3, .int .i64 3, .int .i64 3, .int .i64 3, .int .i64 6, .int .i64 4, .int .i64 4, .int .i64 2], [.int .i64 1, .int .i64 1, .int .i64 2, .int .i64 0]], .tup [.sl 134 0 1 1, .int .i64 0], [(134, .grown [.int .i64 0] 1)], 721⟩]
theorem e2_27_0_ok : EntsOK 0 Try.prog gl0 e2_27_0 := .of (run_ok tbl1_ok xt1_ok) (by kernel_rfl)

end Go.Proofs.Ytjnckbefajfgbaa
