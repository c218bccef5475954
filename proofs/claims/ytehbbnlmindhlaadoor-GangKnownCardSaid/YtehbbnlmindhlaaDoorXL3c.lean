/-
  Calls that are known, or carried out elsewhere, level 3: each is carried out as its row says.
-/
import Derived.Test.YtehbbnlmindhlaaDoorXT2
import Derived.KernelRfl
namespace Go.Proofs.YtehbbnlmindhlaaDoor
open Go Go.Ev

set_option maxRecDepth 100000

def e3_16_0 : List Ent := [
  ⟨16, [.agg [.nils, .nils, .int .i64 0]], [], .tup [.nils, .int .i64 40], [], 4⟩,
  ⟨16, [.agg [.gs 1 6, .sl 2 0 2 2, .int .i64 4]], [[.int .i64 2, .int .i64 3, .int .i64 0, .int .i64 1, .int .i64 2, .int .i64 1, .int .i64 2, .int .i64 2, .int .i64 2, .int .i64 2, .int .i64 3, .int .i64 0, .int .i64 1, .int .i64 2, .int .i64 1, .int .i64 2, .int .i64 2, .int .i64 2], [.int .i64 0, .int .i64 1, .int .i64 1, .int .i64 2, .int .i64 1, .int .i64 2, .int .i64 2, .int .i64 2]], .tup [.nils, .int .i64 40], [], 6⟩,
  ⟨16, [.agg [.sl 1 0 3 3, .sl 2 0 2 2, .int .i64 4]], [[.int .i64 2, .int .i64 5, .int .i64 0, .int .i64 1, .int .i64 2, .int .i64 1, .int .i64 2, .int .i64 2, .int .i64 2], [.int .i64 0, .int .i64 1, .int .i64 1, .int .i64 2, .int .i64 1, .int .i64 2, .int .i64 2, .int .i64 2]], .tup [.nils, .int .i64 40], [], 8⟩,
  ⟨16, [.agg [.sl 1 0 3 3, .sl 2 0 2 2, .int .i64 4]], [[.int .i64 7, .int .i64 7, .int .i64 0, .int .i64 1, .int .i64 2, .int .i64 1, .int .i64 2, .int .i64 2, .int .i64 2], [.int .i64 0, .int .i64 1, .int .i64 1, .int .i64 2, .int .i64 1, .int .i64 2, .int .i64 2, .int .i64 2]], .tup [.nils, .int .i64 40], [], 8⟩,
  ⟨16, [.agg [.sl 1 0 3 3, .sl 2 0 2 2, .int .i64 4]], [[.int .i64 2, .int .i64 3, .int .i64 0, .int .i64 1, .int .i64 2, .int .i64 16, .int .i64 2, .int .i64 2, .int .i64 2], [.int .i64 0, .int .i64 1, .int .i64 1, .int .i64 2, .int .i64 1, .int .i64 2, .int .i64 2, .int .i64 2]], .tup [.nils, .int .i64 40], [], 10⟩,
  ⟨16, [.agg [.sl 1 0 3 3, .gs 2 4, .int .i64 4]], [[.int .i64 2, .int .i64 3, .int .i64 0, .int .i64 1, .int .i64 2, .int .i64 1, .int .i64 2, .int .i64 2, .int .i64 2], [.int .i64 0, .int .i64 1, .int .i64 1, .int .i64 2, .int .i64 1, .int .i64 2, .int .i64 2, .int .i64 2, .int .i64 0, .int .i64 1, .int .i64 1, .int .i64 2, .int .i64 1, .int .i64 2, .int .i64 2, .int .i64 2]], .tup [.nils, .int .i64 40], [], 12⟩,
  ⟨16, [.agg [.sl 1 0 3 3, .sl 2 0 2 2, .int .i64 4]], [[.int .i64 2, .int .i64 3, .int .i64 0, .int .i64 1, .int .i64 2, .int .i64 1, .int .i64 2, .int .i64 2, .int .i64 2], [.int .i64 0, .int .i64 3, .int .i64 1, .int .i64 2, .int .i64 1, .int .i64 2, .int .i64 2, .int .i64 2]], .tup [.nils, .int .i64 40], [], 13⟩,
  ⟨16, [.agg [.sl 1 0 3 3, .sl 2 0 2 2, .int .i64 4]], [[.int .i64 2, .int .i64 3, .int .i64 0, .int .i64 1, .int .i64 2, .int .i64 1, .int .i64 2, .int .i64 2, .int .i64 2], [.int .i64 0, .int .i64 1, .int .i64 1, .int .i64 2, .int .i64 3, .int .i64 2, .int .i64 2, .int .i64 2]], .tup [.nils, .int .i64 40], [], 15⟩,
  ⟨16, [.agg [.sl 1 0 3 3, .sl 2 0 2 2, .int .i64 4]], [[.int .i64 2, .int .i64 3, .int .i64 0, .int .i64 1, .int .i64 2, .int .i64 1, .int .i64 2, .int .i64 2, .int .i64 2], [.int .i64 0, .int .i64 1, .int .i64 1, .int .i64 2, .int .i64 1, .int .i64 2, .int .i64 4, .int .i64 4]], .tup [.nils, .int .i64 40], [], 16⟩,
  ⟨16, [.agg [.sl 1 0 3 3, .sl 2 0 2 2, .int .i64 5]], [[.int .i64 2, .int .i64 3, .int .i64 0, .int .i64 1, .int .i64 2, .int .i64 1, .int .i64 2, .int .i64 2, .int .i64 2], [.int .i64 0, .int .i64 1, .int .i64 1, .int .i64 2, .int .i64 1, .int .i64 2, .int .i64 2, .int .i64 2]], .tup [.nils, .int .i64 40], [], 16⟩,
  ⟨16, [.agg [.sl 1 0 3 3, .sl 2 0 2 2, .int .i64 0]], [[.int .i64 2, .int .i64 3, .int .i64 0, .int .i64 1, .int .i64 2, .int .i64 1, .int .i64 2, .int .i64 2, .int .i64 2], [.int .i64 0, .int .i64 1, .int .i64 1, .int .i64 2, .int .i64 1, .int .i64 2, .int .i64 2, .int .i64 2]], .tup [.nils, .int .i64 40], [], 16⟩]
theorem e3_16_0_ok : EntsOK 1 Tryd.prog gl0 e3_16_0 := .of (run_ok tbl2_ok xt2_ok) (by kernel_rfl)

end Go.Proofs.YtehbbnlmindhlaaDoor
