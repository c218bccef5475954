/-
  Calls that are known, level 1: each is carried out as its row says.
-/
import Derived.Test.YtdiejdhnmoengaaDoorXBase
import Derived.KernelRfl
namespace Go.Proofs.YtdiejdhnmoengaaDoor
open Go Go.Ev

set_option maxRecDepth 100000

def e1_23_0 : List Ent := [
  ⟨23, [.agg [.sl 1 0 2 2, .int .i64 1, .int .i64 2, .int .i64 0, .int .i64 1, .int .i64 3, .int .i64 4, .sl 2 0 3 3, .sl 3 0 1 1, .sl 4 0 2 2, .int .i64 20]], [[.int .i64 10, .int .i64 12, .int .i64 8, .int .i64 8], [.int .i64 2, .int .i64 1, .int .i64 0, .int .i64 1, .int .i64 2, .int .i64 1, .int .i64 3, .int .i64 0, .int .i64 2], [.int .i64 1, .int .i64 2], [.int .i64 0, .int .i64 1, .int .i64 24, .int .i64 0, .int .i64 1, .int .i64 1, .int .i64 18, .int .i64 1]], .ptr 19 0, [(6, .map [(.agg [.int .i64 1, .int .i64 2], .int .i64 2)]), (19, .cells [.sl 1 0 2 2, .int .i64 1, .int .i64 2, .int .i64 0, .int .i64 1, .int .i64 3, .int .i64 4, .sl 2 0 3 3, .sl 3 0 1 1, .sl 4 0 2 2, .int .i64 20, .map 6])], 20⟩,
  ⟨23, [.agg [.sl 1 0 2 2, .int .i64 1, .int .i64 2, .int .i64 0, .int .i64 1, .int .i64 3, .int .i64 4, .sl 2 0 3 3, .sl 3 0 1 1, .nils, .int .i64 20]], [[.int .i64 10, .int .i64 12, .int .i64 8, .int .i64 8], [.int .i64 2, .int .i64 1, .int .i64 0, .int .i64 1, .int .i64 2, .int .i64 1, .int .i64 3, .int .i64 0, .int .i64 2], [.int .i64 1, .int .i64 2]], .ptr 18 0, [(5, .map [(.agg [.int .i64 1, .int .i64 2], .int .i64 2)]), (18, .cells [.sl 1 0 2 2, .int .i64 1, .int .i64 2, .int .i64 0, .int .i64 1, .int .i64 3, .int .i64 4, .sl 2 0 3 3, .sl 3 0 1 1, .nils, .int .i64 20, .map 5])], 19⟩,
  ⟨23, [.agg [.sl 1 0 2 2, .int .i64 1, .int .i64 2, .int .i64 0, .int .i64 1, .int .i64 3, .int .i64 4, .sl 2 0 3 3, .sl 3 0 1 1, .sl 4 0 1 1, .int .i64 20]], [[.int .i64 10, .int .i64 12, .int .i64 8, .int .i64 8], [.int .i64 2, .int .i64 1, .int .i64 0, .int .i64 1, .int .i64 2, .int .i64 1, .int .i64 3, .int .i64 0, .int .i64 2], [.int .i64 1, .int .i64 2], [.int .i64 0, .int .i64 1, .int .i64 24, .int .i64 0]], .ptr 19 0, [(6, .map [(.agg [.int .i64 1, .int .i64 2], .int .i64 2)]), (19, .cells [.sl 1 0 2 2, .int .i64 1, .int .i64 2, .int .i64 0, .int .i64 1, .int .i64 3, .int .i64 4, .sl 2 0 3 3, .sl 3 0 1 1, .sl 4 0 1 1, .int .i64 20, .map 6])], 20⟩]
theorem e1_23_0_ok : EntsOK 1 Tryd.prog gl0 e1_23_0 := .of (run_ok tbl0_ok) (by kernel_rfl)

end Go.Proofs.YtdiejdhnmoengaaDoor
