/-
  Calls that are known, level 2: each is carried out as its row says.
-/
import Derived.Test.YtdiejdhnmoengaaDoorXT1
import Derived.KernelRfl
namespace Go.Proofs.YtdiejdhnmoengaaDoor
open Go Go.Ev

set_option maxRecDepth 100000

def e2_25_3 : List Ent := [
  ⟨25, [.agg [.sl 1 0 2 2, .int .i64 1, .int .i64 2, .int .i64 0, .int .i64 1, .int .i64 3, .int .i64 4, .sl 2 0 3 3, .sl 3 0 1 1, .sl 4 0 1 1, .int .i64 20], .bool true], [[.int .i64 10, .int .i64 12, .int .i64 8, .int .i64 8], [.int .i64 2, .int .i64 1, .int .i64 0, .int .i64 1, .int .i64 2, .int .i64 1, .int .i64 3, .int .i64 0, .int .i64 2], [.int .i64 1, .int .i64 2], [.int .i64 0, .int .i64 1, .int .i64 24, .int .i64 0]], .tup [.agg [.ptr 43 0, .gs 265 2], .int .i64 0], [(30, .map [(.agg [.int .i64 1, .int .i64 2], .int .i64 2)]), (43, .cells [.sl 1 0 2 2, .int .i64 1, .int .i64 2, .int .i64 0, .int .i64 1, .int .i64 3, .int .i64 4, .sl 2 0 3 3, .sl 3 0 1 1, .sl 4 0 1 1, .int .i64 20, .map 30]), (265, .grown [.int .i64 2, .int .i64 1, .int .i64 3, .int .i64 0, .int .i64 1, .int .i64 1, .int .i64 0, .int .i64 0, .int .i64 0, .int .i64 0, .int .i64 5, .int .i64 12, .int .i64 21, .int .i64 0, .int .i64 0, .int .i64 0, .int .i64 12, .int .i64 12, .int .i64 8, .int .i64 8, .int .i64 0, .int .i64 0, .int .i64 0, .int .i64 0, .int .i64 2, .int .i64 1, .int .i64 4, .int .i64 0, .int .i64 1, .int .i64 1, .int .i64 0, .int .i64 0, .int .i64 0, .int .i64 0, .int .i64 5, .int .i64 13, .int .i64 23, .int .i64 0, .int .i64 0, .int .i64 0, .int .i64 11, .int .i64 11, .int .i64 8, .int .i64 8, .int .i64 0, .int .i64 0, .int .i64 0, .int .i64 0] 24)], 266⟩]
theorem e2_25_3_ok : EntsOK 1 Tryd.prog gl0 e2_25_3 := .of (run_ok tbl1_ok) (by kernel_rfl)

end Go.Proofs.YtdiejdhnmoengaaDoor
