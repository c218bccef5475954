/-
  Calls that are known, level 3: each is carried out as its row says.
-/
import Derived.Test.YtdiejdhnmoengaaDoorXT2
import Derived.KernelRfl
namespace Go.Proofs.YtdiejdhnmoengaaDoor
open Go Go.Ev

set_option maxRecDepth 100000

def e3_17_2 : List Ent := [
  ⟨17, [.agg [.sl 1 0 2 2, .int .i64 1, .int .i64 2, .int .i64 0, .int .i64 1, .int .i64 3, .int .i64 4, .sl 2 0 3 3, .sl 3 0 1 1, .sl 4 0 2 2, .int .i64 20]], [[.int .i64 10, .int .i64 12, .int .i64 8, .int .i64 8], [.int .i64 2, .int .i64 1, .int .i64 0, .int .i64 1, .int .i64 2, .int .i64 1, .int .i64 3, .int .i64 0, .int .i64 2], [.int .i64 1, .int .i64 2], [.int .i64 0, .int .i64 1, .int .i64 24, .int .i64 0, .int .i64 1, .int .i64 1, .int .i64 18, .int .i64 1]], .tup [.gs 312 1, .int .i64 0], [(312, .grown [.int .i64 0] 1)], 412⟩]
theorem e3_17_2_ok : EntsOK 1 Tryd.prog gl0 e3_17_2 := .of (run_ok tbl2_ok) (by kernel_rfl)

end Go.Proofs.YtdiejdhnmoengaaDoor
