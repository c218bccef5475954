/-
  Calls that are known, level 3: each is carried out as its row says.
-/
import Derived.Test.YtdiejdhnmoengaaDoorXT2
import Derived.KernelRfl
namespace Go.Proofs.YtdiejdhnmoengaaDoor
open Go Go.Ev

set_option maxRecDepth 100000

def e3_16_1 : List Ent := [
  ⟨16, [.agg [.sl 1 0 2 2, .int .i64 1, .int .i64 2, .int .i64 0, .int .i64 1, .int .i64 3, .int .i64 4, .sl 2 0 3 3, .sl 3 0 1 1, .sl 4 0 1 1, .int .i64 20], .agg [.int .i64 1, .int .i64 1, .int .i64 19, .int .i64 0]], [[.int .i64 10, .int .i64 12, .int .i64 8, .int .i64 8], [.int .i64 2, .int .i64 1, .int .i64 0, .int .i64 1, .int .i64 2, .int .i64 1, .int .i64 3, .int .i64 0, .int .i64 2], [.int .i64 1, .int .i64 2], [.int .i64 0, .int .i64 1, .int .i64 24, .int .i64 0]], .tup [.bool false, .int .i64 0], [], 462⟩]
theorem e3_16_1_ok : EntsOK 1 Tryd.prog gl0 e3_16_1 := .of (run_ok tbl2_ok) (by kernel_rfl)

end Go.Proofs.YtdiejdhnmoengaaDoor
