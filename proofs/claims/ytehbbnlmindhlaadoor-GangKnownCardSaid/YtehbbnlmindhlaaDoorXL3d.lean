/-
  Calls that are known, or carried out elsewhere, level 3: each is carried out as its row says.
-/
import Derived.Test.YtehbbnlmindhlaaDoorXT2
import Derived.KernelRfl
namespace Go.Proofs.YtehbbnlmindhlaaDoor
open Go Go.Ev

set_option maxRecDepth 100000

def e3_16_1 : List Ent := [
  ⟨16, [.agg [.sl 1 0 3 3, .sl 2 0 2 2, .int .i64 4]], [[.int .i64 2, .int .i64 3, .int .i64 0, .int .i64 1, .int .i64 2, .int .i64 1, .int .i64 2, .int .i64 2, .int .i64 2], [.int .i64 0, .int .i64 1, .int .i64 1, .int .i64 2, .int .i64 1, .int .i64 2, .int .i64 2, .int .i64 2]], .tup [.sl 10455 0 3 3, .int .i64 0], [(10455, .grown [.int .i64 0, .int .i64 1, .int .i64 2] 1)], 10456⟩]
theorem e3_16_1_ok : EntsOK 1 Tryd.prog gl0 e3_16_1 := .of (run_ok tbl2_ok xt2_ok) (by kernel_rfl)

end Go.Proofs.YtehbbnlmindhlaaDoor
