/-
  Calls that are known, or carried out elsewhere, level 2: each is carried out as its row says.
-/
import Derived.Test.YtehbbnlmindhlaaDoorXT1
import Derived.KernelRfl
namespace Go.Proofs.YtehbbnlmindhlaaDoor
open Go Go.Ev

set_option maxRecDepth 100000

def e2_17_3 : List Ent := [
  ⟨17, [.agg [.sl 1 0 3 3, .sl 2 0 2 2, .int .i64 4]], [[.int .i64 2, .int .i64 3, .int .i64 0, .int .i64 1, .int .i64 2, .int .i64 1, .int .i64 2, .int .i64 2, .int .i64 2], [.int .i64 0, .int .i64 1, .int .i64 1, .int .i64 2, .int .i64 1, .int .i64 1, .int .i64 2, .int .i64 2]], .tup [.int .i64 2, .int .i64 0], [], 137⟩]
theorem e2_17_3_ok : EntsOK 1 Tryd.prog gl0 e2_17_3 := .of (run_ok tbl1_ok xt1_ok) (by kernel_rfl)

end Go.Proofs.YtehbbnlmindhlaaDoor
