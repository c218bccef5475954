/-
  Calls that are known, or carried out elsewhere, level 1: each is carried out as its row says.
-/
import Derived.Test.YtndekjijcoioaaaGreatDoorXBase
import Derived.KernelRfl
namespace Go.Proofs.YtndekjijcoioaaaGreatDoor
open Go Go.Ev

set_option maxRecDepth 100000

def e1_47_0 : List Ent := [
  ⟨47, [.agg [.nils, .nils, .int .i64 0]], [], .int .i64 40, [], 4⟩,
  ⟨47, [.agg [.sl 2 0 3 3, .sl 3 0 2 2, .int .i64 5]], [[.int .i64 2, .int .i64 3, .int .i64 0, .int .i64 1, .int .i64 2, .int .i64 1, .int .i64 2, .int .i64 2, .int .i64 2], [.int .i64 0, .int .i64 1, .int .i64 1, .int .i64 2, .int .i64 1, .int .i64 2, .int .i64 2, .int .i64 2]], .int .i64 40, [], 16⟩,
  ⟨47, [.agg [.sl 2 0 3 3, .sl 3 0 2 2, .int .i64 4]], [[.int .i64 2, .int .i64 3, .int .i64 0, .int .i64 1, .int .i64 2, .int .i64 1, .int .i64 2, .int .i64 2, .int .i64 2], [.int .i64 0, .int .i64 1, .int .i64 1, .int .i64 2, .int .i64 1, .int .i64 2, .int .i64 2, .int .i64 2]], .int .i64 0, [], 16⟩]
theorem e1_47_0_ok : EntsOK 2 Tryz.prog gl0 e1_47_0 := .of (run_ok tbl0_ok xt0_ok) (by kernel_rfl)

end Go.Proofs.YtndekjijcoioaaaGreatDoor
