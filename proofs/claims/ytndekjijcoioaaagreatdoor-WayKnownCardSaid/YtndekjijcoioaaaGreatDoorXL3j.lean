/-
  Calls that are known, or carried out elsewhere, level 3: each is carried out as its row says.
-/
import Derived.Test.YtndekjijcoioaaaGreatDoorXT2
import Derived.KernelRfl
namespace Go.Proofs.YtndekjijcoioaaaGreatDoor
open Go Go.Ev

set_option maxRecDepth 100000

def e3_15_2 : List Ent := [
  ⟨15, [.agg [.sl 2 0 3 3, .sl 3 0 2 2, .int .i64 4, .int .i64 3, .sl 4 0 4 4, .sl 5 0 2 2]], [[.int .i64 2, .int .i64 3, .int .i64 0, .int .i64 1, .int .i64 2, .int .i64 1, .int .i64 2, .int .i64 2, .int .i64 2], [.int .i64 0, .int .i64 1, .int .i64 1, .int .i64 2, .int .i64 1, .int .i64 2, .int .i64 2, .int .i64 2], [.int .i64 0, .int .i64 1, .int .i64 0, .int .i64 10, .int .i64 11, .int .i64 1, .int .i64 2, .int .i64 1, .int .i64 12, .int .i64 14, .int .i64 0, .int .i64 2, .int .i64 2, .int .i64 30, .int .i64 30, .int .i64 1, .int .i64 2, .int .i64 (-1), .int .i64 20, .int .i64 21], [.int .i64 0, .int .i64 2, .int .i64 24, .int .i64 0, .int .i64 1, .int .i64 40]], .tup [.sl 528 0 3 3, .int .i64 0], [(528, .grown [.int .i64 0, .int .i64 1, .int .i64 2] 1)], 529⟩]
theorem e3_15_2_ok : EntsOK 2 Tryz.prog gl0 e3_15_2 := .of (run_ok tbl2_ok xt2_ok) (by kernel_rfl)

end Go.Proofs.YtndekjijcoioaaaGreatDoor
