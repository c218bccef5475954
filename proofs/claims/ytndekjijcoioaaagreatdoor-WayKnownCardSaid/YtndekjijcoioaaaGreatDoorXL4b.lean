/-
  Calls that are known, or carried out elsewhere, level 4: each is carried out as its row says.
-/
import Derived.Test.YtndekjijcoioaaaGreatDoorXT3
import Derived.KernelRfl
namespace Go.Proofs.YtndekjijcoioaaaGreatDoor
open Go Go.Ev

set_option maxRecDepth 100000

def e4_16_3 : List Ent := [
  ⟨16, [.agg [.sl 2 0 3 3, .sl 3 0 2 2, .int .i64 4, .int .i64 3, .sl 4 0 4 4, .sl 5 0 2 2]], [[.int .i64 2, .int .i64 3, .int .i64 0, .int .i64 1, .int .i64 2, .int .i64 1, .int .i64 2, .int .i64 2, .int .i64 2], [.int .i64 0, .int .i64 1, .int .i64 1, .int .i64 2, .int .i64 1, .int .i64 2, .int .i64 2, .int .i64 2], [.int .i64 0, .int .i64 1, .int .i64 0, .int .i64 10, .int .i64 11, .int .i64 1, .int .i64 2, .int .i64 1, .int .i64 12, .int .i64 14, .int .i64 0, .int .i64 2, .int .i64 2, .int .i64 30, .int .i64 30, .int .i64 1, .int .i64 2, .int .i64 (-1), .int .i64 20, .int .i64 21], [.int .i64 0, .int .i64 2, .int .i64 32, .int .i64 0, .int .i64 1, .int .i64 40]], .tup [.nils, .int .i64 4], [], 4706⟩]
theorem e4_16_3_ok : EntsOK 2 Tryz.prog gl0 e4_16_3 := .of (run_ok tbl3_ok xt3_ok) (by kernel_rfl)

end Go.Proofs.YtndekjijcoioaaaGreatDoor
