/-
  Calls that are known, or carried out elsewhere, level 3: each is carried out as its row says.
-/
import Derived.Test.YtklkfhefongkjaaGreatDoorXT2
import Derived.KernelRfl
namespace Go.Proofs.YtklkfhefongkjaaGreatDoor
open Go Go.Ev

set_option maxRecDepth 100000

def e3_15_3 : List Ent := [
  ⟨15, [.agg [.sl 2 0 2 2, .int .i64 1, .int .i64 2, .int .i64 0, .int .i64 1, .int .i64 3, .int .i64 4, .sl 3 0 3 3, .sl 4 0 1 1, .nils, .int .i64 20, .sl 5 0 2 2, .sl 6 0 2 2], .int .i64 0], [[.int .i64 10, .int .i64 12, .int .i64 8, .int .i64 8], [.int .i64 2, .int .i64 1, .int .i64 0, .int .i64 1, .int .i64 2, .int .i64 1, .int .i64 3, .int .i64 0, .int .i64 2], [.int .i64 1, .int .i64 2], [.int .i64 6, .int .i64 4], [.int .i64 0, .int .i64 1, .int .i64 9, .int .i64 8, .int .i64 1, .int .i64 1, .int .i64 3, .int .i64 5]], .tup [.int .i64 10, .int .i64 0], [], 4658⟩]
theorem e3_15_3_ok : EntsOK 2 Tryz.prog gl0 e3_15_3 := .of (run_ok tbl2_ok xt2_ok) (by kernel_rfl)

end Go.Proofs.YtklkfhefongkjaaGreatDoor
