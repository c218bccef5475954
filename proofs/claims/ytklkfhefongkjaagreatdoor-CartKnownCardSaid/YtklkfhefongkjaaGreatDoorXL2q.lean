/-
  Calls that are known, or carried out elsewhere, level 2: each is carried out as its row says.
-/
import Derived.Test.YtklkfhefongkjaaGreatDoorXT1
import Derived.KernelRfl
namespace Go.Proofs.YtklkfhefongkjaaGreatDoor
open Go Go.Ev

set_option maxRecDepth 100000

def e2_104_9 : List Ent := [
  ⟨104, [.agg [.sl 2 0 2 2, .int .i64 1, .int .i64 2, .int .i64 0, .int .i64 1, .int .i64 3, .int .i64 4, .sl 3 0 3 3, .gs 4 3, .nils, .int .i64 20], .int .i64 1], [[.int .i64 10, .int .i64 12, .int .i64 8, .int .i64 8], [.int .i64 2, .int .i64 1, .int .i64 0, .int .i64 1, .int .i64 2, .int .i64 1, .int .i64 3, .int .i64 0, .int .i64 2], [.int .i64 1, .int .i64 2, .int .i64 0, .int .i64 0, .int .i64 1, .int .i64 1]], .tup [.int .i64 0, .int .i64 4], [], 531⟩]
theorem e2_104_9_ok : EntsOK 2 Tryz.prog gl0 e2_104_9 := .of (run_ok tbl1_ok xt1_ok) (by kernel_rfl)

end Go.Proofs.YtklkfhefongkjaaGreatDoor
