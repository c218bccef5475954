/-
  Calls that are known, or carried out elsewhere, level 1: each is carried out as its row says.
-/
import Derived.Test.YtklkfhefongkjaaGreatDoorXBase
import Derived.KernelRfl
namespace Go.Proofs.YtklkfhefongkjaaGreatDoor
open Go Go.Ev

set_option maxRecDepth 100000

def e1_64_4 : List Ent := [
  ⟨64, [.agg [.sl 2 0 2 2, .int .i64 1, .int .i64 2, .int .i64 0, .int .i64 1, .int .i64 3, .int .i64 4, .sl 3 0 3 3, .gs 4 1, .nils, .int .i64 9]], [[.int .i64 10, .int .i64 12, .int .i64 8, .int .i64 8], [.int .i64 2, .int .i64 1, .int .i64 0, .int .i64 1, .int .i64 2, .int .i64 1, .int .i64 3, .int .i64 0, .int .i64 2], [.int .i64 1, .int .i64 2]], .int .i64 0, [], 24⟩,
  ⟨64, [.agg [.sl 2 0 2 2, .int .i64 1, .int .i64 2, .int .i64 0, .int .i64 1, .int .i64 3, .int .i64 4, .sl 3 0 3 3, .gs 4 2, .nils, .int .i64 9]], [[.int .i64 10, .int .i64 12, .int .i64 8, .int .i64 8], [.int .i64 2, .int .i64 1, .int .i64 0, .int .i64 1, .int .i64 2, .int .i64 1, .int .i64 3, .int .i64 0, .int .i64 2], [.int .i64 1, .int .i64 2, .int .i64 0, .int .i64 0]], .int .i64 0, [], 25⟩,
  ⟨64, [.agg [.sl 2 0 2 2, .int .i64 1, .int .i64 2, .int .i64 0, .int .i64 1, .int .i64 3, .int .i64 4, .sl 3 0 3 3, .gs 4 4, .nils, .int .i64 20]], [[.int .i64 10, .int .i64 12, .int .i64 8, .int .i64 8], [.int .i64 2, .int .i64 1, .int .i64 0, .int .i64 1, .int .i64 2, .int .i64 1, .int .i64 3, .int .i64 0, .int .i64 2], [.int .i64 1, .int .i64 2, .int .i64 0, .int .i64 0, .int .i64 1, .int .i64 1, .int .i64 0, .int .i64 2]], .int .i64 0, [], 27⟩]
theorem e1_64_4_ok : EntsOK 2 Tryz.prog gl0 e1_64_4 := .of (run_ok tbl0_ok xt0_ok) (by kernel_rfl)

end Go.Proofs.YtklkfhefongkjaaGreatDoor
