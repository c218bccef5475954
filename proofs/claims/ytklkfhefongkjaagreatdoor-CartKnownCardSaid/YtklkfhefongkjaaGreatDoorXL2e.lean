/-
  Calls that are known, or carried out elsewhere, level 2: each is carried out as its row says.
-/
import Derived.Test.YtklkfhefongkjaaGreatDoorXT1
import Derived.KernelRfl
namespace Go.Proofs.YtklkfhefongkjaaGreatDoor
open Go Go.Ev

set_option maxRecDepth 100000

def e2_52_0 : List Ent := [
  ⟨52, [.agg [.sl 2 0 2 2, .int .i64 1, .int .i64 2, .int .i64 0, .int .i64 1, .int .i64 3, .int .i64 4, .sl 3 0 3 3, .sl 4 0 1 1, .sl 5 0 2 2, .int .i64 20]], [[.int .i64 10, .int .i64 12, .int .i64 8, .int .i64 8], [.int .i64 2, .int .i64 1, .int .i64 0, .int .i64 1, .int .i64 2, .int .i64 1, .int .i64 3, .int .i64 0, .int .i64 2], [.int .i64 1, .int .i64 2], [.int .i64 0, .int .i64 1, .int .i64 24, .int .i64 0, .int .i64 1, .int .i64 1, .int .i64 18, .int .i64 1]], .tup [.bool false, .int .i64 0], [], 291⟩]
theorem e2_52_0_ok : EntsOK 2 Tryz.prog gl0 e2_52_0 := .of (run_ok tbl1_ok xt1_ok) (by kernel_rfl)

def e2_52_1 : List Ent := [
  ⟨52, [.agg [.sl 2 0 2 2, .int .i64 1, .int .i64 2, .int .i64 0, .int .i64 1, .int .i64 3, .int .i64 4, .sl 3 0 3 3, .sl 4 0 1 1, .nils, .int .i64 20]], [[.int .i64 10, .int .i64 12, .int .i64 8, .int .i64 8], [.int .i64 2, .int .i64 1, .int .i64 0, .int .i64 1, .int .i64 2, .int .i64 1, .int .i64 3, .int .i64 0, .int .i64 2], [.int .i64 1, .int .i64 2]], .tup [.bool true, .int .i64 0], [], 71⟩,
  ⟨52, [.agg [.sl 2 0 2 2, .int .i64 1, .int .i64 2, .int .i64 0, .int .i64 1, .int .i64 3, .int .i64 4, .sl 3 0 3 3, .sl 4 0 1 1, .nils, .int .i64 9]], [[.int .i64 10, .int .i64 12, .int .i64 8, .int .i64 8], [.int .i64 2, .int .i64 1, .int .i64 0, .int .i64 1, .int .i64 2, .int .i64 1, .int .i64 3, .int .i64 0, .int .i64 2], [.int .i64 1, .int .i64 2]], .tup [.bool true, .int .i64 0], [], 71⟩]
theorem e2_52_1_ok : EntsOK 2 Tryz.prog gl0 e2_52_1 := .of (run_ok tbl1_ok xt1_ok) (by kernel_rfl)

end Go.Proofs.YtklkfhefongkjaaGreatDoor
