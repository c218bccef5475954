/-
  Calls that are known, or carried out elsewhere, level 2: each is carried out as its row says.
-/
import Derived.Test.YtoimgppbhpcliaaGreatDoorXT1
import Derived.KernelRfl
namespace Go.Proofs.YtoimgppbhpcliaaGreatDoor
open Go Go.Ev

set_option maxRecDepth 100000

def e2_16_1 : List Ent := [
  ⟨16, [.agg [.sl 1 0 2 2, .sl 2 0 2 2, .nils], .agg [.int .i64 0, .int .i64 1, .int .i64 4, .int .i64 0]], [[.int .i64 6, .int .i64 3, .int .i64 1, .int .i64 1, .int .i64 8, .int .i64 4, .int .i64 2, .int .i64 (-1)], [.int .i64 3, .int .i64 4, .int .i64 4, .int .i64 5]], .tup [.bool false, .int .i64 0], [], 424⟩]
theorem e2_16_1_ok : EntsOK 1 Tryz.prog gl0 e2_16_1 := .of (run_ok tbl1_ok xt1_ok) (by kernel_rfl)

end Go.Proofs.YtoimgppbhpcliaaGreatDoor
