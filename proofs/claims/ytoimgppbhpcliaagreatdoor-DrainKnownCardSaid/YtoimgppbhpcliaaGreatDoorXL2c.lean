/-
  Calls that are known, or carried out elsewhere, level 2: each is carried out as its row says.
-/
import Derived.Test.YtoimgppbhpcliaaGreatDoorXT1
import Derived.KernelRfl
namespace Go.Proofs.YtoimgppbhpcliaaGreatDoor
open Go Go.Ev

set_option maxRecDepth 100000

def e2_9_2 : List Ent := [
  ⟨9, [.agg [.sl 1 0 2 2, .sl 2 0 2 2, .nils], .int .i64 0, .int .i64 0], [[.int .i64 6, .int .i64 3, .int .i64 1, .int .i64 1, .int .i64 8, .int .i64 4, .int .i64 2, .int .i64 (-1)], [.int .i64 3, .int .i64 4, .int .i64 4, .int .i64 5]], .tup [.agg [.int .i64 0, .int .i64 4], .int .i64 0], [], 439⟩]
theorem e2_9_2_ok : EntsOK 1 Tryz.prog gl0 e2_9_2 := .of (run_ok tbl1_ok xt1_ok) (by kernel_rfl)

end Go.Proofs.YtoimgppbhpcliaaGreatDoor
