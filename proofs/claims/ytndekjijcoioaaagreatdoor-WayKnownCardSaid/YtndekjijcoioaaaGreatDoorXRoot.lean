/-
  The function itself is carried out, and answers true.
-/
import Derived.Test.YtndekjijcoioaaaGreatDoorXT4
import Derived.KernelRfl
namespace Go.Proofs.YtndekjijcoioaaaGreatDoor
open Go Go.Ev

set_option maxRecDepth 100000

theorem root_true : saysTrue (evalB Tryz.prog gl0 tbl4 xt4 5000 gl0.length 3 [] (putObjs gl0 0 .leaf) gl0.length) = true := by kernel_rfl
theorem root_run : CallOK 2 Tryz.prog (evalB Tryz.prog gl0 tbl4 xt4 5000) := (run_ok tbl4_ok xt4_ok).1

end Go.Proofs.YtndekjijcoioaaaGreatDoor
