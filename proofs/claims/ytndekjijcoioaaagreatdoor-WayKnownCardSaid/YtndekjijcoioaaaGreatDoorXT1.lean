/-
  The tables of the calls that are known, and of those that are carried out elsewhere, up to level 1.
-/
import Derived.Test.YtndekjijcoioaaaGreatDoorXL1a
import Derived.Test.YtndekjijcoioaaaGreatDoorXL1b
import Derived.KernelRfl
namespace Go.Proofs.YtndekjijcoioaaaGreatDoor
open Go Go.Ev

def tbl1 : List (Nat × List Ent) := [(47, e1_47_0)]
theorem tbl1_ok : TblOK 2 Tryz.prog gl0 tbl1 := (.cons e1_47_0_ok .nil)
noncomputable def xt1 : List (Nat × List XEnt) := [(81, [x11149])]
theorem xt1_ok : XTblOK 2 Tryz.prog xt1 := (.cons (.cons (run_ok tbl0_ok xt0_ok) x11149_ok .nil) .nil)

end Go.Proofs.YtndekjijcoioaaaGreatDoor
