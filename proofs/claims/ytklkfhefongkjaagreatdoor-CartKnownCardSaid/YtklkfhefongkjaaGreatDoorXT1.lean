/-
  The tables of the calls that are known, and of those that are carried out elsewhere, up to level 1.
-/
import Derived.Test.YtklkfhefongkjaaGreatDoorXL1a
import Derived.Test.YtklkfhefongkjaaGreatDoorXL1b
import Derived.KernelRfl
namespace Go.Proofs.YtklkfhefongkjaaGreatDoor
open Go Go.Ev

def tbl1 : List (Nat × List Ent) := [(64, e1_64_0 ++ (e1_64_1 ++ (e1_64_2 ++ (e1_64_3 ++ (e1_64_4)))))]
theorem tbl1_ok : TblOK 2 Tryz.prog gl0 tbl1 := (.cons (.append e1_64_0_ok (.append e1_64_1_ok (.append e1_64_2_ok (.append e1_64_3_ok e1_64_4_ok)))) .nil)
noncomputable def xt1 : List (Nat × List XEnt) := []
theorem xt1_ok : XTblOK 2 Tryz.prog xt1 := .nil

end Go.Proofs.YtklkfhefongkjaaGreatDoor
