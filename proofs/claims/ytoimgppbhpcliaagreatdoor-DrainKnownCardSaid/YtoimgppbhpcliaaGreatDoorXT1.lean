/-
  The tables of the calls that are known, and of those that are carried out elsewhere, up to level 1.
-/
import Derived.Test.YtoimgppbhpcliaaGreatDoorXL1a
import Derived.KernelRfl
namespace Go.Proofs.YtoimgppbhpcliaaGreatDoor
open Go Go.Ev

def tbl1 : List (Nat × List Ent) := [(18, e1_18_0 ++ (e1_18_1))]
theorem tbl1_ok : TblOK 1 Tryz.prog gl0 tbl1 := (.cons (.append e1_18_0_ok e1_18_1_ok) .nil)
noncomputable def xt1 : List (Nat × List XEnt) := []
theorem xt1_ok : XTblOK 1 Tryz.prog xt1 := .nil

end Go.Proofs.YtoimgppbhpcliaaGreatDoor
