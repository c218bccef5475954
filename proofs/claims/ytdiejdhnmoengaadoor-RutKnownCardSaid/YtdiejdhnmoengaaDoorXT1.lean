/-
  The table of the calls that are known, up to level 1.
-/
import Derived.Test.YtdiejdhnmoengaaDoorXL1a
import Derived.Test.YtdiejdhnmoengaaDoorXL1b
import Derived.KernelRfl
namespace Go.Proofs.YtdiejdhnmoengaaDoor
open Go Go.Ev

def tbl1 : List (Nat × List Ent) := [(18, e1_18_0 ++ (e1_18_1 ++ (e1_18_2 ++ (e1_18_3)))), (23, e1_23_0)]
theorem tbl1_ok : TblOK 1 Tryd.prog gl0 tbl1 := (.cons (.append e1_18_0_ok (.append e1_18_1_ok (.append e1_18_2_ok e1_18_3_ok))) (.cons e1_23_0_ok .nil))

end Go.Proofs.YtdiejdhnmoengaaDoor
