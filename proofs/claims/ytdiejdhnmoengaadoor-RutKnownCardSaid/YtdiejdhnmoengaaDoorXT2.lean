/-
  The table of the calls that are known, up to level 2.
-/
import Derived.Test.YtdiejdhnmoengaaDoorXL2a
import Derived.Test.YtdiejdhnmoengaaDoorXL2b
import Derived.Test.YtdiejdhnmoengaaDoorXL2c
import Derived.KernelRfl
namespace Go.Proofs.YtdiejdhnmoengaaDoor
open Go Go.Ev

def tbl2 : List (Nat × List Ent) := [(18, e1_18_0 ++ (e1_18_1 ++ (e1_18_2 ++ (e1_18_3)))), (23, e1_23_0), (25, e2_25_0 ++ (e2_25_1 ++ (e2_25_2 ++ (e2_25_3))))]
theorem tbl2_ok : TblOK 1 Tryd.prog gl0 tbl2 := (.cons (.append e1_18_0_ok (.append e1_18_1_ok (.append e1_18_2_ok e1_18_3_ok))) (.cons e1_23_0_ok (.cons (.append e2_25_0_ok (.append e2_25_1_ok (.append e2_25_2_ok e2_25_3_ok))) .nil)))

end Go.Proofs.YtdiejdhnmoengaaDoor
