/-
  The tables of the calls that are known, and of those that are carried out elsewhere, up to level 3.
-/
import Derived.Test.YtdcgmacknccklaaDoorXL3a
import Derived.Test.YtdcgmacknccklaaDoorXL3b
import Derived.KernelRfl
namespace Go.Proofs.YtdcgmacknccklaaDoor
open Go Go.Ev

def tbl3 : List (Nat × List Ent) := [(10, e1_10_0), (7, e2_7_0), (12, e2_12_0), (14, e2_14_0), (17, e2_17_0), (19, e2_19_0), (21, e2_21_0), (57, e2_57_0), (59, e2_59_0), (56, e3_56_0 ++ (e3_56_1))]
theorem tbl3_ok : TblOK 1 Tryd.prog gl0 tbl3 := (.cons e1_10_0_ok (.cons e2_7_0_ok (.cons e2_12_0_ok (.cons e2_14_0_ok (.cons e2_17_0_ok (.cons e2_19_0_ok (.cons e2_21_0_ok (.cons e2_57_0_ok (.cons e2_59_0_ok (.cons (.append e3_56_0_ok e3_56_1_ok) .nil))))))))))
noncomputable def xt3 : List (Nat × List XEnt) := [(108, [x891, x2134, x4675, x6107]), (80, [x401])]
theorem xt3_ok : XTblOK 1 Tryd.prog xt3 := (.cons (.cons (run_ok tbl0_ok xt0_ok) x891_ok (.cons (run_ok tbl0_ok xt0_ok) x2134_ok (.cons (run_ok tbl0_ok xt0_ok) x4675_ok (.cons (run_ok tbl0_ok xt0_ok) x6107_ok .nil)))) (.cons (.cons (run_ok tbl1_ok xt1_ok) x401_ok .nil) .nil))

end Go.Proofs.YtdcgmacknccklaaDoor
