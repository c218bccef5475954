/-
  The tables of the calls that are known, and of those that are carried out elsewhere, up to level 2.
-/
import Derived.Test.YtdcgmacknccklaaDoorXL2a
import Derived.Test.YtdcgmacknccklaaDoorXL2b
import Derived.Test.YtdcgmacknccklaaDoorXL2c
import Derived.KernelRfl
namespace Go.Proofs.YtdcgmacknccklaaDoor
open Go Go.Ev

def tbl2 : List (Nat × List Ent) := [(10, e1_10_0), (7, e2_7_0), (12, e2_12_0), (14, e2_14_0), (17, e2_17_0), (19, e2_19_0), (21, e2_21_0), (57, e2_57_0), (59, e2_59_0)]
theorem tbl2_ok : TblOK 1 Tryd.prog gl0 tbl2 := (.cons e1_10_0_ok (.cons e2_7_0_ok (.cons e2_12_0_ok (.cons e2_14_0_ok (.cons e2_17_0_ok (.cons e2_19_0_ok (.cons e2_21_0_ok (.cons e2_57_0_ok (.cons e2_59_0_ok .nil)))))))))
noncomputable def xt2 : List (Nat × List XEnt) := [(108, [x891, x2134, x4675, x6107]), (80, [x401])]
theorem xt2_ok : XTblOK 1 Tryd.prog xt2 := (.cons (.cons (run_ok tbl0_ok xt0_ok) x891_ok (.cons (run_ok tbl0_ok xt0_ok) x2134_ok (.cons (run_ok tbl0_ok xt0_ok) x4675_ok (.cons (run_ok tbl0_ok xt0_ok) x6107_ok .nil)))) (.cons (.cons (run_ok tbl1_ok xt1_ok) x401_ok .nil) .nil))

end Go.Proofs.YtdcgmacknccklaaDoor
