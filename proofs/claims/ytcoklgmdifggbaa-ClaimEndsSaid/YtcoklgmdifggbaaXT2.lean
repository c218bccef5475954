/-
  The tables of the calls that are known, and of those that are carried out elsewhere, up to level 2.
-/
import Derived.Test.YtcoklgmdifggbaaXL2a
import Derived.Test.YtcoklgmdifggbaaXL2b
import Derived.Test.YtcoklgmdifggbaaXL2c
import Derived.Test.YtcoklgmdifggbaaXL2d
import Derived.Test.YtcoklgmdifggbaaXL2e
import Derived.Test.YtcoklgmdifggbaaXL2f
import Derived.Test.YtcoklgmdifggbaaXL2g
import Derived.Test.YtcoklgmdifggbaaXL2h
import Derived.Test.YtcoklgmdifggbaaXL2i
import Derived.Test.YtcoklgmdifggbaaXL2j
import Derived.Test.YtcoklgmdifggbaaXL2k
import Derived.KernelRfl
namespace Go.Proofs.Ytcoklgmdifggbaa
open Go Go.Ev

def tbl2 : List (Nat × List Ent) := [(16, e1_16_0), (14, e2_14_0), (18, e2_18_0), (20, e2_20_0), (22, e2_22_0), (25, e2_25_0), (27, e2_27_0), (29, e2_29_0), (31, e2_31_0), (33, e2_33_0), (35, e2_35_0), (37, e2_37_0)]
theorem tbl2_ok : TblOK 0 Try.prog gl0 tbl2 := (.cons e1_16_0_ok (.cons e2_14_0_ok (.cons e2_18_0_ok (.cons e2_20_0_ok (.cons e2_22_0_ok (.cons e2_25_0_ok (.cons e2_27_0_ok (.cons e2_29_0_ok (.cons e2_31_0_ok (.cons e2_33_0_ok (.cons e2_35_0_ok (.cons e2_37_0_ok .nil))))))))))))
noncomputable def xt2 : List (Nat × List XEnt) := [(114, [x5049, x6780])]
theorem xt2_ok : XTblOK 0 Try.prog xt2 := (.cons (.cons (run_ok tbl0_ok xt0_ok) x5049_ok (.cons (run_ok tbl0_ok xt0_ok) x6780_ok .nil)) .nil)

end Go.Proofs.Ytcoklgmdifggbaa
