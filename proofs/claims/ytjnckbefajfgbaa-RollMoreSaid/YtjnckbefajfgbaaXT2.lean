/-
  The tables of the calls that are known, and of those that are carried out elsewhere, up to level 2.
-/
import Derived.Test.YtjnckbefajfgbaaXL2a
import Derived.Test.YtjnckbefajfgbaaXL2b
import Derived.Test.YtjnckbefajfgbaaXL2c
import Derived.Test.YtjnckbefajfgbaaXL2d
import Derived.Test.YtjnckbefajfgbaaXL2e
import Derived.Test.YtjnckbefajfgbaaXL2f
import Derived.Test.YtjnckbefajfgbaaXL2g
import Derived.Test.YtjnckbefajfgbaaXL2h
import Derived.Test.YtjnckbefajfgbaaXL2i
import Derived.Test.YtjnckbefajfgbaaXL2j
import Derived.Test.YtjnckbefajfgbaaXL2k
import Derived.KernelRfl
namespace Go.Proofs.Ytjnckbefajfgbaa
open Go Go.Ev

def tbl2 : List (Nat × List Ent) := [(59, e1_59_0), (11, e2_11_0), (13, e2_13_0), (15, e2_15_0), (17, e2_17_0), (19, e2_19_0), (26, e2_26_0), (27, e2_27_0), (28, e2_28_0), (29, e2_29_0), (30, e2_30_0), (34, e2_34_0)]
theorem tbl2_ok : TblOK 0 Try.prog gl0 tbl2 := (.cons e1_59_0_ok (.cons e2_11_0_ok (.cons e2_13_0_ok (.cons e2_15_0_ok (.cons e2_17_0_ok (.cons e2_19_0_ok (.cons e2_26_0_ok (.cons e2_27_0_ok (.cons e2_28_0_ok (.cons e2_29_0_ok (.cons e2_30_0_ok (.cons e2_34_0_ok .nil))))))))))))
noncomputable def xt2 : List (Nat × List XEnt) := [(50, [x2081])]
theorem xt2_ok : XTblOK 0 Try.prog xt2 := (.cons (.cons (run_ok tbl0_ok xt0_ok) x2081_ok .nil) .nil)

end Go.Proofs.Ytjnckbefajfgbaa
