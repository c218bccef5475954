/-
  The tables of the calls that are known, and of those that are carried out elsewhere, up to level 2.
-/
import Derived.Test.YtpneoeoimdfjaaaXL2a
import Derived.Test.YtpneoeoimdfjaaaXL2b
import Derived.Test.YtpneoeoimdfjaaaXL2c
import Derived.Test.YtpneoeoimdfjaaaXL2d
import Derived.Test.YtpneoeoimdfjaaaXL2e
import Derived.Test.YtpneoeoimdfjaaaXL2f
import Derived.Test.YtpneoeoimdfjaaaXL2g
import Derived.Test.YtpneoeoimdfjaaaXL2h
import Derived.Test.YtpneoeoimdfjaaaXL2i
import Derived.Test.YtpneoeoimdfjaaaXL2j
import Derived.Test.YtpneoeoimdfjaaaXL2k
import Derived.KernelRfl
namespace Go.Proofs.Ytpneoeoimdfjaaa
open Go Go.Ev

def tbl2 : List (Nat × List Ent) := [(32, e1_32_0), (12, e2_12_0), (13, e2_13_0), (17, e2_17_0), (18, e2_18_0), (19, e2_19_0), (21, e2_21_0), (22, e2_22_0), (23, e2_23_0), (24, e2_24_0), (27, e2_27_0), (34, e2_34_0)]
theorem tbl2_ok : TblOK 0 Try.prog gl0 tbl2 := (.cons e1_32_0_ok (.cons e2_12_0_ok (.cons e2_13_0_ok (.cons e2_17_0_ok (.cons e2_18_0_ok (.cons e2_19_0_ok (.cons e2_21_0_ok (.cons e2_22_0_ok (.cons e2_23_0_ok (.cons e2_24_0_ok (.cons e2_27_0_ok (.cons e2_34_0_ok .nil))))))))))))
noncomputable def xt2 : List (Nat × List XEnt) := [(56, [x2081])]
theorem xt2_ok : XTblOK 0 Try.prog xt2 := (.cons (.cons (run_ok tbl0_ok xt0_ok) x2081_ok .nil) .nil)

end Go.Proofs.Ytpneoeoimdfjaaa
