/-
  The table of the calls that are known, up to level 2.
-/
import Derived.Test.YtfhodcmngaaneaaXL2a
import Derived.Test.YtfhodcmngaaneaaXL2b
import Derived.Test.YtfhodcmngaaneaaXL2c
import Derived.KernelRfl
namespace Go.Proofs.Ytfhodcmngaaneaa
open Go Go.Ev

def tbl2 : List (Nat × List Ent) := [(18, e1_18_0 ++ (e1_18_1 ++ (e1_18_2))), (22, e1_22_0 ++ (e1_22_1 ++ (e1_22_2 ++ (e1_22_3)))), (7, e2_7_0), (16, e2_16_0 ++ (e2_16_1)), (24, e2_24_0 ++ (e2_24_1))]
theorem tbl2_ok : TblOK 0 Try.prog gl0 tbl2 := (.cons (.append e1_18_0_ok (.append e1_18_1_ok e1_18_2_ok)) (.cons (.append e1_22_0_ok (.append e1_22_1_ok (.append e1_22_2_ok e1_22_3_ok))) (.cons e2_7_0_ok (.cons (.append e2_16_0_ok e2_16_1_ok) (.cons (.append e2_24_0_ok e2_24_1_ok) .nil)))))

end Go.Proofs.Ytfhodcmngaaneaa
