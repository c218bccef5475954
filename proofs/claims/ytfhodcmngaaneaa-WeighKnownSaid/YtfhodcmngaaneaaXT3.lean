/-
  The table of the calls that are known, up to level 3.
-/
import Derived.Test.YtfhodcmngaaneaaXL3a
import Derived.Test.YtfhodcmngaaneaaXL3b
import Derived.KernelRfl
namespace Go.Proofs.Ytfhodcmngaaneaa
open Go Go.Ev

def tbl3 : List (Nat × List Ent) := [(18, e1_18_0 ++ (e1_18_1 ++ (e1_18_2))), (22, e1_22_0 ++ (e1_22_1 ++ (e1_22_2 ++ (e1_22_3)))), (7, e2_7_0), (16, e2_16_0 ++ (e2_16_1)), (24, e2_24_0 ++ (e2_24_1)), (8, e3_8_0), (9, e3_9_0), (10, e3_10_0), (11, e3_11_0), (12, e3_12_0), (13, e3_13_0), (14, e3_14_0), (17, e3_17_0 ++ (e3_17_1))]
theorem tbl3_ok : TblOK 0 Try.prog gl0 tbl3 := (.cons (.append e1_18_0_ok (.append e1_18_1_ok e1_18_2_ok)) (.cons (.append e1_22_0_ok (.append e1_22_1_ok (.append e1_22_2_ok e1_22_3_ok))) (.cons e2_7_0_ok (.cons (.append e2_16_0_ok e2_16_1_ok) (.cons (.append e2_24_0_ok e2_24_1_ok) (.cons e3_8_0_ok (.cons e3_9_0_ok (.cons e3_10_0_ok (.cons e3_11_0_ok (.cons e3_12_0_ok (.cons e3_13_0_ok (.cons e3_14_0_ok (.cons (.append e3_17_0_ok e3_17_1_ok) .nil)))))))))))))

end Go.Proofs.Ytfhodcmngaaneaa
