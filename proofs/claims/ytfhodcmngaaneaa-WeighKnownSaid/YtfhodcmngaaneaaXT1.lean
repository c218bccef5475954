/-
  The table of the calls that are known, up to level 1.
-/
import Derived.Test.YtfhodcmngaaneaaXL1a
import Derived.Test.YtfhodcmngaaneaaXL1b
import Derived.Test.YtfhodcmngaaneaaXL1c
import Derived.KernelRfl
namespace Go.Proofs.Ytfhodcmngaaneaa
open Go Go.Ev

def tbl1 : List (Nat × List Ent) := [(18, e1_18_0 ++ (e1_18_1 ++ (e1_18_2))), (22, e1_22_0 ++ (e1_22_1 ++ (e1_22_2 ++ (e1_22_3))))]
theorem tbl1_ok : TblOK 0 Try.prog gl0 tbl1 := (.cons (.append e1_18_0_ok (.append e1_18_1_ok e1_18_2_ok)) (.cons (.append e1_22_0_ok (.append e1_22_1_ok (.append e1_22_2_ok e1_22_3_ok))) .nil))

end Go.Proofs.Ytfhodcmngaaneaa
