/-
  The tables of the calls that are known, and of those that are carried out elsewhere, up to level 2.
-/
import Derived.Test.YtkmlpipkcmjmhaaXL2a
import Derived.Test.YtkmlpipkcmjmhaaXL2b
import Derived.Test.YtkmlpipkcmjmhaaXL2c
import Derived.Test.YtkmlpipkcmjmhaaXL2d
import Derived.Test.YtkmlpipkcmjmhaaXL2e
import Derived.Test.YtkmlpipkcmjmhaaXL2f
import Derived.Test.YtkmlpipkcmjmhaaXL2g
import Derived.Test.YtkmlpipkcmjmhaaXL2h
import Derived.Test.YtkmlpipkcmjmhaaXL2i
import Derived.Test.YtkmlpipkcmjmhaaXL2j
import Derived.Test.YtkmlpipkcmjmhaaXL2k
import Derived.Test.YtkmlpipkcmjmhaaXL2l
import Derived.Test.YtkmlpipkcmjmhaaXL2m
import Derived.Test.YtkmlpipkcmjmhaaXL2n
import Derived.Test.YtkmlpipkcmjmhaaXL2o
import Derived.Test.YtkmlpipkcmjmhaaXL2p
import Derived.Test.YtkmlpipkcmjmhaaXL2q
import Derived.Test.YtkmlpipkcmjmhaaXL2r
import Derived.Test.YtkmlpipkcmjmhaaXL2s
import Derived.Test.YtkmlpipkcmjmhaaXL2t
import Derived.Test.YtkmlpipkcmjmhaaXL2u
import Derived.Test.YtkmlpipkcmjmhaaXL2v
import Derived.Test.YtkmlpipkcmjmhaaXL2w
import Derived.Test.YtkmlpipkcmjmhaaXL2x
import Derived.Test.YtkmlpipkcmjmhaaXL2y
import Derived.Test.YtkmlpipkcmjmhaaXL2z
import Derived.Test.YtkmlpipkcmjmhaaXL2aa
import Derived.Test.YtkmlpipkcmjmhaaXL2ab
import Derived.Test.YtkmlpipkcmjmhaaXL2ac
import Derived.Test.YtkmlpipkcmjmhaaXL2ad
import Derived.Test.YtkmlpipkcmjmhaaXL2ae
import Derived.Test.YtkmlpipkcmjmhaaXL2af
import Derived.Test.YtkmlpipkcmjmhaaXL2ag
import Derived.KernelRfl
namespace Go.Proofs.Ytkmlpipkcmjmhaa
open Go Go.Ev

def tbl2 : List (Nat × List Ent) := [(19, e1_19_0 ++ (e1_19_1 ++ (e1_19_2))), (8, e2_8_0 ++ (e2_8_1 ++ (e2_8_2))), (9, e2_9_0 ++ (e2_9_1 ++ (e2_9_2 ++ (e2_9_3 ++ (e2_9_4 ++ (e2_9_5 ++ (e2_9_6 ++ (e2_9_7 ++ (e2_9_8))))))))), (10, e2_10_0 ++ (e2_10_1 ++ (e2_10_2 ++ (e2_10_3)))), (11, e2_11_0 ++ (e2_11_1)), (12, e2_12_0 ++ (e2_12_1 ++ (e2_12_2))), (13, e2_13_0 ++ (e2_13_1 ++ (e2_13_2 ++ (e2_13_3)))), (14, e2_14_0 ++ (e2_14_1 ++ (e2_14_2))), (15, e2_15_0 ++ (e2_15_1 ++ (e2_15_2 ++ (e2_15_3)))), (16, e2_16_0 ++ (e2_16_1 ++ (e2_16_2 ++ (e2_16_3)))), (17, e2_17_0 ++ (e2_17_1 ++ (e2_17_2))), (18, e2_18_0 ++ (e2_18_1 ++ (e2_18_2)))]
theorem tbl2_ok : TblOK 0 Try.prog gl0 tbl2 := (.cons (.append e1_19_0_ok (.append e1_19_1_ok e1_19_2_ok)) (.cons (.append e2_8_0_ok (.append e2_8_1_ok e2_8_2_ok)) (.cons (.append e2_9_0_ok (.append e2_9_1_ok (.append e2_9_2_ok (.append e2_9_3_ok (.append e2_9_4_ok (.append e2_9_5_ok (.append e2_9_6_ok (.append e2_9_7_ok e2_9_8_ok)))))))) (.cons (.append e2_10_0_ok (.append e2_10_1_ok (.append e2_10_2_ok e2_10_3_ok))) (.cons (.append e2_11_0_ok e2_11_1_ok) (.cons (.append e2_12_0_ok (.append e2_12_1_ok e2_12_2_ok)) (.cons (.append e2_13_0_ok (.append e2_13_1_ok (.append e2_13_2_ok e2_13_3_ok))) (.cons (.append e2_14_0_ok (.append e2_14_1_ok e2_14_2_ok)) (.cons (.append e2_15_0_ok (.append e2_15_1_ok (.append e2_15_2_ok e2_15_3_ok))) (.cons (.append e2_16_0_ok (.append e2_16_1_ok (.append e2_16_2_ok e2_16_3_ok))) (.cons (.append e2_17_0_ok (.append e2_17_1_ok e2_17_2_ok)) (.cons (.append e2_18_0_ok (.append e2_18_1_ok e2_18_2_ok)) .nil))))))))))))
noncomputable def xt2 : List (Nat × List XEnt) := [(62, [x10359]), (29, [x10792, x11220, x11648, x12076, x12504])]
theorem xt2_ok : XTblOK 0 Try.prog xt2 := (.cons (.cons (run_ok tbl0_ok xt0_ok) x10359_ok .nil) (.cons (.cons (run_ok tbl0_ok xt0_ok) x10792_ok (.cons (run_ok tbl0_ok xt0_ok) x11220_ok (.cons (run_ok tbl0_ok xt0_ok) x11648_ok (.cons (run_ok tbl0_ok xt0_ok) x12076_ok (.cons (run_ok tbl0_ok xt0_ok) x12504_ok .nil))))) .nil))

end Go.Proofs.Ytkmlpipkcmjmhaa
