/-
  The tables of the calls that are known, and of those that are carried out elsewhere, up to level 4.
-/
import Derived.Test.YtndekjijcoioaaaGreatDoorXL4a
import Derived.Test.YtndekjijcoioaaaGreatDoorXL4b
import Derived.KernelRfl
namespace Go.Proofs.YtndekjijcoioaaaGreatDoor
open Go Go.Ev

def tbl4 : List (Nat × List Ent) := [(47, e1_47_0), (17, e2_17_0 ++ (e2_17_1 ++ (e2_17_2 ++ (e2_17_3)))), (30, e2_30_0 ++ (e2_30_1 ++ (e2_30_2 ++ (e2_30_3 ++ (e2_30_4 ++ (e2_30_5)))))), (50, e2_50_0 ++ (e2_50_1 ++ (e2_50_2 ++ (e2_50_3 ++ (e2_50_4 ++ (e2_50_5 ++ (e2_50_6))))))), (106, e2_106_0 ++ (e2_106_1 ++ (e2_106_2 ++ (e2_106_3 ++ (e2_106_4 ++ (e2_106_5 ++ (e2_106_6 ++ (e2_106_7 ++ (e2_106_8 ++ (e2_106_9 ++ (e2_106_10))))))))))), (8, e3_8_0 ++ (e3_8_1 ++ (e3_8_2))), (9, e3_9_0 ++ (e3_9_1 ++ (e3_9_2 ++ (e3_9_3)))), (10, e3_10_0 ++ (e3_10_1 ++ (e3_10_2 ++ (e3_10_3 ++ (e3_10_4))))), (13, e3_13_0 ++ (e3_13_1 ++ (e3_13_2 ++ (e3_13_3)))), (14, e3_14_0 ++ (e3_14_1 ++ (e3_14_2 ++ (e3_14_3)))), (15, e3_15_0 ++ (e3_15_1 ++ (e3_15_2 ++ (e3_15_3)))), (11, e4_11_0), (16, e4_16_0 ++ (e4_16_1 ++ (e4_16_2 ++ (e4_16_3))))]
theorem tbl4_ok : TblOK 2 Tryz.prog gl0 tbl4 := (.cons e1_47_0_ok (.cons (.append e2_17_0_ok (.append e2_17_1_ok (.append e2_17_2_ok e2_17_3_ok))) (.cons (.append e2_30_0_ok (.append e2_30_1_ok (.append e2_30_2_ok (.append e2_30_3_ok (.append e2_30_4_ok e2_30_5_ok))))) (.cons (.append e2_50_0_ok (.append e2_50_1_ok (.append e2_50_2_ok (.append e2_50_3_ok (.append e2_50_4_ok (.append e2_50_5_ok e2_50_6_ok)))))) (.cons (.append e2_106_0_ok (.append e2_106_1_ok (.append e2_106_2_ok (.append e2_106_3_ok (.append e2_106_4_ok (.append e2_106_5_ok (.append e2_106_6_ok (.append e2_106_7_ok (.append e2_106_8_ok (.append e2_106_9_ok e2_106_10_ok)))))))))) (.cons (.append e3_8_0_ok (.append e3_8_1_ok e3_8_2_ok)) (.cons (.append e3_9_0_ok (.append e3_9_1_ok (.append e3_9_2_ok e3_9_3_ok))) (.cons (.append e3_10_0_ok (.append e3_10_1_ok (.append e3_10_2_ok (.append e3_10_3_ok e3_10_4_ok)))) (.cons (.append e3_13_0_ok (.append e3_13_1_ok (.append e3_13_2_ok e3_13_3_ok))) (.cons (.append e3_14_0_ok (.append e3_14_1_ok (.append e3_14_2_ok e3_14_3_ok))) (.cons (.append e3_15_0_ok (.append e3_15_1_ok (.append e3_15_2_ok e3_15_3_ok))) (.cons e4_11_0_ok (.cons (.append e4_16_0_ok (.append e4_16_1_ok (.append e4_16_2_ok e4_16_3_ok))) .nil)))))))))))))
noncomputable def xt4 : List (Nat × List XEnt) := [(81, [x11149, x10923]), (36, [x6547])]
theorem xt4_ok : XTblOK 2 Tryz.prog xt4 := (.cons (.cons (run_ok tbl0_ok xt0_ok) x11149_ok (.cons (run_ok tbl1_ok xt1_ok) x10923_ok .nil)) (.cons (.cons (run_ok tbl2_ok xt2_ok) x6547_ok .nil) .nil))

end Go.Proofs.YtndekjijcoioaaaGreatDoor
