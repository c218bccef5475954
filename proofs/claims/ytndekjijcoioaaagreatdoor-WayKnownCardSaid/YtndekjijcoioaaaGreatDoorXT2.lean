/-
  The tables of the calls that are known, and of those that are carried out elsewhere, up to level 2.
-/
import Derived.Test.YtndekjijcoioaaaGreatDoorXL2a
import Derived.Test.YtndekjijcoioaaaGreatDoorXL2b
import Derived.Test.YtndekjijcoioaaaGreatDoorXL2c
import Derived.Test.YtndekjijcoioaaaGreatDoorXL2d
import Derived.Test.YtndekjijcoioaaaGreatDoorXL2e
import Derived.Test.YtndekjijcoioaaaGreatDoorXL2f
import Derived.Test.YtndekjijcoioaaaGreatDoorXL2g
import Derived.Test.YtndekjijcoioaaaGreatDoorXL2h
import Derived.Test.YtndekjijcoioaaaGreatDoorXL2i
import Derived.KernelRfl
namespace Go.Proofs.YtndekjijcoioaaaGreatDoor
open Go Go.Ev

def tbl2 : List (Nat × List Ent) := [(47, e1_47_0), (17, e2_17_0 ++ (e2_17_1 ++ (e2_17_2 ++ (e2_17_3)))), (30, e2_30_0 ++ (e2_30_1 ++ (e2_30_2 ++ (e2_30_3 ++ (e2_30_4 ++ (e2_30_5)))))), (50, e2_50_0 ++ (e2_50_1 ++ (e2_50_2 ++ (e2_50_3 ++ (e2_50_4 ++ (e2_50_5 ++ (e2_50_6))))))), (106, e2_106_0 ++ (e2_106_1 ++ (e2_106_2 ++ (e2_106_3 ++ (e2_106_4 ++ (e2_106_5 ++ (e2_106_6 ++ (e2_106_7 ++ (e2_106_8 ++ (e2_106_9 ++ (e2_106_10)))))))))))]
theorem tbl2_ok : TblOK 2 Tryz.prog gl0 tbl2 := (.cons e1_47_0_ok (.cons (.append e2_17_0_ok (.append e2_17_1_ok (.append e2_17_2_ok e2_17_3_ok))) (.cons (.append e2_30_0_ok (.append e2_30_1_ok (.append e2_30_2_ok (.append e2_30_3_ok (.append e2_30_4_ok e2_30_5_ok))))) (.cons (.append e2_50_0_ok (.append e2_50_1_ok (.append e2_50_2_ok (.append e2_50_3_ok (.append e2_50_4_ok (.append e2_50_5_ok e2_50_6_ok)))))) (.cons (.append e2_106_0_ok (.append e2_106_1_ok (.append e2_106_2_ok (.append e2_106_3_ok (.append e2_106_4_ok (.append e2_106_5_ok (.append e2_106_6_ok (.append e2_106_7_ok (.append e2_106_8_ok (.append e2_106_9_ok e2_106_10_ok)))))))))) .nil)))))
noncomputable def xt2 : List (Nat × List XEnt) := [(81, [x11149, x10923])]
theorem xt2_ok : XTblOK 2 Tryz.prog xt2 := (.cons (.cons (run_ok tbl0_ok xt0_ok) x11149_ok (.cons (run_ok tbl1_ok xt1_ok) x10923_ok .nil)) .nil)

end Go.Proofs.YtndekjijcoioaaaGreatDoor
