/-
  The tables of the calls that are known, and of those that are carried out elsewhere, up to level 3.
-/
import Derived.Test.YtklkfhefongkjaaGreatDoorXL3a
import Derived.Test.YtklkfhefongkjaaGreatDoorXL3b
import Derived.Test.YtklkfhefongkjaaGreatDoorXL3c
import Derived.Test.YtklkfhefongkjaaGreatDoorXL3d
import Derived.Test.YtklkfhefongkjaaGreatDoorXL3e
import Derived.Test.YtklkfhefongkjaaGreatDoorXL3f
import Derived.Test.YtklkfhefongkjaaGreatDoorXL3g
import Derived.Test.YtklkfhefongkjaaGreatDoorXL3h
import Derived.Test.YtklkfhefongkjaaGreatDoorXL3i
import Derived.Test.YtklkfhefongkjaaGreatDoorXL3j
import Derived.Test.YtklkfhefongkjaaGreatDoorXL3k
import Derived.Test.YtklkfhefongkjaaGreatDoorXL3l
import Derived.Test.YtklkfhefongkjaaGreatDoorXL3m
import Derived.KernelRfl
namespace Go.Proofs.YtklkfhefongkjaaGreatDoor
open Go Go.Ev

def tbl3 : List (Nat × List Ent) := [(64, e1_64_0 ++ (e1_64_1 ++ (e1_64_2 ++ (e1_64_3 ++ (e1_64_4))))), (16, e2_16_0), (34, e2_34_0 ++ (e2_34_1 ++ (e2_34_2))), (52, e2_52_0 ++ (e2_52_1)), (53, e2_53_0 ++ (e2_53_1)), (104, e2_104_0 ++ (e2_104_1 ++ (e2_104_2 ++ (e2_104_3 ++ (e2_104_4 ++ (e2_104_5 ++ (e2_104_6 ++ (e2_104_7 ++ (e2_104_8 ++ (e2_104_9 ++ (e2_104_10 ++ (e2_104_11 ++ (e2_104_12 ++ (e2_104_13)))))))))))))), (7, e3_7_0 ++ (e3_7_1 ++ (e3_7_2 ++ (e3_7_3)))), (8, e3_8_0 ++ (e3_8_1 ++ (e3_8_2 ++ (e3_8_3)))), (9, e3_9_0 ++ (e3_9_1 ++ (e3_9_2 ++ (e3_9_3 ++ (e3_9_4))))), (10, e3_10_0 ++ (e3_10_1)), (12, e3_12_0 ++ (e3_12_1 ++ (e3_12_2 ++ (e3_12_3)))), (13, e3_13_0 ++ (e3_13_1 ++ (e3_13_2))), (14, e3_14_0 ++ (e3_14_1 ++ (e3_14_2))), (15, e3_15_0 ++ (e3_15_1 ++ (e3_15_2 ++ (e3_15_3))))]
theorem tbl3_ok : TblOK 2 Tryz.prog gl0 tbl3 := (.cons (.append e1_64_0_ok (.append e1_64_1_ok (.append e1_64_2_ok (.append e1_64_3_ok e1_64_4_ok)))) (.cons e2_16_0_ok (.cons (.append e2_34_0_ok (.append e2_34_1_ok e2_34_2_ok)) (.cons (.append e2_52_0_ok e2_52_1_ok) (.cons (.append e2_53_0_ok e2_53_1_ok) (.cons (.append e2_104_0_ok (.append e2_104_1_ok (.append e2_104_2_ok (.append e2_104_3_ok (.append e2_104_4_ok (.append e2_104_5_ok (.append e2_104_6_ok (.append e2_104_7_ok (.append e2_104_8_ok (.append e2_104_9_ok (.append e2_104_10_ok (.append e2_104_11_ok (.append e2_104_12_ok e2_104_13_ok))))))))))))) (.cons (.append e3_7_0_ok (.append e3_7_1_ok (.append e3_7_2_ok e3_7_3_ok))) (.cons (.append e3_8_0_ok (.append e3_8_1_ok (.append e3_8_2_ok e3_8_3_ok))) (.cons (.append e3_9_0_ok (.append e3_9_1_ok (.append e3_9_2_ok (.append e3_9_3_ok e3_9_4_ok)))) (.cons (.append e3_10_0_ok e3_10_1_ok) (.cons (.append e3_12_0_ok (.append e3_12_1_ok (.append e3_12_2_ok e3_12_3_ok))) (.cons (.append e3_13_0_ok (.append e3_13_1_ok e3_13_2_ok)) (.cons (.append e3_14_0_ok (.append e3_14_1_ok e3_14_2_ok)) (.cons (.append e3_15_0_ok (.append e3_15_1_ok (.append e3_15_2_ok e3_15_3_ok))) .nil))))))))))))))
noncomputable def xt3 : List (Nat × List XEnt) := []
theorem xt3_ok : XTblOK 2 Tryz.prog xt3 := .nil

end Go.Proofs.YtklkfhefongkjaaGreatDoor
