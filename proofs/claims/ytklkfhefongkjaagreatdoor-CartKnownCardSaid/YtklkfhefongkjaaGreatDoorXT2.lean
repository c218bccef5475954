/-
  The tables of the calls that are known, and of those that are carried out elsewhere, up to level 2.
-/
import Derived.Test.YtklkfhefongkjaaGreatDoorXL2a
import Derived.Test.YtklkfhefongkjaaGreatDoorXL2b
import Derived.Test.YtklkfhefongkjaaGreatDoorXL2c
import Derived.Test.YtklkfhefongkjaaGreatDoorXL2d
import Derived.Test.YtklkfhefongkjaaGreatDoorXL2e
import Derived.Test.YtklkfhefongkjaaGreatDoorXL2f
import Derived.Test.YtklkfhefongkjaaGreatDoorXL2g
import Derived.Test.YtklkfhefongkjaaGreatDoorXL2h
import Derived.Test.YtklkfhefongkjaaGreatDoorXL2i
import Derived.Test.YtklkfhefongkjaaGreatDoorXL2j
import Derived.Test.YtklkfhefongkjaaGreatDoorXL2k
import Derived.Test.YtklkfhefongkjaaGreatDoorXL2l
import Derived.Test.YtklkfhefongkjaaGreatDoorXL2m
import Derived.Test.YtklkfhefongkjaaGreatDoorXL2n
import Derived.Test.YtklkfhefongkjaaGreatDoorXL2o
import Derived.Test.YtklkfhefongkjaaGreatDoorXL2p
import Derived.Test.YtklkfhefongkjaaGreatDoorXL2q
import Derived.Test.YtklkfhefongkjaaGreatDoorXL2r
import Derived.Test.YtklkfhefongkjaaGreatDoorXL2s
import Derived.Test.YtklkfhefongkjaaGreatDoorXL2t
import Derived.Test.YtklkfhefongkjaaGreatDoorXL2u
import Derived.KernelRfl
namespace Go.Proofs.YtklkfhefongkjaaGreatDoor
open Go Go.Ev

def tbl2 : List (Nat × List Ent) := [(64, e1_64_0 ++ (e1_64_1 ++ (e1_64_2 ++ (e1_64_3 ++ (e1_64_4))))), (16, e2_16_0), (34, e2_34_0 ++ (e2_34_1 ++ (e2_34_2))), (52, e2_52_0 ++ (e2_52_1)), (53, e2_53_0 ++ (e2_53_1)), (104, e2_104_0 ++ (e2_104_1 ++ (e2_104_2 ++ (e2_104_3 ++ (e2_104_4 ++ (e2_104_5 ++ (e2_104_6 ++ (e2_104_7 ++ (e2_104_8 ++ (e2_104_9 ++ (e2_104_10 ++ (e2_104_11 ++ (e2_104_12 ++ (e2_104_13))))))))))))))]
theorem tbl2_ok : TblOK 2 Tryz.prog gl0 tbl2 := (.cons (.append e1_64_0_ok (.append e1_64_1_ok (.append e1_64_2_ok (.append e1_64_3_ok e1_64_4_ok)))) (.cons e2_16_0_ok (.cons (.append e2_34_0_ok (.append e2_34_1_ok e2_34_2_ok)) (.cons (.append e2_52_0_ok e2_52_1_ok) (.cons (.append e2_53_0_ok e2_53_1_ok) (.cons (.append e2_104_0_ok (.append e2_104_1_ok (.append e2_104_2_ok (.append e2_104_3_ok (.append e2_104_4_ok (.append e2_104_5_ok (.append e2_104_6_ok (.append e2_104_7_ok (.append e2_104_8_ok (.append e2_104_9_ok (.append e2_104_10_ok (.append e2_104_11_ok (.append e2_104_12_ok e2_104_13_ok))))))))))))) .nil))))))
noncomputable def xt2 : List (Nat × List XEnt) := []
theorem xt2_ok : XTblOK 2 Tryz.prog xt2 := .nil

end Go.Proofs.YtklkfhefongkjaaGreatDoor
