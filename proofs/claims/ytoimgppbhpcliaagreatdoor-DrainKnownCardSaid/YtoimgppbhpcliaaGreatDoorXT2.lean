/-
  The tables of the calls that are known, and of those that are carried out elsewhere, up to level 2.
-/
import Derived.Test.YtoimgppbhpcliaaGreatDoorXL2a
import Derived.Test.YtoimgppbhpcliaaGreatDoorXL2b
import Derived.Test.YtoimgppbhpcliaaGreatDoorXL2c
import Derived.Test.YtoimgppbhpcliaaGreatDoorXL2d
import Derived.Test.YtoimgppbhpcliaaGreatDoorXL2e
import Derived.Test.YtoimgppbhpcliaaGreatDoorXL2f
import Derived.Test.YtoimgppbhpcliaaGreatDoorXL2g
import Derived.Test.YtoimgppbhpcliaaGreatDoorXL2h
import Derived.Test.YtoimgppbhpcliaaGreatDoorXL2i
import Derived.Test.YtoimgppbhpcliaaGreatDoorXL2j
import Derived.Test.YtoimgppbhpcliaaGreatDoorXL2k
import Derived.Test.YtoimgppbhpcliaaGreatDoorXL2l
import Derived.Test.YtoimgppbhpcliaaGreatDoorXL2m
import Derived.Test.YtoimgppbhpcliaaGreatDoorXL2n
import Derived.Test.YtoimgppbhpcliaaGreatDoorXL2o
import Derived.Test.YtoimgppbhpcliaaGreatDoorXL2p
import Derived.Test.YtoimgppbhpcliaaGreatDoorXL2q
import Derived.Test.YtoimgppbhpcliaaGreatDoorXL2r
import Derived.Test.YtoimgppbhpcliaaGreatDoorXL2s
import Derived.Test.YtoimgppbhpcliaaGreatDoorXL2t
import Derived.Test.YtoimgppbhpcliaaGreatDoorXL2u
import Derived.Test.YtoimgppbhpcliaaGreatDoorXL2v
import Derived.Test.YtoimgppbhpcliaaGreatDoorXL2w
import Derived.Test.YtoimgppbhpcliaaGreatDoorXL2x
import Derived.Test.YtoimgppbhpcliaaGreatDoorXL2y
import Derived.KernelRfl
namespace Go.Proofs.YtoimgppbhpcliaaGreatDoor
open Go Go.Ev

def tbl2 : List (Nat × List Ent) := [(18, e1_18_0 ++ (e1_18_1)), (8, e2_8_0 ++ (e2_8_1 ++ (e2_8_2))), (9, e2_9_0 ++ (e2_9_1 ++ (e2_9_2 ++ (e2_9_3 ++ (e2_9_4 ++ (e2_9_5 ++ (e2_9_6 ++ (e2_9_7)))))))), (10, e2_10_0 ++ (e2_10_1 ++ (e2_10_2 ++ (e2_10_3)))), (11, e2_11_0 ++ (e2_11_1)), (12, e2_12_0 ++ (e2_12_1 ++ (e2_12_2))), (13, e2_13_0 ++ (e2_13_1 ++ (e2_13_2))), (14, e2_14_0 ++ (e2_14_1)), (15, e2_15_0 ++ (e2_15_1 ++ (e2_15_2 ++ (e2_15_3)))), (16, e2_16_0 ++ (e2_16_1 ++ (e2_16_2))), (17, e2_17_0 ++ (e2_17_1 ++ (e2_17_2)))]
theorem tbl2_ok : TblOK 1 Tryz.prog gl0 tbl2 := (.cons (.append e1_18_0_ok e1_18_1_ok) (.cons (.append e2_8_0_ok (.append e2_8_1_ok e2_8_2_ok)) (.cons (.append e2_9_0_ok (.append e2_9_1_ok (.append e2_9_2_ok (.append e2_9_3_ok (.append e2_9_4_ok (.append e2_9_5_ok (.append e2_9_6_ok e2_9_7_ok))))))) (.cons (.append e2_10_0_ok (.append e2_10_1_ok (.append e2_10_2_ok e2_10_3_ok))) (.cons (.append e2_11_0_ok e2_11_1_ok) (.cons (.append e2_12_0_ok (.append e2_12_1_ok e2_12_2_ok)) (.cons (.append e2_13_0_ok (.append e2_13_1_ok e2_13_2_ok)) (.cons (.append e2_14_0_ok e2_14_1_ok) (.cons (.append e2_15_0_ok (.append e2_15_1_ok (.append e2_15_2_ok e2_15_3_ok))) (.cons (.append e2_16_0_ok (.append e2_16_1_ok e2_16_2_ok)) (.cons (.append e2_17_0_ok (.append e2_17_1_ok e2_17_2_ok)) .nil)))))))))))
noncomputable def xt2 : List (Nat × List XEnt) := []
theorem xt2_ok : XTblOK 1 Tryz.prog xt2 := .nil

end Go.Proofs.YtoimgppbhpcliaaGreatDoor
