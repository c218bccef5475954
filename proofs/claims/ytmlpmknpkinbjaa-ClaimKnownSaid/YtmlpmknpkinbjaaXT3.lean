/-
  The tables of the calls that are known, and of those that are carried out elsewhere, up to level 3.
-/
import Derived.Test.YtmlpmknpkinbjaaXL3a
import Derived.Test.YtmlpmknpkinbjaaXL3b
import Derived.Test.YtmlpmknpkinbjaaXL3c
import Derived.Test.YtmlpmknpkinbjaaXL3d
import Derived.Test.YtmlpmknpkinbjaaXL3e
import Derived.Test.YtmlpmknpkinbjaaXL3f
import Derived.Test.YtmlpmknpkinbjaaXL3g
import Derived.Test.YtmlpmknpkinbjaaXL3h
import Derived.Test.YtmlpmknpkinbjaaXL3i
import Derived.Test.YtmlpmknpkinbjaaXL3j
import Derived.Test.YtmlpmknpkinbjaaXL3k
import Derived.KernelRfl
namespace Go.Proofs.Ytmlpmknpkinbjaa
open Go Go.Ev

def tbl3 : List (Nat × List Ent) := [(20, e1_20_0 ++ (e1_20_1 ++ (e1_20_2 ++ (e1_20_3)))), (9, e2_9_0 ++ (e2_9_1 ++ (e2_9_2))), (18, e2_18_0), (34, e2_34_0 ++ (e2_34_1 ++ (e2_34_2 ++ (e2_34_3 ++ (e2_34_4))))), (10, e3_10_0 ++ (e3_10_1 ++ (e3_10_2 ++ (e3_10_3)))), (11, e3_11_0 ++ (e3_11_1 ++ (e3_11_2))), (12, e3_12_0), (13, e3_13_0 ++ (e3_13_1 ++ (e3_13_2))), (14, e3_14_0 ++ (e3_14_1 ++ (e3_14_2))), (15, e3_15_0 ++ (e3_15_1 ++ (e3_15_2 ++ (e3_15_3)))), (16, e3_16_0 ++ (e3_16_1 ++ (e3_16_2 ++ (e3_16_3)))), (17, e3_17_0 ++ (e3_17_1)), (19, e3_19_0 ++ (e3_19_1 ++ (e3_19_2)))]
theorem tbl3_ok : TblOK 0 Try.prog gl0 tbl3 := (.cons (.append e1_20_0_ok (.append e1_20_1_ok (.append e1_20_2_ok e1_20_3_ok))) (.cons (.append e2_9_0_ok (.append e2_9_1_ok e2_9_2_ok)) (.cons e2_18_0_ok (.cons (.append e2_34_0_ok (.append e2_34_1_ok (.append e2_34_2_ok (.append e2_34_3_ok e2_34_4_ok)))) (.cons (.append e3_10_0_ok (.append e3_10_1_ok (.append e3_10_2_ok e3_10_3_ok))) (.cons (.append e3_11_0_ok (.append e3_11_1_ok e3_11_2_ok)) (.cons e3_12_0_ok (.cons (.append e3_13_0_ok (.append e3_13_1_ok e3_13_2_ok)) (.cons (.append e3_14_0_ok (.append e3_14_1_ok e3_14_2_ok)) (.cons (.append e3_15_0_ok (.append e3_15_1_ok (.append e3_15_2_ok e3_15_3_ok))) (.cons (.append e3_16_0_ok (.append e3_16_1_ok (.append e3_16_2_ok e3_16_3_ok))) (.cons (.append e3_17_0_ok e3_17_1_ok) (.cons (.append e3_19_0_ok (.append e3_19_1_ok e3_19_2_ok)) .nil)))))))))))))
noncomputable def xt3 : List (Nat × List XEnt) := [(62, [x6401, x8036, x10176, x11907])]
theorem xt3_ok : XTblOK 0 Try.prog xt3 := (.cons (.cons (run_ok tbl0_ok xt0_ok) x6401_ok (.cons (run_ok tbl0_ok xt0_ok) x8036_ok (.cons (run_ok tbl0_ok xt0_ok) x10176_ok (.cons (run_ok tbl0_ok xt0_ok) x11907_ok .nil)))) .nil)

end Go.Proofs.Ytmlpmknpkinbjaa
