/-
  The tables of the calls that are known, and of those that are carried out elsewhere, up to level 2.
-/
import Derived.Test.YtmlpmknpkinbjaaXL2a
import Derived.Test.YtmlpmknpkinbjaaXL2b
import Derived.Test.YtmlpmknpkinbjaaXL2c
import Derived.Test.YtmlpmknpkinbjaaXL2d
import Derived.KernelRfl
namespace Go.Proofs.Ytmlpmknpkinbjaa
open Go Go.Ev

def tbl2 : List (Nat × List Ent) := [(20, e1_20_0 ++ (e1_20_1 ++ (e1_20_2 ++ (e1_20_3)))), (9, e2_9_0 ++ (e2_9_1 ++ (e2_9_2))), (18, e2_18_0), (34, e2_34_0 ++ (e2_34_1 ++ (e2_34_2 ++ (e2_34_3 ++ (e2_34_4)))))]
theorem tbl2_ok : TblOK 0 Try.prog gl0 tbl2 := (.cons (.append e1_20_0_ok (.append e1_20_1_ok (.append e1_20_2_ok e1_20_3_ok))) (.cons (.append e2_9_0_ok (.append e2_9_1_ok e2_9_2_ok)) (.cons e2_18_0_ok (.cons (.append e2_34_0_ok (.append e2_34_1_ok (.append e2_34_2_ok (.append e2_34_3_ok e2_34_4_ok)))) .nil))))
noncomputable def xt2 : List (Nat × List XEnt) := [(62, [x6401, x8036, x10176, x11907])]
theorem xt2_ok : XTblOK 0 Try.prog xt2 := (.cons (.cons (run_ok tbl0_ok xt0_ok) x6401_ok (.cons (run_ok tbl0_ok xt0_ok) x8036_ok (.cons (run_ok tbl0_ok xt0_ok) x10176_ok (.cons (run_ok tbl0_ok xt0_ok) x11907_ok .nil)))) .nil)

end Go.Proofs.Ytmlpmknpkinbjaa
