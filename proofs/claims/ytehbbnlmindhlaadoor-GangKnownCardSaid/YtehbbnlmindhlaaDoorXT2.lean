/-
  The tables of the calls that are known, and of those that are carried out elsewhere, up to level 2.
-/
import Derived.Test.YtehbbnlmindhlaaDoorXL2a
import Derived.Test.YtehbbnlmindhlaaDoorXL2b
import Derived.Test.YtehbbnlmindhlaaDoorXL2c
import Derived.Test.YtehbbnlmindhlaaDoorXL2d
import Derived.Test.YtehbbnlmindhlaaDoorXL2e
import Derived.Test.YtehbbnlmindhlaaDoorXL2f
import Derived.Test.YtehbbnlmindhlaaDoorXL2g
import Derived.Test.YtehbbnlmindhlaaDoorXL2h
import Derived.KernelRfl
namespace Go.Proofs.YtehbbnlmindhlaaDoor
open Go Go.Ev

def tbl2 : List (Nat × List Ent) := [(18, e1_18_0 ++ (e1_18_1)), (8, e2_8_0), (9, e2_9_0 ++ (e2_9_1)), (10, e2_10_0 ++ (e2_10_1 ++ (e2_10_2 ++ (e2_10_3)))), (11, e2_11_0 ++ (e2_11_1 ++ (e2_11_2 ++ (e2_11_3)))), (13, e2_13_0), (14, e2_14_0 ++ (e2_14_1 ++ (e2_14_2 ++ (e2_14_3)))), (17, e2_17_0 ++ (e2_17_1 ++ (e2_17_2 ++ (e2_17_3))))]
theorem tbl2_ok : TblOK 1 Tryd.prog gl0 tbl2 := (.cons (.append e1_18_0_ok e1_18_1_ok) (.cons e2_8_0_ok (.cons (.append e2_9_0_ok e2_9_1_ok) (.cons (.append e2_10_0_ok (.append e2_10_1_ok (.append e2_10_2_ok e2_10_3_ok))) (.cons (.append e2_11_0_ok (.append e2_11_1_ok (.append e2_11_2_ok e2_11_3_ok))) (.cons e2_13_0_ok (.cons (.append e2_14_0_ok (.append e2_14_1_ok (.append e2_14_2_ok e2_14_3_ok))) (.cons (.append e2_17_0_ok (.append e2_17_1_ok (.append e2_17_2_ok e2_17_3_ok))) .nil))))))))
noncomputable def xt2 : List (Nat × List XEnt) := [(70, [x2465, x3708, x6249, x8897, x10218, x12918, x15020, x16037, x17939, x18860, x21328, x12117]), (38, [x1975, x7827])]
theorem xt2_ok : XTblOK 1 Tryd.prog xt2 := (.cons (.cons (run_ok tbl0_ok xt0_ok) x2465_ok (.cons (run_ok tbl0_ok xt0_ok) x3708_ok (.cons (run_ok tbl0_ok xt0_ok) x6249_ok (.cons (run_ok tbl0_ok xt0_ok) x8897_ok (.cons (run_ok tbl0_ok xt0_ok) x10218_ok (.cons (run_ok tbl0_ok xt0_ok) x12918_ok (.cons (run_ok tbl0_ok xt0_ok) x15020_ok (.cons (run_ok tbl0_ok xt0_ok) x16037_ok (.cons (run_ok tbl0_ok xt0_ok) x17939_ok (.cons (run_ok tbl0_ok xt0_ok) x18860_ok (.cons (run_ok tbl0_ok xt0_ok) x21328_ok (.cons (run_ok tbl1_ok xt1_ok) x12117_ok .nil)))))))))))) (.cons (.cons (run_ok tbl1_ok xt1_ok) x1975_ok (.cons (run_ok tbl1_ok xt1_ok) x7827_ok .nil)) .nil))

end Go.Proofs.YtehbbnlmindhlaaDoor
