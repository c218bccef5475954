/-
  The table of the calls that are known, up to level 3.
-/
import Derived.Test.YthjcfigbpcngoaaXL3a
import Derived.Test.YthjcfigbpcngoaaXL3b
import Derived.Test.YthjcfigbpcngoaaXL3c
import Derived.Test.YthjcfigbpcngoaaXL3d
import Derived.KernelRfl
namespace Go.Proofs.Ythjcfigbpcngoaa
open Go Go.Ev

def tbl3 : List (Nat × List Ent) := [(15, e1_15_0 ++ (e1_15_1 ++ (e1_15_2))), (46, e1_46_0), (58, e1_58_0), (59, e1_59_0), (66, e1_66_0), (68, e1_68_0), (70, e1_70_0), (21, e2_21_0 ++ (e2_21_1 ++ (e2_21_2 ++ (e2_21_3 ++ (e2_21_4 ++ (e2_21_5 ++ (e2_21_6))))))), (25, e2_25_0 ++ (e2_25_1 ++ (e2_25_2 ++ (e2_25_3)))), (7, e3_7_0), (8, e3_8_0 ++ (e3_8_1 ++ (e3_8_2 ++ (e3_8_3)))), (9, e3_9_0 ++ (e3_9_1)), (10, e3_10_0), (11, e3_11_0 ++ (e3_11_1 ++ (e3_11_2))), (12, e3_12_0), (13, e3_13_0 ++ (e3_13_1 ++ (e3_13_2))), (14, e3_14_0)]
theorem tbl3_ok : TblOK 0 Try.prog gl0 tbl3 := (.cons (.append e1_15_0_ok (.append e1_15_1_ok e1_15_2_ok)) (.cons e1_46_0_ok (.cons e1_58_0_ok (.cons e1_59_0_ok (.cons e1_66_0_ok (.cons e1_68_0_ok (.cons e1_70_0_ok (.cons (.append e2_21_0_ok (.append e2_21_1_ok (.append e2_21_2_ok (.append e2_21_3_ok (.append e2_21_4_ok (.append e2_21_5_ok e2_21_6_ok)))))) (.cons (.append e2_25_0_ok (.append e2_25_1_ok (.append e2_25_2_ok e2_25_3_ok))) (.cons e3_7_0_ok (.cons (.append e3_8_0_ok (.append e3_8_1_ok (.append e3_8_2_ok e3_8_3_ok))) (.cons (.append e3_9_0_ok e3_9_1_ok) (.cons e3_10_0_ok (.cons (.append e3_11_0_ok (.append e3_11_1_ok e3_11_2_ok)) (.cons e3_12_0_ok (.cons (.append e3_13_0_ok (.append e3_13_1_ok e3_13_2_ok)) (.cons e3_14_0_ok .nil)))))))))))))))))

end Go.Proofs.Ythjcfigbpcngoaa
