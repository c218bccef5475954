/-
  The table of the calls that are known, up to level 3.
-/
import Derived.Test.YtdiejdhnmoengaaDoorXL3a
import Derived.Test.YtdiejdhnmoengaaDoorXL3b
import Derived.Test.YtdiejdhnmoengaaDoorXL3c
import Derived.Test.YtdiejdhnmoengaaDoorXL3d
import Derived.Test.YtdiejdhnmoengaaDoorXL3e
import Derived.Test.YtdiejdhnmoengaaDoorXL3f
import Derived.Test.YtdiejdhnmoengaaDoorXL3g
import Derived.Test.YtdiejdhnmoengaaDoorXL3h
import Derived.Test.YtdiejdhnmoengaaDoorXL3i
import Derived.KernelRfl
namespace Go.Proofs.YtdiejdhnmoengaaDoor
open Go Go.Ev

def tbl3 : List (Nat × List Ent) := [(18, e1_18_0 ++ (e1_18_1 ++ (e1_18_2 ++ (e1_18_3)))), (23, e1_23_0), (25, e2_25_0 ++ (e2_25_1 ++ (e2_25_2 ++ (e2_25_3)))), (8, e3_8_0 ++ (e3_8_1 ++ (e3_8_2))), (9, e3_9_0 ++ (e3_9_1 ++ (e3_9_2 ++ (e3_9_3)))), (10, e3_10_0), (11, e3_11_0), (12, e3_12_0 ++ (e3_12_1 ++ (e3_12_2))), (13, e3_13_0 ++ (e3_13_1 ++ (e3_13_2))), (14, e3_14_0 ++ (e3_14_1 ++ (e3_14_2 ++ (e3_14_3)))), (15, e3_15_0 ++ (e3_15_1)), (16, e3_16_0 ++ (e3_16_1 ++ (e3_16_2))), (17, e3_17_0 ++ (e3_17_1 ++ (e3_17_2)))]
theorem tbl3_ok : TblOK 1 Tryd.prog gl0 tbl3 := (.cons (.append e1_18_0_ok (.append e1_18_1_ok (.append e1_18_2_ok e1_18_3_ok))) (.cons e1_23_0_ok (.cons (.append e2_25_0_ok (.append e2_25_1_ok (.append e2_25_2_ok e2_25_3_ok))) (.cons (.append e3_8_0_ok (.append e3_8_1_ok e3_8_2_ok)) (.cons (.append e3_9_0_ok (.append e3_9_1_ok (.append e3_9_2_ok e3_9_3_ok))) (.cons e3_10_0_ok (.cons e3_11_0_ok (.cons (.append e3_12_0_ok (.append e3_12_1_ok e3_12_2_ok)) (.cons (.append e3_13_0_ok (.append e3_13_1_ok e3_13_2_ok)) (.cons (.append e3_14_0_ok (.append e3_14_1_ok (.append e3_14_2_ok e3_14_3_ok))) (.cons (.append e3_15_0_ok e3_15_1_ok) (.cons (.append e3_16_0_ok (.append e3_16_1_ok e3_16_2_ok)) (.cons (.append e3_17_0_ok (.append e3_17_1_ok e3_17_2_ok)) .nil)))))))))))))

end Go.Proofs.YtdiejdhnmoengaaDoor
