/-
  The table of the calls that are known, up to level 2.
-/
import Derived.Test.YthjcfigbpcngoaaXL2a
import Derived.Test.YthjcfigbpcngoaaXL2b
import Derived.Test.YthjcfigbpcngoaaXL2c
import Derived.Test.YthjcfigbpcngoaaXL2d
import Derived.Test.YthjcfigbpcngoaaXL2e
import Derived.Test.YthjcfigbpcngoaaXL2f
import Derived.Test.YthjcfigbpcngoaaXL2g
import Derived.Test.YthjcfigbpcngoaaXL2h
import Derived.Test.YthjcfigbpcngoaaXL2i
import Derived.KernelRfl
namespace Go.Proofs.Ythjcfigbpcngoaa
open Go Go.Ev

def tbl2 : List (Nat × List Ent) := [(15, e1_15_0 ++ (e1_15_1 ++ (e1_15_2))), (46, e1_46_0), (58, e1_58_0), (59, e1_59_0), (66, e1_66_0), (68, e1_68_0), (70, e1_70_0), (21, e2_21_0 ++ (e2_21_1 ++ (e2_21_2 ++ (e2_21_3 ++ (e2_21_4 ++ (e2_21_5 ++ (e2_21_6))))))), (25, e2_25_0 ++ (e2_25_1 ++ (e2_25_2 ++ (e2_25_3))))]
theorem tbl2_ok : TblOK 0 Try.prog gl0 tbl2 := (.cons (.append e1_15_0_ok (.append e1_15_1_ok e1_15_2_ok)) (.cons e1_46_0_ok (.cons e1_58_0_ok (.cons e1_59_0_ok (.cons e1_66_0_ok (.cons e1_68_0_ok (.cons e1_70_0_ok (.cons (.append e2_21_0_ok (.append e2_21_1_ok (.append e2_21_2_ok (.append e2_21_3_ok (.append e2_21_4_ok (.append e2_21_5_ok e2_21_6_ok)))))) (.cons (.append e2_25_0_ok (.append e2_25_1_ok (.append e2_25_2_ok e2_25_3_ok))) .nil)))))))))

end Go.Proofs.Ythjcfigbpcngoaa
