/-
  The table of the calls that are known, up to level 1.
-/
import Derived.Test.YthjcfigbpcngoaaXL1a
import Derived.Test.YthjcfigbpcngoaaXL1b
import Derived.KernelRfl
namespace Go.Proofs.Ythjcfigbpcngoaa
open Go Go.Ev

def tbl1 : List (Nat × List Ent) := [(15, e1_15_0 ++ (e1_15_1 ++ (e1_15_2))), (46, e1_46_0), (58, e1_58_0), (59, e1_59_0), (66, e1_66_0), (68, e1_68_0), (70, e1_70_0)]
theorem tbl1_ok : TblOK 0 Try.prog gl0 tbl1 := (.cons (.append e1_15_0_ok (.append e1_15_1_ok e1_15_2_ok)) (.cons e1_46_0_ok (.cons e1_58_0_ok (.cons e1_59_0_ok (.cons e1_66_0_ok (.cons e1_68_0_ok (.cons e1_70_0_ok .nil)))))))

end Go.Proofs.Ythjcfigbpcngoaa
