/-
  The tables of the calls that are known, and of those that are carried out elsewhere, up to level 1.
-/
import Derived.Test.YtkmlpipkcmjmhaaXL1a
import Derived.Test.YtkmlpipkcmjmhaaXL1b
import Derived.Test.YtkmlpipkcmjmhaaXL1c
import Derived.Test.YtkmlpipkcmjmhaaXL1d
import Derived.Test.YtkmlpipkcmjmhaaXL1e
import Derived.Test.YtkmlpipkcmjmhaaXL1f
import Derived.Test.YtkmlpipkcmjmhaaXL1g
import Derived.KernelRfl
namespace Go.Proofs.Ytkmlpipkcmjmhaa
open Go Go.Ev

def tbl1 : List (Nat × List Ent) := [(19, e1_19_0 ++ (e1_19_1 ++ (e1_19_2)))]
theorem tbl1_ok : TblOK 0 Try.prog gl0 tbl1 := (.cons (.append e1_19_0_ok (.append e1_19_1_ok e1_19_2_ok)) .nil)
noncomputable def xt1 : List (Nat × List XEnt) := [(62, [x10359]), (29, [x10792, x11220, x11648, x12076, x12504])]
theorem xt1_ok : XTblOK 0 Try.prog xt1 := (.cons (.cons (run_ok tbl0_ok xt0_ok) x10359_ok .nil) (.cons (.cons (run_ok tbl0_ok xt0_ok) x10792_ok (.cons (run_ok tbl0_ok xt0_ok) x11220_ok (.cons (run_ok tbl0_ok xt0_ok) x11648_ok (.cons (run_ok tbl0_ok xt0_ok) x12076_ok (.cons (run_ok tbl0_ok xt0_ok) x12504_ok .nil))))) .nil))

end Go.Proofs.Ytkmlpipkcmjmhaa
