/-
  The tables of the calls that are known, and of those that are carried out elsewhere, up to level 1.
-/
import Derived.Test.YtjnckbefajfgbaaXL1a
import Derived.Test.YtjnckbefajfgbaaXL1b
import Derived.KernelRfl
namespace Go.Proofs.Ytjnckbefajfgbaa
open Go Go.Ev

def tbl1 : List (Nat × List Ent) := [(59, e1_59_0)]
theorem tbl1_ok : TblOK 0 Try.prog gl0 tbl1 := (.cons e1_59_0_ok .nil)
noncomputable def xt1 : List (Nat × List XEnt) := [(50, [x2081])]
theorem xt1_ok : XTblOK 0 Try.prog xt1 := (.cons (.cons (run_ok tbl0_ok xt0_ok) x2081_ok .nil) .nil)

end Go.Proofs.Ytjnckbefajfgbaa
