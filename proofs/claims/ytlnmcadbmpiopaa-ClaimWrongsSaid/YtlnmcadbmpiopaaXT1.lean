/-
  The tables of the calls that are known, and of those that are carried out elsewhere, up to level 1.
-/
import Derived.Test.YtlnmcadbmpiopaaXL1a
import Derived.Test.YtlnmcadbmpiopaaXL1b
import Derived.Test.YtlnmcadbmpiopaaXL1c
import Derived.KernelRfl
namespace Go.Proofs.Ytlnmcadbmpiopaa
open Go Go.Ev

def tbl1 : List (Nat × List Ent) := [(11, e1_11_0)]
theorem tbl1_ok : TblOK 0 Try.prog gl0 tbl1 := (.cons e1_11_0_ok .nil)
noncomputable def xt1 : List (Nat × List XEnt) := [(108, [x5049, x6780])]
theorem xt1_ok : XTblOK 0 Try.prog xt1 := (.cons (.cons (run_ok tbl0_ok xt0_ok) x5049_ok (.cons (run_ok tbl0_ok xt0_ok) x6780_ok .nil)) .nil)

end Go.Proofs.Ytlnmcadbmpiopaa
