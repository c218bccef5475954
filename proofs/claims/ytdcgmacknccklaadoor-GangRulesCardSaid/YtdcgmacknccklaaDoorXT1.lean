/-
  The tables of the calls that are known, and of those that are carried out elsewhere, up to level 1.
-/
import Derived.Test.YtdcgmacknccklaaDoorXL1a
import Derived.Test.YtdcgmacknccklaaDoorXL1b
import Derived.Test.YtdcgmacknccklaaDoorXL1c
import Derived.Test.YtdcgmacknccklaaDoorXL1d
import Derived.Test.YtdcgmacknccklaaDoorXL1e
import Derived.KernelRfl
namespace Go.Proofs.YtdcgmacknccklaaDoor
open Go Go.Ev

def tbl1 : List (Nat × List Ent) := [(10, e1_10_0)]
theorem tbl1_ok : TblOK 1 Tryd.prog gl0 tbl1 := (.cons e1_10_0_ok .nil)
noncomputable def xt1 : List (Nat × List XEnt) := [(108, [x891, x2134, x4675, x6107])]
theorem xt1_ok : XTblOK 1 Tryd.prog xt1 := (.cons (.cons (run_ok tbl0_ok xt0_ok) x891_ok (.cons (run_ok tbl0_ok xt0_ok) x2134_ok (.cons (run_ok tbl0_ok xt0_ok) x4675_ok (.cons (run_ok tbl0_ok xt0_ok) x6107_ok .nil)))) .nil)

end Go.Proofs.YtdcgmacknccklaaDoor
