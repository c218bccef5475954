/-
  What holds of the program as a whole; no call is known yet.
-/
import Derived.Test.YtdcgmacknccklaaDoorEvF
import Derived.Test.YtdcgmacknccklaaDoorProg
import Derived.KernelRfl
namespace Go.Proofs.YtdcgmacknccklaaDoor
open Go Go.Ev

def gl0 : List (List AV) := [[.int .i64 (-1), .int .i64 0, .int .i64 1]]
theorem globalsG : Tryd.prog.globals.size = 1 := by kernel_rfl
theorem mixedG : Tryd.prog.follows .mixedOrders = true := by kernel_rfl
def tbl0 : List (Nat × List Ent) := []
theorem tbl0_ok : TblOK 1 Tryd.prog gl0 tbl0 := .nil
def xt0 : List (Nat × List XEnt) := []
theorem xt0_ok : XTblOK 1 Tryd.prog xt0 := .nil
theorem run_ok {tbl : List (Nat × List Ent)} {xt : List (Nat × List XEnt)} (h : TblOK 1 Tryd.prog gl0 tbl) (k : XTblOK 1 Tryd.prog xt) : CallOK 1 Tryd.prog (evalB Tryd.prog gl0 tbl xt 5000) ∧ CallGood (evalB Tryd.prog gl0 tbl xt 5000) :=
  evalB_ok globalsG mixedG rfl h k 5000

end Go.Proofs.YtdcgmacknccklaaDoor
