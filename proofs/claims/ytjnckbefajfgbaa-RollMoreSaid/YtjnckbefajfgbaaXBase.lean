/-
  What holds of the program as a whole; no call is known yet.
-/
import Derived.Test.YtjnckbefajfgbaaEvF
import Derived.Test.YtjnckbefajfgbaaProg
import Derived.KernelRfl
namespace Go.Proofs.Ytjnckbefajfgbaa
open Go Go.Ev

def gl0 : List (List AV) := []
theorem globalsG : Try.prog.globals.size = 0 := by kernel_rfl
theorem mixedG : Try.prog.follows .mixedOrders = true := by kernel_rfl
def tbl0 : List (Nat × List Ent) := []
theorem tbl0_ok : TblOK 0 Try.prog gl0 tbl0 := .nil
def xt0 : List (Nat × List XEnt) := []
theorem xt0_ok : XTblOK 0 Try.prog xt0 := .nil
theorem run_ok {tbl : List (Nat × List Ent)} {xt : List (Nat × List XEnt)} (h : TblOK 0 Try.prog gl0 tbl) (k : XTblOK 0 Try.prog xt) : CallOK 0 Try.prog (evalB Try.prog gl0 tbl xt 5000) ∧ CallGood (evalB Try.prog gl0 tbl xt 5000) :=
  evalB_ok globalsG mixedG rfl h k 5000

end Go.Proofs.Ytjnckbefajfgbaa
