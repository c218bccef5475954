/-
  What holds of the program as a whole; no call is known yet.
-/
import Derived.Test.YthjcfigbpcngoaaEvF
import Derived.Test.YthjcfigbpcngoaaProg
import Derived.KernelRfl
namespace Go.Proofs.Ythjcfigbpcngoaa
open Go Go.Ev

def gl0 : List (List AV) := []
theorem globalsG : Try.prog.globals.size = 0 := by kernel_rfl
theorem mixedG : Try.prog.follows .mixedOrders = true := by kernel_rfl
def tbl0 : List (Nat × List Ent) := []
theorem tbl0_ok : TblOK 0 Try.prog gl0 tbl0 := .nil
theorem run_ok {tbl : List (Nat × List Ent)} (h : TblOK 0 Try.prog gl0 tbl) : CallOK 0 Try.prog (evalF Try.prog gl0 tbl 5000) ∧ CallGood (evalF Try.prog gl0 tbl 5000) :=
  evalF_ok globalsG mixedG rfl h 5000

end Go.Proofs.Ythjcfigbpcngoaa
