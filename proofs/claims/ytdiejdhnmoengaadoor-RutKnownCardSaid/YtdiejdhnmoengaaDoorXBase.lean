/-
  What holds of the program as a whole; no call is known yet.
-/
import Derived.Test.YtdiejdhnmoengaaDoorEvD
import Derived.Test.YtdiejdhnmoengaaDoorProg
import Derived.KernelRfl
namespace Go.Proofs.YtdiejdhnmoengaaDoor
open Go Go.Ev

def gl0 : List (List AV) := [[.int .i64 0, .int .i64 0, .int .i64 0, .int .i64 1, .int .i64 1, .int .i64 1]]
theorem globals1 : Tryd.prog.globals.size = 1 := by kernel_rfl
theorem mixed1 : Tryd.prog.follows .mixedOrders = true := by kernel_rfl
def tbl0 : List (Nat × List Ent) := []
theorem tbl0_ok : TblOK 1 Tryd.prog gl0 tbl0 := .nil
theorem run_ok {tbl : List (Nat × List Ent)} (h : TblOK 1 Tryd.prog gl0 tbl) : CallOK 1 Tryd.prog (evalT Tryd.prog gl0 tbl 5000) ∧ CallGood (evalT Tryd.prog gl0 tbl 5000) :=
  evalT_ok globals1 mixed1 rfl h 5000

end Go.Proofs.YtdiejdhnmoengaaDoor
