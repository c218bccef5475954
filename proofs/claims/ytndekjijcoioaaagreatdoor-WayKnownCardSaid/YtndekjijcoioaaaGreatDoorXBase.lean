/-
  What holds of the program as a whole; no call is known yet.
-/
import Derived.Test.YtndekjijcoioaaaGreatDoorEvF
import Derived.Test.YtndekjijcoioaaaGreatDoorProg
import Derived.KernelRfl
namespace Go.Proofs.YtndekjijcoioaaaGreatDoor
open Go Go.Ev

def gl0 : List (List AV) := [[.int .i64 2, .int .i64 4, .int .i64 1, .int .i64 5, .int .i64 1, .int .i64 3, .int .i64 1, .int .i64 60, .int .i64 0, .int .i64 200], [.int .i64 (-1), .int .i64 0, .int .i64 1]]
theorem globalsG : Tryz.prog.globals.size = 2 := by kernel_rfl
theorem mixedG : Tryz.prog.follows .mixedOrders = true := by kernel_rfl
def tbl0 : List (Nat × List Ent) := []
theorem tbl0_ok : TblOK 2 Tryz.prog gl0 tbl0 := .nil
def xt0 : List (Nat × List XEnt) := []
theorem xt0_ok : XTblOK 2 Tryz.prog xt0 := .nil
theorem run_ok {tbl : List (Nat × List Ent)} {xt : List (Nat × List XEnt)} (h : TblOK 2 Tryz.prog gl0 tbl) (k : XTblOK 2 Tryz.prog xt) : CallOK 2 Tryz.prog (evalB Tryz.prog gl0 tbl xt 5000) ∧ CallGood (evalB Tryz.prog gl0 tbl xt 5000) :=
  evalB_ok globalsG mixedG rfl h k 5000

end Go.Proofs.YtndekjijcoioaaaGreatDoor
