/-
  Calls that are known, or carried out elsewhere, level 2: each is carried out as its row says.
-/
import Derived.Test.YtndekjijcoioaaaGreatDoorXT1
import Derived.KernelRfl
namespace Go.Proofs.YtndekjijcoioaaaGreatDoor
open Go Go.Ev

set_option maxRecDepth 100000

def e2_106_6 : List Ent := [
  ⟨106, [.agg [.sl 2 0 3 3, .sl 3 0 2 2, .int .i64 4], .gs 4 1, .int .i64 1], [[.int .i64 2, .int .i64 3, .int .i64 0, .int .i64 1, .int .i64 2, .int .i64 1, .int .i64 2, .int .i64 2, .int .i64 2], [.int .i64 0, .int .i64 1, .int .i64 1, .int .i64 2, .int .i64 1, .int .i64 2, .int .i64 2, .int .i64 2], [.int .i64 2, .int .i64 1, .int .i64 2]], .tup [.agg [.int .i64 0, .int .i64 0], .int .i64 0], [], 47⟩,
  ⟨106, [.agg [.sl 2 0 3 3, .sl 3 0 2 2, .int .i64 4], .gs 4 1, .int .i64 2], [[.int .i64 2, .int .i64 3, .int .i64 0, .int .i64 1, .int .i64 2, .int .i64 1, .int .i64 2, .int .i64 2, .int .i64 2], [.int .i64 0, .int .i64 1, .int .i64 1, .int .i64 2, .int .i64 1, .int .i64 2, .int .i64 2, .int .i64 2], [.int .i64 2, .int .i64 1, .int .i64 2]], .tup [.agg [.int .i64 2, .int .i64 2], .int .i64 0], [], 47⟩,
  ⟨106, [.agg [.sl 2 0 3 3, .sl 3 0 2 2, .int .i64 4], .gs 4 2, .int .i64 0], [[.int .i64 2, .int .i64 3, .int .i64 0, .int .i64 1, .int .i64 2, .int .i64 1, .int .i64 2, .int .i64 2, .int .i64 2], [.int .i64 0, .int .i64 1, .int .i64 1, .int .i64 2, .int .i64 1, .int .i64 2, .int .i64 2, .int .i64 2], [.int .i64 2, .int .i64 0, .int .i64 0, .int .i64 2, .int .i64 1, .int .i64 2]], .tup [.agg [.int .i64 1, .int .i64 2], .int .i64 0], [], 69⟩,
  ⟨106, [.agg [.sl 2 0 3 3, .sl 3 0 2 2, .int .i64 4], .gs 4 2, .int .i64 1], [[.int .i64 2, .int .i64 3, .int .i64 0, .int .i64 1, .int .i64 2, .int .i64 1, .int .i64 2, .int .i64 2, .int .i64 2], [.int .i64 0, .int .i64 1, .int .i64 1, .int .i64 2, .int .i64 1, .int .i64 2, .int .i64 2, .int .i64 2], [.int .i64 2, .int .i64 0, .int .i64 0, .int .i64 2, .int .i64 1, .int .i64 2]], .tup [.agg [.int .i64 0, .int .i64 0], .int .i64 0], [], 69⟩]
theorem e2_106_6_ok : EntsOK 2 Tryz.prog gl0 e2_106_6 := .of (run_ok tbl1_ok xt1_ok) (by kernel_rfl)

def e2_106_7 : List Ent := [
  ⟨106, [.agg [.sl 2 0 3 3, .sl 3 0 2 2, .int .i64 4], .gs 4 2, .int .i64 2], [[.int .i64 2, .int .i64 3, .int .i64 0, .int .i64 1, .int .i64 2, .int .i64 1, .int .i64 2, .int .i64 2, .int .i64 2], [.int .i64 0, .int .i64 1, .int .i64 1, .int .i64 2, .int .i64 1, .int .i64 2, .int .i64 2, .int .i64 2], [.int .i64 2, .int .i64 0, .int .i64 0, .int .i64 2, .int .i64 1, .int .i64 2]], .tup [.agg [.int .i64 2, .int .i64 2], .int .i64 0], [], 69⟩,
  ⟨106, [.agg [.sl 2 0 3 3, .sl 3 0 2 2, .int .i64 4], .gs 4 1, .int .i64 0], [[.int .i64 2, .int .i64 3, .int .i64 0, .int .i64 1, .int .i64 2, .int .i64 1, .int .i64 2, .int .i64 2, .int .i64 2], [.int .i64 0, .int .i64 1, .int .i64 1, .int .i64 2, .int .i64 1, .int .i64 2, .int .i64 2, .int .i64 2], [.int .i64 3, .int .i64 0, .int .i64 0]], .tup [.agg [.int .i64 1, .int .i64 2], .int .i64 0], [], 47⟩,
  ⟨106, [.agg [.sl 2 0 3 3, .sl 3 0 2 2, .int .i64 4], .gs 4 1, .int .i64 1], [[.int .i64 2, .int .i64 3, .int .i64 0, .int .i64 1, .int .i64 2, .int .i64 1, .int .i64 2, .int .i64 2, .int .i64 2], [.int .i64 0, .int .i64 1, .int .i64 1, .int .i64 2, .int .i64 1, .int .i64 2, .int .i64 2, .int .i64 2], [.int .i64 3, .int .i64 0, .int .i64 0]], .tup [.agg [.int .i64 0, .int .i64 0], .int .i64 0], [], 47⟩,
  ⟨106, [.agg [.sl 2 0 3 3, .sl 3 0 2 2, .int .i64 4], .gs 4 1, .int .i64 2], [[.int .i64 2, .int .i64 3, .int .i64 0, .int .i64 1, .int .i64 2, .int .i64 1, .int .i64 2, .int .i64 2, .int .i64 2], [.int .i64 0, .int .i64 1, .int .i64 1, .int .i64 2, .int .i64 1, .int .i64 2, .int .i64 2, .int .i64 2], [.int .i64 3, .int .i64 0, .int .i64 0]], .tup [.agg [.int .i64 0, .int .i64 0], .int .i64 0], [], 47⟩,
  ⟨106, [.agg [.sl 2 0 3 3, .sl 3 0 2 2, .int .i64 4], .gs 4 1, .int .i64 0], [[.int .i64 2, .int .i64 3, .int .i64 0, .int .i64 1, .int .i64 2, .int .i64 1, .int .i64 2, .int .i64 2, .int .i64 2], [.int .i64 0, .int .i64 1, .int .i64 1, .int .i64 2, .int .i64 1, .int .i64 2, .int .i64 2, .int .i64 2], [.int .i64 3, .int .i64 0, .int .i64 1]], .tup [.agg [.int .i64 0, .int .i64 0], .int .i64 0], [], 47⟩]
theorem e2_106_7_ok : EntsOK 2 Tryz.prog gl0 e2_106_7 := .of (run_ok tbl1_ok xt1_ok) (by kernel_rfl)

def e2_106_8 : List Ent := [
  ⟨106, [.agg [.sl 2 0 3 3, .sl 3 0 2 2, .int .i64 4], .gs 4 1, .int .i64 1], [[.int .i64 2, .int .i64 3, .int .i64 0, .int .i64 1, .int .i64 2, .int .i64 1, .int .i64 2, .int .i64 2, .int .i64 2], [.int .i64 0, .int .i64 1, .int .i64 1, .int .i64 2, .int .i64 1, .int .i64 2, .int .i64 2, .int .i64 2], [.int .i64 3, .int .i64 0, .int .i64 1]], .tup [.agg [.int .i64 1, .int .i64 2], .int .i64 0], [], 47⟩,
  ⟨106, [.agg [.sl 2 0 3 3, .sl 3 0 2 2, .int .i64 4], .gs 4 1, .int .i64 2], [[.int .i64 2, .int .i64 3, .int .i64 0, .int .i64 1, .int .i64 2, .int .i64 1, .int .i64 2, .int .i64 2, .int .i64 2], [.int .i64 0, .int .i64 1, .int .i64 1, .int .i64 2, .int .i64 1, .int .i64 2, .int .i64 2, .int .i64 2], [.int .i64 3, .int .i64 0, .int .i64 1]], .tup [.agg [.int .i64 0, .int .i64 0], .int .i64 0], [], 47⟩,
  ⟨106, [.agg [.sl 2 0 3 3, .sl 3 0 2 2, .int .i64 4], .gs 4 1, .int .i64 0], [[.int .i64 2, .int .i64 3, .int .i64 0, .int .i64 1, .int .i64 2, .int .i64 1, .int .i64 2, .int .i64 2, .int .i64 2], [.int .i64 0, .int .i64 1, .int .i64 1, .int .i64 2, .int .i64 1, .int .i64 2, .int .i64 2, .int .i64 2], [.int .i64 3, .int .i64 1, .int .i64 1]], .tup [.agg [.int .i64 0, .int .i64 0], .int .i64 0], [], 47⟩,
  ⟨106, [.agg [.sl 2 0 3 3, .sl 3 0 2 2, .int .i64 4], .gs 4 1, .int .i64 1], [[.int .i64 2, .int .i64 3, .int .i64 0, .int .i64 1, .int .i64 2, .int .i64 1, .int .i64 2, .int .i64 2, .int .i64 2], [.int .i64 0, .int .i64 1, .int .i64 1, .int .i64 2, .int .i64 1, .int .i64 2, .int .i64 2, .int .i64 2], [.int .i64 3, .int .i64 1, .int .i64 1]], .tup [.agg [.int .i64 2, .int .i64 2], .int .i64 0], [], 47⟩,
  ⟨106, [.agg [.sl 2 0 3 3, .sl 3 0 2 2, .int .i64 4], .gs 4 1, .int .i64 2], [[.int .i64 2, .int .i64 3, .int .i64 0, .int .i64 1, .int .i64 2, .int .i64 1, .int .i64 2, .int .i64 2, .int .i64 2], [.int .i64 0, .int .i64 1, .int .i64 1, .int .i64 2, .int .i64 1, .int .i64 2, .int .i64 2, .int .i64 2], [.int .i64 3, .int .i64 1, .int .i64 1]], .tup [.agg [.int .i64 0, .int .i64 0], .int .i64 0], [], 47⟩]
theorem e2_106_8_ok : EntsOK 2 Tryz.prog gl0 e2_106_8 := .of (run_ok tbl1_ok xt1_ok) (by kernel_rfl)

end Go.Proofs.YtndekjijcoioaaaGreatDoor
