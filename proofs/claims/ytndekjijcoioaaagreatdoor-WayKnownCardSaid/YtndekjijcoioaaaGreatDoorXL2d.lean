/-
  Calls that are known, or carried out elsewhere, level 2: each is carried out as its row says.
-/
import Derived.Test.YtndekjijcoioaaaGreatDoorXT1
import Derived.KernelRfl
namespace Go.Proofs.YtndekjijcoioaaaGreatDoor
open Go Go.Ev

set_option maxRecDepth 100000

def e2_50_1 : List Ent := [
  ⟨50, [.agg [.sl 2 0 3 3, .sl 3 0 2 2, .int .i64 4], .sl 4 0 1 1, .int .i64 1], [[.int .i64 2, .int .i64 3, .int .i64 0, .int .i64 1, .int .i64 2, .int .i64 1, .int .i64 2, .int .i64 2, .int .i64 2], [.int .i64 0, .int .i64 1, .int .i64 1, .int .i64 2, .int .i64 1, .int .i64 2, .int .i64 2, .int .i64 2], [.int .i64 0, .int .i64 1, .int .i64 2]], .tup [.nils, .int .i64 0], [], 57⟩,
  ⟨50, [.agg [.sl 2 0 3 3, .sl 3 0 2 2, .int .i64 4], .sl 4 0 1 1, .int .i64 2], [[.int .i64 2, .int .i64 3, .int .i64 0, .int .i64 1, .int .i64 2, .int .i64 1, .int .i64 2, .int .i64 2, .int .i64 2], [.int .i64 0, .int .i64 1, .int .i64 1, .int .i64 2, .int .i64 1, .int .i64 2, .int .i64 2, .int .i64 2], [.int .i64 0, .int .i64 1, .int .i64 2]], .tup [.nils, .int .i64 0], [], 57⟩,
  ⟨50, [.agg [.sl 2 0 3 3, .sl 3 0 2 2, .int .i64 4], .sl 4 0 1 1, .int .i64 3], [[.int .i64 2, .int .i64 3, .int .i64 0, .int .i64 1, .int .i64 2, .int .i64 1, .int .i64 2, .int .i64 2, .int .i64 2], [.int .i64 0, .int .i64 1, .int .i64 1, .int .i64 2, .int .i64 1, .int .i64 2, .int .i64 2, .int .i64 2], [.int .i64 0, .int .i64 1, .int .i64 2]], .tup [.nils, .int .i64 0], [], 57⟩,
  ⟨50, [.agg [.sl 2 0 3 3, .sl 3 0 2 2, .int .i64 4], .gs 4 1, .int .i64 0], [[.int .i64 2, .int .i64 3, .int .i64 0, .int .i64 1, .int .i64 2, .int .i64 1, .int .i64 2, .int .i64 2, .int .i64 2], [.int .i64 0, .int .i64 1, .int .i64 1, .int .i64 2, .int .i64 1, .int .i64 2, .int .i64 2, .int .i64 2], [.int .i64 0, .int .i64 0, .int .i64 0]], .tup [.sl 48 0 1 1, .int .i64 0], [(48, .grown [.int .i64 0] 1)], 59⟩]
theorem e2_50_1_ok : EntsOK 2 Tryz.prog gl0 e2_50_1 := .of (run_ok tbl1_ok xt1_ok) (by kernel_rfl)

def e2_50_2 : List Ent := [
  ⟨50, [.agg [.sl 2 0 3 3, .sl 3 0 2 2, .int .i64 4], .gs 4 1, .int .i64 0], [[.int .i64 2, .int .i64 3, .int .i64 0, .int .i64 1, .int .i64 2, .int .i64 1, .int .i64 2, .int .i64 2, .int .i64 2], [.int .i64 0, .int .i64 1, .int .i64 1, .int .i64 2, .int .i64 1, .int .i64 2, .int .i64 2, .int .i64 2], [.int .i64 0, .int .i64 1, .int .i64 2]], .tup [.sl 58 0 1 1, .int .i64 0], [(58, .grown [.int .i64 2] 1)], 59⟩,
  ⟨50, [.agg [.sl 2 0 3 3, .sl 3 0 2 2, .int .i64 4], .gs 4 2, .int .i64 0], [[.int .i64 2, .int .i64 3, .int .i64 0, .int .i64 1, .int .i64 2, .int .i64 1, .int .i64 2, .int .i64 2, .int .i64 2], [.int .i64 0, .int .i64 1, .int .i64 1, .int .i64 2, .int .i64 1, .int .i64 2, .int .i64 2, .int .i64 2], [.int .i64 0, .int .i64 0, .int .i64 0, .int .i64 0, .int .i64 1, .int .i64 2]], .tup [.sl 85 0 2 2, .int .i64 0], [(85, .grown [.int .i64 0, .int .i64 2] 1)], 86⟩,
  ⟨50, [.agg [.sl 2 0 3 3, .sl 3 0 2 2, .int .i64 4], .gs 4 1, .int .i64 1], [[.int .i64 2, .int .i64 3, .int .i64 0, .int .i64 1, .int .i64 2, .int .i64 1, .int .i64 2, .int .i64 2, .int .i64 2], [.int .i64 0, .int .i64 1, .int .i64 1, .int .i64 2, .int .i64 1, .int .i64 2, .int .i64 2, .int .i64 2], [.int .i64 1, .int .i64 0, .int .i64 0]], .tup [.sl 48 0 1 1, .int .i64 0], [(48, .grown [.int .i64 0] 1)], 59⟩]
theorem e2_50_2_ok : EntsOK 2 Tryz.prog gl0 e2_50_2 := .of (run_ok tbl1_ok xt1_ok) (by kernel_rfl)

def e2_50_3 : List Ent := [
  ⟨50, [.agg [.sl 2 0 3 3, .sl 3 0 2 2, .int .i64 4], .gs 4 1, .int .i64 1], [[.int .i64 2, .int .i64 3, .int .i64 0, .int .i64 1, .int .i64 2, .int .i64 1, .int .i64 2, .int .i64 2, .int .i64 2], [.int .i64 0, .int .i64 1, .int .i64 1, .int .i64 2, .int .i64 1, .int .i64 2, .int .i64 2, .int .i64 2], [.int .i64 1, .int .i64 0, .int .i64 1]], .tup [.sl 53 0 1 1, .int .i64 0], [(53, .grown [.int .i64 1] 1)], 59⟩,
  ⟨50, [.agg [.sl 2 0 3 3, .sl 3 0 2 2, .int .i64 4], .gs 4 1, .int .i64 1], [[.int .i64 2, .int .i64 3, .int .i64 0, .int .i64 1, .int .i64 2, .int .i64 1, .int .i64 2, .int .i64 2, .int .i64 2], [.int .i64 0, .int .i64 1, .int .i64 1, .int .i64 2, .int .i64 1, .int .i64 2, .int .i64 2, .int .i64 2], [.int .i64 1, .int .i64 1, .int .i64 1]], .tup [.sl 53 0 1 1, .int .i64 0], [(53, .grown [.int .i64 1] 1)], 59⟩,
  ⟨50, [.agg [.sl 2 0 3 3, .sl 3 0 2 2, .int .i64 4], .gs 4 1, .int .i64 2], [[.int .i64 2, .int .i64 3, .int .i64 0, .int .i64 1, .int .i64 2, .int .i64 1, .int .i64 2, .int .i64 2, .int .i64 2], [.int .i64 0, .int .i64 1, .int .i64 1, .int .i64 2, .int .i64 1, .int .i64 2, .int .i64 2, .int .i64 2], [.int .i64 2, .int .i64 0, .int .i64 0]], .tup [.sl 48 0 1 1, .int .i64 0], [(48, .grown [.int .i64 0] 1)], 59⟩,
  ⟨50, [.agg [.sl 2 0 3 3, .sl 3 0 2 2, .int .i64 4], .gs 4 1, .int .i64 2], [[.int .i64 2, .int .i64 3, .int .i64 0, .int .i64 1, .int .i64 2, .int .i64 1, .int .i64 2, .int .i64 2, .int .i64 2], [.int .i64 0, .int .i64 1, .int .i64 1, .int .i64 2, .int .i64 1, .int .i64 2, .int .i64 2, .int .i64 2], [.int .i64 2, .int .i64 0, .int .i64 1]], .tup [.sl 53 0 1 1, .int .i64 0], [(53, .grown [.int .i64 1] 1)], 59⟩]
theorem e2_50_3_ok : EntsOK 2 Tryz.prog gl0 e2_50_3 := .of (run_ok tbl1_ok xt1_ok) (by kernel_rfl)

def e2_50_4 : List Ent := [
  ⟨50, [.agg [.sl 2 0 3 3, .sl 3 0 2 2, .int .i64 4], .gs 4 1, .int .i64 2], [[.int .i64 2, .int .i64 3, .int .i64 0, .int .i64 1, .int .i64 2, .int .i64 1, .int .i64 2, .int .i64 2, .int .i64 2], [.int .i64 0, .int .i64 1, .int .i64 1, .int .i64 2, .int .i64 1, .int .i64 2, .int .i64 2, .int .i64 2], [.int .i64 2, .int .i64 1, .int .i64 1]], .tup [.sl 53 0 1 1, .int .i64 0], [(53, .grown [.int .i64 1] 1)], 59⟩,
  ⟨50, [.agg [.sl 2 0 3 3, .sl 3 0 2 2, .int .i64 4], .gs 4 1, .int .i64 2], [[.int .i64 2, .int .i64 3, .int .i64 0, .int .i64 1, .int .i64 2, .int .i64 1, .int .i64 2, .int .i64 2, .int .i64 2], [.int .i64 0, .int .i64 1, .int .i64 1, .int .i64 2, .int .i64 1, .int .i64 2, .int .i64 2, .int .i64 2], [.int .i64 2, .int .i64 1, .int .i64 2]], .tup [.sl 58 0 1 1, .int .i64 0], [(58, .grown [.int .i64 2] 1)], 59⟩,
  ⟨50, [.agg [.sl 2 0 3 3, .sl 3 0 2 2, .int .i64 4], .gs 4 2, .int .i64 2], [[.int .i64 2, .int .i64 3, .int .i64 0, .int .i64 1, .int .i64 2, .int .i64 1, .int .i64 2, .int .i64 2, .int .i64 2], [.int .i64 0, .int .i64 1, .int .i64 1, .int .i64 2, .int .i64 1, .int .i64 2, .int .i64 2, .int .i64 2], [.int .i64 2, .int .i64 0, .int .i64 0, .int .i64 2, .int .i64 1, .int .i64 2]], .tup [.sl 85 0 2 2, .int .i64 0], [(85, .grown [.int .i64 0, .int .i64 2] 1)], 86⟩]
theorem e2_50_4_ok : EntsOK 2 Tryz.prog gl0 e2_50_4 := .of (run_ok tbl1_ok xt1_ok) (by kernel_rfl)

end Go.Proofs.YtndekjijcoioaaaGreatDoor
