/-
  Calls that are known, or carried out elsewhere, level 2: each is carried out as its row says.
-/
import Derived.Test.YtoimgppbhpcliaaGreatDoorXT1
import Derived.KernelRfl
namespace Go.Proofs.YtoimgppbhpcliaaGreatDoor
open Go Go.Ev

set_option maxRecDepth 100000

def e2_13_2 : List Ent := [
  ⟨13, [.agg [.sl 1 0 2 2, .sl 2 0 2 2, .sl 3 0 1 1], .int .i64 0], [[.int .i64 6, .int .i64 3, .int .i64 1, .int .i64 1, .int .i64 8, .int .i64 4, .int .i64 2, .int .i64 (-1)], [.int .i64 3, .int .i64 4, .int .i64 4, .int .i64 5], [.int .i64 0, .int .i64 0, .int .i64 3, .int .i64 0]], .tup [.int .i64 1, .int .i64 0], [], 335⟩]
theorem e2_13_2_ok : EntsOK 1 Tryz.prog gl0 e2_13_2 := .of (run_ok tbl1_ok xt1_ok) (by kernel_rfl)

def e2_14_0 : List Ent := [
  ⟨14, [.agg [.nils, .nils, .nils]], [], .tup [.int .i64 0, .int .i64 0, .int .i64 50], [], 7⟩,
  ⟨14, [.agg [.sl 1 0 5 5, .sl 2 0 2 2, .nils]], [[.int .i64 0, .int .i64 0, .int .i64 0, .int .i64 0, .int .i64 0, .int .i64 0, .int .i64 0, .int .i64 0, .int .i64 0, .int .i64 0, .int .i64 0, .int .i64 0, .int .i64 0, .int .i64 0, .int .i64 0, .int .i64 0, .int .i64 0, .int .i64 0, .int .i64 0, .int .i64 0], [.int .i64 3, .int .i64 4, .int .i64 4, .int .i64 5]], .tup [.int .i64 0, .int .i64 0, .int .i64 50], [], 9⟩,
  ⟨14, [.agg [.sl 1 0 2 2, .sl 2 0 2 2, .nils]], [[.int .i64 21, .int .i64 3, .int .i64 1, .int .i64 1, .int .i64 8, .int .i64 4, .int .i64 2, .int .i64 (-1)], [.int .i64 3, .int .i64 4, .int .i64 4, .int .i64 5]], .tup [.int .i64 0, .int .i64 0, .int .i64 50], [], 10⟩,
  ⟨14, [.agg [.sl 1 0 2 2, .sl 2 0 2 2, .nils]], [[.int .i64 6, .int .i64 10, .int .i64 1, .int .i64 1, .int .i64 8, .int .i64 4, .int .i64 2, .int .i64 (-1)], [.int .i64 3, .int .i64 4, .int .i64 4, .int .i64 5]], .tup [.int .i64 0, .int .i64 0, .int .i64 50], [], 10⟩,
  ⟨14, [.agg [.sl 1 0 2 2, .sl 2 0 2 2, .nils]], [[.int .i64 6, .int .i64 3, .int .i64 3, .int .i64 1, .int .i64 8, .int .i64 4, .int .i64 2, .int .i64 (-1)], [.int .i64 3, .int .i64 4, .int .i64 4, .int .i64 5]], .tup [.int .i64 0, .int .i64 0, .int .i64 50], [], 10⟩,
  ⟨14, [.agg [.sl 1 0 2 2, .sl 2 0 2 2, .nils]], [[.int .i64 6, .int .i64 3, .int .i64 1, .int .i64 1, .int .i64 8, .int .i64 4, .int .i64 2, .int .i64 1], [.int .i64 3, .int .i64 4, .int .i64 4, .int .i64 5]], .tup [.int .i64 0, .int .i64 0, .int .i64 50], [], 11⟩,
  ⟨14, [.agg [.sl 1 0 2 2, .sl 2 0 2 2, .nils]], [[.int .i64 6, .int .i64 3, .int .i64 1, .int .i64 2, .int .i64 8, .int .i64 4, .int .i64 2, .int .i64 (-1)], [.int .i64 3, .int .i64 4, .int .i64 4, .int .i64 5]], .tup [.int .i64 0, .int .i64 0, .int .i64 50], [], 10⟩,
  ⟨14, [.agg [.sl 1 0 2 2, .sl 2 0 2 2, .nils]], [[.int .i64 6, .int .i64 3, .int .i64 1, .int .i64 1, .int .i64 8, .int .i64 4, .int .i64 2, .int .i64 (-1)], [.int .i64 3, .int .i64 6, .int .i64 4, .int .i64 5]], .tup [.int .i64 0, .int .i64 0, .int .i64 50], [], 12⟩,
  ⟨14, [.agg [.sl 1 0 2 2, .sl 2 0 2 2, .nils]], [[.int .i64 6, .int .i64 3, .int .i64 1, .int .i64 1, .int .i64 8, .int .i64 4, .int .i64 2, .int .i64 (-1)], [.int .i64 10, .int .i64 10, .int .i64 4, .int .i64 5]], .tup [.int .i64 0, .int .i64 0, .int .i64 50], [], 12⟩,
  ⟨14, [.agg [.sl 1 0 2 2, .gs 2 5, .nils]], [[.int .i64 6, .int .i64 3, .int .i64 1, .int .i64 1, .int .i64 8, .int .i64 4, .int .i64 2, .int .i64 (-1)], [.int .i64 3, .int .i64 4, .int .i64 4, .int .i64 5, .int .i64 0, .int .i64 0, .int .i64 0, .int .i64 0, .int .i64 0, .int .i64 0]], .tup [.int .i64 0, .int .i64 0, .int .i64 50], [], 11⟩,
  ⟨14, [.agg [.sl 1 0 2 2, .sl 2 0 2 2, .sl 3 0 1 1]], [[.int .i64 6, .int .i64 3, .int .i64 1, .int .i64 1, .int .i64 8, .int .i64 4, .int .i64 2, .int .i64 (-1)], [.int .i64 3, .int .i64 4, .int .i64 4, .int .i64 5], [.int .i64 2, .int .i64 0, .int .i64 0, .int .i64 0]], .tup [.int .i64 0, .int .i64 0, .int .i64 50], [], 22⟩,
  ⟨14, [.agg [.sl 1 0 2 2, .sl 2 0 2 2, .sl 3 0 1 1]], [[.int .i64 6, .int .i64 3, .int .i64 1, .int .i64 1, .int .i64 8, .int .i64 4, .int .i64 2, .int .i64 (-1)], [.int .i64 3, .int .i64 4, .int .i64 4, .int .i64 5], [.int .i64 0, .int .i64 2, .int .i64 0, .int .i64 0]], .tup [.int .i64 0, .int .i64 0, .int .i64 50], [], 22⟩,
  ⟨14, [.agg [.sl 1 0 2 2, .sl 2 0 2 2, .sl 3 0 1 1]], [[.int .i64 6, .int .i64 3, .int .i64 1, .int .i64 1, .int .i64 8, .int .i64 4, .int .i64 2, .int .i64 (-1)], [.int .i64 3, .int .i64 4, .int .i64 4, .int .i64 5], [.int .i64 0, .int .i64 0, .int .i64 21, .int .i64 0]], .tup [.int .i64 0, .int .i64 0, .int .i64 50], [], 22⟩,
  ⟨14, [.agg [.sl 1 0 2 2, .sl 2 0 2 2, .sl 3 0 1 1]], [[.int .i64 6, .int .i64 3, .int .i64 1, .int .i64 1, .int .i64 8, .int .i64 4, .int .i64 2, .int .i64 (-1)], [.int .i64 3, .int .i64 4, .int .i64 4, .int .i64 5], [.int .i64 0, .int .i64 0, .int .i64 0, .int .i64 4]], .tup [.int .i64 0, .int .i64 0, .int .i64 50], [], 22⟩,
  ⟨14, [.agg [.sl 1 0 2 2, .sl 2 0 2 2, .sl 3 0 6 6]], [[.int .i64 6, .int .i64 3, .int .i64 1, .int .i64 1, .int .i64 8, .int .i64 4, .int .i64 2, .int .i64 (-1)], [.int .i64 3, .int .i64 4, .int .i64 4, .int .i64 5], [.int .i64 0, .int .i64 0, .int .i64 0, .int .i64 0, .int .i64 0, .int .i64 0, .int .i64 0, .int .i64 0, .int .i64 0, .int .i64 0, .int .i64 0, .int .i64 0, .int .i64 0, .int .i64 0, .int .i64 0, .int .i64 0, .int .i64 0, .int .i64 0, .int .i64 0, .int .i64 0, .int .i64 0, .int .i64 0, .int .i64 0, .int .i64 0]], .tup [.int .i64 0, .int .i64 0, .int .i64 50], [], 15⟩]
theorem e2_14_0_ok : EntsOK 1 Tryz.prog gl0 e2_14_0 := .of (run_ok tbl1_ok xt1_ok) (by kernel_rfl)

end Go.Proofs.YtoimgppbhpcliaaGreatDoor
