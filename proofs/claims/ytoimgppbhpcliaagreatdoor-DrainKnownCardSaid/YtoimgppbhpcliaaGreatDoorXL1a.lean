/-
  Calls that are known, or carried out elsewhere, level 1: each is carried out as its row says.
-/
import Derived.Test.YtoimgppbhpcliaaGreatDoorXBase
import Derived.KernelRfl
namespace Go.Proofs.YtoimgppbhpcliaaGreatDoor
open Go Go.Ev

set_option maxRecDepth 100000

def e1_18_0 : List Ent := [
  ⟨18, [.agg [.nils, .nils, .nils]], [], .int .i64 50, [], 3⟩,
  ⟨18, [.agg [.sl 1 0 5 5, .sl 2 0 2 2, .nils]], [[.int .i64 0, .int .i64 0, .int .i64 0, .int .i64 0, .int .i64 0, .int .i64 0, .int .i64 0, .int .i64 0, .int .i64 0, .int .i64 0, .int .i64 0, .int .i64 0, .int .i64 0, .int .i64 0, .int .i64 0, .int .i64 0, .int .i64 0, .int .i64 0, .int .i64 0, .int .i64 0], [.int .i64 3, .int .i64 4, .int .i64 4, .int .i64 5]], .int .i64 50, [], 5⟩,
  ⟨18, [.agg [.sl 1 0 2 2, .sl 2 0 2 2, .nils]], [[.int .i64 21, .int .i64 3, .int .i64 1, .int .i64 1, .int .i64 8, .int .i64 4, .int .i64 2, .int .i64 (-1)], [.int .i64 3, .int .i64 4, .int .i64 4, .int .i64 5]], .int .i64 50, [], 6⟩,
  ⟨18, [.agg [.sl 1 0 2 2, .sl 2 0 2 2, .nils]], [[.int .i64 6, .int .i64 10, .int .i64 1, .int .i64 1, .int .i64 8, .int .i64 4, .int .i64 2, .int .i64 (-1)], [.int .i64 3, .int .i64 4, .int .i64 4, .int .i64 5]], .int .i64 50, [], 6⟩,
  ⟨18, [.agg [.sl 1 0 2 2, .sl 2 0 2 2, .nils]], [[.int .i64 6, .int .i64 3, .int .i64 3, .int .i64 1, .int .i64 8, .int .i64 4, .int .i64 2, .int .i64 (-1)], [.int .i64 3, .int .i64 4, .int .i64 4, .int .i64 5]], .int .i64 50, [], 6⟩,
  ⟨18, [.agg [.sl 1 0 2 2, .sl 2 0 2 2, .nils]], [[.int .i64 6, .int .i64 3, .int .i64 1, .int .i64 1, .int .i64 8, .int .i64 4, .int .i64 2, .int .i64 1], [.int .i64 3, .int .i64 4, .int .i64 4, .int .i64 5]], .int .i64 50, [], 7⟩,
  ⟨18, [.agg [.sl 1 0 2 2, .sl 2 0 2 2, .nils]], [[.int .i64 6, .int .i64 3, .int .i64 1, .int .i64 2, .int .i64 8, .int .i64 4, .int .i64 2, .int .i64 (-1)], [.int .i64 3, .int .i64 4, .int .i64 4, .int .i64 5]], .int .i64 50, [], 6⟩,
  ⟨18, [.agg [.sl 1 0 2 2, .sl 2 0 2 2, .nils]], [[.int .i64 6, .int .i64 3, .int .i64 1, .int .i64 1, .int .i64 8, .int .i64 4, .int .i64 2, .int .i64 (-1)], [.int .i64 3, .int .i64 6, .int .i64 4, .int .i64 5]], .int .i64 50, [], 8⟩,
  ⟨18, [.agg [.sl 1 0 2 2, .sl 2 0 2 2, .nils]], [[.int .i64 6, .int .i64 3, .int .i64 1, .int .i64 1, .int .i64 8, .int .i64 4, .int .i64 2, .int .i64 (-1)], [.int .i64 10, .int .i64 10, .int .i64 4, .int .i64 5]], .int .i64 50, [], 8⟩,
  ⟨18, [.agg [.sl 1 0 2 2, .gs 2 5, .nils]], [[.int .i64 6, .int .i64 3, .int .i64 1, .int .i64 1, .int .i64 8, .int .i64 4, .int .i64 2, .int .i64 (-1)], [.int .i64 3, .int .i64 4, .int .i64 4, .int .i64 5, .int .i64 0, .int .i64 0, .int .i64 0, .int .i64 0, .int .i64 0, .int .i64 0]], .int .i64 50, [], 7⟩,
  ⟨18, [.agg [.sl 1 0 2 2, .sl 2 0 2 2, .sl 3 0 1 1]], [[.int .i64 6, .int .i64 3, .int .i64 1, .int .i64 1, .int .i64 8, .int .i64 4, .int .i64 2, .int .i64 (-1)], [.int .i64 3, .int .i64 4, .int .i64 4, .int .i64 5], [.int .i64 2, .int .i64 0, .int .i64 0, .int .i64 0]], .int .i64 50, [], 18⟩,
  ⟨18, [.agg [.sl 1 0 2 2, .sl 2 0 2 2, .sl 3 0 1 1]], [[.int .i64 6, .int .i64 3, .int .i64 1, .int .i64 1, .int .i64 8, .int .i64 4, .int .i64 2, .int .i64 (-1)], [.int .i64 3, .int .i64 4, .int .i64 4, .int .i64 5], [.int .i64 0, .int .i64 2, .int .i64 0, .int .i64 0]], .int .i64 50, [], 18⟩,
  ⟨18, [.agg [.sl 1 0 2 2, .sl 2 0 2 2, .sl 3 0 1 1]], [[.int .i64 6, .int .i64 3, .int .i64 1, .int .i64 1, .int .i64 8, .int .i64 4, .int .i64 2, .int .i64 (-1)], [.int .i64 3, .int .i64 4, .int .i64 4, .int .i64 5], [.int .i64 0, .int .i64 0, .int .i64 21, .int .i64 0]], .int .i64 50, [], 18⟩]
theorem e1_18_0_ok : EntsOK 1 Tryz.prog gl0 e1_18_0 := .of (run_ok tbl0_ok xt0_ok) (by kernel_rfl)

def e1_18_1 : List Ent := [
  ⟨18, [.agg [.sl 1 0 2 2, .sl 2 0 2 2, .sl 3 0 1 1]], [[.int .i64 6, .int .i64 3, .int .i64 1, .int .i64 1, .int .i64 8, .int .i64 4, .int .i64 2, .int .i64 (-1)], [.int .i64 3, .int .i64 4, .int .i64 4, .int .i64 5], [.int .i64 0, .int .i64 0, .int .i64 0, .int .i64 4]], .int .i64 50, [], 18⟩,
  ⟨18, [.agg [.sl 1 0 2 2, .sl 2 0 2 2, .sl 3 0 6 6]], [[.int .i64 6, .int .i64 3, .int .i64 1, .int .i64 1, .int .i64 8, .int .i64 4, .int .i64 2, .int .i64 (-1)], [.int .i64 3, .int .i64 4, .int .i64 4, .int .i64 5], [.int .i64 0, .int .i64 0, .int .i64 0, .int .i64 0, .int .i64 0, .int .i64 0, .int .i64 0, .int .i64 0, .int .i64 0, .int .i64 0, .int .i64 0, .int .i64 0, .int .i64 0, .int .i64 0, .int .i64 0, .int .i64 0, .int .i64 0, .int .i64 0, .int .i64 0, .int .i64 0, .int .i64 0, .int .i64 0, .int .i64 0, .int .i64 0]], .int .i64 50, [], 11⟩,
  ⟨18, [.agg [.sl 1 0 2 2, .sl 2 0 2 2, .sl 3 0 2 2]], [[.int .i64 6, .int .i64 3, .int .i64 1, .int .i64 1, .int .i64 8, .int .i64 4, .int .i64 2, .int .i64 (-1)], [.int .i64 3, .int .i64 4, .int .i64 4, .int .i64 5], [.int .i64 0, .int .i64 0, .int .i64 3, .int .i64 0, .int .i64 1, .int .i64 0, .int .i64 2, .int .i64 0]], .int .i64 0, [], 25⟩,
  ⟨18, [.agg [.sl 1 0 2 2, .sl 2 0 2 2, .nils]], [[.int .i64 6, .int .i64 3, .int .i64 1, .int .i64 1, .int .i64 8, .int .i64 4, .int .i64 2, .int .i64 (-1)], [.int .i64 3, .int .i64 4, .int .i64 4, .int .i64 5]], .int .i64 0, [], 10⟩,
  ⟨18, [.agg [.sl 1 0 2 2, .sl 2 0 2 2, .nils]], [[.int .i64 6, .int .i64 3, .int .i64 1, .int .i64 1, .int .i64 8, .int .i64 1, .int .i64 2, .int .i64 (-1)], [.int .i64 3, .int .i64 4, .int .i64 4, .int .i64 5]], .int .i64 0, [], 10⟩,
  ⟨18, [.agg [.sl 1 0 2 2, .sl 2 0 2 2, .sl 3 0 1 1]], [[.int .i64 6, .int .i64 3, .int .i64 1, .int .i64 1, .int .i64 8, .int .i64 4, .int .i64 2, .int .i64 (-1)], [.int .i64 3, .int .i64 4, .int .i64 4, .int .i64 5], [.int .i64 0, .int .i64 0, .int .i64 3, .int .i64 0]], .int .i64 0, [], 18⟩]
theorem e1_18_1_ok : EntsOK 1 Tryz.prog gl0 e1_18_1 := .of (run_ok tbl0_ok xt0_ok) (by kernel_rfl)

end Go.Proofs.YtoimgppbhpcliaaGreatDoor
