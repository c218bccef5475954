/-
  Calls that are known, or carried out elsewhere, level 1: each is carried out as its row says.
-/
import Derived.Test.YtkmlpipkcmjmhaaXBase
import Derived.KernelRfl
namespace Go.Proofs.Ytkmlpipkcmjmhaa
open Go Go.Ev

set_option maxRecDepth 100000

def e1_19_0 : List Ent := [
  ⟨19, [.agg [.nils, .nils, .nils]], [], .int .i64 70, [], 2⟩,
  ⟨19, [.agg [.gs 0 5, .sl 1 0 4 4, .nils]], [[.int .i64 5, .int .i64 4, .int .i64 4, .int .i64 3, .int .i64 0, .int .i64 0, .int .i64 0, .int .i64 0, .int .i64 0, .int .i64 0], [.int .i64 3, .int .i64 4, .int .i64 2, .int .i64 2, .int .i64 3, .int .i64 3, .int .i64 3, .int .i64 3, .int .i64 6, .int .i64 4, .int .i64 4, .int .i64 2]], .int .i64 70, [], 4⟩,
  ⟨19, [.agg [.sl 0 0 2 2, .sl 1 0 4 4, .nils]], [[.int .i64 0, .int .i64 4, .int .i64 4, .int .i64 3], [.int .i64 3, .int .i64 4, .int .i64 2, .int .i64 2, .int .i64 3, .int .i64 3, .int .i64 3, .int .i64 3, .int .i64 6, .int .i64 4, .int .i64 4, .int .i64 2]], .int .i64 70, [], 5⟩,
  ⟨19, [.agg [.sl 0 0 2 2, .sl 1 0 4 4, .nils]], [[.int .i64 31, .int .i64 4, .int .i64 4, .int .i64 3], [.int .i64 3, .int .i64 4, .int .i64 2, .int .i64 2, .int .i64 3, .int .i64 3, .int .i64 3, .int .i64 3, .int .i64 6, .int .i64 4, .int .i64 4, .int .i64 2]], .int .i64 70, [], 5⟩,
  ⟨19, [.agg [.sl 0 0 2 2, .sl 1 0 4 4, .nils]], [[.int .i64 5, .int .i64 4, .int .i64 4, .int .i64 51], [.int .i64 3, .int .i64 4, .int .i64 2, .int .i64 2, .int .i64 3, .int .i64 3, .int .i64 3, .int .i64 3, .int .i64 6, .int .i64 4, .int .i64 4, .int .i64 2]], .int .i64 70, [], 6⟩,
  ⟨19, [.agg [.sl 0 0 2 2, .sl 1 0 4 4, .nils]], [[.int .i64 5, .int .i64 4, .int .i64 4, .int .i64 3], [.int .i64 3, .int .i64 5, .int .i64 2, .int .i64 2, .int .i64 3, .int .i64 3, .int .i64 3, .int .i64 3, .int .i64 6, .int .i64 4, .int .i64 4, .int .i64 2]], .int .i64 70, [], 8⟩,
  ⟨19, [.agg [.sl 0 0 2 2, .sl 1 0 4 4, .nils]], [[.int .i64 5, .int .i64 4, .int .i64 4, .int .i64 3], [.int .i64 21, .int .i64 21, .int .i64 2, .int .i64 2, .int .i64 3, .int .i64 3, .int .i64 3, .int .i64 3, .int .i64 6, .int .i64 4, .int .i64 4, .int .i64 2]], .int .i64 70, [], 8⟩,
  ⟨19, [.agg [.sl 0 0 2 2, .sl 1 0 4 4, .nils]], [[.int .i64 5, .int .i64 4, .int .i64 4, .int .i64 3], [.int .i64 3, .int .i64 4, .int .i64 0, .int .i64 2, .int .i64 3, .int .i64 3, .int .i64 3, .int .i64 3, .int .i64 6, .int .i64 4, .int .i64 4, .int .i64 2]], .int .i64 70, [], 8⟩,
  ⟨19, [.agg [.sl 0 0 2 2, .sl 1 0 4 4, .nils]], [[.int .i64 5, .int .i64 4, .int .i64 4, .int .i64 3], [.int .i64 3, .int .i64 4, .int .i64 8, .int .i64 2, .int .i64 3, .int .i64 3, .int .i64 3, .int .i64 3, .int .i64 6, .int .i64 4, .int .i64 4, .int .i64 2]], .int .i64 70, [], 8⟩,
  ⟨19, [.agg [.sl 0 0 2 2, .gs 1 8, .nils]], [[.int .i64 5, .int .i64 4, .int .i64 4, .int .i64 3], [.int .i64 3, .int .i64 4, .int .i64 2, .int .i64 2, .int .i64 3, .int .i64 3, .int .i64 3, .int .i64 3, .int .i64 6, .int .i64 4, .int .i64 4, .int .i64 2, .int .i64 3, .int .i64 4, .int .i64 2, .int .i64 2, .int .i64 3, .int .i64 3, .int .i64 3, .int .i64 3, .int .i64 6, .int .i64 4, .int .i64 4, .int .i64 2]], .int .i64 70, [], 6⟩,
  ⟨19, [.agg [.sl 0 0 2 2, .sl 1 0 4 4, .sl 2 0 1 1]], [[.int .i64 5, .int .i64 4, .int .i64 4, .int .i64 3], [.int .i64 3, .int .i64 4, .int .i64 2, .int .i64 2, .int .i64 3, .int .i64 3, .int .i64 3, .int .i64 3, .int .i64 6, .int .i64 4, .int .i64 4, .int .i64 2], [.int .i64 4, .int .i64 0]], .int .i64 70, [], 20⟩,
  ⟨19, [.agg [.sl 0 0 2 2, .sl 1 0 4 4, .sl 2 0 1 1]], [[.int .i64 5, .int .i64 4, .int .i64 4, .int .i64 3], [.int .i64 3, .int .i64 4, .int .i64 2, .int .i64 2, .int .i64 3, .int .i64 3, .int .i64 3, .int .i64 3, .int .i64 6, .int .i64 4, .int .i64 4, .int .i64 2], [.int .i64 0, .int .i64 3]], .int .i64 70, [], 20⟩]
theorem e1_19_0_ok : EntsOK 0 Try.prog gl0 e1_19_0 := .of (run_ok tbl0_ok xt0_ok) (by kernel_rfl)

def e1_19_1 : List Ent := [
  ⟨19, [.agg [.sl 0 0 2 2, .sl 1 0 4 4, .sl 2 0 1 1]], [[.int .i64 5, .int .i64 4, .int .i64 4, .int .i64 3], [.int .i64 3, .int .i64 4, .int .i64 2, .int .i64 2, .int .i64 3, .int .i64 3, .int .i64 3, .int .i64 3, .int .i64 6, .int .i64 4, .int .i64 4, .int .i64 2], [.int .i64 0, .int .i64 (-1)]], .int .i64 70, [], 20⟩,
  ⟨19, [.agg [.sl 0 0 2 2, .sl 1 0 4 4, .sl 2 0 5 5]], [[.int .i64 5, .int .i64 4, .int .i64 4, .int .i64 3], [.int .i64 3, .int .i64 4, .int .i64 2, .int .i64 2, .int .i64 3, .int .i64 3, .int .i64 3, .int .i64 3, .int .i64 6, .int .i64 4, .int .i64 4, .int .i64 2], [.int .i64 0, .int .i64 0, .int .i64 0, .int .i64 0, .int .i64 0, .int .i64 0, .int .i64 0, .int .i64 0, .int .i64 0, .int .i64 0]], .int .i64 70, [], 16⟩,
  ⟨19, [.agg [.sl 0 0 2 2, .sl 1 0 4 4, .sl 2 0 2 2]], [[.int .i64 5, .int .i64 4, .int .i64 4, .int .i64 3], [.int .i64 3, .int .i64 4, .int .i64 2, .int .i64 2, .int .i64 3, .int .i64 3, .int .i64 3, .int .i64 3, .int .i64 6, .int .i64 4, .int .i64 4, .int .i64 2], [.int .i64 1, .int .i64 1, .int .i64 2, .int .i64 0]], .int .i64 0, [], 24⟩,
  ⟨19, [.agg [.sl 0 0 2 2, .sl 1 0 4 4, .nils]], [[.int .i64 5, .int .i64 4, .int .i64 4, .int .i64 3], [.int .i64 3, .int .i64 4, .int .i64 2, .int .i64 2, .int .i64 3, .int .i64 3, .int .i64 3, .int .i64 3, .int .i64 6, .int .i64 4, .int .i64 4, .int .i64 2]], .int .i64 0, [], 15⟩,
  ⟨19, [.agg [.sl 0 0 2 2, .sl 1 0 4 4, .sl 2 0 1 1]], [[.int .i64 5, .int .i64 4, .int .i64 4, .int .i64 3], [.int .i64 3, .int .i64 4, .int .i64 2, .int .i64 2, .int .i64 3, .int .i64 3, .int .i64 3, .int .i64 3, .int .i64 6, .int .i64 4, .int .i64 4, .int .i64 2], [.int .i64 2, .int .i64 0]], .int .i64 0, [], 20⟩]
theorem e1_19_1_ok : EntsOK 0 Try.prog gl0 e1_19_1 := .of (run_ok tbl0_ok xt0_ok) (by kernel_rfl)

def e1_19_2 : List Ent := [
  ⟨19, [.agg [.sl 0 0 2 2, .sl 1 0 4 4, .sl 2 0 1 1]], [[.int .i64 5, .int .i64 4, .int .i64 4, .int .i64 3], [.int .i64 3, .int .i64 4, .int .i64 2, .int .i64 2, .int .i64 3, .int .i64 3, .int .i64 3, .int .i64 3, .int .i64 6, .int .i64 4, .int .i64 4, .int .i64 2], [.int .i64 1, .int .i64 1]], .int .i64 0, [], 20⟩]
theorem e1_19_2_ok : EntsOK 0 Try.prog gl0 e1_19_2 := .of (run_ok tbl0_ok xt0_ok) (by kernel_rfl)

end Go.Proofs.Ytkmlpipkcmjmhaa
