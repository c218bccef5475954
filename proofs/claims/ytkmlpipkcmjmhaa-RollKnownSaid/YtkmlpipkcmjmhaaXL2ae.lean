/-
  Calls that are known, or carried out elsewhere, level 2: each is carried out as its row says.
-/
import Derived.Test.YtkmlpipkcmjmhaaXT1
import Derived.KernelRfl
namespace Go.Proofs.Ytkmlpipkcmjmhaa
open Go Go.Ev

set_option maxRecDepth 100000

def e2_18_0 : List Ent := [
  ⟨18, [.agg [.nils, .nils, .nils]], [], .tup [.nils, .int .i64 70], [], 3⟩,
  ⟨18, [.agg [.gs 0 5, .sl 1 0 4 4, .nils]], [[.int .i64 5, .int .i64 4, .int .i64 4, .int .i64 3, .int .i64 0, .int .i64 0, .int .i64 0, .int .i64 0, .int .i64 0, .int .i64 0], [.int .i64 3, .int .i64 4, .int .i64 2, .int .i64 2, .int .i64 3, .int .i64 3, .int .i64 3, .int .i64 3, .int .i64 6, .int .i64 4, .int .i64 4, .int .i64 2]], .tup [.nils, .int .i64 70], [], 5⟩,
  ⟨18, [.agg [.sl 0 0 2 2, .sl 1 0 4 4, .nils]], [[.int .i64 0, .int .i64 4, .int .i64 4, .int .i64 3], [.int .i64 3, .int .i64 4, .int .i64 2, .int .i64 2, .int .i64 3, .int .i64 3, .int .i64 3, .int .i64 3, .int .i64 6, .int .i64 4, .int .i64 4, .int .i64 2]], .tup [.nils, .int .i64 70], [], 6⟩,
  ⟨18, [.agg [.sl 0 0 2 2, .sl 1 0 4 4, .nils]], [[.int .i64 31, .int .i64 4, .int .i64 4, .int .i64 3], [.int .i64 3, .int .i64 4, .int .i64 2, .int .i64 2, .int .i64 3, .int .i64 3, .int .i64 3, .int .i64 3, .int .i64 6, .int .i64 4, .int .i64 4, .int .i64 2]], .tup [.nils, .int .i64 70], [], 6⟩,
  ⟨18, [.agg [.sl 0 0 2 2, .sl 1 0 4 4, .nils]], [[.int .i64 5, .int .i64 4, .int .i64 4, .int .i64 51], [.int .i64 3, .int .i64 4, .int .i64 2, .int .i64 2, .int .i64 3, .int .i64 3, .int .i64 3, .int .i64 3, .int .i64 6, .int .i64 4, .int .i64 4, .int .i64 2]], .tup [.nils, .int .i64 70], [], 7⟩,
  ⟨18, [.agg [.sl 0 0 2 2, .sl 1 0 4 4, .nils]], [[.int .i64 5, .int .i64 4, .int .i64 4, .int .i64 3], [.int .i64 3, .int .i64 5, .int .i64 2, .int .i64 2, .int .i64 3, .int .i64 3, .int .i64 3, .int .i64 3, .int .i64 6, .int .i64 4, .int .i64 4, .int .i64 2]], .tup [.nils, .int .i64 70], [], 9⟩,
  ⟨18, [.agg [.sl 0 0 2 2, .sl 1 0 4 4, .nils]], [[.int .i64 5, .int .i64 4, .int .i64 4, .int .i64 3], [.int .i64 21, .int .i64 21, .int .i64 2, .int .i64 2, .int .i64 3, .int .i64 3, .int .i64 3, .int .i64 3, .int .i64 6, .int .i64 4, .int .i64 4, .int .i64 2]], .tup [.nils, .int .i64 70], [], 9⟩,
  ⟨18, [.agg [.sl 0 0 2 2, .sl 1 0 4 4, .nils]], [[.int .i64 5, .int .i64 4, .int .i64 4, .int .i64 3], [.int .i64 3, .int .i64 4, .int .i64 0, .int .i64 2, .int .i64 3, .int .i64 3, .int .i64 3, .int .i64 3, .int .i64 6, .int .i64 4, .int .i64 4, .int .i64 2]], .tup [.nils, .int .i64 70], [], 9⟩,
  ⟨18, [.agg [.sl 0 0 2 2, .sl 1 0 4 4, .nils]], [[.int .i64 5, .int .i64 4, .int .i64 4, .int .i64 3], [.int .i64 3, .int .i64 4, .int .i64 8, .int .i64 2, .int .i64 3, .int .i64 3, .int .i64 3, .int .i64 3, .int .i64 6, .int .i64 4, .int .i64 4, .int .i64 2]], .tup [.nils, .int .i64 70], [], 9⟩,
  ⟨18, [.agg [.sl 0 0 2 2, .gs 1 8, .nils]], [[.int .i64 5, .int .i64 4, .int .i64 4, .int .i64 3], [.int .i64 3, .int .i64 4, .int .i64 2, .int .i64 2, .int .i64 3, .int .i64 3, .int .i64 3, .int .i64 3, .int .i64 6, .int .i64 4, .int .i64 4, .int .i64 2, .int .i64 3, .int .i64 4, .int .i64 2, .int .i64 2, .int .i64 3, .int .i64 3, .int .i64 3, .int .i64 3, .int .i64 6, .int .i64 4, .int .i64 4, .int .i64 2]], .tup [.nils, .int .i64 70], [], 7⟩,
  ⟨18, [.agg [.sl 0 0 2 2, .sl 1 0 4 4, .sl 2 0 1 1]], [[.int .i64 5, .int .i64 4, .int .i64 4, .int .i64 3], [.int .i64 3, .int .i64 4, .int .i64 2, .int .i64 2, .int .i64 3, .int .i64 3, .int .i64 3, .int .i64 3, .int .i64 6, .int .i64 4, .int .i64 4, .int .i64 2], [.int .i64 4, .int .i64 0]], .tup [.nils, .int .i64 70], [], 21⟩,
  ⟨18, [.agg [.sl 0 0 2 2, .sl 1 0 4 4, .sl 2 0 1 1]], [[.int .i64 5, .int .i64 4, .int .i64 4, .int .i64 3], [.int .i64 3, .int .i64 4, .int .i64 2, .int .i64 2, .int .i64 3, .int .i64 3, .int .i64 3, .int .i64 3, .int .i64 6, .int .i64 4, .int .i64 4, .int .i64 2], [.int .i64 0, .int .i64 3]], .tup [.nils, .int .i64 70], [], 21⟩,
  ⟨18, [.agg [.sl 0 0 2 2, .sl 1 0 4 4, .sl 2 0 1 1]], [[.int .i64 5, .int .i64 4, .int .i64 4, .int .i64 3], [.int .i64 3, .int .i64 4, .int .i64 2, .int .i64 2, .int .i64 3, .int .i64 3, .int .i64 3, .int .i64 3, .int .i64 6, .int .i64 4, .int .i64 4, .int .i64 2], [.int .i64 0, .int .i64 (-1)]], .tup [.nils, .int .i64 70], [], 21⟩,
  ⟨18, [.agg [.sl 0 0 2 2, .sl 1 0 4 4, .sl 2 0 5 5]], [[.int .i64 5, .int .i64 4, .int .i64 4, .int .i64 3], [.int .i64 3, .int .i64 4, .int .i64 2, .int .i64 2, .int .i64 3, .int .i64 3, .int .i64 3, .int .i64 3, .int .i64 6, .int .i64 4, .int .i64 4, .int .i64 2], [.int .i64 0, .int .i64 0, .int .i64 0, .int .i64 0, .int .i64 0, .int .i64 0, .int .i64 0, .int .i64 0, .int .i64 0, .int .i64 0]], .tup [.nils, .int .i64 70], [], 17⟩]
theorem e2_18_0_ok : EntsOK 0 Try.prog gl0 e2_18_0 := .of (run_ok tbl1_ok xt1_ok) (by kernel_rfl)

end Go.Proofs.Ytkmlpipkcmjmhaa
