/-
  Calls that are known, or carried out elsewhere, level 2: each is carried out as its row says.
-/
import Derived.Test.YtkmlpipkcmjmhaaXT1
import Derived.KernelRfl
namespace Go.Proofs.Ytkmlpipkcmjmhaa
open Go Go.Ev

set_option maxRecDepth 100000

def e2_13_0 : List Ent := [
  ⟨13, [.agg [.nils, .nils, .nils]], [], .tup [.agg [.int .i64 0, .int .i64 0], .int .i64 70], [], 7⟩,
  ⟨13, [.agg [.gs 0 5, .sl 1 0 4 4, .nils]], [[.int .i64 5, .int .i64 4, .int .i64 4, .int .i64 3, .int .i64 0, .int .i64 0, .int .i64 0, .int .i64 0, .int .i64 0, .int .i64 0], [.int .i64 3, .int .i64 4, .int .i64 2, .int .i64 2, .int .i64 3, .int .i64 3, .int .i64 3, .int .i64 3, .int .i64 6, .int .i64 4, .int .i64 4, .int .i64 2]], .tup [.agg [.int .i64 0, .int .i64 0], .int .i64 70], [], 9⟩,
  ⟨13, [.agg [.sl 0 0 2 2, .sl 1 0 4 4, .nils]], [[.int .i64 0, .int .i64 4, .int .i64 4, .int .i64 3], [.int .i64 3, .int .i64 4, .int .i64 2, .int .i64 2, .int .i64 3, .int .i64 3, .int .i64 3, .int .i64 3, .int .i64 6, .int .i64 4, .int .i64 4, .int .i64 2]], .tup [.agg [.int .i64 0, .int .i64 0], .int .i64 70], [], 10⟩,
  ⟨13, [.agg [.sl 0 0 2 2, .sl 1 0 4 4, .nils]], [[.int .i64 31, .int .i64 4, .int .i64 4, .int .i64 3], [.int .i64 3, .int .i64 4, .int .i64 2, .int .i64 2, .int .i64 3, .int .i64 3, .int .i64 3, .int .i64 3, .int .i64 6, .int .i64 4, .int .i64 4, .int .i64 2]], .tup [.agg [.int .i64 0, .int .i64 0], .int .i64 70], [], 10⟩,
  ⟨13, [.agg [.sl 0 0 2 2, .sl 1 0 4 4, .nils]], [[.int .i64 5, .int .i64 4, .int .i64 4, .int .i64 51], [.int .i64 3, .int .i64 4, .int .i64 2, .int .i64 2, .int .i64 3, .int .i64 3, .int .i64 3, .int .i64 3, .int .i64 6, .int .i64 4, .int .i64 4, .int .i64 2]], .tup [.agg [.int .i64 0, .int .i64 0], .int .i64 70], [], 11⟩,
  ⟨13, [.agg [.sl 0 0 2 2, .sl 1 0 4 4, .nils]], [[.int .i64 5, .int .i64 4, .int .i64 4, .int .i64 3], [.int .i64 3, .int .i64 5, .int .i64 2, .int .i64 2, .int .i64 3, .int .i64 3, .int .i64 3, .int .i64 3, .int .i64 6, .int .i64 4, .int .i64 4, .int .i64 2]], .tup [.agg [.int .i64 0, .int .i64 0], .int .i64 70], [], 13⟩,
  ⟨13, [.agg [.sl 0 0 2 2, .sl 1 0 4 4, .nils]], [[.int .i64 5, .int .i64 4, .int .i64 4, .int .i64 3], [.int .i64 21, .int .i64 21, .int .i64 2, .int .i64 2, .int .i64 3, .int .i64 3, .int .i64 3, .int .i64 3, .int .i64 6, .int .i64 4, .int .i64 4, .int .i64 2]], .tup [.agg [.int .i64 0, .int .i64 0], .int .i64 70], [], 13⟩,
  ⟨13, [.agg [.sl 0 0 2 2, .sl 1 0 4 4, .nils]], [[.int .i64 5, .int .i64 4, .int .i64 4, .int .i64 3], [.int .i64 3, .int .i64 4, .int .i64 0, .int .i64 2, .int .i64 3, .int .i64 3, .int .i64 3, .int .i64 3, .int .i64 6, .int .i64 4, .int .i64 4, .int .i64 2]], .tup [.agg [.int .i64 0, .int .i64 0], .int .i64 70], [], 13⟩,
  ⟨13, [.agg [.sl 0 0 2 2, .sl 1 0 4 4, .nils]], [[.int .i64 5, .int .i64 4, .int .i64 4, .int .i64 3], [.int .i64 3, .int .i64 4, .int .i64 8, .int .i64 2, .int .i64 3, .int .i64 3, .int .i64 3, .int .i64 3, .int .i64 6, .int .i64 4, .int .i64 4, .int .i64 2]], .tup [.agg [.int .i64 0, .int .i64 0], .int .i64 70], [], 13⟩,
  ⟨13, [.agg [.sl 0 0 2 2, .gs 1 8, .nils]], [[.int .i64 5, .int .i64 4, .int .i64 4, .int .i64 3], [.int .i64 3, .int .i64 4, .int .i64 2, .int .i64 2, .int .i64 3, .int .i64 3, .int .i64 3, .int .i64 3, .int .i64 6, .int .i64 4, .int .i64 4, .int .i64 2, .int .i64 3, .int .i64 4, .int .i64 2, .int .i64 2, .int .i64 3, .int .i64 3, .int .i64 3, .int .i64 3, .int .i64 6, .int .i64 4, .int .i64 4, .int .i64 2]], .tup [.agg [.int .i64 0, .int .i64 0], .int .i64 70], [], 11⟩,
  ⟨13, [.agg [.sl 0 0 2 2, .sl 1 0 4 4, .sl 2 0 1 1]], [[.int .i64 5, .int .i64 4, .int .i64 4, .int .i64 3], [.int .i64 3, .int .i64 4, .int .i64 2, .int .i64 2, .int .i64 3, .int .i64 3, .int .i64 3, .int .i64 3, .int .i64 6, .int .i64 4, .int .i64 4, .int .i64 2], [.int .i64 4, .int .i64 0]], .tup [.agg [.int .i64 0, .int .i64 0], .int .i64 70], [], 25⟩,
  ⟨13, [.agg [.sl 0 0 2 2, .sl 1 0 4 4, .sl 2 0 1 1]], [[.int .i64 5, .int .i64 4, .int .i64 4, .int .i64 3], [.int .i64 3, .int .i64 4, .int .i64 2, .int .i64 2, .int .i64 3, .int .i64 3, .int .i64 3, .int .i64 3, .int .i64 6, .int .i64 4, .int .i64 4, .int .i64 2], [.int .i64 0, .int .i64 3]], .tup [.agg [.int .i64 0, .int .i64 0], .int .i64 70], [], 25⟩,
  ⟨13, [.agg [.sl 0 0 2 2, .sl 1 0 4 4, .sl 2 0 1 1]], [[.int .i64 5, .int .i64 4, .int .i64 4, .int .i64 3], [.int .i64 3, .int .i64 4, .int .i64 2, .int .i64 2, .int .i64 3, .int .i64 3, .int .i64 3, .int .i64 3, .int .i64 6, .int .i64 4, .int .i64 4, .int .i64 2], [.int .i64 0, .int .i64 (-1)]], .tup [.agg [.int .i64 0, .int .i64 0], .int .i64 70], [], 25⟩,
  ⟨13, [.agg [.sl 0 0 2 2, .sl 1 0 4 4, .sl 2 0 5 5]], [[.int .i64 5, .int .i64 4, .int .i64 4, .int .i64 3], [.int .i64 3, .int .i64 4, .int .i64 2, .int .i64 2, .int .i64 3, .int .i64 3, .int .i64 3, .int .i64 3, .int .i64 6, .int .i64 4, .int .i64 4, .int .i64 2], [.int .i64 0, .int .i64 0, .int .i64 0, .int .i64 0, .int .i64 0, .int .i64 0, .int .i64 0, .int .i64 0, .int .i64 0, .int .i64 0]], .tup [.agg [.int .i64 0, .int .i64 0], .int .i64 70], [], 21⟩]
theorem e2_13_0_ok : EntsOK 0 Try.prog gl0 e2_13_0 := .of (run_ok tbl1_ok xt1_ok) (by kernel_rfl)

def e2_13_1 : List Ent := [
  ⟨13, [.agg [.sl 0 0 2 2, .sl 1 0 4 4, .sl 2 0 2 2]], [[.int .i64 5, .int .i64 4, .int .i64 4, .int .i64 3], [.int .i64 3, .int .i64 4, .int .i64 2, .int .i64 2, .int .i64 3, .int .i64 3, .int .i64 3, .int .i64 3, .int .i64 6, .int .i64 4, .int .i64 4, .int .i64 2], [.int .i64 1, .int .i64 1, .int .i64 2, .int .i64 0]], .tup [.agg [.int .i64 0, .int .i64 0], .int .i64 72], [], 291⟩]
theorem e2_13_1_ok : EntsOK 0 Try.prog gl0 e2_13_1 := .of (run_ok tbl1_ok xt1_ok) (by kernel_rfl)

end Go.Proofs.Ytkmlpipkcmjmhaa
