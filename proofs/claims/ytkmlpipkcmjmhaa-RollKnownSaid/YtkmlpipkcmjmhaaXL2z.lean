/-
  Calls that are known, or carried out elsewhere, level 2: each is carried out as its row says.
-/
import Derived.Test.YtkmlpipkcmjmhaaXT1
import Derived.KernelRfl
namespace Go.Proofs.Ytkmlpipkcmjmhaa
open Go Go.Ev

set_option maxRecDepth 100000

def e2_16_0 : List Ent := [
  ⟨16, [.agg [.nils, .nils, .nils]], [], .tup [.int .i64 0, .int .i64 70], [], 6⟩,
  ⟨16, [.agg [.gs 0 5, .sl 1 0 4 4, .nils]], [[.int .i64 5, .int .i64 4, .int .i64 4, .int .i64 3, .int .i64 0, .int .i64 0, .int .i64 0, .int .i64 0, .int .i64 0, .int .i64 0], [.int .i64 3, .int .i64 4, .int .i64 2, .int .i64 2, .int .i64 3, .int .i64 3, .int .i64 3, .int .i64 3, .int .i64 6, .int .i64 4, .int .i64 4, .int .i64 2]], .tup [.int .i64 0, .int .i64 70], [], 8⟩,
  ⟨16, [.agg [.sl 0 0 2 2, .sl 1 0 4 4, .nils]], [[.int .i64 0, .int .i64 4, .int .i64 4, .int .i64 3], [.int .i64 3, .int .i64 4, .int .i64 2, .int .i64 2, .int .i64 3, .int .i64 3, .int .i64 3, .int .i64 3, .int .i64 6, .int .i64 4, .int .i64 4, .int .i64 2]], .tup [.int .i64 0, .int .i64 70], [], 9⟩,
  ⟨16, [.agg [.sl 0 0 2 2, .sl 1 0 4 4, .nils]], [[.int .i64 31, .int .i64 4, .int .i64 4, .int .i64 3], [.int .i64 3, .int .i64 4, .int .i64 2, .int .i64 2, .int .i64 3, .int .i64 3, .int .i64 3, .int .i64 3, .int .i64 6, .int .i64 4, .int .i64 4, .int .i64 2]], .tup [.int .i64 0, .int .i64 70], [], 9⟩,
  ⟨16, [.agg [.sl 0 0 2 2, .sl 1 0 4 4, .nils]], [[.int .i64 5, .int .i64 4, .int .i64 4, .int .i64 51], [.int .i64 3, .int .i64 4, .int .i64 2, .int .i64 2, .int .i64 3, .int .i64 3, .int .i64 3, .int .i64 3, .int .i64 6, .int .i64 4, .int .i64 4, .int .i64 2]], .tup [.int .i64 0, .int .i64 70], [], 10⟩,
  ⟨16, [.agg [.sl 0 0 2 2, .sl 1 0 4 4, .nils]], [[.int .i64 5, .int .i64 4, .int .i64 4, .int .i64 3], [.int .i64 3, .int .i64 5, .int .i64 2, .int .i64 2, .int .i64 3, .int .i64 3, .int .i64 3, .int .i64 3, .int .i64 6, .int .i64 4, .int .i64 4, .int .i64 2]], .tup [.int .i64 0, .int .i64 70], [], 12⟩,
  ⟨16, [.agg [.sl 0 0 2 2, .sl 1 0 4 4, .nils]], [[.int .i64 5, .int .i64 4, .int .i64 4, .int .i64 3], [.int .i64 21, .int .i64 21, .int .i64 2, .int .i64 2, .int .i64 3, .int .i64 3, .int .i64 3, .int .i64 3, .int .i64 6, .int .i64 4, .int .i64 4, .int .i64 2]], .tup [.int .i64 0, .int .i64 70], [], 12⟩,
  ⟨16, [.agg [.sl 0 0 2 2, .sl 1 0 4 4, .nils]], [[.int .i64 5, .int .i64 4, .int .i64 4, .int .i64 3], [.int .i64 3, .int .i64 4, .int .i64 0, .int .i64 2, .int .i64 3, .int .i64 3, .int .i64 3, .int .i64 3, .int .i64 6, .int .i64 4, .int .i64 4, .int .i64 2]], .tup [.int .i64 0, .int .i64 70], [], 12⟩,
  ⟨16, [.agg [.sl 0 0 2 2, .sl 1 0 4 4, .nils]], [[.int .i64 5, .int .i64 4, .int .i64 4, .int .i64 3], [.int .i64 3, .int .i64 4, .int .i64 8, .int .i64 2, .int .i64 3, .int .i64 3, .int .i64 3, .int .i64 3, .int .i64 6, .int .i64 4, .int .i64 4, .int .i64 2]], .tup [.int .i64 0, .int .i64 70], [], 12⟩,
  ⟨16, [.agg [.sl 0 0 2 2, .gs 1 8, .nils]], [[.int .i64 5, .int .i64 4, .int .i64 4, .int .i64 3], [.int .i64 3, .int .i64 4, .int .i64 2, .int .i64 2, .int .i64 3, .int .i64 3, .int .i64 3, .int .i64 3, .int .i64 6, .int .i64 4, .int .i64 4, .int .i64 2, .int .i64 3, .int .i64 4, .int .i64 2, .int .i64 2, .int .i64 3, .int .i64 3, .int .i64 3, .int .i64 3, .int .i64 6, .int .i64 4, .int .i64 4, .int .i64 2]], .tup [.int .i64 0, .int .i64 70], [], 10⟩,
  ⟨16, [.agg [.sl 0 0 2 2, .sl 1 0 4 4, .sl 2 0 1 1]], [[.int .i64 5, .int .i64 4, .int .i64 4, .int .i64 3], [.int .i64 3, .int .i64 4, .int .i64 2, .int .i64 2, .int .i64 3, .int .i64 3, .int .i64 3, .int .i64 3, .int .i64 6, .int .i64 4, .int .i64 4, .int .i64 2], [.int .i64 4, .int .i64 0]], .tup [.int .i64 0, .int .i64 70], [], 24⟩,
  ⟨16, [.agg [.sl 0 0 2 2, .sl 1 0 4 4, .sl 2 0 1 1]], [[.int .i64 5, .int .i64 4, .int .i64 4, .int .i64 3], [.int .i64 3, .int .i64 4, .int .i64 2, .int .i64 2, .int .i64 3, .int .i64 3, .int .i64 3, .int .i64 3, .int .i64 6, .int .i64 4, .int .i64 4, .int .i64 2], [.int .i64 0, .int .i64 3]], .tup [.int .i64 0, .int .i64 70], [], 24⟩,
  ⟨16, [.agg [.sl 0 0 2 2, .sl 1 0 4 4, .sl 2 0 1 1]], [[.int .i64 5, .int .i64 4, .int .i64 4, .int .i64 3], [.int .i64 3, .int .i64 4, .int .i64 2, .int .i64 2, .int .i64 3, .int .i64 3, .int .i64 3, .int .i64 3, .int .i64 6, .int .i64 4, .int .i64 4, .int .i64 2], [.int .i64 0, .int .i64 (-1)]], .tup [.int .i64 0, .int .i64 70], [], 24⟩,
  ⟨16, [.agg [.sl 0 0 2 2, .sl 1 0 4 4, .sl 2 0 5 5]], [[.int .i64 5, .int .i64 4, .int .i64 4, .int .i64 3], [.int .i64 3, .int .i64 4, .int .i64 2, .int .i64 2, .int .i64 3, .int .i64 3, .int .i64 3, .int .i64 3, .int .i64 6, .int .i64 4, .int .i64 4, .int .i64 2], [.int .i64 0, .int .i64 0, .int .i64 0, .int .i64 0, .int .i64 0, .int .i64 0, .int .i64 0, .int .i64 0, .int .i64 0, .int .i64 0]], .tup [.int .i64 0, .int .i64 70], [], 20⟩]
theorem e2_16_0_ok : EntsOK 0 Try.prog gl0 e2_16_0 := .of (run_ok tbl1_ok xt1_ok) (by kernel_rfl)

def e2_16_1 : List Ent := [
  ⟨16, [.agg [.sl 0 0 2 2, .sl 1 0 4 4, .sl 2 0 2 2]], [[.int .i64 5, .int .i64 4, .int .i64 4, .int .i64 3], [.int .i64 3, .int .i64 4, .int .i64 2, .int .i64 2, .int .i64 3, .int .i64 3, .int .i64 3, .int .i64 3, .int .i64 6, .int .i64 4, .int .i64 4, .int .i64 2], [.int .i64 1, .int .i64 1, .int .i64 2, .int .i64 0]], .tup [.int .i64 0, .int .i64 72], [], 290⟩]
theorem e2_16_1_ok : EntsOK 0 Try.prog gl0 e2_16_1 := .of (run_ok tbl1_ok xt1_ok) (by kernel_rfl)

end Go.Proofs.Ytkmlpipkcmjmhaa
