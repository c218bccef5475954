/-
  Calls that are known, or carried out elsewhere, level 2: each is carried out as its row says.
-/
import Derived.Test.YtkmlpipkcmjmhaaXT1
import Derived.KernelRfl
namespace Go.Proofs.Ytkmlpipkcmjmhaa
open Go Go.Ev

set_option maxRecDepth 100000

def e2_16_3 : List Ent := [
  ⟨16, [.agg [.sl 0 0 2 2, .sl 1 0 4 4, .nils]], [[.int .i64 5, .int .i64 4, .int .i64 4, .int .i64 3], [.int .i64 3, .int .i64 4, .int .i64 2, .int .i64 2, .int .i64 3, .int .i64 3, .int .i64 3, .int .i64 3, .int .i64 6, .int .i64 4, .int .i64 4, .int .i64 2]], .tup [.int .i64 1, .int .i64 0], [], 3572⟩]
theorem e2_16_3_ok : EntsOK 0 Try.prog gl0 e2_16_3 := .of (run_ok tbl1_ok xt1_ok) (by kernel_rfl)

def e2_17_0 : List Ent := [
  ⟨17, [.agg [.nils, .nils, .nils], .agg [.int .i64 (-1), .int .i64 0]], [], .tup [.bool false, .int .i64 70], [], 10⟩,
  ⟨17, [.agg [.gs 0 5, .sl 1 0 4 4, .nils], .agg [.int .i64 (-1), .int .i64 0]], [[.int .i64 5, .int .i64 4, .int .i64 4, .int .i64 3, .int .i64 0, .int .i64 0, .int .i64 0, .int .i64 0, .int .i64 0, .int .i64 0], [.int .i64 3, .int .i64 4, .int .i64 2, .int .i64 2, .int .i64 3, .int .i64 3, .int .i64 3, .int .i64 3, .int .i64 6, .int .i64 4, .int .i64 4, .int .i64 2]], .tup [.bool false, .int .i64 70], [], 12⟩,
  ⟨17, [.agg [.sl 0 0 2 2, .sl 1 0 4 4, .nils], .agg [.int .i64 (-1), .int .i64 0]], [[.int .i64 0, .int .i64 4, .int .i64 4, .int .i64 3], [.int .i64 3, .int .i64 4, .int .i64 2, .int .i64 2, .int .i64 3, .int .i64 3, .int .i64 3, .int .i64 3, .int .i64 6, .int .i64 4, .int .i64 4, .int .i64 2]], .tup [.bool false, .int .i64 70], [], 13⟩,
  ⟨17, [.agg [.sl 0 0 2 2, .sl 1 0 4 4, .nils], .agg [.int .i64 (-1), .int .i64 0]], [[.int .i64 31, .int .i64 4, .int .i64 4, .int .i64 3], [.int .i64 3, .int .i64 4, .int .i64 2, .int .i64 2, .int .i64 3, .int .i64 3, .int .i64 3, .int .i64 3, .int .i64 6, .int .i64 4, .int .i64 4, .int .i64 2]], .tup [.bool false, .int .i64 70], [], 13⟩,
  ⟨17, [.agg [.sl 0 0 2 2, .sl 1 0 4 4, .nils], .agg [.int .i64 (-1), .int .i64 0]], [[.int .i64 5, .int .i64 4, .int .i64 4, .int .i64 51], [.int .i64 3, .int .i64 4, .int .i64 2, .int .i64 2, .int .i64 3, .int .i64 3, .int .i64 3, .int .i64 3, .int .i64 6, .int .i64 4, .int .i64 4, .int .i64 2]], .tup [.bool false, .int .i64 70], [], 14⟩,
  ⟨17, [.agg [.sl 0 0 2 2, .sl 1 0 4 4, .nils], .agg [.int .i64 (-1), .int .i64 0]], [[.int .i64 5, .int .i64 4, .int .i64 4, .int .i64 3], [.int .i64 3, .int .i64 5, .int .i64 2, .int .i64 2, .int .i64 3, .int .i64 3, .int .i64 3, .int .i64 3, .int .i64 6, .int .i64 4, .int .i64 4, .int .i64 2]], .tup [.bool false, .int .i64 70], [], 16⟩,
  ⟨17, [.agg [.sl 0 0 2 2, .sl 1 0 4 4, .nils], .agg [.int .i64 (-1), .int .i64 0]], [[.int .i64 5, .int .i64 4, .int .i64 4, .int .i64 3], [.int .i64 21, .int .i64 21, .int .i64 2, .int .i64 2, .int .i64 3, .int .i64 3, .int .i64 3, .int .i64 3, .int .i64 6, .int .i64 4, .int .i64 4, .int .i64 2]], .tup [.bool false, .int .i64 70], [], 16⟩,
  ⟨17, [.agg [.sl 0 0 2 2, .sl 1 0 4 4, .nils], .agg [.int .i64 (-1), .int .i64 0]], [[.int .i64 5, .int .i64 4, .int .i64 4, .int .i64 3], [.int .i64 3, .int .i64 4, .int .i64 0, .int .i64 2, .int .i64 3, .int .i64 3, .int .i64 3, .int .i64 3, .int .i64 6, .int .i64 4, .int .i64 4, .int .i64 2]], .tup [.bool false, .int .i64 70], [], 16⟩,
  ⟨17, [.agg [.sl 0 0 2 2, .sl 1 0 4 4, .nils], .agg [.int .i64 (-1), .int .i64 0]], [[.int .i64 5, .int .i64 4, .int .i64 4, .int .i64 3], [.int .i64 3, .int .i64 4, .int .i64 8, .int .i64 2, .int .i64 3, .int .i64 3, .int .i64 3, .int .i64 3, .int .i64 6, .int .i64 4, .int .i64 4, .int .i64 2]], .tup [.bool false, .int .i64 70], [], 16⟩,
  ⟨17, [.agg [.sl 0 0 2 2, .gs 1 8, .nils], .agg [.int .i64 (-1), .int .i64 0]], [[.int .i64 5, .int .i64 4, .int .i64 4, .int .i64 3], [.int .i64 3, .int .i64 4, .int .i64 2, .int .i64 2, .int .i64 3, .int .i64 3, .int .i64 3, .int .i64 3, .int .i64 6, .int .i64 4, .int .i64 4, .int .i64 2, .int .i64 3, .int .i64 4, .int .i64 2, .int .i64 2, .int .i64 3, .int .i64 3, .int .i64 3, .int .i64 3, .int .i64 6, .int .i64 4, .int .i64 4, .int .i64 2]], .tup [.bool false, .int .i64 70], [], 14⟩,
  ⟨17, [.agg [.sl 0 0 2 2, .sl 1 0 4 4, .sl 2 0 1 1], .agg [.int .i64 (-1), .int .i64 0]], [[.int .i64 5, .int .i64 4, .int .i64 4, .int .i64 3], [.int .i64 3, .int .i64 4, .int .i64 2, .int .i64 2, .int .i64 3, .int .i64 3, .int .i64 3, .int .i64 3, .int .i64 6, .int .i64 4, .int .i64 4, .int .i64 2], [.int .i64 4, .int .i64 0]], .tup [.bool false, .int .i64 70], [], 28⟩,
  ⟨17, [.agg [.sl 0 0 2 2, .sl 1 0 4 4, .sl 2 0 1 1], .agg [.int .i64 (-1), .int .i64 0]], [[.int .i64 5, .int .i64 4, .int .i64 4, .int .i64 3], [.int .i64 3, .int .i64 4, .int .i64 2, .int .i64 2, .int .i64 3, .int .i64 3, .int .i64 3, .int .i64 3, .int .i64 6, .int .i64 4, .int .i64 4, .int .i64 2], [.int .i64 0, .int .i64 3]], .tup [.bool false, .int .i64 70], [], 28⟩,
  ⟨17, [.agg [.sl 0 0 2 2, .sl 1 0 4 4, .sl 2 0 1 1], .agg [.int .i64 (-1), .int .i64 0]], [[.int .i64 5, .int .i64 4, .int .i64 4, .int .i64 3], [.int .i64 3, .int .i64 4, .int .i64 2, .int .i64 2, .int .i64 3, .int .i64 3, .int .i64 3, .int .i64 3, .int .i64 6, .int .i64 4, .int .i64 4, .int .i64 2], [.int .i64 0, .int .i64 (-1)]], .tup [.bool false, .int .i64 70], [], 28⟩,
  ⟨17, [.agg [.sl 0 0 2 2, .sl 1 0 4 4, .sl 2 0 5 5], .agg [.int .i64 (-1), .int .i64 0]], [[.int .i64 5, .int .i64 4, .int .i64 4, .int .i64 3], [.int .i64 3, .int .i64 4, .int .i64 2, .int .i64 2, .int .i64 3, .int .i64 3, .int .i64 3, .int .i64 3, .int .i64 6, .int .i64 4, .int .i64 4, .int .i64 2], [.int .i64 0, .int .i64 0, .int .i64 0, .int .i64 0, .int .i64 0, .int .i64 0, .int .i64 0, .int .i64 0, .int .i64 0, .int .i64 0]], .tup [.bool false, .int .i64 70], [], 24⟩,
  ⟨17, [.agg [.sl 0 0 2 2, .sl 1 0 4 4, .sl 2 0 2 2], .agg [.int .i64 0, .int .i64 3]], [[.int .i64 5, .int .i64 4, .int .i64 4, .int .i64 3], [.int .i64 3, .int .i64 4, .int .i64 2, .int .i64 2, .int .i64 3, .int .i64 3, .int .i64 3, .int .i64 3, .int .i64 6, .int .i64 4, .int .i64 4, .int .i64 2], [.int .i64 1, .int .i64 1, .int .i64 2, .int .i64 0]], .tup [.bool false, .int .i64 71], [], 32⟩]
theorem e2_17_0_ok : EntsOK 0 Try.prog gl0 e2_17_0 := .of (run_ok tbl1_ok xt1_ok) (by kernel_rfl)

end Go.Proofs.Ytkmlpipkcmjmhaa
