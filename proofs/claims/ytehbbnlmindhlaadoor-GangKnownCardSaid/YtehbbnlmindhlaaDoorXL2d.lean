/-
  Calls that are known, or carried out elsewhere, level 2: each is carried out as its row says.
-/
import Derived.Test.YtehbbnlmindhlaaDoorXT1
import Derived.KernelRfl
namespace Go.Proofs.YtehbbnlmindhlaaDoor
open Go Go.Ev

set_option maxRecDepth 100000

def e2_14_2 : List Ent := [
  ⟨14, [.agg [.sl 1 0 3 3, .sl 2 0 2 2, .int .i64 4], .gs 3 5], [[.int .i64 2, .int .i64 3, .int .i64 0, .int .i64 1, .int .i64 2, .int .i64 1, .int .i64 2, .int .i64 2, .int .i64 2], [.int .i64 0, .int .i64 1, .int .i64 1, .int .i64 2, .int .i64 1, .int .i64 2, .int .i64 2, .int .i64 2], [.int .i64 0, .int .i64 0, .int .i64 0, .int .i64 0, .int .i64 1, .int .i64 2, .int .i64 1, .int .i64 0, .int .i64 0, .int .i64 2, .int .i64 0, .int .i64 0, .int .i64 3, .int .i64 1, .int .i64 1]], .tup [.int .i64 0, .int .i64 4], [], 180⟩]
theorem e2_14_2_ok : EntsOK 1 Tryd.prog gl0 e2_14_2 := .of (run_ok tbl1_ok xt1_ok) (by kernel_rfl)

def e2_14_3 : List Ent := [
  ⟨14, [.agg [.sl 1 0 3 3, .sl 2 0 2 2, .int .i64 4], .nils], [[.int .i64 2, .int .i64 3, .int .i64 0, .int .i64 1, .int .i64 2, .int .i64 1, .int .i64 2, .int .i64 2, .int .i64 2], [.int .i64 0, .int .i64 1, .int .i64 1, .int .i64 2, .int .i64 1, .int .i64 2, .int .i64 2, .int .i64 2]], .tup [.int .i64 0, .int .i64 0], [], 39⟩,
  ⟨14, [.agg [.sl 1 0 3 3, .sl 2 0 2 2, .int .i64 4], .sl 3 0 2 2], [[.int .i64 2, .int .i64 3, .int .i64 0, .int .i64 1, .int .i64 2, .int .i64 1, .int .i64 2, .int .i64 2, .int .i64 2], [.int .i64 0, .int .i64 1, .int .i64 1, .int .i64 2, .int .i64 1, .int .i64 2, .int .i64 2, .int .i64 2], [.int .i64 0, .int .i64 0, .int .i64 0, .int .i64 0, .int .i64 1, .int .i64 2]], .tup [.int .i64 0, .int .i64 0], [], 67⟩]
theorem e2_14_3_ok : EntsOK 1 Tryd.prog gl0 e2_14_3 := .of (run_ok tbl1_ok xt1_ok) (by kernel_rfl)

def e2_17_0 : List Ent := [
  ⟨17, [.agg [.nils, .nils, .int .i64 0]], [], .tup [.int .i64 0, .int .i64 40], [], 4⟩,
  ⟨17, [.agg [.gs 1 6, .sl 2 0 2 2, .int .i64 4]], [[.int .i64 2, .int .i64 3, .int .i64 0, .int .i64 1, .int .i64 2, .int .i64 1, .int .i64 2, .int .i64 2, .int .i64 2, .int .i64 2, .int .i64 3, .int .i64 0, .int .i64 1, .int .i64 2, .int .i64 1, .int .i64 2, .int .i64 2, .int .i64 2], [.int .i64 0, .int .i64 1, .int .i64 1, .int .i64 2, .int .i64 1, .int .i64 2, .int .i64 2, .int .i64 2]], .tup [.int .i64 0, .int .i64 40], [], 6⟩,
  ⟨17, [.agg [.sl 1 0 3 3, .sl 2 0 2 2, .int .i64 4]], [[.int .i64 2, .int .i64 5, .int .i64 0, .int .i64 1, .int .i64 2, .int .i64 1, .int .i64 2, .int .i64 2, .int .i64 2], [.int .i64 0, .int .i64 1, .int .i64 1, .int .i64 2, .int .i64 1, .int .i64 2, .int .i64 2, .int .i64 2]], .tup [.int .i64 0, .int .i64 40], [], 8⟩,
  ⟨17, [.agg [.sl 1 0 3 3, .sl 2 0 2 2, .int .i64 4]], [[.int .i64 7, .int .i64 7, .int .i64 0, .int .i64 1, .int .i64 2, .int .i64 1, .int .i64 2, .int .i64 2, .int .i64 2], [.int .i64 0, .int .i64 1, .int .i64 1, .int .i64 2, .int .i64 1, .int .i64 2, .int .i64 2, .int .i64 2]], .tup [.int .i64 0, .int .i64 40], [], 8⟩,
  ⟨17, [.agg [.sl 1 0 3 3, .sl 2 0 2 2, .int .i64 4]], [[.int .i64 2, .int .i64 3, .int .i64 0, .int .i64 1, .int .i64 2, .int .i64 16, .int .i64 2, .int .i64 2, .int .i64 2], [.int .i64 0, .int .i64 1, .int .i64 1, .int .i64 2, .int .i64 1, .int .i64 2, .int .i64 2, .int .i64 2]], .tup [.int .i64 0, .int .i64 40], [], 10⟩,
  ⟨17, [.agg [.sl 1 0 3 3, .gs 2 4, .int .i64 4]], [[.int .i64 2, .int .i64 3, .int .i64 0, .int .i64 1, .int .i64 2, .int .i64 1, .int .i64 2, .int .i64 2, .int .i64 2], [.int .i64 0, .int .i64 1, .int .i64 1, .int .i64 2, .int .i64 1, .int .i64 2, .int .i64 2, .int .i64 2, .int .i64 0, .int .i64 1, .int .i64 1, .int .i64 2, .int .i64 1, .int .i64 2, .int .i64 2, .int .i64 2]], .tup [.int .i64 0, .int .i64 40], [], 12⟩,
  ⟨17, [.agg [.sl 1 0 3 3, .sl 2 0 2 2, .int .i64 4]], [[.int .i64 2, .int .i64 3, .int .i64 0, .int .i64 1, .int .i64 2, .int .i64 1, .int .i64 2, .int .i64 2, .int .i64 2], [.int .i64 0, .int .i64 3, .int .i64 1, .int .i64 2, .int .i64 1, .int .i64 2, .int .i64 2, .int .i64 2]], .tup [.int .i64 0, .int .i64 40], [], 13⟩,
  ⟨17, [.agg [.sl 1 0 3 3, .sl 2 0 2 2, .int .i64 4]], [[.int .i64 2, .int .i64 3, .int .i64 0, .int .i64 1, .int .i64 2, .int .i64 1, .int .i64 2, .int .i64 2, .int .i64 2], [.int .i64 0, .int .i64 1, .int .i64 1, .int .i64 2, .int .i64 3, .int .i64 2, .int .i64 2, .int .i64 2]], .tup [.int .i64 0, .int .i64 40], [], 15⟩,
  ⟨17, [.agg [.sl 1 0 3 3, .sl 2 0 2 2, .int .i64 4]], [[.int .i64 2, .int .i64 3, .int .i64 0, .int .i64 1, .int .i64 2, .int .i64 1, .int .i64 2, .int .i64 2, .int .i64 2], [.int .i64 0, .int .i64 1, .int .i64 1, .int .i64 2, .int .i64 1, .int .i64 2, .int .i64 4, .int .i64 4]], .tup [.int .i64 0, .int .i64 40], [], 16⟩,
  ⟨17, [.agg [.sl 1 0 3 3, .sl 2 0 2 2, .int .i64 5]], [[.int .i64 2, .int .i64 3, .int .i64 0, .int .i64 1, .int .i64 2, .int .i64 1, .int .i64 2, .int .i64 2, .int .i64 2], [.int .i64 0, .int .i64 1, .int .i64 1, .int .i64 2, .int .i64 1, .int .i64 2, .int .i64 2, .int .i64 2]], .tup [.int .i64 0, .int .i64 40], [], 16⟩,
  ⟨17, [.agg [.sl 1 0 3 3, .sl 2 0 2 2, .int .i64 0]], [[.int .i64 2, .int .i64 3, .int .i64 0, .int .i64 1, .int .i64 2, .int .i64 1, .int .i64 2, .int .i64 2, .int .i64 2], [.int .i64 0, .int .i64 1, .int .i64 1, .int .i64 2, .int .i64 1, .int .i64 2, .int .i64 2, .int .i64 2]], .tup [.int .i64 0, .int .i64 40], [], 16⟩]
theorem e2_17_0_ok : EntsOK 1 Tryd.prog gl0 e2_17_0 := .of (run_ok tbl1_ok xt1_ok) (by kernel_rfl)

def e2_17_1 : List Ent := [
  ⟨17, [.agg [.sl 1 0 3 3, .sl 2 0 2 2, .int .i64 4]], [[.int .i64 2, .int .i64 3, .int .i64 0, .int .i64 1, .int .i64 2, .int .i64 1, .int .i64 2, .int .i64 2, .int .i64 2], [.int .i64 0, .int .i64 1, .int .i64 1, .int .i64 2, .int .i64 1, .int .i64 2, .int .i64 2, .int .i64 2]], .tup [.int .i64 0, .int .i64 4], [], 147⟩]
theorem e2_17_1_ok : EntsOK 1 Tryd.prog gl0 e2_17_1 := .of (run_ok tbl1_ok xt1_ok) (by kernel_rfl)

def e2_17_2 : List Ent := [
  ⟨17, [.agg [.sl 1 0 3 3, .sl 2 0 2 2, .int .i64 3]], [[.int .i64 2, .int .i64 3, .int .i64 0, .int .i64 1, .int .i64 2, .int .i64 1, .int .i64 2, .int .i64 2, .int .i64 2], [.int .i64 0, .int .i64 1, .int .i64 1, .int .i64 2, .int .i64 1, .int .i64 2, .int .i64 2, .int .i64 2]], .tup [.int .i64 0, .int .i64 4], [], 113⟩]
theorem e2_17_2_ok : EntsOK 1 Tryd.prog gl0 e2_17_2 := .of (run_ok tbl1_ok xt1_ok) (by kernel_rfl)

end Go.Proofs.YtehbbnlmindhlaaDoor
