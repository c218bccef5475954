/-
  Calls that are known, or carried out elsewhere, level 1: each is carried out as its row says.
-/
import Derived.Test.YtklkfhefongkjaaGreatDoorXBase
import Derived.KernelRfl
namespace Go.Proofs.YtklkfhefongkjaaGreatDoor
open Go Go.Ev

set_option maxRecDepth 100000

def e1_64_0 : List Ent := [
  ⟨64, [.agg [.nils, .int .i64 0, .int .i64 0, .int .i64 0, .int .i64 0, .int .i64 0, .int .i64 0, .nils, .nils, .nils, .int .i64 0]], [], .int .i64 10, [], 4⟩,
  ⟨64, [.agg [.sl 2 0 2 2, .int .i64 1, .int .i64 2, .int .i64 0, .int .i64 1, .int .i64 3, .int .i64 4, .sl 3 0 3 3, .sl 4 0 1 1, .nils, .int .i64 20]], [[.int .i64 10, .int .i64 12, .int .i64 8, .int .i64 8], [.int .i64 2, .int .i64 1, .int .i64 0, .int .i64 1, .int .i64 2, .int .i64 1, .int .i64 3, .int .i64 0, .int .i64 2], [.int .i64 1, .int .i64 2]], .int .i64 0, [], 24⟩,
  ⟨64, [.agg [.sl 2 0 2 2, .int .i64 1, .int .i64 2, .int .i64 0, .int .i64 1, .int .i64 3, .int .i64 4, .sl 3 0 3 3, .sl 4 0 1 1, .nils, .int .i64 (-1)]], [[.int .i64 10, .int .i64 12, .int .i64 8, .int .i64 8], [.int .i64 2, .int .i64 1, .int .i64 0, .int .i64 1, .int .i64 2, .int .i64 1, .int .i64 3, .int .i64 0, .int .i64 2], [.int .i64 1, .int .i64 2]], .int .i64 10, [], 24⟩,
  ⟨64, [.agg [.sl 2 0 2 2, .int .i64 1, .int .i64 2, .int .i64 0, .int .i64 1, .int .i64 3, .int .i64 4, .sl 3 0 3 3, .sl 4 0 1 1, .sl 5 0 2 2, .int .i64 20]], [[.int .i64 10, .int .i64 12, .int .i64 8, .int .i64 8], [.int .i64 2, .int .i64 1, .int .i64 0, .int .i64 1, .int .i64 2, .int .i64 1, .int .i64 3, .int .i64 0, .int .i64 2], [.int .i64 1, .int .i64 2], [.int .i64 0, .int .i64 1, .int .i64 24, .int .i64 0, .int .i64 1, .int .i64 1, .int .i64 18, .int .i64 1]], .int .i64 0, [], 31⟩]
theorem e1_64_0_ok : EntsOK 2 Tryz.prog gl0 e1_64_0 := .of (run_ok tbl0_ok xt0_ok) (by kernel_rfl)

def e1_64_1 : List Ent := [
  ⟨64, [.agg [.sl 2 0 2 2, .int .i64 1, .int .i64 2, .int .i64 0, .int .i64 1, .int .i64 3, .int .i64 4, .sl 3 0 3 3, .gs 4 1, .nils, .int .i64 20]], [[.int .i64 10, .int .i64 12, .int .i64 8, .int .i64 8], [.int .i64 2, .int .i64 1, .int .i64 0, .int .i64 1, .int .i64 2, .int .i64 1, .int .i64 3, .int .i64 0, .int .i64 2], [.int .i64 1, .int .i64 2]], .int .i64 0, [], 24⟩,
  ⟨64, [.agg [.sl 2 0 2 2, .int .i64 1, .int .i64 2, .int .i64 0, .int .i64 1, .int .i64 3, .int .i64 4, .sl 3 0 3 3, .gs 4 2, .nils, .int .i64 20]], [[.int .i64 10, .int .i64 12, .int .i64 8, .int .i64 8], [.int .i64 2, .int .i64 1, .int .i64 0, .int .i64 1, .int .i64 2, .int .i64 1, .int .i64 3, .int .i64 0, .int .i64 2], [.int .i64 1, .int .i64 2, .int .i64 0, .int .i64 0]], .int .i64 0, [], 25⟩,
  ⟨64, [.agg [.sl 2 0 2 2, .int .i64 1, .int .i64 2, .int .i64 0, .int .i64 1, .int .i64 3, .int .i64 4, .sl 3 0 3 3, .gs 4 2, .nils, .int .i64 20]], [[.int .i64 10, .int .i64 12, .int .i64 8, .int .i64 8], [.int .i64 2, .int .i64 1, .int .i64 0, .int .i64 1, .int .i64 2, .int .i64 1, .int .i64 3, .int .i64 0, .int .i64 2], [.int .i64 1, .int .i64 2, .int .i64 0, .int .i64 1]], .int .i64 0, [], 25⟩]
theorem e1_64_1_ok : EntsOK 2 Tryz.prog gl0 e1_64_1 := .of (run_ok tbl0_ok xt0_ok) (by kernel_rfl)

def e1_64_2 : List Ent := [
  ⟨64, [.agg [.sl 2 0 2 2, .int .i64 1, .int .i64 2, .int .i64 0, .int .i64 1, .int .i64 3, .int .i64 4, .sl 3 0 3 3, .gs 4 2, .nils, .int .i64 20]], [[.int .i64 10, .int .i64 12, .int .i64 8, .int .i64 8], [.int .i64 2, .int .i64 1, .int .i64 0, .int .i64 1, .int .i64 2, .int .i64 1, .int .i64 3, .int .i64 0, .int .i64 2], [.int .i64 1, .int .i64 2, .int .i64 1, .int .i64 0]], .int .i64 0, [], 25⟩,
  ⟨64, [.agg [.sl 2 0 2 2, .int .i64 1, .int .i64 2, .int .i64 0, .int .i64 1, .int .i64 3, .int .i64 4, .sl 3 0 3 3, .gs 4 3, .nils, .int .i64 20]], [[.int .i64 10, .int .i64 12, .int .i64 8, .int .i64 8], [.int .i64 2, .int .i64 1, .int .i64 0, .int .i64 1, .int .i64 2, .int .i64 1, .int .i64 3, .int .i64 0, .int .i64 2], [.int .i64 1, .int .i64 2, .int .i64 1, .int .i64 0, .int .i64 0, .int .i64 1]], .int .i64 0, [], 26⟩,
  ⟨64, [.agg [.sl 2 0 2 2, .int .i64 1, .int .i64 2, .int .i64 0, .int .i64 1, .int .i64 3, .int .i64 4, .sl 3 0 3 3, .gs 4 3, .nils, .int .i64 20]], [[.int .i64 10, .int .i64 12, .int .i64 8, .int .i64 8], [.int .i64 2, .int .i64 1, .int .i64 0, .int .i64 1, .int .i64 2, .int .i64 1, .int .i64 3, .int .i64 0, .int .i64 2], [.int .i64 1, .int .i64 2, .int .i64 0, .int .i64 0, .int .i64 1, .int .i64 0]], .int .i64 0, [], 26⟩]
theorem e1_64_2_ok : EntsOK 2 Tryz.prog gl0 e1_64_2 := .of (run_ok tbl0_ok xt0_ok) (by kernel_rfl)

def e1_64_3 : List Ent := [
  ⟨64, [.agg [.sl 2 0 2 2, .int .i64 1, .int .i64 2, .int .i64 0, .int .i64 1, .int .i64 3, .int .i64 4, .sl 3 0 3 3, .gs 4 4, .nils, .int .i64 20]], [[.int .i64 10, .int .i64 12, .int .i64 8, .int .i64 8], [.int .i64 2, .int .i64 1, .int .i64 0, .int .i64 1, .int .i64 2, .int .i64 1, .int .i64 3, .int .i64 0, .int .i64 2], [.int .i64 1, .int .i64 2, .int .i64 0, .int .i64 0, .int .i64 1, .int .i64 0, .int .i64 0, .int .i64 2]], .int .i64 0, [], 27⟩,
  ⟨64, [.agg [.sl 2 0 2 2, .int .i64 1, .int .i64 2, .int .i64 0, .int .i64 1, .int .i64 3, .int .i64 4, .sl 3 0 3 3, .gs 4 3, .nils, .int .i64 20]], [[.int .i64 10, .int .i64 12, .int .i64 8, .int .i64 8], [.int .i64 2, .int .i64 1, .int .i64 0, .int .i64 1, .int .i64 2, .int .i64 1, .int .i64 3, .int .i64 0, .int .i64 2], [.int .i64 1, .int .i64 2, .int .i64 0, .int .i64 0, .int .i64 1, .int .i64 1]], .int .i64 0, [], 26⟩,
  ⟨64, [.agg [.sl 2 0 2 2, .int .i64 1, .int .i64 2, .int .i64 0, .int .i64 1, .int .i64 3, .int .i64 4, .sl 3 0 3 3, .sl 4 0 1 1, .nils, .int .i64 9]], [[.int .i64 10, .int .i64 12, .int .i64 8, .int .i64 8], [.int .i64 2, .int .i64 1, .int .i64 0, .int .i64 1, .int .i64 2, .int .i64 1, .int .i64 3, .int .i64 0, .int .i64 2], [.int .i64 1, .int .i64 2]], .int .i64 0, [], 24⟩]
theorem e1_64_3_ok : EntsOK 2 Tryz.prog gl0 e1_64_3 := .of (run_ok tbl0_ok xt0_ok) (by kernel_rfl)

end Go.Proofs.YtklkfhefongkjaaGreatDoor
