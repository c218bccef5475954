/-
  Calls that are known, or carried out elsewhere, level 1: each is carried out as its row says.
-/
import Derived.Test.YtmlpmknpkinbjaaXBase
import Derived.KernelRfl
namespace Go.Proofs.Ytmlpmknpkinbjaa
open Go Go.Ev

set_option maxRecDepth 100000

def e1_20_0 : List Ent := [
  ⟨20, [.agg [.nils, .int .i64 0, .int .i64 0, .int .i64 0, .int .i64 0, .nils, .int .i64 0]], [], .int .i64 60, [], 2⟩,
  ⟨20, [.agg [.gs 0 4, .int .i64 3, .int .i64 0, .int .i64 2, .int .i64 6, .nils, .int .i64 5]], [[.int .i64 30, .int .i64 26, .int .i64 28, .int .i64 0, .int .i64 2, .int .i64 3, .int .i64 4, .int .i64 62, .int .i64 25, .int .i64 26, .int .i64 2, .int .i64 4, .int .i64 0, .int .i64 0, .int .i64 30, .int .i64 26, .int .i64 28, .int .i64 0, .int .i64 2, .int .i64 3, .int .i64 4, .int .i64 62, .int .i64 25, .int .i64 26, .int .i64 2, .int .i64 4, .int .i64 0, .int .i64 0]], .int .i64 60, [], 3⟩,
  ⟨20, [.agg [.sl 0 0 2 2, .int .i64 3, .int .i64 0, .int .i64 2, .int .i64 6, .nils, .int .i64 5]], [[.int .i64 30, .int .i64 26, .int .i64 29, .int .i64 0, .int .i64 2, .int .i64 3, .int .i64 4, .int .i64 62, .int .i64 25, .int .i64 26, .int .i64 2, .int .i64 4, .int .i64 0, .int .i64 0]], .int .i64 60, [], 5⟩,
  ⟨20, [.agg [.sl 0 0 2 2, .int .i64 3, .int .i64 0, .int .i64 2, .int .i64 6, .nils, .int .i64 5]], [[.int .i64 30, .int .i64 0, .int .i64 0, .int .i64 0, .int .i64 2, .int .i64 3, .int .i64 4, .int .i64 62, .int .i64 25, .int .i64 26, .int .i64 2, .int .i64 4, .int .i64 0, .int .i64 0]], .int .i64 60, [], 5⟩,
  ⟨20, [.agg [.sl 0 0 2 2, .int .i64 3, .int .i64 0, .int .i64 2, .int .i64 6, .nils, .int .i64 5]], [[.int .i64 30, .int .i64 26, .int .i64 28, .int .i64 0, .int .i64 2, .int .i64 3, .int .i64 4, .int .i64 62, .int .i64 25, .int .i64 26, .int .i64 31, .int .i64 31, .int .i64 0, .int .i64 0]], .int .i64 60, [], 10⟩,
  ⟨20, [.agg [.sl 0 0 2 2, .int .i64 3, .int .i64 0, .int .i64 2, .int .i64 6, .nils, .int .i64 5]], [[.int .i64 30, .int .i64 26, .int .i64 28, .int .i64 0, .int .i64 2, .int .i64 3, .int .i64 5, .int .i64 62, .int .i64 25, .int .i64 26, .int .i64 2, .int .i64 4, .int .i64 0, .int .i64 0]], .int .i64 60, [], 7⟩,
  ⟨20, [.agg [.sl 0 0 2 2, .int .i64 8, .int .i64 0, .int .i64 2, .int .i64 6, .nils, .int .i64 5]], [[.int .i64 30, .int .i64 26, .int .i64 28, .int .i64 0, .int .i64 2, .int .i64 3, .int .i64 4, .int .i64 62, .int .i64 25, .int .i64 26, .int .i64 2, .int .i64 4, .int .i64 0, .int .i64 0]], .int .i64 60, [], 12⟩,
  ⟨20, [.agg [.sl 0 0 2 2, .int .i64 0, .int .i64 0, .int .i64 2, .int .i64 6, .nils, .int .i64 5]], [[.int .i64 30, .int .i64 26, .int .i64 28, .int .i64 0, .int .i64 2, .int .i64 3, .int .i64 4, .int .i64 62, .int .i64 25, .int .i64 26, .int .i64 2, .int .i64 4, .int .i64 0, .int .i64 0]], .int .i64 60, [], 12⟩,
  ⟨20, [.agg [.sl 0 0 2 2, .int .i64 3, .int .i64 0, .int .i64 2, .int .i64 31, .nils, .int .i64 5]], [[.int .i64 30, .int .i64 26, .int .i64 28, .int .i64 0, .int .i64 2, .int .i64 3, .int .i64 4, .int .i64 62, .int .i64 25, .int .i64 26, .int .i64 2, .int .i64 4, .int .i64 0, .int .i64 0]], .int .i64 60, [], 12⟩]
theorem e1_20_0_ok : EntsOK 0 Try.prog gl0 e1_20_0 := .of (run_ok tbl0_ok xt0_ok) (by kernel_rfl)

def e1_20_1 : List Ent := [
  ⟨20, [.agg [.sl 0 0 2 2, .int .i64 3, .int .i64 0, .int .i64 2, .int .i64 6, .nils, .int .i64 100]], [[.int .i64 30, .int .i64 26, .int .i64 28, .int .i64 0, .int .i64 2, .int .i64 3, .int .i64 4, .int .i64 62, .int .i64 25, .int .i64 26, .int .i64 2, .int .i64 4, .int .i64 0, .int .i64 0]], .int .i64 60, [], 13⟩,
  ⟨20, [.agg [.sl 0 0 2 2, .int .i64 3, .int .i64 0, .int .i64 2, .int .i64 6, .nils, .int .i64 5]], [[.int .i64 30, .int .i64 26, .int .i64 28, .int .i64 0, .int .i64 2, .int .i64 3, .int .i64 4, .int .i64 30, .int .i64 25, .int .i64 26, .int .i64 2, .int .i64 4, .int .i64 0, .int .i64 0]], .int .i64 60, [], 8⟩,
  ⟨20, [.agg [.sl 0 0 2 2, .int .i64 3, .int .i64 0, .int .i64 2, .int .i64 6, .nils, .int .i64 5]], [[.int .i64 30, .int .i64 26, .int .i64 28, .int .i64 0, .int .i64 2, .int .i64 3, .int .i64 4, .int .i64 301, .int .i64 25, .int .i64 26, .int .i64 2, .int .i64 4, .int .i64 0, .int .i64 0]], .int .i64 60, [], 8⟩,
  ⟨20, [.agg [.sl 0 0 2 2, .int .i64 3, .int .i64 0, .int .i64 2, .int .i64 6, .sl 1 0 1 1, .int .i64 5]], [[.int .i64 30, .int .i64 26, .int .i64 28, .int .i64 0, .int .i64 2, .int .i64 3, .int .i64 4, .int .i64 62, .int .i64 25, .int .i64 26, .int .i64 2, .int .i64 4, .int .i64 0, .int .i64 0], [.int .i64 2, .int .i64 0, .int .i64 0]], .int .i64 60, [], 18⟩,
  ⟨20, [.agg [.sl 0 0 2 2, .int .i64 3, .int .i64 0, .int .i64 2, .int .i64 6, .sl 1 0 1 1, .int .i64 5]], [[.int .i64 30, .int .i64 26, .int .i64 28, .int .i64 0, .int .i64 2, .int .i64 3, .int .i64 4, .int .i64 62, .int .i64 25, .int .i64 26, .int .i64 2, .int .i64 4, .int .i64 0, .int .i64 0], [.int .i64 0, .int .i64 601, .int .i64 0]], .int .i64 60, [], 18⟩]
theorem e1_20_1_ok : EntsOK 0 Try.prog gl0 e1_20_1 := .of (run_ok tbl0_ok xt0_ok) (by kernel_rfl)

def e1_20_2 : List Ent := [
  ⟨20, [.agg [.sl 0 0 2 2, .int .i64 3, .int .i64 0, .int .i64 2, .int .i64 6, .sl 1 0 1 1, .int .i64 5]], [[.int .i64 30, .int .i64 26, .int .i64 28, .int .i64 0, .int .i64 2, .int .i64 3, .int .i64 4, .int .i64 62, .int .i64 25, .int .i64 26, .int .i64 2, .int .i64 4, .int .i64 0, .int .i64 0], [.int .i64 0, .int .i64 0, .int .i64 6]], .int .i64 60, [], 18⟩,
  ⟨20, [.agg [.sl 0 0 2 2, .int .i64 3, .int .i64 0, .int .i64 2, .int .i64 6, .sl 1 0 5 5, .int .i64 5]], [[.int .i64 30, .int .i64 26, .int .i64 28, .int .i64 0, .int .i64 2, .int .i64 3, .int .i64 4, .int .i64 62, .int .i64 25, .int .i64 26, .int .i64 2, .int .i64 4, .int .i64 0, .int .i64 0], [.int .i64 0, .int .i64 0, .int .i64 0, .int .i64 0, .int .i64 0, .int .i64 0, .int .i64 0, .int .i64 0, .int .i64 0, .int .i64 0, .int .i64 0, .int .i64 0, .int .i64 0, .int .i64 0, .int .i64 0]], .int .i64 60, [], 14⟩,
  ⟨20, [.agg [.sl 0 0 2 2, .int .i64 3, .int .i64 0, .int .i64 2, .int .i64 6, .sl 1 0 2 2, .int .i64 5]], [[.int .i64 30, .int .i64 26, .int .i64 28, .int .i64 0, .int .i64 2, .int .i64 3, .int .i64 4, .int .i64 62, .int .i64 25, .int .i64 26, .int .i64 2, .int .i64 4, .int .i64 0, .int .i64 0], [.int .i64 1, .int .i64 66, .int .i64 0, .int .i64 0, .int .i64 26, .int .i64 0]], .int .i64 0, [], 22⟩,
  ⟨20, [.agg [.sl 0 0 2 2, .int .i64 3, .int .i64 0, .int .i64 2, .int .i64 6, .nils, .int .i64 5]], [[.int .i64 30, .int .i64 26, .int .i64 28, .int .i64 0, .int .i64 2, .int .i64 3, .int .i64 4, .int .i64 62, .int .i64 25, .int .i64 26, .int .i64 2, .int .i64 4, .int .i64 0, .int .i64 0]], .int .i64 0, [], 13⟩]
theorem e1_20_2_ok : EntsOK 0 Try.prog gl0 e1_20_2 := .of (run_ok tbl0_ok xt0_ok) (by kernel_rfl)

def e1_20_3 : List Ent := [
  ⟨20, [.agg [.sl 0 0 2 2, .int .i64 3, .int .i64 0, .int .i64 2, .int .i64 6, .sl 1 0 1 1, .int .i64 5]], [[.int .i64 30, .int .i64 26, .int .i64 28, .int .i64 0, .int .i64 2, .int .i64 3, .int .i64 4, .int .i64 62, .int .i64 25, .int .i64 26, .int .i64 2, .int .i64 4, .int .i64 0, .int .i64 0], [.int .i64 1, .int .i64 66, .int .i64 0]], .int .i64 0, [], 18⟩,
  ⟨20, [.agg [.sl 0 0 2 2, .int .i64 3, .int .i64 0, .int .i64 2, .int .i64 6, .sl 1 0 1 1, .int .i64 5]], [[.int .i64 30, .int .i64 26, .int .i64 28, .int .i64 0, .int .i64 2, .int .i64 3, .int .i64 4, .int .i64 61, .int .i64 25, .int .i64 26, .int .i64 2, .int .i64 4, .int .i64 0, .int .i64 0], [.int .i64 1, .int .i64 66, .int .i64 0]], .int .i64 0, [], 18⟩]
theorem e1_20_3_ok : EntsOK 0 Try.prog gl0 e1_20_3 := .of (run_ok tbl0_ok xt0_ok) (by kernel_rfl)

end Go.Proofs.Ytmlpmknpkinbjaa
