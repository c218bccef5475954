/-
  Calls that are known, or carried out elsewhere, level 3: each is carried out as its row says.
-/
import Derived.Test.YtmlpmknpkinbjaaXT2
import Derived.KernelRfl
namespace Go.Proofs.Ytmlpmknpkinbjaa
open Go Go.Ev

set_option maxRecDepth 100000

def e3_13_2 : List Ent := [
  ⟨13, [.agg [.sl 0 0 2 2, .int .i64 3, .int .i64 0, .int .i64 2, .int .i64 6, .sl 1 0 1 1, .int .i64 5]], [[.int .i64 30, .int .i64 26, .int .i64 28, .int .i64 0, .int .i64 2, .int .i64 3, .int .i64 4, .int .i64 62, .int .i64 25, .int .i64 26, .int .i64 2, .int .i64 4, .int .i64 0, .int .i64 0], [.int .i64 1, .int .i64 66, .int .i64 0]], .tup [.int .i64 2, .int .i64 0], [], 1236⟩]
theorem e3_13_2_ok : EntsOK 0 Try.prog gl0 e3_13_2 := .of (run_ok tbl2_ok xt2_ok) (by kernel_rfl)

def e3_14_0 : List Ent := [
  ⟨14, [.agg [.nils, .int .i64 0, .int .i64 0, .int .i64 0, .int .i64 0, .nils, .int .i64 0]], [], .tup [.int .i64 0, .int .i64 60], [], 6⟩,
  ⟨14, [.agg [.gs 0 4, .int .i64 3, .int .i64 0, .int .i64 2, .int .i64 6, .nils, .int .i64 5]], [[.int .i64 30, .int .i64 26, .int .i64 28, .int .i64 0, .int .i64 2, .int .i64 3, .int .i64 4, .int .i64 62, .int .i64 25, .int .i64 26, .int .i64 2, .int .i64 4, .int .i64 0, .int .i64 0, .int .i64 30, .int .i64 26, .int .i64 28, .int .i64 0, .int .i64 2, .int .i64 3, .int .i64 4, .int .i64 62, .int .i64 25, .int .i64 26, .int .i64 2, .int .i64 4, .int .i64 0, .int .i64 0]], .tup [.int .i64 0, .int .i64 60], [], 7⟩,
  ⟨14, [.agg [.sl 0 0 2 2, .int .i64 3, .int .i64 0, .int .i64 2, .int .i64 6, .nils, .int .i64 5]], [[.int .i64 30, .int .i64 26, .int .i64 29, .int .i64 0, .int .i64 2, .int .i64 3, .int .i64 4, .int .i64 62, .int .i64 25, .int .i64 26, .int .i64 2, .int .i64 4, .int .i64 0, .int .i64 0]], .tup [.int .i64 0, .int .i64 60], [], 9⟩,
  ⟨14, [.agg [.sl 0 0 2 2, .int .i64 3, .int .i64 0, .int .i64 2, .int .i64 6, .nils, .int .i64 5]], [[.int .i64 30, .int .i64 0, .int .i64 0, .int .i64 0, .int .i64 2, .int .i64 3, .int .i64 4, .int .i64 62, .int .i64 25, .int .i64 26, .int .i64 2, .int .i64 4, .int .i64 0, .int .i64 0]], .tup [.int .i64 0, .int .i64 60], [], 9⟩,
  ⟨14, [.agg [.sl 0 0 2 2, .int .i64 3, .int .i64 0, .int .i64 2, .int .i64 6, .nils, .int .i64 5]], [[.int .i64 30, .int .i64 26, .int .i64 28, .int .i64 0, .int .i64 2, .int .i64 3, .int .i64 4, .int .i64 62, .int .i64 25, .int .i64 26, .int .i64 31, .int .i64 31, .int .i64 0, .int .i64 0]], .tup [.int .i64 0, .int .i64 60], [], 14⟩,
  ⟨14, [.agg [.sl 0 0 2 2, .int .i64 3, .int .i64 0, .int .i64 2, .int .i64 6, .nils, .int .i64 5]], [[.int .i64 30, .int .i64 26, .int .i64 28, .int .i64 0, .int .i64 2, .int .i64 3, .int .i64 5, .int .i64 62, .int .i64 25, .int .i64 26, .int .i64 2, .int .i64 4, .int .i64 0, .int .i64 0]], .tup [.int .i64 0, .int .i64 60], [], 11⟩,
  ⟨14, [.agg [.sl 0 0 2 2, .int .i64 8, .int .i64 0, .int .i64 2, .int .i64 6, .nils, .int .i64 5]], [[.int .i64 30, .int .i64 26, .int .i64 28, .int .i64 0, .int .i64 2, .int .i64 3, .int .i64 4, .int .i64 62, .int .i64 25, .int .i64 26, .int .i64 2, .int .i64 4, .int .i64 0, .int .i64 0]], .tup [.int .i64 0, .int .i64 60], [], 16⟩,
  ⟨14, [.agg [.sl 0 0 2 2, .int .i64 0, .int .i64 0, .int .i64 2, .int .i64 6, .nils, .int .i64 5]], [[.int .i64 30, .int .i64 26, .int .i64 28, .int .i64 0, .int .i64 2, .int .i64 3, .int .i64 4, .int .i64 62, .int .i64 25, .int .i64 26, .int .i64 2, .int .i64 4, .int .i64 0, .int .i64 0]], .tup [.int .i64 0, .int .i64 60], [], 16⟩,
  ⟨14, [.agg [.sl 0 0 2 2, .int .i64 3, .int .i64 0, .int .i64 2, .int .i64 31, .nils, .int .i64 5]], [[.int .i64 30, .int .i64 26, .int .i64 28, .int .i64 0, .int .i64 2, .int .i64 3, .int .i64 4, .int .i64 62, .int .i64 25, .int .i64 26, .int .i64 2, .int .i64 4, .int .i64 0, .int .i64 0]], .tup [.int .i64 0, .int .i64 60], [], 16⟩,
  ⟨14, [.agg [.sl 0 0 2 2, .int .i64 3, .int .i64 0, .int .i64 2, .int .i64 6, .nils, .int .i64 100]], [[.int .i64 30, .int .i64 26, .int .i64 28, .int .i64 0, .int .i64 2, .int .i64 3, .int .i64 4, .int .i64 62, .int .i64 25, .int .i64 26, .int .i64 2, .int .i64 4, .int .i64 0, .int .i64 0]], .tup [.int .i64 0, .int .i64 60], [], 17⟩,
  ⟨14, [.agg [.sl 0 0 2 2, .int .i64 3, .int .i64 0, .int .i64 2, .int .i64 6, .nils, .int .i64 5]], [[.int .i64 30, .int .i64 26, .int .i64 28, .int .i64 0, .int .i64 2, .int .i64 3, .int .i64 4, .int .i64 30, .int .i64 25, .int .i64 26, .int .i64 2, .int .i64 4, .int .i64 0, .int .i64 0]], .tup [.int .i64 0, .int .i64 60], [], 12⟩,
  ⟨14, [.agg [.sl 0 0 2 2, .int .i64 3, .int .i64 0, .int .i64 2, .int .i64 6, .nils, .int .i64 5]], [[.int .i64 30, .int .i64 26, .int .i64 28, .int .i64 0, .int .i64 2, .int .i64 3, .int .i64 4, .int .i64 301, .int .i64 25, .int .i64 26, .int .i64 2, .int .i64 4, .int .i64 0, .int .i64 0]], .tup [.int .i64 0, .int .i64 60], [], 12⟩,
  ⟨14, [.agg [.sl 0 0 2 2, .int .i64 3, .int .i64 0, .int .i64 2, .int .i64 6, .sl 1 0 1 1, .int .i64 5]], [[.int .i64 30, .int .i64 26, .int .i64 28, .int .i64 0, .int .i64 2, .int .i64 3, .int .i64 4, .int .i64 62, .int .i64 25, .int .i64 26, .int .i64 2, .int .i64 4, .int .i64 0, .int .i64 0], [.int .i64 2, .int .i64 0, .int .i64 0]], .tup [.int .i64 0, .int .i64 60], [], 22⟩,
  ⟨14, [.agg [.sl 0 0 2 2, .int .i64 3, .int .i64 0, .int .i64 2, .int .i64 6, .sl 1 0 1 1, .int .i64 5]], [[.int .i64 30, .int .i64 26, .int .i64 28, .int .i64 0, .int .i64 2, .int .i64 3, .int .i64 4, .int .i64 62, .int .i64 25, .int .i64 26, .int .i64 2, .int .i64 4, .int .i64 0, .int .i64 0], [.int .i64 0, .int .i64 601, .int .i64 0]], .tup [.int .i64 0, .int .i64 60], [], 22⟩,
  ⟨14, [.agg [.sl 0 0 2 2, .int .i64 3, .int .i64 0, .int .i64 2, .int .i64 6, .sl 1 0 1 1, .int .i64 5]], [[.int .i64 30, .int .i64 26, .int .i64 28, .int .i64 0, .int .i64 2, .int .i64 3, .int .i64 4, .int .i64 62, .int .i64 25, .int .i64 26, .int .i64 2, .int .i64 4, .int .i64 0, .int .i64 0], [.int .i64 0, .int .i64 0, .int .i64 6]], .tup [.int .i64 0, .int .i64 60], [], 22⟩,
  ⟨14, [.agg [.sl 0 0 2 2, .int .i64 3, .int .i64 0, .int .i64 2, .int .i64 6, .sl 1 0 5 5, .int .i64 5]], [[.int .i64 30, .int .i64 26, .int .i64 28, .int .i64 0, .int .i64 2, .int .i64 3, .int .i64 4, .int .i64 62, .int .i64 25, .int .i64 26, .int .i64 2, .int .i64 4, .int .i64 0, .int .i64 0], [.int .i64 0, .int .i64 0, .int .i64 0, .int .i64 0, .int .i64 0, .int .i64 0, .int .i64 0, .int .i64 0, .int .i64 0, .int .i64 0, .int .i64 0, .int .i64 0, .int .i64 0, .int .i64 0, .int .i64 0]], .tup [.int .i64 0, .int .i64 60], [], 18⟩,
  ⟨14, [.agg [.sl 0 0 2 2, .int .i64 3, .int .i64 0, .int .i64 2, .int .i64 6, .sl 1 0 2 2, .int .i64 5]], [[.int .i64 30, .int .i64 26, .int .i64 28, .int .i64 0, .int .i64 2, .int .i64 3, .int .i64 4, .int .i64 62, .int .i64 25, .int .i64 26, .int .i64 2, .int .i64 4, .int .i64 0, .int .i64 0], [.int .i64 1, .int .i64 66, .int .i64 0, .int .i64 0, .int .i64 26, .int .i64 0]], .tup [.int .i64 0, .int .i64 62], [], 285⟩]
theorem e3_14_0_ok : EntsOK 0 Try.prog gl0 e3_14_0 := .of (run_ok tbl2_ok xt2_ok) (by kernel_rfl)

def e3_14_1 : List Ent := [
  ⟨14, [.agg [.sl 0 0 2 2, .int .i64 3, .int .i64 0, .int .i64 2, .int .i64 6, .nils, .int .i64 5]], [[.int .i64 30, .int .i64 26, .int .i64 28, .int .i64 0, .int .i64 2, .int .i64 3, .int .i64 4, .int .i64 62, .int .i64 25, .int .i64 26, .int .i64 2, .int .i64 4, .int .i64 0, .int .i64 0]], .tup [.int .i64 1, .int .i64 0], [], 1861⟩]
theorem e3_14_1_ok : EntsOK 0 Try.prog gl0 e3_14_1 := .of (run_ok tbl2_ok xt2_ok) (by kernel_rfl)

def e3_14_2 : List Ent := [
  ⟨14, [.agg [.sl 0 0 2 2, .int .i64 3, .int .i64 0, .int .i64 2, .int .i64 6, .sl 1 0 1 1, .int .i64 5]], [[.int .i64 30, .int .i64 26, .int .i64 28, .int .i64 0, .int .i64 2, .int .i64 3, .int .i64 4, .int .i64 62, .int .i64 25, .int .i64 26, .int .i64 2, .int .i64 4, .int .i64 0, .int .i64 0], [.int .i64 1, .int .i64 66, .int .i64 0]], .tup [.int .i64 2, .int .i64 0], [], 1196⟩,
  ⟨14, [.agg [.sl 0 0 2 2, .int .i64 3, .int .i64 0, .int .i64 2, .int .i64 6, .sl 1 0 1 1, .int .i64 5]], [[.int .i64 30, .int .i64 26, .int .i64 28, .int .i64 0, .int .i64 2, .int .i64 3, .int .i64 4, .int .i64 61, .int .i64 25, .int .i64 26, .int .i64 2, .int .i64 4, .int .i64 0, .int .i64 0], [.int .i64 1, .int .i64 66, .int .i64 0]], .tup [.int .i64 1, .int .i64 0], [], 1161⟩]
theorem e3_14_2_ok : EntsOK 0 Try.prog gl0 e3_14_2 := .of (run_ok tbl2_ok xt2_ok) (by kernel_rfl)

end Go.Proofs.Ytmlpmknpkinbjaa
