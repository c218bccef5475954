/-
  Calls that are known, or carried out elsewhere, level 3: each is carried out as its row says.
-/
import Derived.Test.YtmlpmknpkinbjaaXT2
import Derived.KernelRfl
namespace Go.Proofs.Ytmlpmknpkinbjaa
open Go Go.Ev

set_option maxRecDepth 100000

def e3_15_2 : List Ent := [
  ⟨15, [.agg [.sl 0 0 2 2, .int .i64 3, .int .i64 0, .int .i64 2, .int .i64 6, .sl 1 0 1 1, .int .i64 5]], [[.int .i64 30, .int .i64 26, .int .i64 28, .int .i64 0, .int .i64 2, .int .i64 3, .int .i64 4, .int .i64 62, .int .i64 25, .int .i64 26, .int .i64 2, .int .i64 4, .int .i64 0, .int .i64 0], [.int .i64 1, .int .i64 66, .int .i64 0]], .tup [.agg [.int .i64 20, .int .i64 20], .int .i64 0], [], 1202⟩]
theorem e3_15_2_ok : EntsOK 0 Try.prog gl0 e3_15_2 := .of (run_ok tbl2_ok xt2_ok) (by kernel_rfl)

def e3_15_3 : List Ent := [
  ⟨15, [.agg [.sl 0 0 2 2, .int .i64 3, .int .i64 0, .int .i64 2, .int .i64 6, .sl 1 0 1 1, .int .i64 5]], [[.int .i64 30, .int .i64 26, .int .i64 28, .int .i64 0, .int .i64 2, .int .i64 3, .int .i64 4, .int .i64 61, .int .i64 25, .int .i64 26, .int .i64 2, .int .i64 4, .int .i64 0, .int .i64 0], [.int .i64 1, .int .i64 66, .int .i64 0]], .tup [.agg [.int .i64 20, .int .i64 25], .int .i64 0], [], 1202⟩]
theorem e3_15_3_ok : EntsOK 0 Try.prog gl0 e3_15_3 := .of (run_ok tbl2_ok xt2_ok) (by kernel_rfl)

def e3_16_0 : List Ent := [
  ⟨16, [.agg [.nils, .int .i64 0, .int .i64 0, .int .i64 0, .int .i64 0, .nils, .int .i64 0]], [], .tup [.int .i64 0, .int .i64 60], [], 6⟩,
  ⟨16, [.agg [.gs 0 4, .int .i64 3, .int .i64 0, .int .i64 2, .int .i64 6, .nils, .int .i64 5]], [[.int .i64 30, .int .i64 26, .int .i64 28, .int .i64 0, .int .i64 2, .int .i64 3, .int .i64 4, .int .i64 62, .int .i64 25, .int .i64 26, .int .i64 2, .int .i64 4, .int .i64 0, .int .i64 0, .int .i64 30, .int .i64 26, .int .i64 28, .int .i64 0, .int .i64 2, .int .i64 3, .int .i64 4, .int .i64 62, .int .i64 25, .int .i64 26, .int .i64 2, .int .i64 4, .int .i64 0, .int .i64 0]], .tup [.int .i64 0, .int .i64 60], [], 7⟩,
  ⟨16, [.agg [.sl 0 0 2 2, .int .i64 3, .int .i64 0, .int .i64 2, .int .i64 6, .nils, .int .i64 5]], [[.int .i64 30, .int .i64 26, .int .i64 29, .int .i64 0, .int .i64 2, .int .i64 3, .int .i64 4, .int .i64 62, .int .i64 25, .int .i64 26, .int .i64 2, .int .i64 4, .int .i64 0, .int .i64 0]], .tup [.int .i64 0, .int .i64 60], [], 9⟩,
  ⟨16, [.agg [.sl 0 0 2 2, .int .i64 3, .int .i64 0, .int .i64 2, .int .i64 6, .nils, .int .i64 5]], [[.int .i64 30, .int .i64 0, .int .i64 0, .int .i64 0, .int .i64 2, .int .i64 3, .int .i64 4, .int .i64 62, .int .i64 25, .int .i64 26, .int .i64 2, .int .i64 4, .int .i64 0, .int .i64 0]], .tup [.int .i64 0, .int .i64 60], [], 9⟩,
  ⟨16, [.agg [.sl 0 0 2 2, .int .i64 3, .int .i64 0, .int .i64 2, .int .i64 6, .nils, .int .i64 5]], [[.int .i64 30, .int .i64 26, .int .i64 28, .int .i64 0, .int .i64 2, .int .i64 3, .int .i64 4, .int .i64 62, .int .i64 25, .int .i64 26, .int .i64 31, .int .i64 31, .int .i64 0, .int .i64 0]], .tup [.int .i64 0, .int .i64 60], [], 14⟩,
  ⟨16, [.agg [.sl 0 0 2 2, .int .i64 3, .int .i64 0, .int .i64 2, .int .i64 6, .nils, .int .i64 5]], [[.int .i64 30, .int .i64 26, .int .i64 28, .int .i64 0, .int .i64 2, .int .i64 3, .int .i64 5, .int .i64 62, .int .i64 25, .int .i64 26, .int .i64 2, .int .i64 4, .int .i64 0, .int .i64 0]], .tup [.int .i64 0, .int .i64 60], [], 11⟩,
  ⟨16, [.agg [.sl 0 0 2 2, .int .i64 8, .int .i64 0, .int .i64 2, .int .i64 6, .nils, .int .i64 5]], [[.int .i64 30, .int .i64 26, .int .i64 28, .int .i64 0, .int .i64 2, .int .i64 3, .int .i64 4, .int .i64 62, .int .i64 25, .int .i64 26, .int .i64 2, .int .i64 4, .int .i64 0, .int .i64 0]], .tup [.int .i64 0, .int .i64 60], [], 16⟩,
  ⟨16, [.agg [.sl 0 0 2 2, .int .i64 0, .int .i64 0, .int .i64 2, .int .i64 6, .nils, .int .i64 5]], [[.int .i64 30, .int .i64 26, .int .i64 28, .int .i64 0, .int .i64 2, .int .i64 3, .int .i64 4, .int .i64 62, .int .i64 25, .int .i64 26, .int .i64 2, .int .i64 4, .int .i64 0, .int .i64 0]], .tup [.int .i64 0, .int .i64 60], [], 16⟩,
  ⟨16, [.agg [.sl 0 0 2 2, .int .i64 3, .int .i64 0, .int .i64 2, .int .i64 31, .nils, .int .i64 5]], [[.int .i64 30, .int .i64 26, .int .i64 28, .int .i64 0, .int .i64 2, .int .i64 3, .int .i64 4, .int .i64 62, .int .i64 25, .int .i64 26, .int .i64 2, .int .i64 4, .int .i64 0, .int .i64 0]], .tup [.int .i64 0, .int .i64 60], [], 16⟩,
  ⟨16, [.agg [.sl 0 0 2 2, .int .i64 3, .int .i64 0, .int .i64 2, .int .i64 6, .nils, .int .i64 100]], [[.int .i64 30, .int .i64 26, .int .i64 28, .int .i64 0, .int .i64 2, .int .i64 3, .int .i64 4, .int .i64 62, .int .i64 25, .int .i64 26, .int .i64 2, .int .i64 4, .int .i64 0, .int .i64 0]], .tup [.int .i64 0, .int .i64 60], [], 17⟩,
  ⟨16, [.agg [.sl 0 0 2 2, .int .i64 3, .int .i64 0, .int .i64 2, .int .i64 6, .nils, .int .i64 5]], [[.int .i64 30, .int .i64 26, .int .i64 28, .int .i64 0, .int .i64 2, .int .i64 3, .int .i64 4, .int .i64 30, .int .i64 25, .int .i64 26, .int .i64 2, .int .i64 4, .int .i64 0, .int .i64 0]], .tup [.int .i64 0, .int .i64 60], [], 12⟩,
  ⟨16, [.agg [.sl 0 0 2 2, .int .i64 3, .int .i64 0, .int .i64 2, .int .i64 6, .nils, .int .i64 5]], [[.int .i64 30, .int .i64 26, .int .i64 28, .int .i64 0, .int .i64 2, .int .i64 3, .int .i64 4, .int .i64 301, .int .i64 25, .int .i64 26, .int .i64 2, .int .i64 4, .int .i64 0, .int .i64 0]], .tup [.int .i64 0, .int .i64 60], [], 12⟩,
  ⟨16, [.agg [.sl 0 0 2 2, .int .i64 3, .int .i64 0, .int .i64 2, .int .i64 6, .sl 1 0 1 1, .int .i64 5]], [[.int .i64 30, .int .i64 26, .int .i64 28, .int .i64 0, .int .i64 2, .int .i64 3, .int .i64 4, .int .i64 62, .int .i64 25, .int .i64 26, .int .i64 2, .int .i64 4, .int .i64 0, .int .i64 0], [.int .i64 2, .int .i64 0, .int .i64 0]], .tup [.int .i64 0, .int .i64 60], [], 22⟩,
  ⟨16, [.agg [.sl 0 0 2 2, .int .i64 3, .int .i64 0, .int .i64 2, .int .i64 6, .sl 1 0 1 1, .int .i64 5]], [[.int .i64 30, .int .i64 26, .int .i64 28, .int .i64 0, .int .i64 2, .int .i64 3, .int .i64 4, .int .i64 62, .int .i64 25, .int .i64 26, .int .i64 2, .int .i64 4, .int .i64 0, .int .i64 0], [.int .i64 0, .int .i64 601, .int .i64 0]], .tup [.int .i64 0, .int .i64 60], [], 22⟩,
  ⟨16, [.agg [.sl 0 0 2 2, .int .i64 3, .int .i64 0, .int .i64 2, .int .i64 6, .sl 1 0 1 1, .int .i64 5]], [[.int .i64 30, .int .i64 26, .int .i64 28, .int .i64 0, .int .i64 2, .int .i64 3, .int .i64 4, .int .i64 62, .int .i64 25, .int .i64 26, .int .i64 2, .int .i64 4, .int .i64 0, .int .i64 0], [.int .i64 0, .int .i64 0, .int .i64 6]], .tup [.int .i64 0, .int .i64 60], [], 22⟩,
  ⟨16, [.agg [.sl 0 0 2 2, .int .i64 3, .int .i64 0, .int .i64 2, .int .i64 6, .sl 1 0 5 5, .int .i64 5]], [[.int .i64 30, .int .i64 26, .int .i64 28, .int .i64 0, .int .i64 2, .int .i64 3, .int .i64 4, .int .i64 62, .int .i64 25, .int .i64 26, .int .i64 2, .int .i64 4, .int .i64 0, .int .i64 0], [.int .i64 0, .int .i64 0, .int .i64 0, .int .i64 0, .int .i64 0, .int .i64 0, .int .i64 0, .int .i64 0, .int .i64 0, .int .i64 0, .int .i64 0, .int .i64 0, .int .i64 0, .int .i64 0, .int .i64 0]], .tup [.int .i64 0, .int .i64 60], [], 18⟩,
  ⟨16, [.agg [.sl 0 0 2 2, .int .i64 3, .int .i64 0, .int .i64 2, .int .i64 6, .sl 1 0 2 2, .int .i64 5]], [[.int .i64 30, .int .i64 26, .int .i64 28, .int .i64 0, .int .i64 2, .int .i64 3, .int .i64 4, .int .i64 62, .int .i64 25, .int .i64 26, .int .i64 2, .int .i64 4, .int .i64 0, .int .i64 0], [.int .i64 1, .int .i64 66, .int .i64 0, .int .i64 0, .int .i64 26, .int .i64 0]], .tup [.int .i64 0, .int .i64 62], [], 285⟩]
theorem e3_16_0_ok : EntsOK 0 Try.prog gl0 e3_16_0 := .of (run_ok tbl2_ok xt2_ok) (by kernel_rfl)

def e3_16_1 : List Ent := [
  ⟨16, [.agg [.sl 0 0 2 2, .int .i64 3, .int .i64 0, .int .i64 2, .int .i64 6, .nils, .int .i64 5]], [[.int .i64 30, .int .i64 26, .int .i64 28, .int .i64 0, .int .i64 2, .int .i64 3, .int .i64 4, .int .i64 62, .int .i64 25, .int .i64 26, .int .i64 2, .int .i64 4, .int .i64 0, .int .i64 0]], .tup [.int .i64 0, .int .i64 0], [], 1862⟩]
theorem e3_16_1_ok : EntsOK 0 Try.prog gl0 e3_16_1 := .of (run_ok tbl2_ok xt2_ok) (by kernel_rfl)

def e3_16_2 : List Ent := [
  ⟨16, [.agg [.sl 0 0 2 2, .int .i64 3, .int .i64 0, .int .i64 2, .int .i64 6, .sl 1 0 1 1, .int .i64 5]], [[.int .i64 30, .int .i64 26, .int .i64 28, .int .i64 0, .int .i64 2, .int .i64 3, .int .i64 4, .int .i64 61, .int .i64 25, .int .i64 26, .int .i64 2, .int .i64 4, .int .i64 0, .int .i64 0], [.int .i64 1, .int .i64 66, .int .i64 0]], .tup [.int .i64 0, .int .i64 0], [], 1162⟩]
theorem e3_16_2_ok : EntsOK 0 Try.prog gl0 e3_16_2 := .of (run_ok tbl2_ok xt2_ok) (by kernel_rfl)

end Go.Proofs.Ytmlpmknpkinbjaa
