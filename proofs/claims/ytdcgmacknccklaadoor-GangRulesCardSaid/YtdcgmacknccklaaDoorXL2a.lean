/-
  Calls that are known, or carried out elsewhere, level 2: each is carried out as its row says.
-/
import Derived.Test.YtdcgmacknccklaaDoorXT1
import Derived.KernelRfl
namespace Go.Proofs.YtdcgmacknccklaaDoor
open Go Go.Ev

set_option maxRecDepth 100000

def e2_7_0 : List Ent := [
  ⟨7, [.agg [.sl 1 0 3 3, .sl 2 0 2 2, .int .i64 4], .int .i64 1, .int .i64 2], [[.int .i64 2, .int .i64 3, .int .i64 0, .int .i64 1, .int .i64 2, .int .i64 1, .int .i64 2, .int .i64 2, .int .i64 2], [.int .i64 0, .int .i64 1, .int .i64 1, .int .i64 2, .int .i64 1, .int .i64 2, .int .i64 2, .int .i64 2]], .tup [.sl 35 0 3 3, .int .i64 0], [(35, .grown [.int .i64 0, .int .i64 2, .int .i64 3] 1)], 36⟩]
theorem e2_7_0_ok : EntsOK 1 Tryd.prog gl0 e2_7_0 := .of (run_ok tbl1_ok xt1_ok) (by kernel_rfl)

def e2_12_0 : List Ent := [
  ⟨12, [.agg [.sl 1 0 3 3, .sl 2 0 2 2, .int .i64 4], .sl 3 0 2 2], [[.int .i64 2, .int .i64 3, .int .i64 0, .int .i64 1, .int .i64 2, .int .i64 1, .int .i64 2, .int .i64 2, .int .i64 2], [.int .i64 0, .int .i64 1, .int .i64 1, .int .i64 2, .int .i64 1, .int .i64 2, .int .i64 2, .int .i64 2], [.int .i64 0, .int .i64 0, .int .i64 0, .int .i64 0, .int .i64 1, .int .i64 2]], .tup [.bool true, .int .i64 0], [], 42⟩]
theorem e2_12_0_ok : EntsOK 1 Tryd.prog gl0 e2_12_0 := .of (run_ok tbl1_ok xt1_ok) (by kernel_rfl)

def e2_14_0 : List Ent := [
  ⟨14, [.agg [.sl 1 0 3 3, .sl 2 0 2 2, .int .i64 4], .sl 3 0 2 2, .int .i64 0], [[.int .i64 2, .int .i64 3, .int .i64 0, .int .i64 1, .int .i64 2, .int .i64 1, .int .i64 2, .int .i64 2, .int .i64 2], [.int .i64 0, .int .i64 1, .int .i64 1, .int .i64 2, .int .i64 1, .int .i64 2, .int .i64 2, .int .i64 2], [.int .i64 0, .int .i64 0, .int .i64 0, .int .i64 0, .int .i64 1, .int .i64 2]], .tup [.sl 84 0 2 2, .int .i64 0], [(84, .grown [.int .i64 0, .int .i64 2] 1)], 85⟩]
theorem e2_14_0_ok : EntsOK 1 Tryd.prog gl0 e2_14_0 := .of (run_ok tbl1_ok xt1_ok) (by kernel_rfl)

def e2_17_0 : List Ent := [
  ⟨17, [.agg [.sl 1 0 3 3, .sl 2 0 2 2, .int .i64 4], .sl 3 0 2 2, .int .i64 0], [[.int .i64 2, .int .i64 3, .int .i64 0, .int .i64 1, .int .i64 2, .int .i64 1, .int .i64 2, .int .i64 2, .int .i64 2], [.int .i64 0, .int .i64 1, .int .i64 1, .int .i64 2, .int .i64 1, .int .i64 2, .int .i64 2, .int .i64 2], [.int .i64 0, .int .i64 0, .int .i64 0, .int .i64 1, .int .i64 0, .int .i64 0]], .tup [.agg [.int .i64 2, .int .i64 4], .int .i64 0], [], 68⟩]
theorem e2_17_0_ok : EntsOK 1 Tryd.prog gl0 e2_17_0 := .of (run_ok tbl1_ok xt1_ok) (by kernel_rfl)

def e2_19_0 : List Ent := [
  ⟨19, [.agg [.sl 1 0 3 3, .sl 2 0 2 2, .int .i64 4], .sl 3 0 2 2], [[.int .i64 2, .int .i64 3, .int .i64 0, .int .i64 1, .int .i64 2, .int .i64 1, .int .i64 2, .int .i64 2, .int .i64 2], [.int .i64 0, .int .i64 1, .int .i64 1, .int .i64 2, .int .i64 1, .int .i64 2, .int .i64 2, .int .i64 2], [.int .i64 0, .int .i64 0, .int .i64 0, .int .i64 0, .int .i64 1, .int .i64 2]], .tup [.sl 64 0 1 1, .int .i64 0], [(64, .grown [.int .i64 2] 1)], 65⟩]
theorem e2_19_0_ok : EntsOK 1 Tryd.prog gl0 e2_19_0 := .of (run_ok tbl1_ok xt1_ok) (by kernel_rfl)

def e2_21_0 : List Ent := [
  ⟨21, [.agg [.sl 1 0 3 3, .sl 2 0 2 2, .int .i64 4], .sl 3 0 2 2], [[.int .i64 2, .int .i64 3, .int .i64 0, .int .i64 1, .int .i64 2, .int .i64 1, .int .i64 2, .int .i64 2, .int .i64 2], [.int .i64 0, .int .i64 1, .int .i64 1, .int .i64 2, .int .i64 1, .int .i64 2, .int .i64 2, .int .i64 2], [.int .i64 0, .int .i64 0, .int .i64 0, .int .i64 0, .int .i64 1, .int .i64 2]], .tup [.int .i64 0, .int .i64 0], [], 67⟩]
theorem e2_21_0_ok : EntsOK 1 Tryd.prog gl0 e2_21_0 := .of (run_ok tbl1_ok xt1_ok) (by kernel_rfl)

end Go.Proofs.YtdcgmacknccklaaDoor
