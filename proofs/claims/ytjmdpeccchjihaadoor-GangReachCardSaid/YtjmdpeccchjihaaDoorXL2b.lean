/-
  Calls that are known, or carried out elsewhere, level 2: each is carried out as its row says.
-/
import Derived.Test.YtjmdpeccchjihaaDoorXT1
import Derived.KernelRfl
namespace Go.Proofs.YtjmdpeccchjihaaDoor
open Go Go.Ev

set_option maxRecDepth 100000

def e2_54_0 : List Ent := [
  ⟨54, [.agg [.sl 1 0 3 3, .sl 2 0 2 2, .int .i64 3]], [[.int .i64 2, .int .i64 3, .int .i64 0, .int .i64 1, .int .i64 2, .int .i64 1, .int .i64 2, .int .i64 2, .int .i64 2], [.int .i64 0, .int .i64 1, .int .i64 1, .int .i64 2, .int .i64 1, .int .i64 2, .int .i64 2, .int .i64 2]], .tup [.sl 2520 0 2 2, .int .i64 0], [(2520, .grown [.int .i64 0, .int .i64 2] 1)], 2521⟩]
theorem e2_54_0_ok : EntsOK 1 Tryd.prog gl0 e2_54_0 := .of (run_ok tbl1_ok xt1_ok) (by kernel_rfl)

def e2_56_0 : List Ent := [
  ⟨56, [.agg [.sl 1 0 3 3, .sl 2 0 2 2, .int .i64 4]], [[.int .i64 2, .int .i64 3, .int .i64 0, .int .i64 1, .int .i64 2, .int .i64 1, .int .i64 2, .int .i64 2, .int .i64 2], [.int .i64 0, .int .i64 1, .int .i64 1, .int .i64 2, .int .i64 1, .int .i64 1, .int .i64 2, .int .i64 2]], .tup [.int .i64 2, .int .i64 0], [], 137⟩]
theorem e2_56_0_ok : EntsOK 1 Tryd.prog gl0 e2_56_0 := .of (run_ok tbl1_ok xt1_ok) (by kernel_rfl)

end Go.Proofs.YtjmdpeccchjihaaDoor
