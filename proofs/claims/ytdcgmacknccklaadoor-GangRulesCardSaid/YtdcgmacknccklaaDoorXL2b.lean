/-
  Calls that are known, or carried out elsewhere, level 2: each is carried out as its row says.
-/
import Derived.Test.YtdcgmacknccklaaDoorXT1
import Derived.KernelRfl
namespace Go.Proofs.YtdcgmacknccklaaDoor
open Go Go.Ev

set_option maxRecDepth 100000

def e2_57_0 : List Ent := [
  ⟨57, [.agg [.sl 1 0 3 3, .sl 2 0 2 2, .int .i64 3]], [[.int .i64 2, .int .i64 3, .int .i64 0, .int .i64 1, .int .i64 2, .int .i64 1, .int .i64 2, .int .i64 2, .int .i64 2], [.int .i64 0, .int .i64 1, .int .i64 1, .int .i64 2, .int .i64 1, .int .i64 2, .int .i64 2, .int .i64 2]], .tup [.sl 2520 0 2 2, .int .i64 0], [(2520, .grown [.int .i64 0, .int .i64 2] 1)], 2521⟩]
theorem e2_57_0_ok : EntsOK 1 Tryd.prog gl0 e2_57_0 := .of (run_ok tbl1_ok xt1_ok) (by kernel_rfl)

def e2_59_0 : List Ent := [
  ⟨59, [.agg [.sl 1 0 3 3, .sl 2 0 2 2, .int .i64 4]], [[.int .i64 2, .int .i64 3, .int .i64 0, .int .i64 1, .int .i64 2, .int .i64 1, .int .i64 2, .int .i64 2, .int .i64 2], [.int .i64 0, .int .i64 1, .int .i64 1, .int .i64 2, .int .i64 1, .int .i64 1, .int .i64 2, .int .i64 2]], .tup [.int .i64 2, .int .i64 0], [], 137⟩]
theorem e2_59_0_ok : EntsOK 1 Tryd.prog gl0 e2_59_0 := .of (run_ok tbl1_ok xt1_ok) (by kernel_rfl)

end Go.Proofs.YtdcgmacknccklaaDoor
