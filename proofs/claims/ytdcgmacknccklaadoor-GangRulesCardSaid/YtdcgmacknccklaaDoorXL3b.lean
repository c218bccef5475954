/-
  Calls that are known, or carried out elsewhere, level 3: each is carried out as its row says.
-/
import Derived.Test.YtdcgmacknccklaaDoorXT2
import Derived.KernelRfl
namespace Go.Proofs.YtdcgmacknccklaaDoor
open Go Go.Ev

set_option maxRecDepth 100000

def e3_56_1 : List Ent := [
  ⟨56, [.agg [.sl 1 0 3 3, .sl 2 0 2 2, .int .i64 3]], [[.int .i64 2, .int .i64 3, .int .i64 0, .int .i64 1, .int .i64 2, .int .i64 1, .int .i64 2, .int .i64 2, .int .i64 2], [.int .i64 0, .int .i64 1, .int .i64 1, .int .i64 2, .int .i64 1, .int .i64 2, .int .i64 2, .int .i64 2]], .tup [.nils, .int .i64 4], [], 2069⟩]
theorem e3_56_1_ok : EntsOK 1 Tryd.prog gl0 e3_56_1 := .of (run_ok tbl2_ok xt2_ok) (by kernel_rfl)

end Go.Proofs.YtdcgmacknccklaaDoor
