/-
  Calls that are known, level 1: each is carried out as its row says.
-/
import Derived.Test.YtfhodcmngaaneaaXBase
import Derived.KernelRfl
namespace Go.Proofs.Ytfhodcmngaaneaa
open Go Go.Ev

set_option maxRecDepth 100000

def e1_22_3 : List Ent := [
  ⟨22, [.agg [.int .i64 0, .int .i64 2, .sl 0 0 2 2, .gs 1 3, .int .i64 20, .int .i64 4, .int .i64 2, .int .i64 30, .int .i64 3, .int .i64 1, .int .i64 40, .int .i64 2, .int .i64 1]], [[.int .i64 20, .int .i64 22, .int .i64 0, .int .i64 30, .int .i64 31, .int .i64 2], [.int .i64 0, .int .i64 10, .int .i64 12, .int .i64 33, .int .i64 1, .int .i64 40, .int .i64 1, .int .i64 5, .int .i64 6, .int .i64 36, .int .i64 0, .int .i64 10, .int .i64 0, .int .i64 0, .int .i64 0, .int .i64 23, .int .i64 0, .int .i64 0]], .ptr 194 0, [(3, .cells [.map 7, .map 77, .map 126]), (7, .map [(.agg [.int .i64 0, .int .i64 20], .agg [.int .i64 32, .int .i64 32]), (.agg [.int .i64 0, .int .i64 21], .agg [.int .i64 32, .int .i64 33]), (.agg [.int .i64 0, .int .i64 22], .agg [.int .i64 32, .int .i64 34]), (.agg [.int .i64 1, .int .i64 20], .agg [.int .i64 31, .int .i64 32]), (.agg [.int .i64 1, .int .i64 21], .agg [.int .i64 31, .int .i64 33]), (.agg [.int .i64 1, .int .i64 22], .agg [.int .i64 32, .int .i64 33]), (.agg [.int .i64 2, .int .i64 20], .agg [.int .i64 30, .int .i64 32]), (.agg [.int .i64 2, .int .i64 21], .agg [.int .i64 31, .int .i64 32]), (.agg [.int .i64 2, .int .i64 22], .agg [.int .i64 32, .int .i64 32])]), (77, .map [(.agg [.int .i64 0, .int .i64 30], .agg [.int .i64 36, .int .i64 36]), (.agg [.int .i64 0, .int .i64 31], .agg [.int .i64 36, .int .i64 36]), (.agg [.int .i64 1, .int .i64 30], .agg [.int .i64 35, .int .i64 35])]), (126, .map [(.agg [.int .i64 1, .int .i64 22], .agg [.int .i64 22, .int .i64 22]), (.agg [.int .i64 2, .int .i64 21], .agg [.int .i64 21, .int .i64 21])]), (194, .cells [.int .i64 0, .int .i64 2, .sl 0 0 2 2, .gs 1 3, .int .i64 20, .int .i64 4, .int .i64 2, .int .i64 30, .int .i64 3, .int .i64 1, .int .i64 40, .int .i64 2, .int .i64 1, .sl 3 0 3 3])], 195⟩]
theorem e1_22_3_ok : EntsOK 0 Try.prog gl0 e1_22_3 := .of (run_ok tbl0_ok) (by kernel_rfl)

end Go.Proofs.Ytfhodcmngaaneaa
