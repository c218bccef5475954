/-
  Calls that are known, level 2: each is carried out as its row says.
-/
import Derived.Test.YtfhodcmngaaneaaXT1
import Derived.KernelRfl
namespace Go.Proofs.Ytfhodcmngaaneaa
open Go Go.Ev

set_option maxRecDepth 100000

def e2_24_1 : List Ent := [
  ⟨24, [.agg [.int .i64 0, .int .i64 2, .sl 0 0 2 2, .sl 1 0 3 3, .int .i64 20, .int .i64 4, .int .i64 2, .int .i64 30, .int .i64 3, .int .i64 1, .int .i64 40, .int .i64 2, .int .i64 1], .bool true], [[.int .i64 20, .int .i64 22, .int .i64 0, .int .i64 30, .int .i64 31, .int .i64 2], [.int .i64 0, .int .i64 0, .int .i64 0, .int .i64 22, .int .i64 0, .int .i64 0, .int .i64 0, .int .i64 10, .int .i64 12, .int .i64 33, .int .i64 1, .int .i64 40, .int .i64 1, .int .i64 5, .int .i64 6, .int .i64 36, .int .i64 0, .int .i64 10]], .tup [.agg [.ptr 220 0, .gs 284 3], .int .i64 0], [(29, .cells [.map 33, .map 103, .map 173]), (33, .map [(.agg [.int .i64 0, .int .i64 22], .agg [.int .i64 22, .int .i64 22]), (.agg [.int .i64 1, .int .i64 21], .agg [.int .i64 21, .int .i64 21]), (.agg [.int .i64 2, .int .i64 20], .agg [.int .i64 20, .int .i64 20])]), (103, .map [(.agg [.int .i64 0, .int .i64 20], .agg [.int .i64 32, .int .i64 32]), (.agg [.int .i64 0, .int .i64 21], .agg [.int .i64 32, .int .i64 33]), (.agg [.int .i64 0, .int .i64 22], .agg [.int .i64 32, .int .i64 34]), (.agg [.int .i64 1, .int .i64 20], .agg [.int .i64 31, .int .i64 32]), (.agg [.int .i64 1, .int .i64 21], .agg [.int .i64 31, .int .i64 33]), (.agg [.int .i64 1, .int .i64 22], .agg [.int .i64 32, .int .i64 33]), (.agg [.int .i64 2, .int .i64 20], .agg [.int .i64 30, .int .i64 32]), (.agg [.int .i64 2, .int .i64 21], .agg [.int .i64 31, .int .i64 32]), (.agg [.int .i64 2, .int .i64 22], .agg [.int .i64 32, .int .i64 32])]), (173, .map [(.agg [.int .i64 0, .int .i64 30], .agg [.int .i64 36, .int .i64 36]), (.agg [.int .i64 0, .int .i64 31], .agg [.int .i64 36, .int .i64 36]), (.agg [.int .i64 1, .int .i64 30], .agg [.int .i64 35, .int .i64 35])]), (220, .cells [.int .i64 0, .int .i64 2, .sl 0 0 2 2, .sl 1 0 3 3, .int .i64 20, .int .i64 4, .int .i64 2, .int .i64 30, .int .i64 3, .int .i64 1, .int .i64 40, .int .i64 2, .int .i64 1, .sl 29 0 3 3]), (284, .grown [.int .i64 0, .int .i64 22, .int .i64 30, .int .i64 0, .int .i64 0, .int .i64 0, .int .i64 22, .int .i64 31, .int .i64 0, .int .i64 0, .int .i64 1, .int .i64 21, .int .i64 30, .int .i64 0, .int .i64 0] 5)], 323⟩,
  ⟨24, [.agg [.int .i64 0, .int .i64 0, .sl 0 0 1 1, .nils, .int .i64 0, .int .i64 0, .int .i64 0, .int .i64 0, .int .i64 0, .int .i64 0, .int .i64 0, .int .i64 0, .int .i64 0], .bool true], [[.int .i64 5, .int .i64 5, .int .i64 1]], .tup [.agg [.ptr 16 0, .gs 27 1], .int .i64 0], [(14, .cells []), (16, .cells [.int .i64 0, .int .i64 0, .sl 0 0 1 1, .nils, .int .i64 0, .int .i64 0, .int .i64 0, .int .i64 0, .int .i64 0, .int .i64 0, .int .i64 0, .int .i64 0, .int .i64 0, .sl 14 0 0 0]), (27, .grown [.int .i64 0, .int .i64 5, .int .i64 0, .int .i64 0, .int .i64 0] 5)], 28⟩]
theorem e2_24_1_ok : EntsOK 0 Try.prog gl0 e2_24_1 := .of (run_ok tbl1_ok) (by kernel_rfl)

end Go.Proofs.Ytfhodcmngaaneaa
