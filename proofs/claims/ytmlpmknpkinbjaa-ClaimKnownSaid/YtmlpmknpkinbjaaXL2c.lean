/-
  Calls that are known, or carried out elsewhere, level 2: each is carried out as its row says.
-/
import Derived.Test.YtmlpmknpkinbjaaXT1
import Derived.KernelRfl
namespace Go.Proofs.Ytmlpmknpkinbjaa
open Go Go.Ev

set_option maxRecDepth 100000

def e2_34_3 : List Ent := [
  ⟨34, [.agg [.sl 0 0 2 2, .int .i64 3, .int .i64 0, .int .i64 2, .int .i64 6, .sl 1 0 1 1, .int .i64 5], .bool true], [[.int .i64 30, .int .i64 26, .int .i64 28, .int .i64 0, .int .i64 2, .int .i64 3, .int .i64 4, .int .i64 62, .int .i64 25, .int .i64 26, .int .i64 2, .int .i64 4, .int .i64 0, .int .i64 0], [.int .i64 1, .int .i64 66, .int .i64 0]], .tup [.agg [.ptr 22 0, .gs 1121 10], .int .i64 0], [(21, .map [(.agg [.int .i64 0, .int .i64 26], .int .i64 0), (.agg [.int .i64 1, .int .i64 56], .int .i64 1), (.agg [.int .i64 1, .int .i64 57], .int .i64 1), (.agg [.int .i64 1, .int .i64 58], .int .i64 1), (.agg [.int .i64 1, .int .i64 59], .int .i64 1), (.agg [.int .i64 1, .int .i64 60], .int .i64 1), (.agg [.int .i64 0, .int .i64 27], .int .i64 0), (.agg [.int .i64 1, .int .i64 61], .int .i64 1), (.agg [.int .i64 0, .int .i64 28], .int .i64 0), (.agg [.int .i64 1, .int .i64 62], .int .i64 1), (.agg [.int .i64 0, .int .i64 29], .int .i64 0), (.agg [.int .i64 1, .int .i64 63], .int .i64 1), (.agg [.int .i64 0, .int .i64 30], .int .i64 0), (.agg [.int .i64 1, .int .i64 64], .int .i64 1), (.agg [.int .i64 1, .int .i64 65], .int .i64 1), (.agg [.int .i64 1, .int .i64 66], .int .i64 0), (.agg [.int .i64 0, .int .i64 31], .int .i64 0), (.agg [.int .i64 1, .int .i64 67], .int .i64 1), (.agg [.int .i64 0, .int .i64 32], .int .i64 0), (.agg [.int .i64 1, .int .i64 68], .int .i64 1)]), (22, .cells [.sl 0 0 2 2, .int .i64 3, .int .i64 0, .int .i64 2, .int .i64 6, .sl 1 0 1 1, .int .i64 5, .map 21]), (1121, .grown [.int .i64 1, .int .i64 0, .int .i64 4, .int .i64 0, .int .i64 30, .int .i64 66, .int .i64 0, .int .i64 1, .int .i64 1, .int .i64 4, .int .i64 0, .int .i64 30, .int .i64 66, .int .i64 0, .int .i64 1, .int .i64 1, .int .i64 3, .int .i64 0, .int .i64 31, .int .i64 66, .int .i64 0, .int .i64 1, .int .i64 1, .int .i64 4, .int .i64 0, .int .i64 31, .int .i64 66, .int .i64 0, .int .i64 1, .int .i64 2, .int .i64 4, .int .i64 0, .int .i64 30, .int .i64 66, .int .i64 0, .int .i64 1, .int .i64 2, .int .i64 3, .int .i64 0, .int .i64 31, .int .i64 66, .int .i64 0, .int .i64 1, .int .i64 2, .int .i64 4, .int .i64 0, .int .i64 31, .int .i64 66, .int .i64 0, .int .i64 1, .int .i64 2, .int .i64 2, .int .i64 0, .int .i64 32, .int .i64 66, .int .i64 0, .int .i64 1, .int .i64 2, .int .i64 3, .int .i64 0, .int .i64 32, .int .i64 66, .int .i64 0, .int .i64 1, .int .i64 2, .int .i64 4, .int .i64 0, .int .i64 32, .int .i64 66, .int .i64 0] 7)], 1138⟩]
theorem e2_34_3_ok : EntsOK 0 Try.prog gl0 e2_34_3 := .of (run_ok tbl1_ok xt1_ok) (by kernel_rfl)

end Go.Proofs.Ytmlpmknpkinbjaa
