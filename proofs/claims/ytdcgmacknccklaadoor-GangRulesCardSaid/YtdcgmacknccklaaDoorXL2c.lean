/-
  Calls that are known, or carried out elsewhere, level 2: each is carried out as its row says.
-/
import Derived.Test.YtdcgmacknccklaaDoorXT1
import Derived.KernelRfl
namespace Go.Proofs.YtdcgmacknccklaaDoor
open Go Go.Ev

set_option maxRecDepth 100000

noncomputable def x401 : XEnt := ⟨3, 80, 20, [.ptr 18 0, .agg [.fn 99 [] [], .fn 100 [] []]],
  [(0, .ro [.int .i64 (-1), .int .i64 0, .int .i64 1]), (1, .ro [.int .i64 2, .int .i64 3, .int .i64 0, .int .i64 1, .int .i64 2, .int .i64 1, .int .i64 2, .int .i64 2, .int .i64 2]), (2, .ro [.int .i64 0, .int .i64 1, .int .i64 1, .int .i64 2, .int .i64 1, .int .i64 2, .int .i64 2, .int .i64 2]), (17, .map []), (18, .cells [.sl 1 0 3 3, .sl 2 0 2 2, .int .i64 4, .map 17])],
  .tup [.agg [.ptr 18 0, .gs 7332 5, .int .i64 3, .int .i64 2, .int .i64 2, .int .i64 0], .bool true], 8311,
  [(17, some (.map [(.agg [.int .i64 3, .int .i64 0], .int .i64 1), (.agg [.int .i64 3, .int .i64 1], .int .i64 2), (.agg [.int .i64 3, .int .i64 2], .int .i64 2), (.agg [.int .i64 2, .int .i64 0], .int .i64 2), (.agg [.int .i64 2, .int .i64 1], .int .i64 4), (.agg [.int .i64 2, .int .i64 2], .int .i64 4), (.agg [.int .i64 1, .int .i64 0], .int .i64 3), (.agg [.int .i64 1, .int .i64 1], .int .i64 6), (.agg [.int .i64 0, .int .i64 0], .int .i64 4), (.agg [.int .i64 1, .int .i64 2], .int .i64 4), (.agg [.int .i64 0, .int .i64 2], .int .i64 6)])), (7332, some (.grown [.int .i64 0, .int .i64 0, .int .i64 0, .int .i64 0, .int .i64 1, .int .i64 2, .int .i64 1, .int .i64 0, .int .i64 0, .int .i64 2, .int .i64 0, .int .i64 0, .int .i64 3, .int .i64 1, .int .i64 1] 3))]⟩
theorem x401_ok : XOK (evalB Tryd.prog gl0 tbl1 xt1 5000) x401 := fun base => ⟨by kernel_rfl, by kernel_rfl⟩

end Go.Proofs.YtdcgmacknccklaaDoor
