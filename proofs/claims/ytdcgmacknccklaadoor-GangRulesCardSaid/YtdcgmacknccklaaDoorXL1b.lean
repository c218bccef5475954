/-
  Calls that are known, or carried out elsewhere, level 1: each is carried out as its row says.
-/
import Derived.Test.YtdcgmacknccklaaDoorXBase
import Derived.KernelRfl
namespace Go.Proofs.YtdcgmacknccklaaDoor
open Go Go.Ev

set_option maxRecDepth 100000

noncomputable def x891 : XEnt := ⟨3, 108, 493, [.int .i64 1, .agg [.ptr 18 0, .nils, .int .i64 0, .int .i64 0, .int .i64 0, .int .i64 0], .ptr 25 0, .ptr 26 0, .ptr 27 0, .ptr 484 0],
  [(0, .ro [.int .i64 (-1), .int .i64 0, .int .i64 1]), (1, .ro [.int .i64 2, .int .i64 3, .int .i64 0, .int .i64 1, .int .i64 2, .int .i64 1, .int .i64 2, .int .i64 2, .int .i64 2]), (2, .ro [.int .i64 0, .int .i64 1, .int .i64 1, .int .i64 2, .int .i64 1, .int .i64 2, .int .i64 2, .int .i64 2]), (17, .map []), (18, .cells [.sl 1 0 3 3, .sl 2 0 2 2, .int .i64 4, .map 17]), (20, .cells [.fn 99 [] [], .fn 100 [] []]), (21, .cells [.nilp, .nils, .int .i64 0, .int .i64 0, .int .i64 0, .int .i64 0]), (22, .cells [.bool false]), (23, .dfr), (24, loopO Tryd.prog 80 0 .ready [(0, .ptr 18 0), (1, .agg [.fn 99 [] [], .fn 100 [] []]), (3, .ptr 20 0), (7, .ptr 18 0), (5, .ptr 22 0), (4, .ptr 21 0), (8, .fn 98 [.ptr 18 0] [])] 28 23), (25, .cells [.ptr 18 0]), (26, .cells [.yld 24]), (27, .cells [.gs 483 4]), (36, .grown [.int .i64 0, .int .i64 0, .int .i64 0] 3), (70, .grown [.int .i64 0, .int .i64 1, .int .i64 2] 3), (102, .grown [.int .i64 0, .int .i64 0, .int .i64 0, .int .i64 0, .int .i64 1, .int .i64 2] 3), (104, .tip [.nils, .gs 36 1, .gs 70 1, .gs 102 2] 1), (115, .grown [.int .i64 1, .int .i64 0, .int .i64 0] 3), (125, .grown [.int .i64 1, .int .i64 0, .int .i64 1] 3), (147, .grown [.int .i64 1, .int .i64 1, .int .i64 1] 3), (149, .tip [.nils, .gs 115 1, .gs 125 1, .gs 147 1] 1), (222, .grown [.int .i64 2, .int .i64 0, .int .i64 0] 3), (232, .grown [.int .i64 2, .int .i64 0, .int .i64 1] 3), (254, .grown [.int .i64 2, .int .i64 1, .int .i64 1] 3), (264, .grown [.int .i64 2, .int .i64 1, .int .i64 2] 3), (306, .grown [.int .i64 2, .int .i64 0, .int .i64 0, .int .i64 2, .int .i64 1, .int .i64 2] 3), (308, .tip [.nils, .gs 222 1, .gs 232 1, .gs 254 1, .gs 264 1, .gs 306 2] 1), (357, .grown [.int .i64 3, .int .i64 0, .int .i64 0] 3), (367, .grown [.int .i64 3, .int .i64 0, .int .i64 1] 3), (389, .grown [.int .i64 3, .int .i64 1, .int .i64 1] 3), (399, .grown [.int .i64 3, .int .i64 1, .int .i64 2] 3), (441, .grown [.int .i64 3, .int .i64 0, .int .i64 0, .int .i64 3, .int .i64 1, .int .i64 2] 3), (443, .tip [.nils, .gs 357 1, .gs 367 1, .gs 389 1, .gs 399 1, .gs 441 2] 1), (483, .tip [.gs 104 4, .gs 149 4, .gs 308 6, .gs 443 6] 1), (484, .cells [.fn 108 [] [.ptr 25 0, .ptr 26 0, .ptr 27 0, .ptr 484 0]])],
  .bool true, 2475,
  [(17, some (.map [(.agg [.int .i64 3, .int .i64 0], .int .i64 1), (.agg [.int .i64 3, .int .i64 1], .int .i64 2), (.agg [.int .i64 3, .int .i64 2], .int .i64 2), (.agg [.int .i64 2, .int .i64 0], .int .i64 2), (.agg [.int .i64 2, .int .i64 1], .int .i64 4), (.agg [.int .i64 2, .int .i64 2], .int .i64 4), (.agg [.int .i64 1, .int .i64 0], .int .i64 3), (.agg [.int .i64 1, .int .i64 1], .int .i64 6)]))]⟩
theorem x891_ok : XOK (evalB Tryd.prog gl0 tbl0 xt0 5000) x891 := fun base => ⟨by kernel_rfl, by kernel_rfl⟩

end Go.Proofs.YtdcgmacknccklaaDoor
