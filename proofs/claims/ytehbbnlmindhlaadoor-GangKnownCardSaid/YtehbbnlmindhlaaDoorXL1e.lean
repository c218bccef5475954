/-
  Calls that are known, or carried out elsewhere, level 1: each is carried out as its row says.
-/
import Derived.Test.YtehbbnlmindhlaaDoorXBase
import Derived.KernelRfl
namespace Go.Proofs.YtehbbnlmindhlaaDoor
open Go Go.Ev

set_option maxRecDepth 100000

noncomputable def x8897 : XEnt := ⟨3, 70, 1419, [.int .i64 1, .agg [.ptr 18 0, .gs 1410 1, .int .i64 1, .int .i64 0, .int .i64 0, .int .i64 0], .ptr 25 0, .ptr 26 0, .ptr 27 0, .ptr 410 0],
  [(0, .ro [.int .i64 (-1), .int .i64 0, .int .i64 1]), (1, .ro [.int .i64 2, .int .i64 3, .int .i64 0, .int .i64 1, .int .i64 2, .int .i64 1, .int .i64 2, .int .i64 2, .int .i64 2]), (2, .ro [.int .i64 0, .int .i64 1, .int .i64 1, .int .i64 2, .int .i64 1, .int .i64 1, .int .i64 2, .int .i64 2]), (17, .map [(.agg [.int .i64 3, .int .i64 0], .int .i64 1), (.agg [.int .i64 3, .int .i64 1], .int .i64 2), (.agg [.int .i64 2, .int .i64 0], .int .i64 2), (.agg [.int .i64 2, .int .i64 1], .int .i64 4), (.agg [.int .i64 1, .int .i64 0], .int .i64 3), (.agg [.int .i64 1, .int .i64 1], .int .i64 6), (.agg [.int .i64 0, .int .i64 0], .int .i64 4)]), (18, .cells [.sl 1 0 3 3, .sl 2 0 2 2, .int .i64 4, .map 17]), (20, .cells [.fn 57 [] [], .fn 58 [] []]), (21, .cells [.nilp, .nils, .int .i64 0, .int .i64 0, .int .i64 0, .int .i64 0]), (22, .cells [.bool false]), (23, .dfr), (24, loopO Tryd.prog 38 0 .ready [(0, .ptr 18 0), (1, .agg [.fn 57 [] [], .fn 58 [] []]), (3, .ptr 20 0), (7, .ptr 18 0), (5, .ptr 22 0), (4, .ptr 21 0), (8, .fn 56 [.ptr 18 0] [])] 28 23), (25, .cells [.ptr 18 0]), (26, .cells [.yld 24]), (27, .cells [.gs 409 4]), (36, .grown [.int .i64 0, .int .i64 0, .int .i64 0] 3), (38, .tip [.nils, .gs 36 1] 1), (97, .grown [.int .i64 1, .int .i64 0, .int .i64 0] 3), (107, .grown [.int .i64 1, .int .i64 0, .int .i64 1] 3), (129, .grown [.int .i64 1, .int .i64 1, .int .i64 1] 3), (131, .tip [.nils, .gs 97 1, .gs 107 1, .gs 129 1] 1), (204, .grown [.int .i64 2, .int .i64 0, .int .i64 0] 3), (214, .grown [.int .i64 2, .int .i64 0, .int .i64 1] 3), (236, .grown [.int .i64 2, .int .i64 1, .int .i64 1] 3), (238, .tip [.nils, .gs 204 1, .gs 214 1, .gs 236 1] 1), (311, .grown [.int .i64 3, .int .i64 0, .int .i64 0] 3), (321, .grown [.int .i64 3, .int .i64 0, .int .i64 1] 3), (343, .grown [.int .i64 3, .int .i64 1, .int .i64 1] 3), (345, .tip [.nils, .gs 311 1, .gs 321 1, .gs 343 1] 1), (409, .tip [.gs 38 2, .gs 131 4, .gs 238 4, .gs 345 4] 1), (410, .cells [.fn 70 [] [.ptr 25 0, .ptr 26 0, .ptr 27 0, .ptr 410 0]]), (1410, .grown [.int .i64 0, .int .i64 0, .int .i64 0] 3)],
  .bool true, 2650,
  []⟩
theorem x8897_ok : XOK (evalB Tryd.prog gl0 tbl0 xt0 5000) x8897 := fun base => ⟨by kernel_rfl, by kernel_rfl⟩

end Go.Proofs.YtehbbnlmindhlaaDoor
