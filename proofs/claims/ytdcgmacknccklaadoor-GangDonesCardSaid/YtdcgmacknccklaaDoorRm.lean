/- The reference of layer 4: Done. -/
import Derived.Test.YtdcgmacknccklaaDoorRk
namespace Go.Proofs.YtdcgmacknccklaaDoor
open Go Go.RowKit

section
variable (B : Book) (pm pg pp : Option Addr) (cm cg cp n : Nat)

set_option maxRecDepth 100000 in
set_option maxHeartbeats 1000000 in
theorem rDone_no (w : World) (hlm : B.nm ≤ 9223372036854775807) (m c : Int) (q : Bool) (hq : inB m 0 (B.nm - 1) = q) (hr : ∀ W, Below w.heap.size w W → Calls Tryd.prog 50 #[.agg #[.slice pm B.nm cm, .slice pg B.ng cg, .int .i64 B.nights], .slice pp n cp, .bool q] W fun e w' => e = .returned (.int .i64 c) ∧ Below W.heap.size W w') (hc : (c == 0) = false) :
    Calls Tryd.prog 18 #[.agg #[.slice pm B.nm cm, .slice pg B.ng cg, .int .i64 B.nights], .slice pp n cp, .int .i64 m] w fun e w' => e = .returned (.tuple #[.agg #[.int .i64 0, .int .i64 0], .int .i64 c]) ∧ Below w.heap.size w w' := by
  have hW : Below w.heap.size w ((w.alloc (.cells #[.slice pm B.nm cm, .slice pg B.ng cg, .int .i64 B.nights] 25)).alloc (.cells #[.int .i64 0, .int .i64 0] 40)) := belowAlloc (belowAlloc (Below.refl _ _) _) _
  have hG0 := Lib.hid (show (((w.alloc (.cells #[.slice pm B.nm cm, .slice pg B.ng cg, .int .i64 B.nights] 25)).alloc (.cells #[.int .i64 0, .int .i64 0] 40))).heap[w.heap.size]? = _ from heap_alloc2_old w _ _)
  have hG1 := Lib.hid (show (((w.alloc (.cells #[.slice pm B.nm cm, .slice pg B.ng cg, .int .i64 B.nights] 25)).alloc (.cells #[.int .i64 0, .int .i64 0] 40))).heap[w.heap.size + 1]? = _ from heap_alloc2_new w _ _)
  have hSh := Lib.hid (show HeldZ ((w.alloc (.cells #[.slice pm B.nm cm, .slice pg B.ng cg, .int .i64 B.nights] 25)).alloc (.cells #[.int .i64 0, .int .i64 0] 40)) w.heap.size (.slice pm B.nm cm) (.slice pg B.ng cg) (.int .i64 B.nights) ((w.alloc (.cells #[.slice pm B.nm cm, .slice pg B.ng cg, .int .i64 B.nights] 25)).alloc (.cells #[.int .i64 0, .int .i64 0] 40)) from ⟨Below.refl _ _, by simp, by simp, by simp⟩)
  have hr := Lib.hid hr
  go_enter Tryd.func18, Tryd.ntmps18
  go_wp2_with fail
  go_region_held3 (fun w' => Below (((w.alloc (.cells #[.slice pm B.nm cm, .slice pg B.ng cg, .int .i64 B.nights] 25)).alloc (.cells #[.int .i64 0, .int .i64 0] 40))).heap.size ((w.alloc (.cells #[.slice pm B.nm cm, .slice pg B.ng cg, .int .i64 B.nights] 25)).alloc (.cells #[.int .i64 0, .int .i64 0] 40)) w' ∧ w'.cell? ⟨w.heap.size, 0, none⟩ = some (.slice pm B.nm cm) ∧ w'.cell? ⟨w.heap.size, 1, none⟩ = some (.slice pg B.ng cg) ∧ w'.cell? ⟨w.heap.size, 2, none⟩ = some (.int .i64 B.nights))
    (first | exact keepZ hSh.out (Below.drew (Below.refl _ _)) | exact keepZ hSh.out hB3 | exact keepZ hSh.out hB2)
    (first
      | (go_at_call 41; refine (hMile (show HeldZ ((w.alloc (.cells #[.slice pm B.nm cm, .slice pg B.ng cg, .int .i64 B.nights] 25)).alloc (.cells #[.int .i64 0, .int .i64 0] 40)) w.heap.size (.slice pm B.nm cm) (.slice pg B.ng cg) (.int .i64 B.nights) _ by assumption).1 hq hlm).mono ?_; rintro e w2 ⟨rfl, hB2⟩)
      | (go_at_call 50; refine (held (show HeldZ ((w.alloc (.cells #[.slice pm B.nm cm, .slice pg B.ng cg, .int .i64 B.nights] 25)).alloc (.cells #[.int .i64 0, .int .i64 0] 40)) w.heap.size (.slice pm B.nm cm) (.slice pg B.ng cg) (.int .i64 B.nights) _ by assumption).1 (hr.out _ (below_after hW (show HeldZ ((w.alloc (.cells #[.slice pm B.nm cm, .slice pg B.ng cg, .int .i64 B.nights] 25)).alloc (.cells #[.int .i64 0, .int .i64 0] 40)) w.heap.size (.slice pm B.nm cm) (.slice pg B.ng cg) (.int .i64 B.nights) _ by assumption).1))).mono ?_; rintro e w3 ⟨rfl, hB3⟩))
  (have k0 := Lib.hid ((hB3.block w.heap.size (by simp; omega)).trans hG0.out)); (have c0 : ∀ j, w3.cell? ⟨w.heap.size, j, none⟩ = _ := cell_of_heap k0.out); (have k1 := Lib.hid ((hB3.block (w.heap.size + 1) (by simp)).trans hG1.out)); (have c1 : ∀ j, w3.cell? ⟨w.heap.size + 1, j, none⟩ = _ := cell_of_heap k1.out); (have f1 : ∀ j, w3.frozen? ⟨w.heap.size + 1, j, none⟩ = false := frozen_of_heap k1.out)
  go_wp2_with fail
  (try simp only [Exit.inBlock, Exit.then])
  refine bodyPost_ret (results_cell_row_tmp rfl _ _ (w.heap.size + 1) #[.int .i64 0, .int .i64 0] rfl (run_loadVar_row _ _ 40 _ _ (0, 0) _ ?_ Tryd.underlying40 rfl (by kernel_rfl))) rfl ?_
  · first | exact k1.out | exact set_two rfl k1.out _ _
  · first | exact ⟨rfl, below_after hW hB3⟩ | exact ⟨rfl, below_two (below_after hW hB3) (by omega) _ _⟩

set_option maxRecDepth 100000 in
set_option maxHeartbeats 1000000 in
theorem rDone_plan (g : Nat → Nat → Int) (w : World) (hm : Sl w pm 3 B.nm B.mile) (hg : Sl w pg 4 B.ng B.gang) (hok : bookB B = true) (hp : Sl w pp 3 n g) (his : planB B n g = true) (m : Int) (hq : 0 ≤ m ∧ m ≤ B.nm - 1) :
    Calls Tryd.prog 18 #[.agg #[.slice pm B.nm cm, .slice pg B.ng cg, .int .i64 B.nights], .slice pp n cp, .int .i64 m] w fun e w' => e = .returned (.tuple #[.agg #[.int .i64 (doneF B 0 g m n), .int .i64 (doneF B 1 g m n)], .int .i64 0]) ∧ Below w.heap.size w w' := by
  have hbd := bookB_bd hok
  have hln := planB_len hbd.2.1.2 hbd.2.2.2 his
  have hf := Lib.hid (plan_fit hok his)
  have hqb : inB m 0 (B.nm - 1) = true := by simp only [inB, Bool.and_eq_true, decide_eq_true_eq]; omega
  have hW : Below w.heap.size w ((w.alloc (.cells #[.slice pm B.nm cm, .slice pg B.ng cg, .int .i64 B.nights] 25)).alloc (.cells #[.int .i64 0, .int .i64 0] 40)) := belowAlloc (belowAlloc (Below.refl _ _) _) _
  have hG0 := Lib.hid (show (((w.alloc (.cells #[.slice pm B.nm cm, .slice pg B.ng cg, .int .i64 B.nights] 25)).alloc (.cells #[.int .i64 0, .int .i64 0] 40))).heap[w.heap.size]? = _ from heap_alloc2_old w _ _)
  have hG1 := Lib.hid (show (((w.alloc (.cells #[.slice pm B.nm cm, .slice pg B.ng cg, .int .i64 B.nights] 25)).alloc (.cells #[.int .i64 0, .int .i64 0] 40))).heap[w.heap.size + 1]? = _ from heap_alloc2_new w _ _)
  have hSh := Lib.hid (show HeldZ ((w.alloc (.cells #[.slice pm B.nm cm, .slice pg B.ng cg, .int .i64 B.nights] 25)).alloc (.cells #[.int .i64 0, .int .i64 0] 40)) w.heap.size (.slice pm B.nm cm) (.slice pg B.ng cg) (.int .i64 B.nights) ((w.alloc (.cells #[.slice pm B.nm cm, .slice pg B.ng cg, .int .i64 B.nights] 25)).alloc (.cells #[.int .i64 0, .int .i64 0] 40)) from ⟨Below.refl _ _, by simp, by simp, by simp⟩)
  have hmW := hm.below hW
  have hgW := hg.below hW
  have hpW := hp.below hW
  go_enter Tryd.func18, Tryd.ntmps18
  go_wp2_with fail
  go_region_held3 (fun w' => Below (((w.alloc (.cells #[.slice pm B.nm cm, .slice pg B.ng cg, .int .i64 B.nights] 25)).alloc (.cells #[.int .i64 0, .int .i64 0] 40))).heap.size ((w.alloc (.cells #[.slice pm B.nm cm, .slice pg B.ng cg, .int .i64 B.nights] 25)).alloc (.cells #[.int .i64 0, .int .i64 0] 40)) w' ∧ w'.cell? ⟨w.heap.size, 0, none⟩ = some (.slice pm B.nm cm) ∧ w'.cell? ⟨w.heap.size, 1, none⟩ = some (.slice pg B.ng cg) ∧ w'.cell? ⟨w.heap.size, 2, none⟩ = some (.int .i64 B.nights))
    (first | exact keepZ hSh.out (Below.drew (Below.refl _ _)) | exact keepZ hSh.out hB3 | exact keepZ hSh.out hB2)
    (first
      | (go_at_call 41; refine (hMile (show HeldZ ((w.alloc (.cells #[.slice pm B.nm cm, .slice pg B.ng cg, .int .i64 B.nights] 25)).alloc (.cells #[.int .i64 0, .int .i64 0] 40)) w.heap.size (.slice pm B.nm cm) (.slice pg B.ng cg) (.int .i64 B.nights) _ by assumption).1 hqb (by omega)).mono ?_; rintro e w2 ⟨rfl, hB2⟩)
      | (go_at_call 50; refine (held (show HeldZ ((w.alloc (.cells #[.slice pm B.nm cm, .slice pg B.ng cg, .int .i64 B.nights] 25)).alloc (.cells #[.int .i64 0, .int .i64 0] 40)) w.heap.size (.slice pm B.nm cm) (.slice pg B.ng cg) (.int .i64 B.nights) _ by assumption).1 (asked_plan B pm pg pp cm cg cp n g _ true his (hmW.below (show HeldZ ((w.alloc (.cells #[.slice pm B.nm cm, .slice pg B.ng cg, .int .i64 B.nights] 25)).alloc (.cells #[.int .i64 0, .int .i64 0] 40)) w.heap.size (.slice pm B.nm cm) (.slice pg B.ng cg) (.int .i64 B.nights) _ by assumption).1) (hgW.below (show HeldZ ((w.alloc (.cells #[.slice pm B.nm cm, .slice pg B.ng cg, .int .i64 B.nights] 25)).alloc (.cells #[.int .i64 0, .int .i64 0] 40)) w.heap.size (.slice pm B.nm cm) (.slice pg B.ng cg) (.int .i64 B.nights) _ by assumption).1) hok (hpW.below (show HeldZ ((w.alloc (.cells #[.slice pm B.nm cm, .slice pg B.ng cg, .int .i64 B.nights] 25)).alloc (.cells #[.int .i64 0, .int .i64 0] 40)) w.heap.size (.slice pm B.nm cm) (.slice pg B.ng cg) (.int .i64 B.nights) _ by assumption).1) (by omega))).mono ?_; rintro e w3 ⟨rfl, hB3⟩))
  (have k0 := Lib.hid ((hB3.block w.heap.size (by simp; omega)).trans hG0.out)); (have c0 : ∀ j, w3.cell? ⟨w.heap.size, j, none⟩ = _ := cell_of_heap k0.out); (have k1 := Lib.hid ((hB3.block (w.heap.size + 1) (by simp)).trans hG1.out)); (have c1 : ∀ j, w3.cell? ⟨w.heap.size + 1, j, none⟩ = _ := cell_of_heap k1.out); (have f1 : ∀ j, w3.frozen? ⟨w.heap.size + 1, j, none⟩ = false := frozen_of_heap k1.out)
  clear c1 f1
  go_wp2_with (go_at_call 63; refine (rdone_any B pm pg pp cm cg cp _ (hgW.below hB3) hok n g (hpW.below hB3) (by omega) hf.out m).mono ?_; rintro e w4 ⟨rfl, hB4⟩; (have k2 := Lib.hid ((hB4.block (w.heap.size + 1) (Array.getElem?_eq_some_iff.1 k1.out).1).trans k1.out)); (have c2 : ∀ j, w4.cell? ⟨w.heap.size + 1, j, none⟩ = _ := cell_of_heap k2.out); (have f2 : ∀ j, w4.frozen? ⟨w.heap.size + 1, j, none⟩ = false := frozen_of_heap k2.out))
  (try simp only [Exit.inBlock, Exit.then])
  refine bodyPost_ret (results_cell_row_tmp rfl _ _ (w.heap.size + 1) #[.int .i64 (doneF B 0 g m n), .int .i64 (doneF B 1 g m n)] rfl (run_loadVar_row _ _ 40 _ _ (0, 0) _ (set_two rfl k2.out _ _) Tryd.underlying40 rfl (by kernel_rfl))) rfl ?_
  exact ⟨rfl, below_two (below_after (below_after hW hB3) hB4) (by omega) _ _⟩
end
end Go.Proofs.YtdcgmacknccklaaDoor
