/- What is held while Done of package gang works. Done of package gang, where there is no plan. -/
import Derived.Test.YtdcgmacknccklaaDoorDb
import Derived.Test.YtdcgmacknccklaaDoorRk
namespace Go.Proofs.YtdcgmacknccklaaDoor
open Go Go.RowKit

theorem index4 (d : Nat → Int) {m : Nat} (hm : m < 4) (w : World) : (Instr.index 80 (.agg #[.int .i64 (d 0), .int .i64 (d 1), .int .i64 (d 2), .int .i64 (d 3)]) (.int .i64 m)).run Tryd.prog w = .ok (.int .i64 (d m)) w := by
  obtain rfl | rfl | rfl | rfl : m = 0 ∨ m = 1 ∨ m = 2 ∨ m = 3 := by omega
  all_goals kernel_rfl

abbrev HeldS (W : World) (a b : Nat) (v0 v1 v2 : Value) (w' : World) : Prop := Below W.heap.size W w' ∧ (w'.cell? ⟨a, 0, none⟩ = some v0 ∧ w'.cell? ⟨a, 1, none⟩ = some v1 ∧ w'.cell? ⟨a, 2, none⟩ = some v2) ∧ w'.cell? ⟨b, 0, none⟩ = some (.int .i64 0) ∧ w'.cell? ⟨b, 1, none⟩ = some (.int .i64 0)

theorem keepS {W w' : World} {a b : Nat} {v0 v1 v2 : Value} (h : HeldS W a b v0 v1 v2 W) (hb : Below W.heap.size W w') : HeldS W a b v0 v1 v2 w' :=
  have lt : ∀ {c : Addr} {v : Value}, W.cell? c = some v → c.block < W.heap.size := fun h => World.block_lt_of_cell? W _ h
  ⟨hb, ⟨(hb.cell (lt h.2.1.1)).trans h.2.1.1, (hb.cell (lt h.2.1.2.1)).trans h.2.1.2.1, (hb.cell (lt h.2.1.2.2)).trans h.2.1.2.2⟩, (hb.cell (lt h.2.2.1)).trans h.2.2.1, (hb.cell (lt h.2.2.2)).trans h.2.2.2⟩

abbrev HeldU (a W : World) (t k : Nat) (v0 v1 v2 : Value) (w' : World) : Prop := Below a.heap.size a w' ∧ w'.cell? ⟨t, 0, none⟩ = some v0 ∧ w'.cell? ⟨t, 1, none⟩ = some v1 ∧ w'.cell? ⟨t, 2 + k, none⟩ = some v2

theorem keepU {a W w' : World} {t k : Nat} {v0 v1 v2 : Value} (h : HeldU a W t k v0 v1 v2 W) (hb : Below W.heap.size W w') : HeldU a W t k v0 v1 v2 w' :=
  have lt : ∀ {c : Addr} {v : Value}, W.cell? c = some v → c.block < W.heap.size := fun h => World.block_lt_of_cell? W _ h
  ⟨below_after h.1 hb, (hb.cell (lt h.2.1)).trans h.2.1, (hb.cell (lt h.2.2.1)).trans h.2.2.1, (hb.cell (lt h.2.2.2)).trans h.2.2.2⟩

theorem setU {a W w' : World} {t k : Nat} {v0 v1 v2 : Value} (h : HeldU a W t k v0 v1 v2 w') {x j : Nat} (hx : a.heap.size ≤ x) (hne : t ≠ x) (v : Value) : HeldU a W t k v0 v1 v2 (w'.setCell ⟨x, j, none⟩ v) := by
  have o : ∀ i, (w'.setCell ⟨x, j, none⟩ v).cell? ⟨t, i, none⟩ = w'.cell? ⟨t, i, none⟩ := fun i => World.cell?_setCell_other _ _ _ _ (by intro e; injection e with e; exact hne e.symm)
  exact ⟨h.1.setCell hx _, (o _).trans h.2.1, (o _).trans h.2.2.1, (o _).trans h.2.2.2⟩

/-- What holds of a world when a plan was read and Done looks at a mile. -/
structure DX (B : Book) (pm pg A : Option Addr) (cm cg bb bm n cp2 : Nat) (g : Nat → Nat → Int) (t8 k : Nat) (w W : World) : Prop where
  below : Below w.heap.size w W
  res : W.heap[w.heap.size + 1]? = some (.cells #[.int .i64 0, .int .i64 0] 40 (0, 0))
  c0 : W.cell? ⟨t8, 0, none⟩ = some (.pointer (some ⟨bb, 0, none⟩))
  c1 : W.cell? ⟨t8, 1, none⟩ = some (.slice A n cp2)
  c2 : W.cell? ⟨t8, 2 + k, none⟩ = some (.int .i64 (doneF B 0 g k n))
  pb : PB B pm pg cm cg bb bm W
  sl : Sl W A 3 n g
  gg : Sl W pg 4 B.ng B.gang

theorem done1_at {B : Book} {pm pg A : Option Addr} {cm cg bb bm n cp2 : Nat} {g : Nat → Nat → Int} {t8 k : Nat} {w W wc : World} (h : DX B pm pg A cm cg bb bm n cp2 g t8 k w W) (hb : Below W.heap.size W wc) (hok : bookB B = true) (hn : n ≤ 1000) (hf : Fit B n g) :
    Calls Tryd.prog 62 #[.pointer (some ⟨bb, 0, none⟩), .slice A n cp2, .int .i64 1] wc fun e w' => e = .returned (.agg #[.int .i64 (doneF B 1 g 0 n), .int .i64 (doneF B 1 g 1 n), .int .i64 (doneF B 1 g 2 n), .int .i64 (doneF B 1 g 3 n)]) ∧ Below W.heap.size W w' :=
  held hb (done_any B pm pg A cm cg cp2 bb bm wc (h.pb.below hb) (h.gg.below hb) hok n g (h.sl.below hb) hn hf 1 1 rfl (by omega))
end Go.Proofs.YtdcgmacknccklaaDoor

namespace Go.Proofs.YtdcgmacknccklaaDoor
open Go Go.RowKit

theorem heap_alloc_far {w : World} {o : Obj} {i : Nat} {x : Option Obj} (hi : i < w.heap.size) (h : w.heap[i]? = x) : (w.alloc o).heap[i]? = x := (by rw [heap_alloc_old]; exact h; exact hi)

theorem heap_six {w : World} {x b : Nat} {o : Option Obj} (hne : b ≠ x) (h : w.heap[b]? = o) {a0 a1 a2 a3 a4 a5 : Value} :
    ((((((w.setCell ⟨x, 0, none⟩ a0).setCell ⟨x, 1, none⟩ a1).setCell ⟨x, 2, none⟩ a2).setCell ⟨x, 3, none⟩ a3).setCell ⟨x, 4, none⟩ a4).setCell ⟨x, 5, none⟩ a5).heap[b]? = o := by
  rw [setCell_heap_other hne, setCell_heap_other hne, setCell_heap_other hne, setCell_heap_other hne, setCell_heap_other hne, setCell_heap_other hne, h]

section
variable (B : Book) (pm pg pp : Option Addr) (cm cg cp n : Nat) (w : World)

set_option maxRecDepth 100000 in
set_option maxHeartbeats 4000000 in
theorem Done_no (hlm : B.nm ≤ 9223372036854775807) (m c : Int) (q : Bool) (hq : inB m 0 (B.nm - 1) = q) (hr : ∀ W, Below w.heap.size w W → Calls Tryd.prog 47 #[.agg #[.slice pm B.nm cm, .slice pg B.ng cg, .int .i64 B.nights], .slice pp n cp, .bool q] W (NoPlan c W)) (hc : (c == 0) = false) :
    Calls Tryd.prog 17 #[.agg #[.slice pm B.nm cm, .slice pg B.ng cg, .int .i64 B.nights], .slice pp n cp, .int .i64 m] w fun e w' => e = .returned (.tuple #[.agg #[.int .i64 0, .int .i64 0], .int .i64 c]) ∧ Below w.heap.size w w' := by
  have hW : Below w.heap.size w ((w.alloc (.cells #[.slice pm B.nm cm, .slice pg B.ng cg, .int .i64 B.nights] 25)).alloc (.cells #[.int .i64 0, .int .i64 0] 40)) := belowAlloc (belowAlloc (Below.refl _ _) _) _
  have hG1 := Lib.hid (show (((w.alloc (.cells #[.slice pm B.nm cm, .slice pg B.ng cg, .int .i64 B.nights] 25)).alloc (.cells #[.int .i64 0, .int .i64 0] 40))).heap[w.heap.size + 1]? = _ from heap_alloc2_new w _ _)
  have hSh := Lib.hid (show HeldS ((w.alloc (.cells #[.slice pm B.nm cm, .slice pg B.ng cg, .int .i64 B.nights] 25)).alloc (.cells #[.int .i64 0, .int .i64 0] 40)) w.heap.size (w.heap.size + 1) (.slice pm B.nm cm) (.slice pg B.ng cg) (.int .i64 B.nights) ((w.alloc (.cells #[.slice pm B.nm cm, .slice pg B.ng cg, .int .i64 B.nights] 25)).alloc (.cells #[.int .i64 0, .int .i64 0] 40)) from ⟨Below.refl _ _, ⟨by simp, by simp, by simp⟩, by simp, by simp⟩)
  have hr := Lib.hid hr
  have hv := fun w => isNumber_is (w := w) hq (by omega) (by omega)
  go_enter Tryd.func17, Tryd.ntmps17
  go_wp2_with fail
  go_region_held3 (fun w' => Below (((w.alloc (.cells #[.slice pm B.nm cm, .slice pg B.ng cg, .int .i64 B.nights] 25)).alloc (.cells #[.int .i64 0, .int .i64 0] 40))).heap.size ((w.alloc (.cells #[.slice pm B.nm cm, .slice pg B.ng cg, .int .i64 B.nights] 25)).alloc (.cells #[.int .i64 0, .int .i64 0] 40)) w' ∧ (w'.cell? ⟨w.heap.size, 0, none⟩ = some (.slice pm B.nm cm) ∧ w'.cell? ⟨w.heap.size, 1, none⟩ = some (.slice pg B.ng cg) ∧ w'.cell? ⟨w.heap.size, 2, none⟩ = some (.int .i64 B.nights)) ∧ w'.cell? ⟨w.heap.size + 1, 0, none⟩ = some (.int .i64 0) ∧ w'.cell? ⟨w.heap.size + 1, 1, none⟩ = some (.int .i64 0))
    (first | exact keepS hSh.out (by repeat (first | (with_reducible exact Below.refl _ _) | (with_reducible refine Below.drew ?_) | (with_reducible refine belowAlloc ?_ _) | (with_reducible assumption) | (with_reducible refine Below.setCell ?_ (by simp; try omega) _))))
    (first
      | (go_at_call 35; refine (hv _).mono ?_; rintro e w2 ⟨rfl, rfl⟩)
      | (go_at_call 47; refine (hr.out _ (by repeat (first | (with_reducible exact hW) | (with_reducible refine Below.drew ?_) | (with_reducible refine belowAlloc ?_ _)))).mono ?_; rintro e w5 ⟨rfl, hB5⟩; (have hK : Below (((w.alloc (.cells #[.slice pm B.nm cm, .slice pg B.ng cg, .int .i64 B.nights] 25)).alloc (.cells #[.int .i64 0, .int .i64 0] 40))).heap.size ((w.alloc (.cells #[.slice pm B.nm cm, .slice pg B.ng cg, .int .i64 B.nights] 25)).alloc (.cells #[.int .i64 0, .int .i64 0] 40)) w5 := by refine below_after ?_ hB5; repeat (first | (with_reducible exact Below.refl _ _) | (with_reducible refine Below.drew ?_) | (with_reducible refine belowAlloc ?_ _) | (with_reducible assumption) | (with_reducible refine Below.setCell ?_ (by simp; try omega) _))); (have f5 : ∀ j, w5.frozen? ⟨w.heap.size + 1, j, none⟩ = false := fun j => (hK.frozen (p := ⟨w.heap.size + 1, j, none⟩) (by simp)).trans (frozen_of_heap hG1.out j)); (have hz6 : w.heap.size + 1 < w5.heap.size := by have := hK.size; simp at this; omega); obtain ⟨hc5, hz5⟩ := bcell hB5))
  · go_wp2_with fail
    have kz := (hK.block (w.heap.size + 1) (by simp)).trans hG1.out
    have hKW := below_after hW hK
    clear hK hB5 hc5 hz5
    (try simp only [Exit.inBlock, Exit.then])
    refine bodyPost_ret (results_cell_row_tmp rfl _ _ (w.heap.size + 1) #[.int .i64 0, .int .i64 0] rfl (run_loadVar_row _ _ 40 _ _ (0, 0) _ (heap_alloc_far (by simpa [World.setCell] using hz6) (set_two rfl kz _ _)) Tryd.underlying40 rfl (by kernel_rfl))) rfl ?_
    exact ⟨rfl, belowAlloc (below_two hKW (by omega) _ _) _⟩
  all_goals
    go_wp2_with fail
    have kz := (hK.block (w.heap.size + 1) (by simp)).trans hG1.out
    have hKW := below_after hW hK
    clear hK hB5 hc5 hz5
    (try simp only [Exit.inBlock, Exit.then])
    refine bodyPost_ret (results_cell_row_tmp rfl _ _ (w.heap.size + 1) #[.int .i64 0, .int .i64 0] rfl (run_loadVar_row _ _ 40 _ _ (0, 0) _ (set_two rfl (heap_six (x := w.heap.size + 1 + 1) (by omega) kz) _ _) Tryd.underlying40 rfl (by kernel_rfl))) rfl ?_
    exact ⟨rfl, below_two (below_six (x := w.heap.size + 1 + 1) hKW (by omega) _ _ _ _ _ _) (by omega) _ _⟩
end
end Go.Proofs.YtdcgmacknccklaaDoor

