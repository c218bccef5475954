/- read of package gang: a plan, or why there is none. -/
import Derived.Test.YtdcgmacknccklaaDoorGl
import Derived.Laws.ResultCell
namespace Go.Proofs.YtdcgmacknccklaaDoor
open Go Go.RowKit

theorem results_cell_row_tmp {fn : Func} {p u : Tmp} {ty : TypeId} (h : fn.results = #[.cell p ty, .tmp u]) {P : Program} (tmps : Array Value) (w : World) (g : Nat) (cs : Array Value)
    (hp : tmps.getD p undef = .pointer (some ⟨g, 0, none⟩)) (hl : (loadVar ty ⟨g, 0, none⟩).run P w = .ok (.agg cs) w) :
    (results fn tmps).run P w = .ok (.tuple #[.agg cs, tmps.getD u undef]) w := by
  rw [results_cell_tmp h, hp]
  simp [asAddr, hl, Result.andThen]

/-- No plan, and why. -/
def NoPlan (c : Int) (w : World) (e : Ending) (w' : World) : Prop := e = .returned (.tuple #[.agg #[.pointer none, .slice none 0 0, .int .i64 0, .int .i64 0, .int .i64 0, .int .i64 0], .int .i64 c]) ∧ Below w.heap.size w w'

theorem below_six {a W : World} {x : Nat} (h : Below a.heap.size a W) (hx : a.heap.size ≤ x) (b0 b1 b2 b3 b4 b5 : Value) :
    Below a.heap.size a ((((((W.setCell ⟨x, 0, none⟩ b0).setCell ⟨x, 1, none⟩ b1).setCell ⟨x, 2, none⟩ b2).setCell ⟨x, 3, none⟩ b3).setCell ⟨x, 4, none⟩ b4).setCell ⟨x, 5, none⟩ b5) :=
  (((((h.setCell hx _).setCell hx _).setCell hx _).setCell hx _).setCell hx _).setCell hx _

theorem sl_six {w : World} {x : Nat} {p : Option Addr} {k n : Nat} {g : Nat → Nat → Int} (h : Sl w p k n g) (hne : ∀ k', p = some k' → k'.block ≠ x) (b0 b1 b2 b3 b4 b5 : Value) :
    Sl ((((((w.setCell ⟨x, 0, none⟩ b0).setCell ⟨x, 1, none⟩ b1).setCell ⟨x, 2, none⟩ b2).setCell ⟨x, 3, none⟩ b3).setCell ⟨x, 4, none⟩ b4).setCell ⟨x, 5, none⟩ b5) p k n g := by
  have h2 : ∀ j k', p = some k' → k'.block ≠ (⟨x, j, none⟩ : Addr).block := fun j k' e => hne k' e
  exact (((((h.set (h2 0) _).set (h2 1) _).set (h2 2) _).set (h2 3) _).set (h2 4) _).set (h2 5) _

theorem PB.set {B : Book} {pm pg : Option Addr} {cm cg bb bm : Nat} {w : World} (h : PB B pm pg cm cg bb bm w) {a : Addr} (hne : bb ≠ a.block) (v : Value) : PB B pm pg cm cg bb bm (w.setCell a v) :=
  ⟨by simpa [World.setCell] using h.1, fun j => by rw [World.cell?_setCell_other _ _ _ _ (by intro e; subst e; exact hne rfl)]; exact h.2 j⟩

theorem pb_six {B : Book} {pm pg : Option Addr} {cm cg bb bm : Nat} {w : World} {x : Nat} (h : PB B pm pg cm cg bb bm w) (hne : bb ≠ x) (b0 b1 b2 b3 b4 b5 : Value) :
    PB B pm pg cm cg bb bm ((((((w.setCell ⟨x, 0, none⟩ b0).setCell ⟨x, 1, none⟩ b1).setCell ⟨x, 2, none⟩ b2).setCell ⟨x, 3, none⟩ b3).setCell ⟨x, 4, none⟩ b4).setCell ⟨x, 5, none⟩ b5) := by
  have h2 : ∀ j, bb ≠ (⟨x, j, none⟩ : Addr).block := fun j => hne
  exact (((((h.set (h2 0) _).set (h2 1) _).set (h2 2) _).set (h2 3) _).set (h2 4) _).set (h2 5) _

/-- The heap while read looks at a book. -/
abbrev RW0 (w : World) (v0 v1 v2 : Value) : World := (w.alloc (.cells #[v0, v1, v2] 25)).alloc (.cells #[.pointer none, .slice none 0 0, .int .i64 0, .int .i64 0, .int .i64 0, .int .i64 0] 82)

theorem isPlan_held {W wc : World} (hb : Below W.heap.size W wc) {B : Book} {pm pg pp : Option Addr} {cm cg cp bb bm : Nat} {n : Nat} {g : Nat → Nat → Int} {v : Bool} (h : planB B n g = v)
    (hP : PB B pm pg cm cg bb bm W) (hm : Sl W pm 3 B.nm B.mile) (hg : Sl W pg 4 B.ng B.gang) (hok : bookB B = true) (hN : NB W) (hp : Sl W pp 3 n g) (hn : n ≤ cp) (hc : cp ≤ 9223372036854775807) :
    Calls Tryd.prog 45 #[.pointer (some ⟨bb, 0, none⟩), .slice pp n cp] wc fun e w' => e = .returned (.bool v) ∧ Below W.heap.size W w' :=
  held hb (h ▸ isPlan_any B pm pg pp cm cg cp bb bm wc (hP.below hb) (hm.below hb) (hg.below hb) hok (hN.below hb) n g (hp.below hb) hn hc)

theorem plan_fit {B : Book} (hok : bookB B = true) {n : Nat} {g : Nat → Nat → Int} (h : planB B n g = true) : Fit B n g := fun i hi => by
  have h1 := ((planB_steps (bookB_bd hok).2.1.2).1 h i hi).1
  have h2 := solo_in h1
  have h3 := solo_mile hok h1
  omega

section
variable (B : Book) (pm pg pp : Option Addr) (cm cg cp n : Nat) (w : World)

set_option maxRecDepth 100000 in
theorem read_no_book (hm : Sl w pm 3 B.nm B.mile) (hg : Sl w pg 4 B.ng B.gang) (hlm : B.nm ≤ 9223372036854775807) (hno : bookB B = false) (q : Bool) :
    Calls Tryd.prog 47 #[.agg #[.slice pm B.nm cm, .slice pg B.ng cg, .int .i64 B.nights], .slice pp n cp, .bool q] w (NoPlan 40 w) := by
  have hW : Below w.heap.size w (RW0 w (.slice pm B.nm cm) (.slice pg B.ng cg) (.int .i64 B.nights)) := belowAlloc (belowAlloc (Below.refl _ _) _) _
  have hG := Lib.hid (show ((RW0 w (.slice pm B.nm cm) (.slice pg B.ng cg) (.int .i64 B.nights))).heap[w.heap.size + 1]? = _ from heap_alloc2_new w _ _)
  go_enter Tryd.func47, Tryd.ntmps47
  go_wp2_with (go_at_call 10; refine (Check_any B _ _ _ _ _ (hm.below hW) (hg.below hW) hlm).mono ?_; rintro e w1 ⟨rfl, hB1⟩; simp only [hno]; (have k1 := Lib.hid ((hB1.block (w.heap.size + 1) (by simp)).trans hG.out)); (have c1 : ∀ j, w1.cell? ⟨w.heap.size + 1, j, none⟩ = _ := cell_of_heap k1.out); (have f1 : ∀ j, w1.frozen? ⟨w.heap.size + 1, j, none⟩ = false := frozen_of_heap k1.out))
  (try simp only [Exit.inBlock, Exit.then])
  refine bodyPost_ret (results_cell_row_tmp rfl _ _ (w.heap.size + 1) #[.pointer none, .slice none 0 0, .int .i64 0, .int .i64 0, .int .i64 0, .int .i64 0] rfl (run_loadVar_row _ _ 82 _ _ (0, 0) _ (set_six rfl k1.out _ _ _ _ _ _) Tryd.underlying82 rfl (by kernel_rfl))) rfl ?_
  exact ⟨rfl, below_six (hW.trans (hB1.mono hW.size)) (by omega) _ _ _ _ _ _⟩

set_option maxRecDepth 100000 in
theorem read_no_ask (hm : Sl w pm 3 B.nm B.mile) (hg : Sl w pg 4 B.ng B.gang) (hok : bookB B = true) :
    Calls Tryd.prog 47 #[.agg #[.slice pm B.nm cm, .slice pg B.ng cg, .int .i64 B.nights], .slice pp n cp, .bool false] w (NoPlan 41 w) := by
  have hbd := bookB_bd hok
  have hW : Below w.heap.size w (RW0 w (.slice pm B.nm cm) (.slice pg B.ng cg) (.int .i64 B.nights)) := belowAlloc (belowAlloc (Below.refl _ _) _) _
  have hG := Lib.hid (show ((RW0 w (.slice pm B.nm cm) (.slice pg B.ng cg) (.int .i64 B.nights))).heap[w.heap.size + 1]? = _ from heap_alloc2_new w _ _)
  have hH := Lib.hid (show ((RW0 w (.slice pm B.nm cm) (.slice pg B.ng cg) (.int .i64 B.nights))).heap[w.heap.size]? = _ from heap_alloc2_old w _ _)
  go_enter Tryd.func47, Tryd.ntmps47
  go_wp2_with (first
    | (go_at_call 10; refine (Check_any B _ _ _ _ _ (hm.below hW) (hg.below hW) (by omega)).mono ?_; rintro e w1 ⟨rfl, hB1⟩; simp only [hok]; (have k0 := Lib.hid ((hB1.block w.heap.size (by simp; omega)).trans hH.out)); (have c0 : ∀ j, w1.cell? ⟨w.heap.size, j, none⟩ = _ := cell_of_heap k0.out))
    | (go_at_call 36; refine (prepare_any B _ _ _ _ _).mono ?_; rintro e w2 ⟨bb, bm, rfl, hbb, hPB, hmap, hbm, hne, hB2⟩; (have hB3 := hB1.trans (hB2.mono hB1.size)); (have k1 := Lib.hid ((hB3.block (w.heap.size + 1) (by simp)).trans hG.out)); (have c1 : ∀ j, w2.cell? ⟨w.heap.size + 1, j, none⟩ = _ := cell_of_heap k1.out); (have f1 : ∀ j, w2.frozen? ⟨w.heap.size + 1, j, none⟩ = false := frozen_of_heap k1.out)))
  (try simp only [Exit.inBlock, Exit.then])
  refine bodyPost_ret (results_cell_row_tmp rfl _ _ (w.heap.size + 1) #[.pointer none, .slice none 0 0, .int .i64 0, .int .i64 0, .int .i64 0, .int .i64 0] rfl (run_loadVar_row _ _ 82 _ _ (0, 0) _ (set_six rfl k1.out _ _ _ _ _ _) Tryd.underlying82 rfl (by kernel_rfl))) rfl ?_
  exact ⟨rfl, below_six (hW.trans (hB3.mono hW.size)) (by omega) _ _ _ _ _ _⟩

set_option maxRecDepth 100000 in
theorem read_no_plan (hm : Sl w pm 3 B.nm B.mile) (hg : Sl w pg 4 B.ng B.gang) (hok : bookB B = true) (hN : NB w) (g : Nat → Nat → Int) (hp : Sl w pp 3 n g) (hn : n ≤ cp) (hc : cp ≤ 9223372036854775807) (hno : planB B n g = false) :
    Calls Tryd.prog 47 #[.agg #[.slice pm B.nm cm, .slice pg B.ng cg, .int .i64 B.nights], .slice pp n cp, .bool true] w (NoPlan 41 w) := by
  have hbd := bookB_bd hok
  have hW : Below w.heap.size w (RW0 w (.slice pm B.nm cm) (.slice pg B.ng cg) (.int .i64 B.nights)) := belowAlloc (belowAlloc (Below.refl _ _) _) _
  have hG := Lib.hid (show ((RW0 w (.slice pm B.nm cm) (.slice pg B.ng cg) (.int .i64 B.nights))).heap[w.heap.size + 1]? = _ from heap_alloc2_new w _ _)
  have hH := Lib.hid (show ((RW0 w (.slice pm B.nm cm) (.slice pg B.ng cg) (.int .i64 B.nights))).heap[w.heap.size]? = _ from heap_alloc2_old w _ _)
  go_enter Tryd.func47, Tryd.ntmps47
  go_wp2_with (first
    | (go_at_call 10; refine (Check_any B _ _ _ _ _ (hm.below hW) (hg.below hW) (by omega)).mono ?_; rintro e w1 ⟨rfl, hB1⟩; simp only [hok]; (have k0 := Lib.hid ((hB1.block w.heap.size (by simp; omega)).trans hH.out)); (have c0 : ∀ j, w1.cell? ⟨w.heap.size, j, none⟩ = _ := cell_of_heap k0.out))
    | (go_at_call 36; refine (prepare_any B _ _ _ _ _).mono ?_; rintro e w2 ⟨bb, bm, rfl, hbb, hPB, hmap, hbm, hne, hB2⟩; (have hB3 := hB1.trans (hB2.mono hB1.size)); (have hW3 := hW.trans (hB3.mono hW.size)))
    | (go_at_call 45; refine (isPlan_held (Below.refl _ _) hno hPB (hm.below hW3) (hg.below hW3) hok (hN.below hW3) (hp.below hW3) hn hc).mono ?_; rintro e w4 ⟨rfl, hB4⟩; (have hB5 := hB3.trans (hB4.mono hB3.size)); (have k1 := Lib.hid ((hB5.block (w.heap.size + 1) (by simp)).trans hG.out)); (have c1 : ∀ j, w4.cell? ⟨w.heap.size + 1, j, none⟩ = _ := cell_of_heap k1.out); (have f1 : ∀ j, w4.frozen? ⟨w.heap.size + 1, j, none⟩ = false := frozen_of_heap k1.out)))
  (try simp only [Exit.inBlock, Exit.then])
  refine bodyPost_ret (results_cell_row_tmp rfl _ _ (w.heap.size + 1) #[.pointer none, .slice none 0 0, .int .i64 0, .int .i64 0, .int .i64 0, .int .i64 0] rfl (run_loadVar_row _ _ 82 _ _ (0, 0) _ (set_six rfl k1.out _ _ _ _ _ _) Tryd.underlying82 rfl (by kernel_rfl))) rfl ?_
  exact ⟨rfl, below_six (hW.trans (hB5.mono hW.size)) (by omega) _ _ _ _ _ _⟩

/-- A plan that was read. -/
def ReadIs (g : Nat → Nat → Int) (e : Ending) (w' : World) : Prop :=
  ∃ bb bm A cp2, e = .returned (.tuple #[.agg #[.pointer (some ⟨bb, 0, none⟩), .slice A n cp2, .int .i64 (doneF B 0 g 0 n), .int .i64 (doneF B 0 g 1 n), .int .i64 (doneF B 0 g 2 n), .int .i64 (doneF B 0 g 3 n)], .int .i64 0]) ∧ PB B pm pg cm cg bb bm w' ∧ n ≤ cp2 ∧ cp2 ≤ 9223372036854775807 ∧ (A = none → cp2 = 0) ∧ Sl w' A 3 n g ∧ (∀ k, A = some k → w.heap.size ≤ k.block) ∧ w.heap.size ≤ bb ∧ Below w.heap.size w w'

set_option maxRecDepth 100000 in
set_option maxHeartbeats 1000000 in
theorem read_plan (hm : Sl w pm 3 B.nm B.mile) (hg : Sl w pg 4 B.ng B.gang) (hok : bookB B = true) (hN : NB w) (g : Nat → Nat → Int) (hp : Sl w pp 3 n g) (hn : n ≤ cp) (hc : cp ≤ 9223372036854775807) (hcp : pp = none → cp = 0) (his : planB B n g = true) :
    Calls Tryd.prog 47 #[.agg #[.slice pm B.nm cm, .slice pg B.ng cg, .int .i64 B.nights], .slice pp n cp, .bool true] w (ReadIs B pm pg cm cg n w g) := by
  have hbd := bookB_bd hok
  have hf := Lib.hid (plan_fit hok his)
  have hln := planB_len hbd.2.1.2 hbd.2.2.2 his
  have hW : Below w.heap.size w (RW0 w (.slice pm B.nm cm) (.slice pg B.ng cg) (.int .i64 B.nights)) := belowAlloc (belowAlloc (Below.refl _ _) _) _
  have hG := Lib.hid (show ((RW0 w (.slice pm B.nm cm) (.slice pg B.ng cg) (.int .i64 B.nights))).heap[w.heap.size + 1]? = _ from heap_alloc2_new w _ _)
  have hH := Lib.hid (show ((RW0 w (.slice pm B.nm cm) (.slice pg B.ng cg) (.int .i64 B.nights))).heap[w.heap.size]? = _ from heap_alloc2_old w _ _)
  have hcp := Lib.hid hcp
  go_enter Tryd.func47, Tryd.ntmps47
  go_wp2_with (first
    | (go_at_call 10; refine (Check_any B _ _ _ _ _ (hm.below hW) (hg.below hW) (by omega)).mono ?_; rintro e w1 ⟨rfl, hB1⟩; simp only [hok]; (have k0 := Lib.hid ((hB1.block w.heap.size (by simp; omega)).trans hH.out)); (have c0 : ∀ j, w1.cell? ⟨w.heap.size, j, none⟩ = _ := cell_of_heap k0.out))
    | (go_at_call 36; refine (prepare_any B _ _ _ _ _).mono ?_; rintro e w2 ⟨bb, bm, rfl, hbb, hPB, hmap, hbm, hne, hB2⟩; (have hB3 := hB1.trans (hB2.mono hB1.size)); (have hW3 := hW.trans (hB3.mono hW.size)))
    | (go_at_call 45; refine (isPlan_held (Below.refl _ _) his hPB (hm.below hW3) (hg.below hW3) hok (hN.below hW3) (hp.below hW3) hn hc).mono ?_; rintro e w4 ⟨rfl, hB4⟩; (have hB5 := hB3.trans (hB4.mono hB3.size)); (have hW5 := hW.trans (hB5.mono hW.size)))
    | (go_at_call 75; refine (and_any B pm pg pp cm cg cp bb bm _ (hPB.below hB4) (hg.below hW5) hok n g (hp.below hW5) hcp.out (by omega) hf.out).mono ?_; rintro e w6 ⟨A, cp2, rfl, p1, p2, p3, p4, p5, hB6⟩; (have hB7 := hB5.trans (hB6.mono hB5.size)); (have k1 := Lib.hid ((hB7.block (w.heap.size + 1) (by simp)).trans hG.out)); (have c1 : ∀ j, w6.cell? ⟨w.heap.size + 1, j, none⟩ = _ := cell_of_heap k1.out); (have f1 : ∀ j, w6.frozen? ⟨w.heap.size + 1, j, none⟩ = false := frozen_of_heap k1.out)))
  (try simp only [Exit.inBlock, Exit.then])
  have hz1 := hB1.size
  have hz2 := hB3.size
  have hz4 := hB5.size
  have hz6 := hB6.size
  simp only [World.size_alloc] at hz1 hz2 hz4
  refine bodyPost_ret (results_cell_row_tmp rfl _ _ (w.heap.size + 1) #[.pointer (some ⟨bb, 0, none⟩), .slice A n cp2, .int .i64 (doneF B 0 g 0 n), .int .i64 (doneF B 0 g 1 n), .int .i64 (doneF B 0 g 2 n), .int .i64 (doneF B 0 g 3 n)] rfl (run_loadVar_row _ _ 82 _ _ (0, 0) _ (set_six rfl k1.out _ _ _ _ _ _) Tryd.underlying82 rfl (by kernel_rfl))) rfl ?_
  exact ⟨bb, bm, A, cp2, rfl, pb_six ((hPB.below hB4).below hB6) (by omega) _ _ _ _ _ _, p1, p2, p3, sl_six p4 (fun k hk => by have := p5 k hk; omega) _ _ _ _ _ _, (fun k hk => by have := p5 k hk; omega), (by omega), below_six (hW.trans (hB7.mono hW.size)) (by omega) _ _ _ _ _ _⟩
end
end Go.Proofs.YtdcgmacknccklaaDoor
