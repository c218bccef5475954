/- and of package gang: a plan with works behind its own, from no works on. -/
import Derived.Test.YtdcgmacknccklaaDoorGj
import Derived.Laws.AppendOwnNone
namespace Go.Proofs.YtdcgmacknccklaaDoor
open Go Go.RowKit

/-- The cells of n rows of three numbers. -/
def fl (g : Nat → Nat → Int) : Nat → List Value
  | 0 => []
  | n + 1 => fl g n ++ [.int .i64 (g n 0), .int .i64 (g n 1), .int .i64 (g n 2)]

theorem fl_length (g : Nat → Nat → Int) : ∀ n, (fl g n).length = n * 3
  | 0 => rfl
  | n + 1 => by simp only [fl, List.length_append, fl_length g n, List.length_cons, List.length_nil]; omega

theorem fl_at (g : Nat → Nat → Int) : ∀ n i, i < n → ∀ j, j < 3 → (fl g n)[i * 3 + j]? = some (.int .i64 (g i j))
  | 0, _, h, _, _ => absurd h (by omega)
  | n + 1, i, h, j, hj => by
    rcases Nat.lt_or_ge i n with h1 | h1
    · rw [fl, List.getElem?_append_left (by rw [fl_length]; omega)]
      exact fl_at g n i h1 j hj
    · obtain rfl : i = n := by omega
      rw [fl, List.getElem?_append_right (by rw [fl_length]; omega), fl_length, Nat.add_sub_cancel_left]
      obtain rfl | rfl | rfl : j = 0 ∨ j = 1 ∨ j = 2 := by omega
      all_goals rfl

theorem fl_one (g : Nat → Nat → Int) : ∀ n, ∀ u ∈ fl g n, u.oneCell' = true
  | 0, u, h => by simp [fl] at h
  | n + 1, u, h => by
    simp only [fl, List.mem_append, List.mem_cons, List.not_mem_nil, or_false] at h
    rcases h with h | rfl | rfl | rfl
    · exact fl_one g n u h
    all_goals rfl

theorem sl_cells {w : World} {p : Option Addr} {n : Nat} {g : Nat → Nat → Int} (h : Sl w p 3 n g) {a : Addr} (e : p = some a) : ∀ j u, (fl g n)[j]? = some u → w.cell? (a.add j) = some u := by
  intro j u hu
  have hl : j < n * 3 := by have := (List.getElem?_eq_some_iff.1 hu).1; rwa [fl_length] at this
  obtain ⟨b, off, hp, _, hc⟩ := h (by omega)
  rw [e] at hp
  obtain rfl := Option.some.inj hp
  have e1 : j = j / 3 * 3 + j % 3 := by omega
  have h1 := hc (j / 3) (by omega) (j % 3) (by omega)
  have h2 := fl_at g n (j / 3) (by omega) (j % 3) (by omega)
  rw [← e1, hu] at h2
  obtain rfl := Option.some.inj h2
  have e2 : (⟨b, off, none⟩ : Addr).add j = ⟨b, off + j / 3 * 3 + j % 3, none⟩ := by
    rw [show off + j / 3 * 3 + j % 3 = off + j by omega]
    unfold Addr.add
    split
    · rename_i h0; subst h0; rfl
    · rfl
  rw [e2]
  exact h1

/-- What append has made: a slice of the call's own. -/
theorem sl_of_own3 {w : World} {base : Nat} {e : TypeId} {v : Value} {n : Nat} {g : Nat → Nat → Int} (h : w.ownsRow base e 3 v n (fl g n)) :
    ∃ A c, v = .slice A n c ∧ n ≤ c ∧ c ≤ 9223372036854775807 ∧ (A = none → c = 0) ∧ Sl w A 3 n g ∧ ∀ k, A = some k → base ≤ k.block ∧ k.block < w.heap.size := by
  rcases h.2 with ⟨rfl, h0⟩ | ⟨b, c, cur, rfl, hb, h2, h3, h4, _⟩
  · exact ⟨none, 0, by rw [h0], by omega, by omega, fun _ => rfl, fun hn => absurd hn (by omega), fun k hk => by cases hk⟩
  · have hlt := (Array.getElem?_eq_some_iff.1 h2).1
    unfold maxLen at h4
    refine ⟨some ⟨b, 0, none⟩, c, rfl, h3, by omega, (fun h => by cases h), (fun _ => ⟨b, 0, rfl, hlt, fun i hi j hj => ?_⟩), (fun k hk => by cases hk; exact ⟨hb, hlt⟩)⟩
    have := h.cells (g := b) rfl (i * 3 + j) _ (fl_at g n i hi j hj)
    have e2 : (⟨b, 0, none⟩ : Addr).add (i * 3 + j) = ⟨b, 0 + i * 3 + j, none⟩ := by unfold Addr.add; split <;> simp_all
    rwa [e2] at this

theorem infoW : (Tryd.prog.info? 54).map (fun i => (i.zero, i.size, i.bytes)) = some (some (.agg #[.int .i64 0, .int .i64 0, .int .i64 0]), 3, 24) := by kernel_rfl

def PlanIs (B : Book) (bb n : Nat) (g : Nat → Nat → Int) (w : World) (e : Ending) (w' : World) : Prop :=
  ∃ A cp2, e = .returned (.agg #[.pointer (some ⟨bb, 0, none⟩), .slice A n cp2, .int .i64 (doneF B 0 g 0 n), .int .i64 (doneF B 0 g 1 n), .int .i64 (doneF B 0 g 2 n), .int .i64 (doneF B 0 g 3 n)]) ∧ n ≤ cp2 ∧ cp2 ≤ 9223372036854775807 ∧ (A = none → cp2 = 0) ∧ Sl w' A 3 n g ∧ (∀ k, A = some k → w.heap.size ≤ k.block) ∧ Below w.heap.size w w'

theorem done_is (B : Book) (pm pg pp : Option Addr) (cm cg cp bb bm : Nat) (W wc : World) (hb : Below W.heap.size W wc) (hP : PB B pm pg cm cg bb bm W) (hg : Sl W pg 4 B.ng B.gang) (hok : bookB B = true) (n : Nat) (g : Nat → Nat → Int) (hp : Sl W pp 3 n g) (hn : n ≤ 1000) (hf : Fit B n g) :
    Calls Tryd.prog 62 #[.pointer (some ⟨bb, 0, none⟩), .slice pp n cp, .int .i64 0] wc fun e w' => e = .returned (.agg #[.int .i64 (doneF B 0 g 0 n), .int .i64 (doneF B 0 g 1 n), .int .i64 (doneF B 0 g 2 n), .int .i64 (doneF B 0 g 3 n)]) ∧ Below W.heap.size W w' :=
  held hb (done_any B pm pg pp cm cg cp bb bm wc (hP.below hb) (hg.below hb) hok n g (hp.below hb) hn hf 0 0 rfl (by omega))

theorem plus_is {B : Book} (hok : bookB B = true) {n : Nat} {g : Nat → Nat → Int} (hn : n ≤ 1000) (hf : Fit B n g) (W wc : World) (hb : Below W.heap.size W wc) :
    Calls Tryd.prog 94 #[.agg #[.int .i64 0, .int .i64 0, .int .i64 0, .int .i64 0], .agg #[.int .i64 (doneF B 0 g 0 n), .int .i64 (doneF B 0 g 1 n), .int .i64 (doneF B 0 g 2 n), .int .i64 (doneF B 0 g 3 n)]] wc fun e w' => e = .returned (.agg #[.int .i64 (doneF B 0 g 0 n), .int .i64 (doneF B 0 g 1 n), .int .i64 (doneF B 0 g 2 n), .int .i64 (doneF B 0 g 3 n)]) ∧ Below W.heap.size W w' := by
  have h := held hb (plus_any (fun _ => 0) (fun m => doneF B 0 g m n) (fun _ _ => by omega) (fun j _ => by have := doneF_bd hok (hi := 0) (by omega) hf j n (by omega); omega) wc)
  have e : (four fun j => (fun _ => (0 : Int)) j + (fun m : Nat => doneF B 0 g m n) j) = four fun m => doneF B 0 g m n := four_congr fun j _ => by simp
  rw [e] at h
  exact h

structure AInv (w W : World) (c : Array Value) : Prop where
  below : Below w.heap.size w W
  h0 : W.heap[w.heap.size]? = some (.cells c 82 (0, 0))
  h1 : W.heap[w.heap.size + 1]? = some (.cells #[.pointer none, .slice none 0 0, .int .i64 0, .int .i64 0, .int .i64 0, .int .i64 0] 82 (0, 0))

theorem wp_world {P : Program} {c : Code} {Q : Exit → Act → World → Prop} {a : Act} {w : World} (R : World → Prop) (hR : R w) (h : ∀ W, R W → Code.wp P c Q a W) : Code.wp P c Q a w := h w hR

theorem set_four2 {w : World} {x : Nat} {p v z0 z1 z2 z3 : Value} {T : TypeId} {r : Nat × Nat} (h : w.heap[x]? = some (.cells #[p, v, z0, z1, z2, z3] T r)) (a b c d : Value) :
    ((((w.setCell ⟨x, 2, none⟩ a).setCell ⟨x, 3, none⟩ b).setCell ⟨x, 4, none⟩ c).setCell ⟨x, 5, none⟩ d).heap[x]? = some (.cells #[p, v, a, b, c, d] T r) := by
  rw [setCell_heap_same (setCell_heap_same (setCell_heap_same (setCell_heap_same h)))]
  rfl

theorem set_six {w : World} {x : Nat} {z : Array Value} {T : TypeId} {r : Nat × Nat} (hz : z.size = 6) (h : w.heap[x]? = some (.cells z T r)) (a b c d e f : Value) :
    ((((((w.setCell ⟨x, 0, none⟩ a).setCell ⟨x, 1, none⟩ b).setCell ⟨x, 2, none⟩ c).setCell ⟨x, 3, none⟩ d).setCell ⟨x, 4, none⟩ e).setCell ⟨x, 5, none⟩ f).heap[x]? = some (.cells #[a, b, c, d, e, f] T r) := by
  rw [setCell_heap_same (setCell_heap_same (setCell_heap_same (setCell_heap_same (setCell_heap_same (setCell_heap_same h)))))]
  obtain ⟨l⟩ := z
  match l, hz with
  | [_, _, _, _, _, _], _ => rfl

theorem heap_four {w : World} {x b : Nat} {o : Option Obj} (hne : b ≠ x) (h : w.heap[b]? = o) {a0 a1 a2 a3 : Value} :
    ((((w.setCell ⟨x, 2, none⟩ a0).setCell ⟨x, 3, none⟩ a1).setCell ⟨x, 4, none⟩ a2).setCell ⟨x, 5, none⟩ a3).heap[b]? = o := by
  rw [setCell_heap_other hne, setCell_heap_other hne, setCell_heap_other hne, setCell_heap_other hne, h]

theorem Sl.set {w : World} {p : Option Addr} {k n : Nat} {g : Nat → Nat → Int} (h : Sl w p k n g) {a : Addr} (hne : ∀ k', p = some k' → k'.block ≠ a.block) (v : Value) : Sl (w.setCell a v) p k n g := fun h0 => by
  obtain ⟨b, off, e, hb, hc⟩ := h h0
  have := hne _ e
  refine ⟨b, off, e, by simpa [World.setCell] using hb, fun i hi j hj => ?_⟩
  rw [World.cell?_setCell_other _ _ _ _ (by intro h; subst h; exact this rfl)]
  exact hc i hi j hj

theorem sl_ten {w : World} {x : Nat} {p : Option Addr} {k n : Nat} {g : Nat → Nat → Int} (h : Sl w p k n g) (hne : ∀ k', p = some k' → x < k'.block ∧ x + 1 < k'.block) (a0 a1 a2 a3 b0 b1 b2 b3 b4 b5 : Value) :
    Sl ((((((((((w.setCell ⟨x, 2, none⟩ a0).setCell ⟨x, 3, none⟩ a1).setCell ⟨x, 4, none⟩ a2).setCell ⟨x, 5, none⟩ a3).setCell ⟨x + 1, 0, none⟩ b0).setCell ⟨x + 1, 1, none⟩ b1).setCell ⟨x + 1, 2, none⟩ b2).setCell ⟨x + 1, 3, none⟩ b3).setCell ⟨x + 1, 4, none⟩ b4).setCell ⟨x + 1, 5, none⟩ b5) p k n g := by
  have h1 : ∀ j k', p = some k' → k'.block ≠ (⟨x, j, none⟩ : Addr).block := fun j k' e => by have := hne k' e; show k'.block ≠ x; omega
  have h2 : ∀ j k', p = some k' → k'.block ≠ (⟨x + 1, j, none⟩ : Addr).block := fun j k' e => by have := hne k' e; show k'.block ≠ x + 1; omega
  exact (((((((((h.set (h1 2) _).set (h1 3) _).set (h1 4) _).set (h1 5) _).set (h2 0) _).set (h2 1) _).set (h2 2) _).set (h2 3) _).set (h2 4) _).set (h2 5) _

theorem below_ten {w W : World} (h : Below w.heap.size w W) (a0 a1 a2 a3 b0 b1 b2 b3 b4 b5 : Value) :
    Below w.heap.size w ((((((((((W.setCell ⟨w.heap.size, 2, none⟩ a0).setCell ⟨w.heap.size, 3, none⟩ a1).setCell ⟨w.heap.size, 4, none⟩ a2).setCell ⟨w.heap.size, 5, none⟩ a3).setCell ⟨w.heap.size + 1, 0, none⟩ b0).setCell ⟨w.heap.size + 1, 1, none⟩ b1).setCell ⟨w.heap.size + 1, 2, none⟩ b2).setCell ⟨w.heap.size + 1, 3, none⟩ b3).setCell ⟨w.heap.size + 1, 4, none⟩ b4).setCell ⟨w.heap.size + 1, 5, none⟩ b5) := by
  have h1 : w.heap.size ≤ w.heap.size := Nat.le_refl _
  have h2 : w.heap.size ≤ w.heap.size + 1 := Nat.le_succ _
  exact (((((((((h.setCell h1 _).setCell h1 _).setCell h1 _).setCell h1 _).setCell h2 _).setCell h2 _).setCell h2 _).setCell h2 _).setCell h2 _).setCell h2 _

set_option maxRecDepth 100000 in
set_option maxHeartbeats 4000000 in
theorem and_any (B : Book) (pm pg pp : Option Addr) (cm cg cp bb bm : Nat) (w : World) (hP : PB B pm pg cm cg bb bm w) (hg : Sl w pg 4 B.ng B.gang) (hok : bookB B = true) (n : Nat) (g : Nat → Nat → Int) (hp : Sl w pp 3 n g) (hcp : pp = none → cp = 0) (hn : n ≤ 1000) (hf : Fit B n g) :
    Calls Tryd.prog 75 #[.agg #[.pointer (some ⟨bb, 0, none⟩), .slice none 0 0, .int .i64 0, .int .i64 0, .int .i64 0, .int .i64 0], .slice pp n cp] w (PlanIs B bb n g w) := by
  obtain ⟨i0, hi, hz0, hz1, hz2⟩ := info_parts infoW
  have hW2 : Below w.heap.size w ((w.alloc (.cells #[.pointer (some ⟨bb, 0, none⟩), .slice none 0 0, .int .i64 0, .int .i64 0, .int .i64 0, .int .i64 0] 82)).alloc (.cells #[.pointer none, .slice none 0 0, .int .i64 0, .int .i64 0, .int .i64 0, .int .i64 0] 82)) :=
    belowAlloc (belowAlloc (Below.refl _ _) _) _
  have hG0 := Lib.hid (show ((w.alloc (.cells #[.pointer (some ⟨bb, 0, none⟩), .slice none 0 0, .int .i64 0, .int .i64 0, .int .i64 0, .int .i64 0] 82)).alloc (.cells #[.pointer none, .slice none 0 0, .int .i64 0, .int .i64 0, .int .i64 0, .int .i64 0] 82)).heap[w.heap.size]? = _ from heap_alloc2_old w _ _)
  have hG1 := Lib.hid (show ((w.alloc (.cells #[.pointer (some ⟨bb, 0, none⟩), .slice none 0 0, .int .i64 0, .int .i64 0, .int .i64 0, .int .i64 0] 82)).alloc (.cells #[.pointer none, .slice none 0 0, .int .i64 0, .int .i64 0, .int .i64 0, .int .i64 0] 82)).heap[w.heap.size + 1]? = _ from heap_alloc2_new w _ _)
  have hmid : ∃ A cp2, n ≤ cp2 := ⟨(none : Option Addr), n, by omega⟩
  go_enter Tryd.func75, Tryd.ntmps75
  rcases pp with _ | ad
  · have h0 : n = 0 := by
      rcases Nat.eq_zero_or_pos n with h | h
      · exact h
      · obtain ⟨_, _, h1, _⟩ := hp h; cases h1
    have H0 := Lib.hid h0
    have Hc := Lib.hid (hcp rfl)
    clear h0 hcp
    go_wp2_with (at_builtin; refine wpList_append_own_none rfl _ _ 26 rfl w.heap.size 54 i0 3 Tryd.underlying26 hi (.slice none 0 0) 0 [] rfl (World.ownsRow_nil _ _ _ _) (by show Value.slice none n cp = _; rw [H0.out, Hc.out]) ?_)
    refine wp_world (fun W => ∃ A cp2, (n ≤ cp2 ∧ cp2 ≤ 9223372036854775807 ∧ (A = none → cp2 = 0) ∧ Sl W A 3 n g ∧ ∀ k, A = some k → w.heap.size + 2 ≤ k.block) ∧ AInv w W #[.pointer (some ⟨bb, 0, none⟩), .slice A n cp2, .int .i64 0, .int .i64 0, .int .i64 0, .int .i64 0]) ?_ ?_
    · have H1 := H0.out
      exact ⟨none, 0, ⟨by omega, by omega, fun _ => rfl, fun h => absurd h (by omega), fun k hk => by cases hk⟩, hW2, by rw [H1]; exact hG0.out, hG1.out⟩
    · rintro W ⟨A, cp2, ⟨z1, z2, z3, z4, z5⟩, hI⟩; have z5 := Lib.hid z5; have hx : w.heap.size + 1 < W.heap.size := (Array.getElem?_eq_some_iff.1 hI.h1).1; have hx0 : w.heap.size < W.heap.size := (by omega); have c0 : ∀ j, W.cell? ⟨w.heap.size, j, none⟩ = _ := cell_of_heap hI.h0; have f0 : ∀ j, W.frozen? ⟨w.heap.size, j, none⟩ = false := frozen_of_heap hI.h0; have z3 := Lib.hid z3; have z4 := Lib.hid z4; have hI := Lib.hid hI; have hPW := hP.below hI.out.below; have hgW := hg.below hI.out.below; have hpW := hp.below hI.out.below; go_wp2_with fail; go_region_with (first | (go_at_call 62; refine (done_is B pm pg _ cm cg _ bb bm W _ ?_ hPW hgW hok _ g hpW hn hf).mono ?_; (repeat (first | exact Below.refl _ _ | (refine Below.drew ?_))); (rintro e w5 ⟨rfl, hB5⟩; have e0 := (hB5.cell (p := ⟨w.heap.size, 0, none⟩) hx0).trans (c0 0); have e1 := (hB5.cell (p := ⟨w.heap.size, 1, none⟩) hx0).trans (c0 1); have e2 := (hB5.cell (p := ⟨w.heap.size, 2, none⟩) hx0).trans (c0 2); have e3 := (hB5.cell (p := ⟨w.heap.size, 3, none⟩) hx0).trans (c0 3); have e4 := (hB5.cell (p := ⟨w.heap.size, 4, none⟩) hx0).trans (c0 4); have e5 := (hB5.cell (p := ⟨w.heap.size, 5, none⟩) hx0).trans (c0 5); have e6 := fun j => (hB5.frozen (p := ⟨w.heap.size, j, none⟩) hx0).trans (f0 j); simp only [List.getElem?_toArray, List.getElem?_cons_zero, List.getElem?_cons_succ] at e0 e1 e2 e3 e4 e5)) | (go_at_call 94; refine (plus_is hok hn hf W _ ?_).mono ?_; (repeat (first | exact hB5 | (refine Below.drew ?_))); (rintro e w6 ⟨rfl, hB6⟩; have d0 := (hB6.cell (p := ⟨w.heap.size, 0, none⟩) hx0).trans (c0 0); have d1 := (hB6.cell (p := ⟨w.heap.size, 1, none⟩) hx0).trans (c0 1); have d2 := (hB6.cell (p := ⟨w.heap.size, 2, none⟩) hx0).trans (c0 2); have d3 := (hB6.cell (p := ⟨w.heap.size, 3, none⟩) hx0).trans (c0 3); have d4 := (hB6.cell (p := ⟨w.heap.size, 4, none⟩) hx0).trans (c0 4); have d5 := (hB6.cell (p := ⟨w.heap.size, 5, none⟩) hx0).trans (c0 5); have d6 := fun j => (hB6.frozen (p := ⟨w.heap.size, j, none⟩) hx0).trans (f0 j); simp only [List.getElem?_toArray, List.getElem?_cons_zero, List.getElem?_cons_succ] at d0 d1 d2 d3 d4 d5))); all_goals (have k0 := hI.out.h0; have k1 := hI.out.h1; (have c1 : ∀ j, W.cell? ⟨w.heap.size + 1, j, none⟩ = _ := cell_of_heap k1); (have f1 : ∀ j, W.frozen? ⟨w.heap.size + 1, j, none⟩ = false := frozen_of_heap k1); (have m0 : ∀ j, w6.cell? ⟨w.heap.size + 1, j, none⟩ = _ := fun j => (hB6.cell (p := ⟨w.heap.size + 1, j, none⟩) hx).trans (c1 j)); (have m1 : ∀ j, w6.frozen? ⟨w.heap.size + 1, j, none⟩ = false := fun j => (hB6.frozen (p := ⟨w.heap.size + 1, j, none⟩) hx).trans (f1 j)); clear k0 k1 c1 f1 c0 f0; go_wp2_with fail; (try simp only [Exit.inBlock, Exit.then]); refine bodyPost_ret (results_cell_row rfl _ _ (w.heap.size + 1) 82 #[.pointer (some ⟨bb, 0, none⟩), .slice A n cp2, .int .i64 (doneF B 0 g 0 n), .int .i64 (doneF B 0 g 1 n), .int .i64 (doneF B 0 g 2 n), .int .i64 (doneF B 0 g 3 n)] (0, 0) _ rfl ?_ Tryd.underlying82 rfl (by kernel_rfl)) rfl ?_; exact set_six rfl (heap_four (by simp) ((hB6.block _ hx).trans hI.out.h1)) _ _ _ _ _ _; exact ⟨A, cp2, rfl, z1, z2, z3.out, sl_ten (z4.out.below hB6) (fun k hk => by have := z5.out k hk; omega) _ _ _ _ _ _ _ _ _ _, (fun k hk => by have := z5.out k hk; omega), below_ten (hI.out.below.trans (hB6.mono hI.out.below.size)) _ _ _ _ _ _ _ _ _ _⟩)
  · go_wp2_with (at_builtin; refine wpList_append_own _ rfl _ _ 26 rfl (w.heap.size + 2) 54 i0 (.agg #[.int .i64 0, .int .i64 0, .int .i64 0]) 3 24 Tryd.underlying26 hi hz0 hz1 hz2 rfl (by decide) (.slice none 0 0) 0 [] rfl (World.ownsRow_nil _ _ _ _) ad n cp (fl g n) rfl (fl_length g n) (sl_cells (hp.below hW2) rfl) (fl_one g n) ?c3 ?c4 ?c5 ?_)
    case c3 => unfold maxLen; omega
    case c4 => omega
    case c5 => simp
    intro v' w1 hown hgrow _
    have hB1 : Below w.heap.size w w1 := hW2.grown hgrow (by simp; omega) (fun j hj => by simp [Value.ownBlock] at hj)
    have g0 := Lib.hid ((hgrow.block w.heap.size (by simp; omega) (by simp [Value.ownBlock])).trans hG0.out)
    have g1 := Lib.hid ((hgrow.block (w.heap.size + 1) (by simp) (by simp [Value.ownBlock])).trans hG1.out)
    obtain ⟨A, c2, rfl, q1, q2, q3, q4, q5⟩ := sl_of_own3 hown
    have c0 : ∀ j, w1.cell? ⟨w.heap.size, j, none⟩ = _ := cell_of_heap g0.out
    have f0 : ∀ j, w1.frozen? ⟨w.heap.size, j, none⟩ = false := frozen_of_heap g0.out
    clear hgrow hown
    have q3 := Lib.hid q3
    have q5 := Lib.hid q5
    go_wp2_with fail
    refine wp_world (fun W => ∃ A cp2, (n ≤ cp2 ∧ cp2 ≤ 9223372036854775807 ∧ (A = none → cp2 = 0) ∧ Sl W A 3 n g ∧ ∀ k, A = some k → w.heap.size + 2 ≤ k.block) ∧ AInv w W #[.pointer (some ⟨bb, 0, none⟩), .slice A n cp2, .int .i64 0, .int .i64 0, .int .i64 0, .int .i64 0]) ?_ ?_
    · refine ⟨A, c2, ⟨q1, q2, q3.out, ?_, fun k hk => (q5.out k hk).1⟩, hB1.setCell (by simp) _, (setCell_heap_same g0.out).trans rfl, (setCell_heap_other (by simp)).trans g1.out⟩
      intro h0
      obtain ⟨b, off, e, hb, hc⟩ := q4 h0
      have := q5.out _ e
      refine ⟨b, off, e, by simpa [World.setCell] using hb, fun i hi j hj => ?_⟩
      rw [World.cell?_setCell_other _ _ _ _ (by intro h; injection h with h; simp at this; omega)]
      exact hc i hi j hj
    · rintro W ⟨A, cp2, ⟨z1, z2, z3, z4, z5⟩, hI⟩; have z5 := Lib.hid z5; have hx : w.heap.size + 1 < W.heap.size := (Array.getElem?_eq_some_iff.1 hI.h1).1; have hx0 : w.heap.size < W.heap.size := (by omega); have c0 : ∀ j, W.cell? ⟨w.heap.size, j, none⟩ = _ := cell_of_heap hI.h0; have f0 : ∀ j, W.frozen? ⟨w.heap.size, j, none⟩ = false := frozen_of_heap hI.h0; have z3 := Lib.hid z3; have z4 := Lib.hid z4; have hI := Lib.hid hI; have hPW := hP.below hI.out.below; have hgW := hg.below hI.out.below; have hpW := hp.below hI.out.below; go_wp2_with fail; go_region_with (first | (go_at_call 62; refine (done_is B pm pg _ cm cg _ bb bm W _ ?_ hPW hgW hok _ g hpW hn hf).mono ?_; (repeat (first | exact Below.refl _ _ | (refine Below.drew ?_))); (rintro e w5 ⟨rfl, hB5⟩; have e0 := (hB5.cell (p := ⟨w.heap.size, 0, none⟩) hx0).trans (c0 0); have e1 := (hB5.cell (p := ⟨w.heap.size, 1, none⟩) hx0).trans (c0 1); have e2 := (hB5.cell (p := ⟨w.heap.size, 2, none⟩) hx0).trans (c0 2); have e3 := (hB5.cell (p := ⟨w.heap.size, 3, none⟩) hx0).trans (c0 3); have e4 := (hB5.cell (p := ⟨w.heap.size, 4, none⟩) hx0).trans (c0 4); have e5 := (hB5.cell (p := ⟨w.heap.size, 5, none⟩) hx0).trans (c0 5); have e6 := fun j => (hB5.frozen (p := ⟨w.heap.size, j, none⟩) hx0).trans (f0 j); simp only [List.getElem?_toArray, List.getElem?_cons_zero, List.getElem?_cons_succ] at e0 e1 e2 e3 e4 e5)) | (go_at_call 94; refine (plus_is hok hn hf W _ ?_).mono ?_; (repeat (first | exact hB5 | (refine Below.drew ?_))); (rintro e w6 ⟨rfl, hB6⟩; have d0 := (hB6.cell (p := ⟨w.heap.size, 0, none⟩) hx0).trans (c0 0); have d1 := (hB6.cell (p := ⟨w.heap.size, 1, none⟩) hx0).trans (c0 1); have d2 := (hB6.cell (p := ⟨w.heap.size, 2, none⟩) hx0).trans (c0 2); have d3 := (hB6.cell (p := ⟨w.heap.size, 3, none⟩) hx0).trans (c0 3); have d4 := (hB6.cell (p := ⟨w.heap.size, 4, none⟩) hx0).trans (c0 4); have d5 := (hB6.cell (p := ⟨w.heap.size, 5, none⟩) hx0).trans (c0 5); have d6 := fun j => (hB6.frozen (p := ⟨w.heap.size, j, none⟩) hx0).trans (f0 j); simp only [List.getElem?_toArray, List.getElem?_cons_zero, List.getElem?_cons_succ] at d0 d1 d2 d3 d4 d5))); all_goals (have k0 := hI.out.h0; have k1 := hI.out.h1; (have c1 : ∀ j, W.cell? ⟨w.heap.size + 1, j, none⟩ = _ := cell_of_heap k1); (have f1 : ∀ j, W.frozen? ⟨w.heap.size + 1, j, none⟩ = false := frozen_of_heap k1); (have m0 : ∀ j, w6.cell? ⟨w.heap.size + 1, j, none⟩ = _ := fun j => (hB6.cell (p := ⟨w.heap.size + 1, j, none⟩) hx).trans (c1 j)); (have m1 : ∀ j, w6.frozen? ⟨w.heap.size + 1, j, none⟩ = false := fun j => (hB6.frozen (p := ⟨w.heap.size + 1, j, none⟩) hx).trans (f1 j)); clear k0 k1 c1 f1 c0 f0; go_wp2_with fail; (try simp only [Exit.inBlock, Exit.then]); refine bodyPost_ret (results_cell_row rfl _ _ (w.heap.size + 1) 82 #[.pointer (some ⟨bb, 0, none⟩), .slice A n cp2, .int .i64 (doneF B 0 g 0 n), .int .i64 (doneF B 0 g 1 n), .int .i64 (doneF B 0 g 2 n), .int .i64 (doneF B 0 g 3 n)] (0, 0) _ rfl ?_ Tryd.underlying82 rfl (by kernel_rfl)) rfl ?_; exact set_six rfl (heap_four (by simp) ((hB6.block _ hx).trans hI.out.h1)) _ _ _ _ _ _; exact ⟨A, cp2, rfl, z1, z2, z3.out, sl_ten (z4.out.below hB6) (fun k hk => by have := z5.out k hk; omega) _ _ _ _ _ _ _ _ _ _, (fun k hk => by have := z5.out k hk; omega), below_ten (hI.out.below.trans (hB6.mono hI.out.below.size)) _ _ _ _ _ _ _ _ _ _⟩)
end Go.Proofs.YtdcgmacknccklaaDoor
