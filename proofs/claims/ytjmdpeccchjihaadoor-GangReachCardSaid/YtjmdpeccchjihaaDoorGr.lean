/- GangReach answers true for any book and numbers, where the chapter's examples are answered rightly. -/
import Derived.Test.YtjmdpeccchjihaaDoorGs
import Derived.Test.YtjmdpeccchjihaaDoorGh
namespace Go.Proofs.YtjmdpeccchjihaaDoor
open Go Go.RowKit

theorem work_any (n g m : Int) (w : World) :
    Calls Tryd.prog 29 #[.int .i64 n, .int .i64 g, .int .i64 m] w fun e w' => e = .returned (.agg #[.int .i64 n, .int .i64 g, .int .i64 m]) ∧ Below w.heap.size w w' := by
  go_enter Tryd.func29, Tryd.ntmps29
  go_wp2
  (try simp only [Exit.inBlock, Exit.then])
  refine bodyPost_ret (results_cell_row rfl _ _ w.heap.size 54 #[.int .i64 n, .int .i64 g, .int .i64 m] (0, 0) _ rfl ?_ Tryd.underlying54 rfl (by kernel_rfl)) rfl ?_
  · exact heap_alloc_new w _
  exact ⟨rfl, (Below.refl _ _).alloc (Nat.le_refl _) _⟩

theorem bit_all : (List.range 16).all (fun x => (List.range 4).all fun n => bitR x n == 0 || bitR x n == 1) = true := by kernel_rfl

theorem bit_or {x n : Int} (h0 : 0 ≤ x) (h1 : x ≤ 15) (h2 : 0 ≤ n) (h3 : n ≤ 3) : bitR x n = 0 ∨ bitR x n = 1 := by
  have := List.all_eq_true.1 bit_all x.toNat (List.mem_range.2 (by omega))
  have := List.all_eq_true.1 this n.toNat (List.mem_range.2 (by omega))
  rw [Int.toNat_of_nonneg h0, Int.toNat_of_nonneg h2] at this
  simpa using this

theorem K_rising (f : Nat → Bool) (c : Nat) : ∀ i, i < (K f c).length → lastL (fun j _ => (K f c).getD j 0) i < (K f c).getD i 0 ∧ (K f c).getD i 0 < c := by
  induction c with
  | zero => intro i hi; simp [K] at hi
  | succ c ih =>
    cases hf : f c
    · rw [K_miss hf]; intro i hi; have := ih i hi; omega
    · rw [K_hit hf]
      intro i hi
      simp only [List.length_append, List.length_cons, List.length_nil] at hi
      have e : ∀ j, j < (K f c).length → (K f c ++ [(c : Int)]).getD j 0 = (K f c).getD j 0 := fun j hj => by
        simp [List.getD_eq_getElem?_getD, List.getElem?_append_left hj]
      have el : (K f c ++ [(c : Int)]).getD (K f c).length 0 = c := by simp [List.getD_eq_getElem?_getD]
      rcases Nat.lt_or_ge i (K f c).length with h | h
      · have h1 := ih i h
        rw [e i h]
        refine ⟨?_, by omega⟩
        cases i with
        | zero => exact h1.1
        | succ i => simp only [lastL] at h1 ⊢; rw [e i (by omega)]; exact h1.1
      · obtain rfl : i = (K f c).length := by omega
        rw [el]
        refine ⟨?_, by omega⟩
        cases hl : (K f c).length with
        | zero => simp only [lastL]; omega
        | succ i => simp only [lastL]; rw [e i (by omega)]; exact (ih i (by omega)).2

theorem K_ris (f : Nat → Bool) (c : Nat) : risB (K f c).length (fun j _ => (K f c).getD j 0) c = true := by
  simp only [risB, decide_eq_true_eq]; exact K_rising f c

theorem mem_K (f : Nat → Bool) (c : Nat) (x : Nat) (hx : x < c) : (0 ≤ plL (fun j _ => (K f c).getD j 0) x 0 (K f c).length) ↔ f x = true := by
  rw [plL_iff]
  constructor
  · rintro ⟨i, _, h2, h3⟩
    have hm : (x : Int) ∈ K f c := by
      rw [← h3]
      have hi : i < (K f c).length := by omega
      rw [List.getD_eq_getElem?_getD, List.getElem?_eq_getElem hi]
      exact List.getElem_mem hi
    simp only [K, List.mem_map, List.mem_filter, List.mem_range] at hm
    obtain ⟨a, ⟨_, ha⟩, he⟩ := hm
    obtain rfl : a = x := by omega
    exact ha
  · intro h
    have hm : (x : Int) ∈ K f c := by
      simp only [K, List.mem_map, List.mem_filter, List.mem_range]
      exact ⟨x, ⟨hx, h⟩, rfl⟩
    obtain ⟨i, hi, he⟩ := List.getElem_of_mem hm
    exact ⟨i, by omega, by omega, by simp [List.getD_eq_getElem?_getD, List.getElem?_eq_getElem hi, he]⟩

/-- A plan of one work. -/
def gW (n g m : Int) : Nat → Nat → Int := fun _ j => [n, g, m].getD j 0

theorem planB_one {B : Book} {n g m : Int} {v : Bool} (h0 : inB n 0 (B.nights - 1) = true) (h1 : inB g 0 (B.ng - 1) = true) (hv : canB B g.toNat m n = v) : planB B 1 (gW n g m) = v := by
  have : nextB B (gW n g m 0) 0 (gW n g m) = v := by
    simp only [nextB, gW, List.getD_cons_zero, List.getD_cons_succ, h0, h1, hv, Bool.true_and]
    cases v <;> simp
  rw [planB, Bool.eq_iff_iff]
  simp only [decide_eq_true_eq]
  constructor
  · intro h; rw [← this]; exact h 0 (by omega)
  · rintro rfl i hi; obtain rfl : i = 0 := by omega
    exact this

theorem plan_one {B : Book} {i m n : Nat} (hn : inB (n : Int) 0 (B.nights - 1) = true) (hi : inB (i : Int) 0 (B.ng - 1) = true) {v : Bool} (h : canB B i m n = v) : planB B 1 (gW n i m) = v :=
  planB_one hn hi (by simpa using h)

theorem boxes2 {w wr : World} {c1 c2 : Array Value} {T1 T2 : TypeId} (hB : Below (w.heap.size + 1 + 1) ((w.alloc (.cells c1 T1)).alloc (.cells c2 T2)) wr) :
    (∀ j, wr.cell? ⟨w.heap.size, j, none⟩ = c1[j]?) ∧ (∀ j, wr.cell? ⟨w.heap.size + 1, j, none⟩ = c2[j]?) ∧ Below w.heap.size w wr := by
  refine ⟨fun j => ?_, fun j => ?_, ?_⟩
  · rw [hB.cell (p := ⟨w.heap.size, j, none⟩) (by simp; omega), World.cell?_alloc_past _ _ _ (by simp), World.cell?_alloc_at _ _ _ _ rfl]
  · rw [hB.cell (p := ⟨w.heap.size + 1, j, none⟩) (by simp), World.cell?_alloc_at _ _ _ _ (by simp)]
  · exact (((Below.refl _ _).alloc (Nat.le_refl _) _).alloc (by simp) _).trans (hB.mono (by omega))

theorem boxes2_later {w wr wr' : World} {c1 c2 : Array Value} {T1 T2 : TypeId} (hB : Below (w.heap.size + 1 + 1) ((w.alloc (.cells c1 T1)).alloc (.cells c2 T2)) wr) (hB' : Below wr.heap.size wr wr') :
    Below (w.heap.size + 1 + 1) ((w.alloc (.cells c1 T1)).alloc (.cells c2 T2)) wr' :=
  hB.trans (hB'.mono (by have := hB.size; simp only [World.size_alloc] at this; omega))

/-- What is held of a world while a plan is asked for. -/
abbrev HeldB (W : World) (a : Nat) (v0 v1 v2 : Value) (w' : World) : Prop := Below W.heap.size W w' ∧ w'.cell? ⟨a, 0, none⟩ = some v0 ∧ w'.cell? ⟨a, 1, none⟩ = some v1 ∧ w'.cell? ⟨a, 2, none⟩ = some v2

theorem keepB {W w' : World} {a : Nat} {v0 v1 v2 : Value} (h : HeldB W a v0 v1 v2 W) (hb : Below W.heap.size W w') : HeldB W a v0 v1 v2 w' :=
  have lt : ∀ {c : Addr} {v : Value}, W.cell? c = some v → c.block < W.heap.size := fun h => World.block_lt_of_cell? W _ h
  ⟨hb, (hb.cell (lt h.2.1)).trans h.2.1, (hb.cell (lt h.2.2.1)).trans h.2.2.1, (hb.cell (lt h.2.2.2)).trans h.2.2.2⟩

theorem work_held {W wc : World} {a : Nat} {v0 v1 v2 : Value} (hq : HeldB W a v0 v1 v2 wc) (n g m : Int) :
    Calls Tryd.prog 29 #[.int .i64 n, .int .i64 g, .int .i64 m] wc fun e w' => e = .returned (.agg #[.int .i64 n, .int .i64 g, .int .i64 m]) ∧ Below W.heap.size W w' :=
  (work_any n g m wc).mono fun _ _ ⟨h, hb⟩ => ⟨h, hq.1.trans (hb.mono hq.1.size)⟩

theorem May_held {W wc : World} {a : Nat} {v0 v1 v2 : Value} (hq : HeldB W a v0 v1 v2 wc) {B : Book} {pm pg : Option Addr} {cm cg : Nat} {n g m : Int} {v : Bool} (hv : planB B 1 (gW n g m) = v) (hm : Sl W pm 3 B.nm B.mile) (hg : Sl W pg 4 B.ng B.gang) (hok : bookB B = true) (hN : NB W)
    (b : Nat) (h0 : wc.cell? ⟨b, 0, none⟩ = some (.int .i64 n)) (h1 : wc.cell? ⟨b, 1, none⟩ = some (.int .i64 g)) (h2 : wc.cell? ⟨b, 2, none⟩ = some (.int .i64 m)) :
    Calls Tryd.prog 12 #[.agg #[.slice pm B.nm cm, .slice pg B.ng cg, .int .i64 B.nights], .slice (some ⟨b, 0, none⟩) 1 1] wc fun e w' => e = .returned (.tuple #[.bool v, .int .i64 0]) ∧ Below W.heap.size W w' := by
  have hp : Sl wc (some ⟨b, 0, none⟩) 3 1 (gW n g m) := by
    refine fun _ => ⟨b, 0, rfl, World.block_lt_of_cell? wc _ h0, fun i hi j hj => ?_⟩
    obtain rfl : i = 0 := by omega
    obtain rfl | rfl | rfl : j = 0 ∨ j = 1 ∨ j = 2 := by omega
    · exact h0
    · exact h1
    · exact h2
  exact hv ▸ (May_any B pm pg _ cm cg 1 wc (hm.below hq.1) (hg.below hq.1) hok (hN.below hq.1) 1 (gW n g m) hp (by omega) (by omega)).mono fun _ _ ⟨h, hb⟩ => ⟨h, hq.1.trans (hb.mono hq.1.size)⟩

theorem Rising_is {p : Option Addr} {n cap : Nat} {g : Nat → Nat → Int} {below : Int} {v : Bool} (h : risB n g below = v) (w : World) (hs : Sl w p 1 n g) (hn : n ≤ 9223372036854775807) :
    Calls Tryd.prog 27 #[.slice p n cap, .int .i64 below] w fun e w' => e = .returned (.bool v) ∧ w' = w := h ▸ Rising_any p n cap g below w hs hn

theorem In_is {x n : Int} {v : Bool} (h : (bitR x n == 1) = v) (hx : 0 ≤ x) (h0 : 0 ≤ n) (h1 : n ≤ 63) (w : World) :
    Calls Tryd.prog 31 #[.int .i64 x, .int .i64 n] w fun e w' => e = .returned (.bool v) ∧ w' = w := h ▸ In_any x n hx h0 h1 w

theorem sound_case (B : Book) (pm pg : Option Addr) (cm cg : Nat) (w : World) (hm : Sl w pm 3 B.nm B.mile) (hg : Sl w pg 4 B.ng B.gang) (hlm : B.nm ≤ 9223372036854775807) {v : Bool} (hok : bookB B = v) :
    Calls Tryd.prog 23 #[.agg #[.slice pm B.nm cm, .slice pg B.ng cg, .int .i64 B.nights]] w fun e w' => e = .returned (.bool v) ∧ Below w.heap.size w w' := by
  cases v
  · exact sound_false B pm pg cm cg w hm hg hlm hok
  · exact sound_true B pm pg cm cg w hm hg hok

set_option maxRecDepth 100000 in
set_option maxHeartbeats 4000000 in
theorem reach_any (hsh : ∀ W, NB W → Calls Tryd.prog 16 #[] W fun e w' => e = .returned (.bool true) ∧ Below W.heap.size W w')
    (B : Book) (pm pg : Option Addr) (cm cg : Nat) (w : World) (hm : Sl w pm 3 B.nm B.mile) (hg : Sl w pg 4 B.ng B.gang) (hlm : B.nm ≤ 9223372036854775807) (hN : NB w) (n0 n1 n2 : Int) :
    Calls Tryd.prog 6 #[.agg #[.slice pm B.nm cm, .slice pg B.ng cg, .int .i64 B.nights], .agg #[.int .i64 n0, .int .i64 n1, .int .i64 n2]] w fun e w' => e = .returned (.bool true) ∧ Below w.heap.size w w' := by
  have hW0 : Below w.heap.size w ((w.alloc (.cells #[.slice pm B.nm cm, .slice pg B.ng cg, .int .i64 B.nights] 25)).alloc (.cells #[.int .i64 n0, .int .i64 n1, .int .i64 n2] 27)) := ((Below.refl _ _).alloc (Nat.le_refl _) _).alloc (by simp) _
  cases hok : bookB B
  · go_enter Tryd.func6, Tryd.ntmps6
    go_wp2_with (first
      | (go_at_call 23; refine (sound_case B _ _ _ _ _ (hm.below hW0) (hg.below hW0) hlm hok).mono ?_; rintro e w1 ⟨rfl, hB1⟩; simp only [World.size_alloc] at hB1; obtain ⟨hx0, hx1, hW1⟩ := boxes2 hB1)
      | (go_at_call 16; refine (hsh _ (hN.below hW1)).mono ?_; rintro e w2 ⟨rfl, hB2⟩))
    go_ret
    exact ⟨rfl, hW1.trans (hB2.mono hW1.size)⟩
  have hbd := bookB_bd hok
  go_enter Tryd.func6, Tryd.ntmps6
  go_wp2_with (first
    | (go_at_call 23; refine (sound_case B _ _ _ _ _ (hm.below hW0) (hg.below hW0) hlm hok).mono ?_; rintro e w1 ⟨rfl, hB1⟩; simp only [World.size_alloc] at hB1; obtain ⟨hx0, hx1, hW1⟩ := boxes2 hB1))
  go_quiet ((go_at_call 24; exact Calls.quiet_of_same (Wrap_any _ _ (by omega) (by omega) _)))
  go_wp2_with fail
  have hW2 : Below w.heap.size w (w1.drewN nq) := belowDrewN hW1 nq
  have hi0 := Int.emod_nonneg n0 (show (B.ng : Int) ≠ 0 by omega)
  have hi1 := Int.emod_lt_of_pos n0 (show 0 < (B.ng : Int) by omega)
  have hj0 := Int.emod_nonneg n1 (show (B.nm : Int) ≠ 0 by omega)
  have hj1 := Int.emod_lt_of_pos n1 (show 0 < (B.nm : Int) by omega)
  have hk0 := Int.emod_nonneg n2 (show (B.nights : Int) ≠ 0 by omega)
  have hk1 := Int.emod_lt_of_pos n2 (show 0 < (B.nights : Int) by omega)
  obtain ⟨i, hi⟩ : ∃ i : Nat, n0 % B.ng = i := ⟨(n0 % B.ng).toNat, by omega⟩
  obtain ⟨m, hj⟩ : ∃ m : Nat, n1 % B.nm = m := ⟨(n1 % B.nm).toNat, by omega⟩
  obtain ⟨n, hk⟩ : ∃ n : Nat, n2 % B.nights = n := ⟨(n2 % B.nights).toNat, by omega⟩
  rw [hi, hj, hk]
  rw [hi] at hi0 hi1
  rw [hj] at hj0 hj1
  rw [hk] at hk0 hk1
  clear hi hj hk
  refine (Can_any B pm pg cm cg _ (hm.below hW2) (hg.below hW2) hok i m i m rfl (by omega) rfl (by omega)).mono ?_
  rintro e w2 ⟨p, rfl, hS, hB2⟩
  have hB1n : Below (w.heap.size + 1 + 1) ((w.alloc (.cells #[.slice pm B.nm cm, .slice pg B.ng cg, .int .i64 B.nights] 25)).alloc (.cells #[.int .i64 n0, .int .i64 n1, .int .i64 n2] 27)) (w1.drewN nq) := ⟨hB1.os, hB1.tape, hB1.output, hB1.size, hB1.block⟩
  have hB2' := boxes2_later hB1n hB2
  obtain ⟨hy0, hy1, hW3⟩ := boxes2 hB2'
  clear hB2 hx0 hx1 hB1n hB1
  have hq : HeldB w2 w.heap.size (.slice pm B.nm cm) (.slice pg B.ng cg) (.int .i64 B.nights) w2 := ⟨Below.refl _ _, hy0 0, hy0 1, hy0 2⟩
  have hq := Lib.hid hq
  have hS := Lib.hid hS
  go_wp2_with fail
  have hle := K_le (fun k => canB B i m k) B.nights.toNat
  have hris : risB (K (fun k => canB B i m k) B.nights.toNat).length (fun j _ => (K (fun k => canB B i m k) B.nights.toNat).getD j 0) B.nights = true := by
    have := K_ris (fun k => canB B i m k) B.nights.toNat
    rwa [Int.toNat_of_nonneg (by omega)] at this
  have hmem := mem_K (fun k => canB B i m k) B.nights.toNat n (by omega)
  have hmb := bookB_mails hok (i := m) (by omega)
  have hbit := bit_or hmb.1 hmb.2 hk0 (show (n : Int) ≤ 3 by omega)
  have hii : inB (i : Int) 0 (B.ng - 1) = true := by simp [inB]; omega
  have hnn : inB (n : Int) 0 (B.nights - 1) = true := by simp [inB]; omega
  obtain ⟨b4, off4, rfl, hb4, hrow4⟩ := hg.row4 (i := i) (by omega)
  obtain ⟨b3, off3, rfl, hb3, hrow3⟩ := hm.row3 (i := m) (by omega)
  generalize hL : K (fun k => canB B i m k) B.nights.toNat = L at *
  have hpl := fun v => plan_one (m := m) (v := v) hnn hii
  have hcase : (canB B i m n = true ∧ amB m (B.gang i 0) (B.gang i 1) = true ∧ (bitR (B.mile m 2) n == 1) = false ∧ 0 ≤ plL (fun j _ => L.getD j 0) n 0 L.length) ∨
      (canB B i m n = false ∧ amB m (B.gang i 0) (B.gang i 1) = false ∧ plL (fun j _ => L.getD j 0) n 0 L.length < 0) ∨
      (canB B i m n = false ∧ amB m (B.gang i 0) (B.gang i 1) = true ∧ (bitR (B.mile m 2) n == 1) = true ∧ plL (fun j _ => L.getD j 0) n 0 L.length < 0) := by
    have e : canB B i m n = (amB m (B.gang i 0) (B.gang i 1) && (bitR (B.mile m 2) n == 0)) := rfl
    cases hc : canB B i m n
    · have hp : plL (fun j _ => L.getD j 0) n 0 L.length < 0 := by
        apply Int.lt_of_not_ge; intro h; have := hmem.1 h; rw [hc] at this; cases this
      cases ha : amB m (B.gang i 0) (B.gang i 1)
      · exact .inr (.inl ⟨rfl, rfl, hp⟩)
      · refine .inr (.inr ⟨rfl, rfl, ?_, hp⟩)
        rw [e, ha] at hc
        rcases hbit with h | h
        · rw [h] at hc; simp at hc
        · rw [h]; rfl
    · refine .inl ⟨rfl, ?_, ?_, hmem.2 hc⟩
      · rw [e] at hc; simp at hc; exact hc.1
      · rw [e] at hc; simp at hc; rw [hc.2]; rfl
  clear hmem hbit hL
  have Hrow3 := @Lib.hid _ @hrow3
  have Hrow4 := @Lib.hid _ @hrow4
  clear hrow3 hrow4
  rcases hcase with ⟨hc, ha, hbt, hpv⟩ | ⟨hc, ha, hpv⟩ | ⟨hc, ha, hbt, hpv⟩
  all_goals
    have hv := hpl _ hc
    clear hpl
    go_region_held3 (fun w' => Below w2.heap.size w2 w' ∧ w'.cell? ⟨w.heap.size, 0, none⟩ = some (.slice (some ⟨b3, off3, none⟩) B.nm cm) ∧ w'.cell? ⟨w.heap.size, 1, none⟩ = some (.slice (some ⟨b4, off4, none⟩) B.ng cg) ∧ w'.cell? ⟨w.heap.size, 2, none⟩ = some (.int .i64 B.nights))
      (first | exact keepB hq.out (Below.drew (Below.refl _ _)) | exact keepB hq.out hB6 | exact keepB hq.out hB5 | exact keepB hq.out (hB5.alloc hB5.size _))
      (first
        | (go_at_call 29; refine (work_held (show HeldB w2 w.heap.size (.slice (some ⟨b3, off3, none⟩) B.nm cm) (.slice (some ⟨b4, off4, none⟩) B.ng cg) (.int .i64 B.nights) _ by assumption) _ _ _).mono ?_; rintro e w5 ⟨rfl, hB5⟩)
        | (go_at_call 12; refine (May_held (show HeldB w2 w.heap.size (.slice (some ⟨b3, off3, none⟩) B.nm cm) (.slice (some ⟨b4, off4, none⟩) B.ng cg) (.int .i64 B.nights) _ by assumption) hv (hm.below hW3) (hg.below hW3) hok (hN.below hW3) _ ?_ ?_ ?_).mono ?_; (rw [new2 (hb := rfl)]; rfl); (rw [new2 (hb := rfl)]; rfl); (rw [new2 (hb := rfl)]; rfl); rintro e w6 ⟨rfl, hB6⟩))
    have hB7 := boxes2_later hB2' hB6
    obtain ⟨hz0, hz1, hW4⟩ := boxes2 hB7
    obtain ⟨g0, g1, g2, g3⟩ := Hrow4.out hW4
    obtain ⟨m0, m1, m2⟩ := Hrow3.out hW4
    have hS4 := Lib.hid (hS.out.below hB6)
    go_wp2_with fail
    go_quiet ((go_at_call 30; exact Calls.quiet_of_same (Amid_is ha _)))
    go_wp2_with (first
      | (go_at_call 27; refine (Rising_is hris _ (hS4.out.below (belowDrewN (Below.refl _ _) _)) (by omega)).mono ?_; rintro e w7 ⟨rfl, rfl⟩)
      | (go_at_call 28; refine (Place_any _ _ _ (fun j _ => L.getD j 0) _ _ (hS4.out.below (belowDrewN (Below.refl _ _) _)) (by omega)).mono ?_; rintro e w7 ⟨rfl, rfl⟩)
      | (go_at_call 31; refine (In_is hbt hmb.1 (by omega) (by omega) _).mono ?_; rintro e w7 ⟨rfl, rfl⟩)
      | (go_at_call 16; refine (hsh _ (hN.below (belowDrewN hW4 _))).mono ?_; rintro e w8 ⟨rfl, hB8⟩))
    go_ret
    refine ⟨?_, (belowDrewN hW4 _).trans (hB8.mono (belowDrewN hW4 _).size)⟩
    first
      | rfl
      | (simp only [List.getD_eq_getElem?_getD] at hpv
         exact ret_bool (by simp <;> omega))
end Go.Proofs.YtjmdpeccchjihaaDoor
