/- isPlan and May of package gang. Plans by their neighbours, of package gang: plain facts on works in a row. -/
import Derived.Test.YtdcgmacknccklaaDoorGg
import Derived.Test.YtdcgmacknccklaaDoorGcd
namespace Go.Proofs.YtdcgmacknccklaaDoor
open Go Go.RowKit

theorem Sl.take {w : World} {p : Option Addr} {m n k : Nat} {g : Nat → Nat → Int} (h : Sl w p m n g) (hk : k ≤ n) : Sl w p m k g := fun h0 =>
  let ⟨b, off, hp, hb, hc⟩ := h (by omega)
  ⟨b, off, hp, hb, fun i hi => hc i (by omega)⟩

abbrev HeldW (W : World) (a : Nat) (x : Nat → Int) (w' : World) : Prop := Below W.heap.size W w' ∧ w'.cell? ⟨a, 0, none⟩ = some (.int .i64 (x 0)) ∧ w'.cell? ⟨a, 1, none⟩ = some (.int .i64 (x 1)) ∧ w'.cell? ⟨a, 2, none⟩ = some (.int .i64 (x 2))

theorem keepW {W w' : World} {a : Nat} {x : Nat → Int} (h : HeldW W a x W) (hb : Below W.heap.size W w') : HeldW W a x w' :=
  have lt : ∀ {c : Addr} {v : Value}, W.cell? c = some v → c.block < W.heap.size := fun h => World.block_lt_of_cell? W _ h
  ⟨hb, (hb.cell (lt h.2.1)).trans h.2.1, (hb.cell (lt h.2.2.1)).trans h.2.2.1, (hb.cell (lt h.2.2.2)).trans h.2.2.2⟩

theorem isNext_held {W wc : World} {a : Nat} {y : Nat → Int} (hq : HeldW W a y wc) {B : Book} {pm pg pp : Option Addr} {cm cg cp bb bm : Nat} {x : Nat → Int} {n : Nat} {g : Nat → Nat → Int} {v : Bool} (h : nextB B x n g = v)
    (hP : PB B pm pg cm cg bb bm W) (hm : Sl W pm 3 B.nm B.mile) (hg : Sl W pg 4 B.ng B.gang) (hok : bookB B = true) (hN : NB W) (hp : Sl W pp 3 n g) (hn : n ≤ 9223372036854775807) :
    Calls Tryd.prog 74 #[.pointer (some ⟨bb, 0, none⟩), .agg #[.int .i64 (x 0), .int .i64 (x 1), .int .i64 (x 2)], .slice pp n cp] wc fun e w' => e = .returned (.bool v) ∧ Below W.heap.size W w' :=
  h ▸ (isNext_any B pm pg pp cm cg cp bb bm wc (hP.below hq.1) (hm.below hq.1) (hg.below hq.1) hok (hN.below hq.1) x n g (hp.below hq.1) hn).mono fun _ _ ⟨h, hb⟩ => ⟨h, hq.1.trans (hb.mono hq.1.size)⟩

def planB (B : Book) (n : Nat) (g : Nat → Nat → Int) : Bool := decide (∀ i, i < n → nextB B (g i) i g = true)

set_option maxRecDepth 100000 in
set_option maxHeartbeats 1000000 in
theorem isPlan_any (B : Book) (pm pg pp : Option Addr) (cm cg cp bb bm : Nat) (w : World) (hP : PB B pm pg cm cg bb bm w) (hm : Sl w pm 3 B.nm B.mile) (hg : Sl w pg 4 B.ng B.gang) (hok : bookB B = true) (hN : NB w)
    (n : Nat) (g : Nat → Nat → Int) (hp : Sl w pp 3 n g) (hn : n ≤ cp) (hc : cp ≤ 9223372036854775807) :
    Calls Tryd.prog 45 #[.pointer (some ⟨bb, 0, none⟩), .slice pp n cp] w fun e w' => e = .returned (.bool (planB B n g)) ∧ Below w.heap.size w w' := by
  go_enter Tryd.func45, Tryd.ntmps45
  go_wp2_with fail
  go_loopw [9] (fun i wr => ∃ k : Nat, k ≤ n ∧ i = .int .i64 k ∧ (∀ j, j < k → nextB B (g j) j g = true) ∧ Below w.heap.size w wr) (fun i _ => n - (intOf i).toNat)
  case atStart => exact ⟨0, Nat.zero_le _, rfl, by omega, Below.refl _ _⟩
  case round =>
    rename_i wr
    obtain ⟨k, hk, rfl, hall, hB⟩ := hrel
    have Hall := Lib.hid hall
    clear hall
    have hsz := hB.size
    by_cases hlt : k < n
    · have hBR : Below w.heap.size w (wr.alloc (.cells #[.int .i64 (g k 0), .int .i64 (g k 1), .int .i64 (g k 2)] 54)) := hB.alloc hsz _
      have hpk := Lib.hid ((hp.take (Nat.le_of_lt hlt)).below hBR)
      obtain ⟨b, off, rfl, hb, hrow⟩ := hp.row3 hlt
      obtain ⟨hd0, hd1, hd2⟩ := hrow hB
      clear hrow
      have hS : HeldW (wr.alloc (.cells #[.int .i64 (g k 0), .int .i64 (g k 1), .int .i64 (g k 2)] 54)) wr.heap.size (g k) (wr.alloc (.cells #[.int .i64 (g k 0), .int .i64 (g k 1), .int .i64 (g k 2)] 54)) := ⟨Below.refl _ _, new2 _ _ _ _ rfl 0, new2 _ _ _ _ rfl 1, new2 _ _ _ _ rfl 2⟩
      have hSh := Lib.hid hS
      clear hS
      have hkc : (k : Int) ≤ cp := by omega
      cases hnx : nextB B (g k) k g
      all_goals
        go_wp2_with fail
        go_region_held3 (fun w' => Below ((wr.alloc (.cells #[.int .i64 (g k 0), .int .i64 (g k 1), .int .i64 (g k 2)] 54))).heap.size (wr.alloc (.cells #[.int .i64 (g k 0), .int .i64 (g k 1), .int .i64 (g k 2)] 54)) w' ∧ w'.cell? ⟨wr.heap.size, 0, none⟩ = some (.int .i64 (g k 0)) ∧ w'.cell? ⟨wr.heap.size, 1, none⟩ = some (.int .i64 (g k 1)) ∧ w'.cell? ⟨wr.heap.size, 2, none⟩ = some (.int .i64 (g k 2)))
          (first | exact keepW hSh.out (Below.drew (Below.refl _ _)) | exact keepW hSh.out hB5)
          (first
            | (go_at_call 74; refine (isNext_held (show HeldW (wr.alloc (.cells #[.int .i64 (g k 0), .int .i64 (g k 1), .int .i64 (g k 2)] 54)) wr.heap.size (g k) _ by assumption) hnx (hP.below hBR) (hm.below hBR) (hg.below hBR) hok (hN.below hBR) hpk.out (by omega)).mono ?_; rintro e w5 ⟨rfl, hB5⟩))
        go_wp2_with fail
      · go_ret
        exact ⟨ret_bool (by simp only [planB]; symm; simp only [decide_eq_false_iff_not]; intro hh; have := hh k hlt; rw [hnx] at this; cases this), hBR.trans (hB5.mono (by simp; omega))⟩
      · go_roundw
        case rel => exact ⟨k + 1, by omega, by go_num, fun j hj => by rcases Nat.lt_succ_iff_lt_or_eq.1 hj with h | rfl; exact Hall.out j h; exact hnx, hBR.trans (hB5.mono (by simp; omega))⟩
        case measure => simp [intOf]; omega
    · obtain rfl : k = n := by omega
      go_wp2_with fail
      go_ret
      exact ⟨ret_bool (by simp only [planB]; symm; simp only [decide_eq_true_eq]; exact Hall.out), hB⟩

set_option maxRecDepth 100000 in
theorem May_any (B : Book) (pm pg pp : Option Addr) (cm cg cp : Nat) (w : World) (hm : Sl w pm 3 B.nm B.mile) (hg : Sl w pg 4 B.ng B.gang) (hok : bookB B = true) (hN : NB w)
    (n : Nat) (g : Nat → Nat → Int) (hp : Sl w pp 3 n g) (hn : n ≤ cp) (hc : cp ≤ 9223372036854775807) :
    Calls Tryd.prog 12 #[.agg #[.slice pm B.nm cm, .slice pg B.ng cg, .int .i64 B.nights], .slice pp n cp] w fun e w' => e = .returned (.tuple #[.bool (planB B n g), .int .i64 0]) ∧ Below w.heap.size w w' := by
  have hbd := bookB_bd hok
  go_enter Tryd.func12, Tryd.ntmps12
  go_wp2_with (first
    | (go_at_call 10; refine (Check_any B _ _ _ _ _ (hm.alloc _) (hg.alloc _) (by omega)).mono ?_; rintro e w1 ⟨rfl, hB1⟩; rw [World.size_alloc] at hB1; obtain ⟨hx0, hW1⟩ := box_facts hB1; simp only [hok])
    | (go_at_call 36; refine (prepare_any B _ _ _ _ _).mono ?_; rintro e w2 ⟨bb, bm, rfl, hbb, hPB, hmap, hbm, hne, hB2⟩; have hB2' := box_later hB1 hB2; obtain ⟨hy0, hW2⟩ := box_facts hB2')
    | (go_at_call 45; refine (isPlan_any B _ _ _ _ _ _ bb bm _ hPB (hm.below hW2) (hg.below hW2) hok (hN.below hW2) n g (hp.below hW2) hn hc).mono ?_; rintro e w3 ⟨rfl, hB3⟩))
  go_ret2
  exact ⟨rfl, hW2.trans (hB3.mono hW2.size)⟩
end Go.Proofs.YtdcgmacknccklaaDoor

namespace Go.Proofs.YtdcgmacknccklaaDoor
open Go Go.RowKit

theorem below_after {a w w' : World} (h1 : Below a.heap.size a w) (h2 : Below w.heap.size w w') : Below a.heap.size a w' := h1.trans (h2.mono h1.size)

theorem behB_iff (x y : Nat → Int) : behB x y = true ↔ y 0 < x 0 ∨ y 0 = x 0 ∧ y 1 < x 1 := by
  simp only [behB, or2, cmpZ, decide_eq_true_eq]
  by_cases h1 : x 0 < y 0 <;> by_cases h2 : y 0 < x 0 <;> by_cases h3 : x 1 < y 1 <;> by_cases h4 : y 1 < x 1 <;> simp [h1, h2, h3, h4] <;> omega

theorem nearB_iff (n m n2 m2 : Int) : nearB n m n2 m2 = true ↔ n2 = n ∧ m - 1 ≤ m2 ∧ m2 ≤ m + 1 := by
  simp only [nearB, decide_eq_true_eq]; omega

theorem nearB_not (n m n2 m2 : Int) : nearB n m n2 m2 = false ↔ ¬ (n2 = n ∧ m - 1 ≤ m2 ∧ m2 ≤ m + 1) := by
  rw [← nearB_iff, Bool.not_eq_true]

/-- Is a work in order by itself? -/
def soloB (B : Book) (x : Nat → Int) : Bool := inB (x 0) 0 (B.nights - 1) && (inB (x 1) 0 (B.ng - 1) && canB B (x 1).toNat (x 2) (x 0))

theorem nextB_iff {B : Book} {x : Nat → Int} {n : Nat} {g : Nat → Nat → Int} : nextB B x n g = true ↔ soloB B x = true ∧ ∀ j, j < n → behB x (g j) = true ∧ nearB (x 0) (x 2) (g j 0) (g j 2) = false := by
  simp only [nextB, soloB, Bool.and_eq_true, decide_eq_true_eq, and_assoc]

/-- May a work stand just behind another one? -/
def stepP (x y : Nat → Int) : Prop := (y 0 < x 0 ∨ y 0 = x 0 ∧ y 1 < x 1) ∧ ¬ (x 0 = y 0 ∧ -1 ≤ x 2 - y 2 ∧ x 2 - y 2 ≤ 1)

theorem solo_in {B : Book} {x : Nat → Int} (h : soloB B x = true) : (0 ≤ x 0 ∧ x 0 ≤ B.nights - 1) ∧ (0 ≤ x 1 ∧ x 1 ≤ B.ng - 1) ∧ canB B (x 1).toNat (x 2) (x 0) = true := by
  simp only [soloB, inB, Bool.and_eq_true, decide_eq_true_eq] at h
  exact ⟨h.1, h.2.1, h.2.2⟩

theorem lex_all {g : Nat → Nat → Int} {n : Nat} (h : ∀ i, i < n → 0 < i → stepP (g i) (g (i - 1))) : ∀ i, i < n → ∀ j, j < i → g j 0 < g i 0 ∨ g j 0 = g i 0 ∧ g j 1 < g i 1 := by
  intro i
  induction i with
  | zero => intro _ j hj; omega
  | succ i ih =>
    intro hi j hj
    have h1 := (h (i + 1) hi (by omega)).1
    simp only [Nat.add_sub_cancel] at h1
    rcases Nat.lt_or_ge j i with h2 | h2
    · have := ih (by omega) j h2
      omega
    · obtain rfl : j = i := by omega
      exact h1

theorem planB_steps {B : Book} (hng : B.ng ≤ 2) {n : Nat} {g : Nat → Nat → Int} : planB B n g = true ↔ ∀ i, i < n → soloB B (g i) = true ∧ (0 < i → stepP (g i) (g (i - 1))) := by
  simp only [planB, decide_eq_true_eq]
  constructor
  · intro h i hi
    have h1 := nextB_iff.1 (h i hi)
    refine ⟨h1.1, fun h0 => ?_⟩
    obtain ⟨h2, h3⟩ := h1.2 (i - 1) (by omega)
    rw [behB_iff] at h2
    rw [nearB_not] at h3
    exact ⟨h2, by omega⟩
  · intro h i hi
    refine nextB_iff.2 ⟨(h i hi).1, fun j hj => ?_⟩
    have hl := lex_all (fun i hi h0 => (h i hi).2 h0)
    have h1 := hl i hi j hj
    refine ⟨(behB_iff _ _).2 (by omega), ?_⟩
    rw [nearB_not]
    rintro ⟨e, h2, h3⟩
    rcases Nat.lt_or_ge j (i - 1) with h4 | h4
    · have h5 := hl (i - 1) (by omega) j h4
      have h6 := hl i hi (i - 1) (by omega)
      have b1 := (solo_in (h i hi).1).2.1
      have b2 := (solo_in (h j (by omega)).1).2.1
      omega
    · obtain rfl : j = i - 1 := by omega
      have h5 := ((h i hi).2 (by omega)).2
      omega

theorem planB_len {B : Book} (hng : B.ng ≤ 2) (hn : B.nights ≤ 4) {n : Nat} {g : Nat → Nat → Int} (h : planB B n g = true) : n ≤ 8 := by
  have h1 := (planB_steps hng).1 h
  have hl := lex_all (fun i hi h0 => (h1 i hi).2 h0)
  have key : ∀ i, i < n → (i : Int) ≤ g i 0 * 2 + g i 1 := by
    intro i
    induction i with
    | zero => intro hi; have b := solo_in (h1 0 hi).1; omega
    | succ i ih =>
      intro hi
      have b1 := (solo_in (h1 (i + 1) hi).1).2.1
      have b2 := (solo_in (h1 i (by omega)).1).2.1
      have := ih (by omega)
      have := hl (i + 1) hi i (by omega)
      omega
  rcases Nat.lt_or_ge 8 n with h2 | h2
  · have b := solo_in (h1 8 h2).1
    have := key 8 h2
    omega
  · exact h2

theorem can_in {B : Book} (hok : bookB B = true) {i : Nat} (hi : i < B.ng) {m n : Int} (h : canB B i m n = true) : 0 ≤ m ∧ m < B.nm := by
  have := bookB_gang hok hi
  simp only [canB, inB, Bool.and_eq_true, decide_eq_true_eq] at h
  omega

theorem solo_mile {B : Book} (hok : bookB B = true) {x : Nat → Int} (h : soloB B x = true) : 0 ≤ x 2 ∧ x 2 < B.nm := by
  obtain ⟨_, h1, h2⟩ := solo_in h
  exact can_in hok (i := (x 1).toNat) (by omega) h2

theorem solo_no {B : Book} (hok : bookB B = true) {x : Nat → Int} (h : inB (x 0) 0 (B.nights - 1) = false ∨ inB (x 1) 0 (B.ng - 1) = false ∨ inB (x 2) 0 (B.nm - 1) = false ∨ canB B (x 1).toNat (x 2) (x 0) = false) : ¬ soloB B x = true := by
  intro hs
  have hm := solo_mile hok hs
  simp only [soloB, Bool.and_eq_true] at hs
  rcases h with h | h | h | h
  · rw [hs.1] at h; cases h
  · rw [hs.2.1] at h; cases h
  · simp only [inB, Bool.and_eq_false_iff, decide_eq_false_iff_not] at h; omega
  · rw [hs.2.2] at h; cases h

theorem step_no {x y : Nat → Int} (h : decide (x 0 < y 0) = true ∨ (x 0 == y 0) = true ∧ (decide (x 1 ≤ y 1) = true ∨ (decide (-1 ≤ x 2 - y 2) && decide (x 2 - y 2 ≤ 1)) = true)) : ¬ stepP x y := by
  simp only [Bool.and_eq_true, decide_eq_true_eq, beq_iff_eq] at h
  unfold stepP
  omega

theorem step_yes {x y : Nat → Int} (h0 : decide (x 0 < y 0) = false) (h : (x 0 == y 0) = false ∨ decide (x 1 ≤ y 1) = false ∧ (decide (-1 ≤ x 2 - y 2) && decide (x 2 - y 2 ≤ 1)) = false) : stepP x y := by
  simp only [Bool.and_eq_false_iff, decide_eq_false_iff_not, beq_eq_false_iff_ne, ne_eq] at h h0
  unfold stepP
  omega

/-- Does a plan close a mile on a night? -/
def closeB (n : Nat) (g : Nat → Nat → Int) (night mile : Int) : Bool := decide (∃ i, i < n ∧ g i 0 = night ∧ g i 2 = mile)

theorem closeB_zero (g : Nat → Nat → Int) (night mile : Int) : closeB 0 g night mile = false := by
  simp only [closeB, decide_eq_false_iff_not]; rintro ⟨i, h, _⟩; omega

theorem closeB_succ (n : Nat) (g : Nat → Nat → Int) (night mile : Int) : closeB (n + 1) g night mile = (closeB n g night mile || (decide (g n 0 = night) && decide (g n 2 = mile))) := by
  rw [Bool.eq_iff_iff]
  simp only [closeB, Bool.or_eq_true, Bool.and_eq_true, decide_eq_true_eq]
  constructor
  · rintro ⟨i, h1, h2, h3⟩
    rcases Nat.lt_succ_iff_lt_or_eq.1 h1 with h | rfl
    · exact .inl ⟨i, h, h2, h3⟩
    · exact .inr ⟨h2, h3⟩
  · rintro (⟨i, h1, h2, h3⟩ | ⟨h2, h3⟩)
    · exact ⟨i, by omega, h2, h3⟩
    · exact ⟨n, by omega, h2, h3⟩

theorem K_congr {f f2 : Nat → Bool} {c : Nat} (h : ∀ k, k < c → f k = f2 k) : K f c = K f2 c := by
  induction c with
  | zero => rfl
  | succ c ih =>
    have := ih (fun k hk => h k (by omega))
    have h0 := h c (by omega)
    cases hf : f c
    · rw [K_miss hf, K_miss (h0 ▸ hf), this]
    · rw [K_hit hf, K_hit (h0 ▸ hf), this]

theorem K_more {f : Nat → Bool} {c : Nat} (d : Nat) (h : ∀ k, c ≤ k → k < c + d → f k = false) : K f (c + d) = K f c := by
  induction d with
  | zero => rfl
  | succ d ih => rw [← Nat.add_assoc, K_miss (h (c + d) (by omega) (by omega)), ih (fun k h1 h2 => h k h1 (by omega))]

theorem K_upto {f : Nat → Bool} {c d : Nat} (hcd : c ≤ d) (h : ∀ k, c ≤ k → k < d → f k = false) : K f d = K f c := by
  obtain ⟨e, rfl⟩ : ∃ e, d = c + e := ⟨d - c, by omega⟩
  exact K_more e h
end Go.Proofs.YtdcgmacknccklaaDoor

