/- lawful of the statements on layer 4 answers as its words say, for any book that is in order and works whose number is small or not. -/
import Derived.Test.YtdcgmacknccklaaDoorLa
import Derived.BigQuiet
import Derived.Deep.QuietTactic
namespace Go.Proofs.YtdcgmacknccklaaDoor
open Go Go.RowKit

theorem am_in {n lo hi : Int} {v : Bool} (h : inB n lo hi = v) (w : World) :
    Calls Tryd.prog 34 #[.int .i64 n, .int .i64 lo, .int .i64 hi] w fun e w' => e = .returned (.bool v) ∧ w' = w := h ▸ Amid_any n lo hi w

theorem in_is {x n : Int} {v : Bool} (h : (bitR x n == 1) = v) (hx : 0 ≤ x) (h0 : 0 ≤ n) (h1 : n ≤ 63) (w : World) :
    Calls Tryd.prog 68 #[.int .i64 x, .int .i64 n] w fun e w' => e = .returned (.bool v) ∧ w' = w := h ▸ In_any x n hx h0 h1 w

theorem lawB_no {B : Book} {n : Nat} {g : Nat → Nat → Int} {k : Nat} (hk : k < n) (h : lawW B (g k) (lastA g k) = false) : ¬ lawB B n g := fun hl => by
  have := hl.1 k hk
  rw [h] at this; cases this

/-- In order, as far as a night's works stand alone: then they are few. -/
theorem law_few {B : Book} (hng : B.ng ≤ 2) (hn : B.nights ≤ 4) {n : Nat} {g : Nat → Nat → Int} (h : ∀ i, i < n → lawW B (g i) (lastA g i) = true) : n ≤ 8 := by
  have hb : ∀ i, i < n → 0 ≤ atI (g i) ∧ atI (g i) ≤ 7 ∧ lastA g i < atI (g i) := fun i hi => by
    have := h i hi
    simp only [lawW, inB, Bool.and_eq_true, Bool.not_eq_true', decide_eq_true_eq, decide_eq_false_iff_not] at this
    unfold atI at *
    omega
  have key : ∀ i, i < n → (i : Int) ≤ atI (g i) := by
    intro i
    induction i with
    | zero => intro hi; have := hb 0 hi; omega
    | succ i ih => intro hi; have := hb (i + 1) hi; have := ih (by omega); simp only [lastA] at *; omega
  rcases Nat.lt_or_ge 8 n with h2 | h2
  · have := key 8 h2; have := hb 8 h2; omega
  · exact h2

theorem lastA_bd {B : Book} (hng : B.ng ≤ 2) (hn : B.nights ≤ 4) {k : Nat} {g : Nat → Nat → Int} (h : ∀ i, i < k → lawW B (g i) (lastA g i) = true) : -1 ≤ lastA g k ∧ lastA g k ≤ 7 := by
  cases k with
  | zero => simp [lastA]
  | succ k =>
    have := h k (by omega)
    simp only [lawW, inB, Bool.and_eq_true, decide_eq_true_eq] at this
    simp only [lastA, atI]
    omega

theorem shL_bd {g : Nat → Nat → Int} {n : Nat} (h : ∀ i, i < n → 0 ≤ g i 2 ∧ g i 2 ≤ 3) (night : Int) : ∀ a, a < (shL g night n).length → 0 ≤ (shL g night n).getD a 0 ∧ (shL g night n).getD a 0 ≤ 3 := by
  induction n with
  | zero => intro a ha; simp [shL] at ha
  | succ n ih =>
    have ih := ih (fun i hi => h i (by omega))
    intro a ha
    by_cases hq : g n 0 = night
    · rw [shL_hit hq] at ha ⊢
      simp only [List.length_append, List.length_cons, List.length_nil] at ha
      rcases Nat.lt_or_ge a (shL g night n).length with h1 | h1
      · have := ih a h1
        simpa [List.getD_eq_getElem?_getD, List.getElem?_append_left h1] using this
      · obtain rfl : a = (shL g night n).length := by omega
        simpa [List.getD_eq_getElem?_getD] using h n (by omega)
    · rw [shL_miss hq] at ha ⊢
      exact ih a ha

theorem belowDrewN1 {b : Nat} {a w : World} (h : Below b a w) (n : Nat) : Below b a (w.drewN n) := ⟨h.os, h.tape, h.output, h.size, h.block⟩

set_option maxRecDepth 100000 in
set_option maxHeartbeats 8000000 in
theorem lawful_any (B : Book) (pm pg pp : Option Addr) (cm cg cp : Nat) (w : World) (hm : Sl w pm 3 B.nm B.mile) (hg : Sl w pg 4 B.ng B.gang) (hok : bookB B = true) (n : Nat) (g : Nat → Nat → Int) (hp : Sl w pp 3 n g) (hn : n ≤ 9223372036854775807) (v : Bool) (hv : v = true ↔ lawB B n g) :
    Calls Tryd.prog 25 #[.agg #[.slice pm B.nm cm, .slice pg B.ng cg, .int .i64 B.nights], .slice pp n cp] w fun e w' => e = .returned (.bool v) ∧ Below w.heap.size w w' := by
  have hbd := bookB_bd hok
  have Hv := Lib.hid hv
  clear hv
  go_enter Tryd.func25, Tryd.ntmps25
  go_wp2_with fail
  go_loopw [5, 6] (fun l i wr => ∃ k : Nat, k ≤ n ∧ i = .int .i64 k ∧ l = .int .i64 (lastA g k) ∧ (∀ j, j < k → lawW B (g j) (lastA g j) = true) ∧ Below (w.heap.size + 1) (w.alloc (.cells #[.slice pm B.nm cm, .slice pg B.ng cg, .int .i64 B.nights] 25)) wr) (fun _ i _ => n - (intOf i).toNat)
  case atStart => exact ⟨0, Nat.zero_le _, rfl, rfl, by omega, Below.refl _ _⟩
  case round =>
    rename_i wr
    obtain ⟨k, hk, rfl, rfl, hall, hB⟩ := hrel
    have Hall := Lib.hid hall
    clear hall
    have hsz := hB.size
    rw [World.size_alloc] at hsz
    obtain ⟨hx, hW⟩ := box_facts hB
    by_cases hlt : k < n
    · obtain ⟨b, off, rfl, hb, hrow⟩ := hp.row3 hlt
      obtain ⟨hd0, hd1, hd2⟩ := hrow hW
      clear hrow
      have Hno := Lib.hid (show lawW B (g k) (lastA g k) = false → v = false from fun h => by
        cases hvv : v
        · rfl
        · exact absurd (Hv.out.1 hvv) (lawB_no hlt h))
      have hl1 := lastA_bd (B := B) hbd.2.1.2 hbd.2.2.2 Hall.out
      generalize hX : g k = x at *
      have HX := Lib.hid hX
      clear hX
      cases h0 : inB (x 0) 0 (B.nights - 1)
      case' true => cases h1 : inB (x 1) 0 (B.ng - 1)
      case' true.true => cases h2 : inB (x 2) 0 (B.nm - 1)
      case' true.true.true =>
        have e0 := h0
        have e1 := h1
        have e2 := h2
        simp only [inB, Bool.and_eq_true, decide_eq_true_eq] at e0 e1 e2
        have hmb := bookB_mails hok (i := (x 2).toNat) (by omega)
        obtain ⟨b4, off4, eg, hb4, hrow4⟩ := hg.row4 (i := (x 1).toNat) (by omega)
        obtain ⟨b3, off3, em, hb3, hrow3⟩ := hm.row3 (i := (x 2).toNat) (by omega)
        subst eg em
        have i1 : (x 1).toNat < B.ng := by omega
        have i2 : (x 2).toNat < B.nm := by omega
        cases hA : decide (atI x ≤ lastA g k)
      case' true.true.true.false => cases hC : decide (x 2 < B.gang (x 1).toNat 0)
      case' true.true.true.false.false => cases hD : decide (B.gang (x 1).toNat 1 < x 2)
      case' true.true.true.false.false.false => cases hE : (bitR (B.mile (x 2).toNat 2) (x 0) == 1)
      all_goals
        have hB4 := hB.alloc hsz (.cells #[.int .i64 (x 0), .int .i64 (x 1), .int .i64 (x 2)] 54)
        obtain ⟨hx4, hW4⟩ := box_facts hB4
        (try obtain ⟨q0, q1, q2, q3⟩ := hrow4 hW4)
        (try obtain ⟨m0, m1, m2⟩ := hrow3 hW4)
        (try clear hrow3)
        (try clear hrow4)
        (try have hA0 := Lib.hid hA)
        (try unfold atI at hA)
        go_wp2_with (first
          | (go_at_call_of 34 (Value.int .i64 (x 0)); refine (am_in h0 _).mono ?_; rintro e w2 ⟨rfl, hw2⟩; obtain rfl := hw2.symm)
          | (go_at_call_of 34 (Value.int .i64 (x 1)); refine (am_in h1 _).mono ?_; rintro e w3 ⟨rfl, hw3⟩; obtain rfl := hw3.symm)
          | (go_at_call_of 34 (Value.int .i64 (x 2)); refine (am_in h2 _).mono ?_; rintro e w4 ⟨rfl, hw4⟩; obtain rfl := hw4.symm))
      all_goals
        first
          | (go_ret
             exact ⟨ret_bool (Hno.out (by first | (simp only [lawW, h0, Bool.false_and]; done) | (simp only [lawW, h0, h1, Bool.false_and, Bool.true_and]; done) | simp only [lawW, h0, h1, h2, Bool.false_and, Bool.true_and])).symm, hW4⟩)
          | (go_quiet ((go_at_call 68; exact Calls.quiet_of_same (in_is hE hmb.1 (by omega) (by omega) _)))
             go_wp2_with fail
             first
             | (go_ret
                exact ⟨ret_bool (Hno.out (by first | (simp only [lawW, h0, h1, h2, hA0.out, Bool.true_and, Bool.not_true, Bool.false_and]; done) | (simp only [lawW, h0, h1, h2, hA0.out, hC, Bool.true_and, Bool.not_true, Bool.not_false, Bool.false_and]; done) | (simp only [lawW, h0, h1, h2, hA0.out, hC, hD, Bool.true_and, Bool.not_true, Bool.not_false, Bool.false_and]; done) | simp only [lawW, h0, h1, h2, hA0.out, hC, hD, hE, Bool.true_and, Bool.not_true, Bool.not_false, Bool.false_and])).symm, belowDrewN hW4 _⟩)
             | (go_roundw
                case rel => exact ⟨k + 1, by omega, by go_num, by simp only [lastA, atI, HX.out], fun j hj => by rcases Nat.lt_succ_iff_lt_or_eq.1 hj with h | rfl; exact Hall.out j h; rw [HX.out]; simp only [lawW, h0, h1, h2, hA0.out, hC, hD, hE, Bool.true_and, Bool.not_false], belowDrewN1 hB4 _⟩
                case measure => simp [intOf]; omega))
    · have Hkn := Lib.hid (show k = n by omega)
      have hall2 : ∀ j, j < n → lawW B (g j) (lastA g j) = true := fun j hj => Hall.out j (by have := Hkn.out; omega)
      have Hall := Lib.hid hall2
      clear hall2
      have hfew := law_few hbd.2.1.2 hbd.2.2.2 Hall.out
      have hbd2 : ∀ i, i < n → 0 ≤ g i 2 ∧ g i 2 ≤ 3 := fun i hi => by
        have := Hall.out i hi
        simp only [lawW, inB, Bool.and_eq_true, decide_eq_true_eq] at this
        omega
      have Hbd2 := Lib.hid hbd2
      clear hbd2
      go_wp2_with fail
      go_loopw [9] (fun i wr2 => ∃ m : Nat, (m : Int) ≤ B.nights ∧ i = .int .i64 m ∧ (∀ j : Nat, j < m → farP (shL g j n)) ∧ Below (w.heap.size + 1) (w.alloc (.cells #[.slice pm B.nm cm, .slice pg B.ng cg, .int .i64 B.nights] 25)) wr2) (fun i _ => (B.nights - intOf i).toNat)
      case atStart => exact ⟨0, by omega, rfl, by omega, hB⟩
      case round =>
        clear hB hx hW hsz
        obtain ⟨m, hmn, rfl, hfar, hB⟩ := hrel
        have Hfar := Lib.hid hfar
        clear hfar
        have hsz := hB.size
        rw [World.size_alloc] at hsz
        obtain ⟨hx, hW⟩ := box_facts hB
        by_cases hlt2 : (m : Int) < B.nights
        · generalize hL : shL g m n = L
          have HL := Lib.hid hL
          have hlen : L.length ≤ 8 := by rw [← hL]; exact Nat.le_trans (shL_le g m n) hfew
          have hshut := shut_any pp n cp g m wr (hp.below hW) (by omega)
          rw [hL] at hshut
          have hshut := Lib.hid hshut
          have hLb : ∀ a, a < L.length → 0 ≤ L.getD a 0 ∧ L.getD a 0 ≤ 3 := by rw [← hL]; exact shL_bd Hbd2.out m
          have HLb := Lib.hid hLb
          have Hno := Lib.hid (show ∀ a b, a < L.length → b < a → amB (L.getD a 0 - L.getD b 0) (-1) 1 = true → v = false from fun a b ha hb h => by
            cases hvv : v
            · rfl
            · have := (Hv.out.1 hvv).2 m hlt2
              rw [hL] at this
              rw [this a ha b hb] at h; cases h)
          clear hL hLb
          go_wp2_with (go_at_call 26; refine hshut.out.mono ?_; rintro e w3 ⟨p, cap, rfl, hS, hB3⟩)
          go_loopw [11] (fun i wr4 => ∃ a : Nat, a ≤ L.length ∧ i = .int .i64 a ∧ (∀ c, c < a → ∀ d, d < c → amB (L.getD c 0 - L.getD d 0) (-1) 1 = false) ∧ Below w3.heap.size w3 wr4) (fun i _ => L.length - (intOf i).toNat)
          case atStart => exact ⟨0, Nat.zero_le _, rfl, by omega, Below.refl _ _⟩
          case round =>
            obtain ⟨a, haL, rfl, hfa, hB4⟩ := hrel
            have Hfa := Lib.hid hfa
            clear hfa
            by_cases hlt3 : a < L.length
            · go_wp2_with fail
              go_loopw [12] (fun i wr5 => ∃ b : Nat, b ≤ a ∧ i = .int .i64 b ∧ (∀ d, d < b → amB (L.getD a 0 - L.getD d 0) (-1) 1 = false) ∧ Below w3.heap.size w3 wr5) (fun i _ => a - (intOf i).toNat)
              case atStart => exact ⟨0, Nat.zero_le _, rfl, by omega, hB4⟩
              case round =>
                clear hB4
                obtain ⟨b, hba, rfl, hfb, hB4⟩ := hrel
                have Hfb := Lib.hid hfb
                clear hfb
                by_cases hlt4 : b < a
                · obtain ⟨bl, ol, rfl, _, hcl⟩ := hS.below hB4 (by omega)
                  have l0 := hcl a hlt3 0 (by omega)
                  have l1 := hcl b (by omega) 0 (by omega)
                  simp only [Nat.mul_one, Nat.add_zero] at l0 l1
                  have u0 := HLb.out a hlt3
                  have u1 := HLb.out b (by omega)
                  obtain ⟨xa, hxa⟩ : ∃ y, L.getD a 0 = y := ⟨_, rfl⟩
                  obtain ⟨xb, hxb⟩ : ∃ y, L.getD b 0 = y := ⟨_, rfl⟩
                  rw [hxa] at l0 u0
                  rw [hxb] at l1 u1
                  have Hxa := Lib.hid hxa
                  have Hxb := Lib.hid hxb
                  have Hcl := @Lib.hid _ @hcl
                  clear hcl hxa hxb
                  have hwr : IntKind.i64.wrap (xa - xb) = xa - xb := IntWalk.i64_in _ (by omega)
                  have hbL : b < L.length := by omega
                  cases ham : amB (xa - xb) (-1) 1
                  all_goals
                    have Ham := Lib.hid ham
                    go_wp2_with fail
                    go_quiet ((go_at_call 34; exact Calls.quiet_of_same (Amid_is Ham.out _)))
                    go_wp2_with fail
                  · go_roundw
                    case rel => exact ⟨b + 1, by omega, by go_num, fun d hd => by rcases Nat.lt_succ_iff_lt_or_eq.1 hd with h | rfl; exact Hfb.out d h; rw [Hxa.out, Hxb.out]; exact Ham.out, belowDrewN1 hB4 _⟩
                    case measure => simp [intOf]; omega
                  · go_ret
                    exact ⟨ret_bool (Hno.out a b hlt3 hlt4 (by rw [Hxa.out, Hxb.out]; exact Ham.out)).symm, hW.trans ((hB3.trans ((belowDrewN1 hB4 _).mono hB3.size)).mono hW.size)⟩
                · have hba2 : b = a := by omega
                  have Hba2 := Lib.hid hba2
                  clear hba2
                  go_wp2_with fail
                  go_roundw
                  case rel => exact ⟨a + 1, by omega, by go_num, fun c hc d hd => by rcases Nat.lt_succ_iff_lt_or_eq.1 hc with h | rfl; exact Hfa.out c h d hd; exact Hfb.out d (by have := Hba2.out; omega), hB4⟩
                  case measure => simp [intOf]; omega
            · have Hae := Lib.hid (show a = L.length by omega)
              go_wp2_with fail
              go_roundw
              case rel => exact ⟨m + 1, by omega, by go_num, fun j hj => by rcases Nat.lt_succ_iff_lt_or_eq.1 hj with h | rfl; exact Hfar.out j h; rw [HL.out]; exact fun c hc d hd => Hfa.out c (by have := Hae.out; omega) d hd, hB.trans ((hB3.trans (hB4.mono hB3.size)).mono hsz)⟩
              case measure => simp [intOf]; omega
        · have hme : (m : Int) = B.nights := by omega
          have Hme := Lib.hid hme
          clear hme
          go_wp2_with fail
          go_ret
          exact ⟨ret_bool (Hv.out.2 ⟨Hall.out, fun j hj => Hfar.out j (by have := Hme.out; omega)⟩).symm, hW⟩
end Go.Proofs.YtdcgmacknccklaaDoor
