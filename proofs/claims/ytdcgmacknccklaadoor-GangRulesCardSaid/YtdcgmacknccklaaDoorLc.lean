/- Works in order, as the statement says it, are a plan, as the program says it. -/
import Derived.Test.YtdcgmacknccklaaDoorLb
import Derived.Test.YtdcgmacknccklaaDoorGq
namespace Go.Proofs.YtdcgmacknccklaaDoor
open Go Go.RowKit

theorem shL_mono (g : Nat → Nat → Int) (night : Int) (j d : Nat) : (shL g night j).length ≤ (shL g night (j + d)).length := by
  induction d with
  | zero => exact Nat.le_refl _
  | succ d ih =>
    rw [← Nat.add_assoc]
    by_cases h : g (j + d) 0 = night
    · rw [shL_hit h]; simp; omega
    · rw [shL_miss h]; exact ih

theorem shL_len {g : Nat → Nat → Int} {night : Int} {j k : Nat} (h : j ≤ k) : (shL g night j).length ≤ (shL g night k).length := by
  obtain ⟨d, rfl⟩ : ∃ d, k = j + d := ⟨k - j, by omega⟩
  exact shL_mono g night j d

theorem shL_at {g : Nat → Nat → Int} {night : Int} : ∀ n j, j < n → g j 0 = night → (shL g night j).length < (shL g night n).length ∧ (shL g night n).getD (shL g night j).length 0 = g j 2
  | 0, _, h, _ => absurd h (by omega)
  | n + 1, j, h, hj => by
    rcases Nat.lt_succ_iff_lt_or_eq.1 h with h1 | rfl
    · obtain ⟨h2, h3⟩ := shL_at n j h1 hj
      by_cases hq : g n 0 = night
      · rw [shL_hit hq]
        refine ⟨by simp; omega, ?_⟩
        rw [List.getD_eq_getElem?_getD, List.getElem?_append_left h2, ← List.getD_eq_getElem?_getD, h3]
      · rw [shL_miss hq]; exact ⟨h2, h3⟩
    · rw [shL_hit hj]
      exact ⟨by simp, by simp [List.getD_eq_getElem?_getD]⟩

theorem shL_pos {g : Nat → Nat → Int} {night : Int} : ∀ n a, a < (shL g night n).length → ∃ j, j < n ∧ g j 0 = night ∧ a = (shL g night j).length
  | 0, a, h => absurd h (by simp [shL])
  | n + 1, a, h => by
    by_cases hq : g n 0 = night
    · rw [shL_hit hq] at h
      simp only [List.length_append, List.length_cons, List.length_nil] at h
      rcases Nat.lt_or_ge a (shL g night n).length with h1 | h1
      · obtain ⟨j, h2, h3, h4⟩ := shL_pos n a h1
        exact ⟨j, by omega, h3, h4⟩
      · exact ⟨n, by omega, hq, by omega⟩
    · rw [shL_miss hq] at h
      obtain ⟨j, h2, h3, h4⟩ := shL_pos n a h
      exact ⟨j, by omega, h3, h4⟩

theorem lawW_iff {B : Book} (hok : bookB B = true) {x : Nat → Int} {last : Int} : lawW B x last = true ↔ soloB B x = true ∧ last < atI x := by
  have hbd := bookB_bd hok
  constructor
  · intro h
    simp only [lawW, Bool.and_eq_true, Bool.not_eq_true', decide_eq_false_iff_not] at h
    obtain ⟨h0, h1, h2, h3, h4, h5, h6⟩ := h
    refine ⟨?_, by omega⟩
    have b0 := h0
    have b1 := h1
    have b2 := h2
    simp only [inB, Bool.and_eq_true, decide_eq_true_eq] at b0 b1 b2
    have hmb := bookB_mails hok (i := (x 2).toNat) (by omega)
    have hbit : bitE (B.mile (x 2).toNat 2) (x 0) = 0 := by
      rcases bit_or hmb.1 hmb.2 b0.1 (by omega) with h | h
      · exact h
      · rw [h] at h6; simp at h6
    simp only [soloB, h0, h1, canB, hbit, inB, Bool.true_and, Bool.and_eq_true, decide_eq_true_eq, beq_self_eq_true, and_true]
    omega
  · rintro ⟨h, hl⟩
    have hm := solo_mile hok h
    obtain ⟨b0, b1, hc⟩ := solo_in h
    simp only [canB, inB, Bool.and_eq_true, decide_eq_true_eq, beq_iff_eq] at hc
    have e6 : (bitR (B.mile (x 2).toNat 2) (x 0) == 1) = false := by
      have : bitR (B.mile (x 2).toNat 2) (x 0) = 0 := hc.2
      rw [this]; rfl
    simp only [lawW, e6, inB, Bool.and_eq_true, Bool.not_eq_true', decide_eq_true_eq, decide_eq_false_iff_not, Bool.not_false, and_true]
    omega

theorem law_plan {B : Book} (hok : bookB B = true) {n : Nat} {g : Nat → Nat → Int} : planB B n g = true ↔ lawB B n g := by
  have hbd := bookB_bd hok
  constructor
  · intro h
    have hs := (planB_steps hbd.2.1.2).1 h
    refine ⟨fun i hi => (lawW_iff hok).2 ⟨(hs i hi).1, ?_⟩, fun m hm a ha b hb => ?_⟩
    · have bi := solo_in (hs i hi).1
      cases i with
      | zero => simp only [lastA, atI]; omega
      | succ i =>
        have bj := solo_in (hs i (by omega)).1
        have := ((hs (i + 1) hi).2 (by omega)).1
        simp only [Nat.add_sub_cancel] at this
        simp only [lastA, atI]
        omega
    · obtain ⟨i, hi, hin, rfl⟩ := shL_pos n a ha
      obtain ⟨j, hj, hjn, rfl⟩ := shL_pos n b (Nat.lt_trans hb ha)
      have hji : j < i := by
        rcases Nat.lt_or_ge j i with h1 | h1
        · exact h1
        · exact absurd (shL_len (g := g) (night := (m : Int)) h1) (Nat.not_le.2 hb)
      rw [(shL_at n i hi hin).2, (shL_at n j hj hjn).2]
      simp only [planB, decide_eq_true_eq] at h
      have := ((nextB_iff.1 (h i hi)).2 j hji).2
      rw [nearB_not] at this
      simp only [amB, Bool.and_eq_false_iff, decide_eq_false_iff_not]
      omega
  · rintro ⟨h1, h2⟩
    refine (planB_steps hbd.2.1.2).2 fun i hi => ?_
    have hi1 := (lawW_iff hok).1 (h1 i hi)
    refine ⟨hi1.1, fun h0 => ?_⟩
    obtain ⟨j, rfl⟩ : ∃ j, i = j + 1 := ⟨i - 1, by omega⟩
    simp only [Nat.add_sub_cancel]
    have hj1 := (lawW_iff hok).1 (h1 j (by omega))
    have bi := solo_in hi1.1
    have bj := solo_in hj1.1
    have hl := hi1.2
    simp only [lastA, atI] at hl
    refine ⟨by omega, ?_⟩
    rintro ⟨e, h3, h4⟩
    have hm : (((g j 0).toNat : Nat) : Int) = g j 0 := by omega
    have hf := h2 (g j 0).toNat (by omega)
    rw [hm] at hf
    have pa := shL_at n (j + 1) hi e
    have pb := shL_at (g := g) (night := g j 0) n j (by omega) rfl
    have hlt : (shL g (g j 0) j).length < (shL g (g j 0) (j + 1)).length := by rw [shL_hit rfl]; simp
    have := hf _ pa.1 _ hlt
    rw [pa.2, pb.2] at this
    simp only [amB, Bool.and_eq_false_iff, decide_eq_false_iff_not] at this
    omega
end Go.Proofs.YtdcgmacknccklaaDoor
