/- The miles that are closed on a night are those of its works. -/
import Derived.Test.YtdcgmacknccklaaDoorLc
import Derived.Test.YtdcgmacknccklaaDoorGu
namespace Go.Proofs.YtdcgmacknccklaaDoor
open Go Go.RowKit

theorem mem_K2 (f : Nat → Bool) (c : Nat) (x : Int) : x ∈ K f c ↔ ∃ k : Nat, k < c ∧ f k = true ∧ (k : Int) = x := by
  simp only [K, List.mem_map, List.mem_filter, List.mem_range]
  constructor
  · rintro ⟨k, ⟨h1, h2⟩, h3⟩; exact ⟨k, h1, h2, h3⟩
  · rintro ⟨k, h1, h2, h3⟩; exact ⟨k, ⟨h1, h2⟩, h3⟩

theorem K_nodup (f : Nat → Bool) (c : Nat) : (K f c).Nodup := by
  induction c with
  | zero => simp [K]
  | succ c ih =>
    cases hf : f c
    · rw [K_miss hf]; exact ih
    · rw [K_hit hf, List.nodup_append]
      refine ⟨ih, by simp, ?_⟩
      intro x hx y hy
      obtain ⟨k, h1, _, h3⟩ := (mem_K2 f c x).1 hx
      simp only [List.mem_singleton] at hy
      omega

theorem mem_shL (g : Nat → Nat → Int) (night x : Int) : ∀ n, x ∈ shL g night n ↔ ∃ j, j < n ∧ g j 0 = night ∧ g j 2 = x
  | 0 => by simp [shL]
  | n + 1 => by
    have ih := mem_shL g night x n
    by_cases hq : g n 0 = night
    · rw [shL_hit hq, List.mem_append, ih]
      constructor
      · rintro (⟨j, h1, h2, h3⟩ | h)
        · exact ⟨j, by omega, h2, h3⟩
        · simp only [List.mem_singleton] at h; exact ⟨n, by omega, hq, h.symm⟩
      · rintro ⟨j, h1, h2, h3⟩
        rcases Nat.lt_succ_iff_lt_or_eq.1 h1 with h | rfl
        · exact .inl ⟨j, h, h2, h3⟩
        · exact .inr (by simp [h3])
    · rw [shL_miss hq, ih]
      constructor
      · rintro ⟨j, h1, h2, h3⟩; exact ⟨j, by omega, h2, h3⟩
      · rintro ⟨j, h1, h2, h3⟩
        rcases Nat.lt_succ_iff_lt_or_eq.1 h1 with h | rfl
        · exact ⟨j, h, h2, h3⟩
        · exact absurd h2 hq

theorem far_nodup {l : List Int} (h : farP l) : l.Nodup := by
  rw [List.nodup_iff_pairwise_ne, List.pairwise_iff_getElem]
  intro i j hi hj hij e
  have := h j hj i hij
  simp only [List.getD_eq_getElem?_getD, List.getElem?_eq_getElem hi, List.getElem?_eq_getElem hj, Option.getD_some, e] at this
  simp [amB] at this

/-- By a plan: as many miles are closed on a night as works are on it, and all of their miles. -/
theorem closed_shut {B : Book} (hok : bookB B = true) {n : Nat} {g : Nat → Nat → Int} (his : planB B n g = true) {night : Int} (h0 : 0 ≤ night) (h1 : night < B.nights) :
    (closedL B n g night).length = (shL g night n).length ∧ ∀ x, x ∈ shL g night n → x ∈ closedL B n g night := by
  have hq : inB night 0 (B.nights - 1) = true := by simp only [inB, Bool.and_eq_true, decide_eq_true_eq]; omega
  have e : closedL B n g night = K (fun k : Nat => closeB n g night k) B.nm := by
    unfold closedL; rw [hok, hq, his]; rfl
  have hl := (law_plan hok).1 his
  have hfit := plan_fit hok his
  have hn : (((night.toNat : Nat)) : Int) = night := by omega
  have hfar := hl.2 night.toNat (by omega)
  rw [hn] at hfar
  have hmem : ∀ x, x ∈ K (fun k : Nat => closeB n g night k) B.nm ↔ x ∈ shL g night n := fun x => by
    rw [mem_K2, mem_shL]
    constructor
    · rintro ⟨k, _, h2, h3⟩
      simp only [closeB, decide_eq_true_eq] at h2
      obtain ⟨j, h4, h5, h6⟩ := h2
      exact ⟨j, h4, h5, by omega⟩
    · rintro ⟨j, h4, h5, h6⟩
      have := (hfit j h4).2
      refine ⟨x.toNat, by omega, ?_, by omega⟩
      simp only [closeB, decide_eq_true_eq]
      exact ⟨j, h4, h5, by omega⟩
  rw [e]
  refine ⟨?_, fun x hx => (hmem x).2 hx⟩
  exact ((List.perm_ext_iff_of_nodup (K_nodup _ _) (far_nodup hfar)).2 hmem).length_eq

theorem pl_mem (l : List Int) (x : Int) : 0 ≤ plL (fun j _ => l.getD j 0) x 0 l.length ↔ x ∈ l := by
  rw [plL_iff, List.mem_iff_getElem]
  constructor
  · rintro ⟨i, _, h2, h3⟩
    have hi : i < l.length := by omega
    exact ⟨i, hi, by rw [← h3, List.getD_eq_getElem?_getD, List.getElem?_eq_getElem hi]; rfl⟩
  · rintro ⟨i, hi, h⟩
    exact ⟨i, by omega, by omega, by simp only [List.getD_eq_getElem?_getD, List.getElem?_eq_getElem hi, Option.getD_some, h]⟩
end Go.Proofs.YtdcgmacknccklaaDoor
