/- numbers and Can of package gang: the list of all numbers that are so. -/
import Derived.Test.YtdcgmacknccklaaDoorGb
import Derived.Laws.AppendOwn
namespace Go.Proofs.YtdcgmacknccklaaDoor
open Go Go.RowKit

theorem ownsRow_below {w w' : World} {base : Nat} {e : TypeId} {size : Nat} {v : Value} {n : Nat} {xs : List Value} (h : w.ownsRow base e size v n xs) (hb : Below w.heap.size w w') : w'.ownsRow base e size v n xs := by
  refine ⟨h.1, ?_⟩
  rcases h.2 with hn | ⟨g, cap, cur, rfl, h1, h2, h3⟩
  · exact .inl hn
  · exact .inr ⟨g, cap, cur, rfl, h1, (hb.block g (Array.getElem?_eq_some_iff.1 h2).1).trans h2, h3⟩

/-- The numbers below k that are so. -/
def K (f : Nat → Bool) (k : Nat) : List Int := ((List.range k).filter f).map (fun i : Nat => (i : Int))

theorem K_hit {f : Nat → Bool} {k : Nat} (h : f k = true) : K f (k + 1) = K f k ++ [(k : Int)] := by simp [K, List.range_succ, List.filter_append, h]
theorem K_miss {f : Nat → Bool} {k : Nat} (h : f k = false) : K f (k + 1) = K f k := by simp [K, List.range_succ, List.filter_append, h]
theorem K_le (f : Nat → Bool) (k : Nat) : (K f k).length ≤ k := by
  have := List.length_filter_le f (List.range k)
  simpa [K] using this

theorem info3 : (Tryd.prog.info? 3).map (fun i => (i.zero, i.size, i.bytes)) = some (some (.int .i64 0), 1, 8) := by kernel_rfl

theorem sl_of_owns {w : World} {base : Nat} {e : TypeId} {g : Nat} {l : List Int} {cap : Nat} (h : w.ownsRow base e 1 (.slice (some ⟨g, 0, none⟩) l.length cap) l.length (l.map (Value.int .i64))) : Sl w (some ⟨g, 0, none⟩) 1 l.length (fun i _ => l.getD i 0) := by
  intro hn
  refine ⟨g, 0, rfl, (h.lt g rfl).2, fun i hi j hj => ?_⟩
  have := h.cells (g := g) rfl i (.int .i64 (l.getD i 0)) (by simp [List.getElem?_eq_getElem hi])
  obtain rfl : j = 0 := by omega
  have e0 : (⟨g, 0, none⟩ : Addr).add i = ⟨g, 0 + i * 1 + 0, none⟩ := by unfold Addr.add; split <;> simp_all
  rwa [e0] at this

set_option maxRecDepth 100000 in
theorem numbers_any (cv : Int) (c : Nat) (hcv : cv = c) (hc : c ≤ 1000) (f : Nat → Bool) (a1 a2 a3 : Value) (w : World)
    (hcl : ∀ k : Nat, k < c → ∀ w', Below w.heap.size w w' → Calls Tryd.prog 38 #[.int .i64 k, a1, a2, a3] w' fun e w'' => e = .returned (.bool (f k)) ∧ Below w'.heap.size w' w'') :
    Calls Tryd.prog 37 #[.int .i64 cv, .func (.func 38) #[] #[a1, a2, a3]] w fun e w' => ∃ p, e = .returned (.slice p (K f c).length (K f c).length) ∧ Sl w' p 1 (K f c).length (fun i _ => (K f c).getD i 0) ∧ Below w.heap.size w w' := by
  subst hcv
  obtain ⟨i0, hi, hz0, hz1, hz2⟩ := info_parts info3
  go_enter Tryd.func37, Tryd.ntmps37
  go_wp2
  go_loopw [5, 8] (fun v i wr => ∃ k : Nat, k ≤ c ∧ i = .int .i64 k ∧ wr.ownsRow w.heap.size 3 1 v (K f k).length ((K f k).map (Value.int .i64)) ∧ Below w.heap.size w wr) (fun _ i _ => c - (intOf i).toNat)
  case atStart => exact ⟨0, Nat.zero_le _, rfl, World.ownsRow_nil _ _ _ _, Below.refl _ _⟩
  case round =>
    rename_i wr
    obtain ⟨k, hk, rfl, hown, hB⟩ := hrel
    have hsz := hB.size
    have hle := K_le f k
    by_cases hlt : k < c
    · have hc1 := hcl k hlt wr hB
      have Hcl := Lib.hid hcl
      clear hcl
      cases hf : f k
      · rw [hf] at hc1
        have Hf := Lib.hid hf
        clear hf
        go_wp2_with (go_at_call 38; refine hc1.mono ?_; rintro e w2 ⟨rfl, hB2⟩)
        go_roundw
        case rel => exact ⟨k + 1, by omega, by go_num, by rw [K_miss Hf.out]; exact ownsRow_below hown hB2, hB.trans (hB2.mono hsz)⟩
        case measure => simp [intOf]; omega
      · rw [hf] at hc1
        have Hf := Lib.hid hf
        clear hf
        go_wp2_with (first
          | (go_at_call 38; refine hc1.mono ?_; rintro e w2 ⟨rfl, hB2⟩)
          | (at_builtin; refine wpList_append_own _ rfl _ _ 28 rfl w.heap.size 3 i0 (.int .i64 0) 1 8 Tryd.underlying28 hi hz0 hz1 hz2 rfl (by decide) _ _ _ rfl ((ownsRow_below hown hB2).alloc _) ⟨w2.heap.size, 0, none⟩ 1 1 [.int .i64 k] rfl rfl ?c1 ?c2 ?c3 ?c4 ?c5 ?_))
        case c1 =>
          intro j u hj
          match j, hj with
          | 0, hj => simp at hj; subst hj; simp [Addr.add]
        case c2 => intro u hu; simp at hu; subst hu; rfl
        case c3 => unfold maxLen; omega
        case c4 => omega
        case c5 => have := hB2.size; simp; omega
        intro v' w1 hown' hgrow _
        have hs2 := hB2.size
        have hB3 : Below w.heap.size w w1 := ((hB.trans (hB2.mono hsz)).alloc (by omega) _).grown hgrow (by simp; omega) (fun j hj => by have := (hown.lt j hj).1; omega)
        clear hgrow
        go_wp2
        go_roundw
        case rel => exact ⟨k + 1, by omega, by go_num, by rw [K_hit Hf.out]; simpa using hown', hB3⟩
        case measure => simp [intOf]; omega
    · obtain rfl : k = c := by omega
      have Hcl := Lib.hid hcl
      clear hcl
      rcases hown.2 with ⟨rfl, h0⟩ | ⟨g, cap, cur, rfl, h1, h2, h3, h4, h5⟩
      · have e0 : K f k = [] := List.eq_nil_of_length_eq_zero h0
        go_wp2
        go_ret
        rw [e0]
        exact ⟨none, rfl, fun h => absurd h (by simp), hB⟩
      · have hS := sl_of_owns hown
        have h4' := h4
        unfold maxLen at h4'
        go_wp2
        go_ret
        exact ⟨_, rfl, hS, hB⟩
end Go.Proofs.YtdcgmacknccklaaDoor
