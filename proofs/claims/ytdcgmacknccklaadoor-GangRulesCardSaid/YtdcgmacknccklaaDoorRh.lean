/- The reference of layer 4: isPlan, May, asked. -/
import Derived.Test.YtdcgmacknccklaaDoorRg
namespace Go.Proofs.YtdcgmacknccklaaDoor
open Go Go.RowKit

abbrev HeldQ (W : World) (a x : Nat) (v0 v1 v2 : Value) (r : Nat → Int) (w' : World) : Prop := Below W.heap.size W w' ∧ (w'.cell? ⟨a, 0, none⟩ = some v0 ∧ w'.cell? ⟨a, 1, none⟩ = some v1 ∧ w'.cell? ⟨a, 2, none⟩ = some v2) ∧
  w'.cell? ⟨x, 0, none⟩ = some (.int .i64 (r 0)) ∧ w'.cell? ⟨x, 1, none⟩ = some (.int .i64 (r 1)) ∧ w'.cell? ⟨x, 2, none⟩ = some (.int .i64 (r 2))

theorem keepQ {W w' : World} {a x : Nat} {v0 v1 v2 : Value} {r : Nat → Int} (h : HeldQ W a x v0 v1 v2 r W) (hb : Below W.heap.size W w') : HeldQ W a x v0 v1 v2 r w' :=
  have lt : ∀ {c : Addr} {v : Value}, W.cell? c = some v → c.block < W.heap.size := fun h => World.block_lt_of_cell? W _ h
  ⟨hb, ⟨(hb.cell (lt h.2.1.1)).trans h.2.1.1, (hb.cell (lt h.2.1.2.1)).trans h.2.1.2.1, (hb.cell (lt h.2.1.2.2)).trans h.2.1.2.2⟩, (hb.cell (lt h.2.2.1)).trans h.2.2.1, (hb.cell (lt h.2.2.2.1)).trans h.2.2.2.1, (hb.cell (lt h.2.2.2.2)).trans h.2.2.2.2⟩

section
variable {B : Book} {pm pg : Option Addr} {cm cg : Nat} {W wc : World}
theorem hNight (hb : Below W.heap.size W wc) {n : Int} {v : Bool} (h : inB n 0 (B.nights - 1) = v) (h0 : 0 ≤ B.nights) (h1 : B.nights ≤ 1000) : Calls Tryd.prog 51 #[.agg #[.slice pm B.nm cm, .slice pg B.ng cg, .int .i64 B.nights], .int .i64 n] wc fun e w' => e = .returned (.bool v) ∧ Below W.heap.size W w' := held hb (h ▸ rNight_any B pm pg cm cg wc n h0 h1)
theorem hGang (hb : Below W.heap.size W wc) {n : Int} {v : Bool} (h : inB n 0 (B.ng - 1) = v) (hl : B.ng ≤ 9223372036854775807) : Calls Tryd.prog 40 #[.agg #[.slice pm B.nm cm, .slice pg B.ng cg, .int .i64 B.nights], .int .i64 n] wc fun e w' => e = .returned (.bool v) ∧ Below W.heap.size W w' := held hb (h ▸ rGang_any B pm pg cm cg wc n hl)
theorem hMile (hb : Below W.heap.size W wc) {n : Int} {v : Bool} (h : inB n 0 (B.nm - 1) = v) (hl : B.nm ≤ 9223372036854775807) : Calls Tryd.prog 41 #[.agg #[.slice pm B.nm cm, .slice pg B.ng cg, .int .i64 B.nights], .int .i64 n] wc fun e w' => e = .returned (.bool v) ∧ Below W.heap.size W w' := held hb (h ▸ rMile_any B pm pg cm cg wc n hl)
theorem hCan (hb : Below W.heap.size W wc) {iv mv n : Int} {v : Bool} (h : canB B iv.toNat mv n = v) (hm : Sl W pm 3 B.nm B.mile) (hg : Sl W pg 4 B.ng B.gang) (hok : bookB B = true) (hi0 : 0 ≤ iv) (hi : iv < B.ng) (hm0 : 0 ≤ mv) (hmi : mv < B.nm) (hn0 : 0 ≤ n) (hn1 : n ≤ 3) :
    Calls Tryd.prog 42 #[.agg #[.slice pm B.nm cm, .slice pg B.ng cg, .int .i64 B.nights], .int .i64 iv, .int .i64 mv, .int .i64 n] wc fun e w' => e = .returned (.bool v) ∧ Below W.heap.size W w' := by
  obtain ⟨i, rfl⟩ : ∃ i : Nat, iv = i := ⟨iv.toNat, by omega⟩
  obtain ⟨m, rfl⟩ : ∃ m : Nat, mv = m := ⟨mv.toNat, by omega⟩
  rw [Int.toNat_natCast] at h
  exact held hb (h ▸ rcan_any B pm pg cm cg wc (hm.below hb) (hg.below hb) hok i m i m rfl (by omega) rfl (by omega) n hn0 hn1)
end

theorem solo_is {B : Book} {x : Nat → Int} (h0 : inB (x 0) 0 (B.nights - 1) = true) (h1 : inB (x 1) 0 (B.ng - 1) = true) (h3 : canB B (x 1).toNat (x 2) (x 0) = true) : soloB B x = true := by simp only [soloB, h0, h1, h3, Bool.and_self]

theorem no_plan_at {B : Book} (hng : B.ng ≤ 2) {n : Nat} {g : Nat → Nat → Int} {k : Nat} (hk : k < n) (h : ¬ (soloB B (g k) = true ∧ (0 < k → stepP (g k) (g (k - 1))))) : planB B n g = false := by
  cases hp : planB B n g
  · rfl
  · exact absurd ((planB_steps hng).1 hp k hk) h

set_option maxRecDepth 100000 in
set_option maxHeartbeats 8000000 in
theorem risPlan_any (B : Book) (pm pg pp : Option Addr) (cm cg cp : Nat) (w : World) (hm : Sl w pm 3 B.nm B.mile) (hg : Sl w pg 4 B.ng B.gang) (hok : bookB B = true) (n : Nat) (g : Nat → Nat → Int) (hp : Sl w pp 3 n g) (hn : n ≤ 9223372036854775807) :
    Calls Tryd.prog 46 #[.agg #[.slice pm B.nm cm, .slice pg B.ng cg, .int .i64 B.nights], .slice pp n cp] w fun e w' => e = .returned (.bool (planB B n g)) ∧ Below w.heap.size w w' := by
  have hbd := bookB_bd hok
  have hW0 : Below w.heap.size w (w.alloc (.cells #[.slice pm B.nm cm, .slice pg B.ng cg, .int .i64 B.nights] 25)) := belowAlloc (Below.refl _ _) _
  go_enter Tryd.func46, Tryd.ntmps46
  go_wp2_with fail
  go_loopw [5] (fun i wr => ∃ k : Nat, k ≤ n ∧ i = .int .i64 k ∧ (∀ j, j < k → soloB B (g j) = true ∧ (0 < j → stepP (g j) (g (j - 1)))) ∧ Below (w.heap.size + 1) (w.alloc (.cells #[.slice pm B.nm cm, .slice pg B.ng cg, .int .i64 B.nights] 25)) wr) (fun i _ => n - (intOf i).toNat)
  case atStart => exact ⟨0, Nat.zero_le _, rfl, by omega, Below.refl _ _⟩
  case round =>
    rename_i wr
    obtain ⟨k, hk, rfl, hall, hB⟩ := hrel
    have Hall := Lib.hid hall
    clear hall
    obtain ⟨hx, hW⟩ := box_facts hB
    by_cases hlt : k < n
    · have hsz := hB.size
      rw [World.size_alloc] at hsz
      have hpr := Lib.hid hp
      obtain ⟨b, off, rfl, hb, hrow⟩ := hp.row3 hlt
      obtain ⟨hd0, hd1, hd2⟩ := hrow hW
      clear hrow
      have hBX : Below wr.heap.size wr (wr.alloc (.cells #[.int .i64 (g k 0), .int .i64 (g k 1), .int .i64 (g k 2)] 54)) := belowAlloc (Below.refl _ _) _
      have hWX : Below w.heap.size w (wr.alloc (.cells #[.int .i64 (g k 0), .int .i64 (g k 1), .int .i64 (g k 2)] 54)) := hW.trans (hBX.mono hW.size)
      have hS : HeldQ (wr.alloc (.cells #[.int .i64 (g k 0), .int .i64 (g k 1), .int .i64 (g k 2)] 54)) w.heap.size wr.heap.size (.slice pm B.nm cm) (.slice pg B.ng cg) (.int .i64 B.nights) (g k) (wr.alloc (.cells #[.int .i64 (g k 0), .int .i64 (g k 1), .int .i64 (g k 2)] 54)) :=
        ⟨Below.refl _ _, ⟨(hBX.cell (p := ⟨w.heap.size, 0, none⟩) (by show w.heap.size < wr.heap.size; omega)).trans (hx 0), (hBX.cell (p := ⟨w.heap.size, 1, none⟩) (by show w.heap.size < wr.heap.size; omega)).trans (hx 1), (hBX.cell (p := ⟨w.heap.size, 2, none⟩) (by show w.heap.size < wr.heap.size; omega)).trans (hx 2)⟩, new2 _ _ _ _ rfl 0, new2 _ _ _ _ rfl 1, new2 _ _ _ _ rfl 2⟩
      have hSh := Lib.hid hS
      clear hS
      obtain ⟨hx4, _⟩ := box_facts (hB.alloc hsz (.cells #[.int .i64 (g k 0), .int .i64 (g k 1), .int .i64 (g k 2)] 54))
      have hmX := hm.below hWX
      have hgX := hg.below hWX
      have hno : ¬ soloB B (g k) = true → planB B n g = false := fun h => no_plan_at hbd.2.1.2 hlt (fun h2 => h h2.1)
      have Hno := Lib.hid hno
      clear hno
      cases h0 : inB (g k 0) 0 (B.nights - 1)
      case' true => cases h1 : inB (g k 1) 0 (B.ng - 1)
      case' true.true => cases h2 : inB (g k 2) 0 (B.nm - 1)
      case' true.true.true =>
        have e0 := h0
        have e1 := h1
        have e2 := h2
        simp only [inB, Bool.and_eq_true, decide_eq_true_eq] at e0 e1 e2
        cases h3 : canB B (g k 1).toNat (g k 2) (g k 0)
      case' true.true.true.true => rcases Nat.eq_zero_or_pos k with hk0 | hk0
      case' true.true.true.true.inr =>
        obtain ⟨b', off', eq', _, hrow'⟩ := hpr.out.row3 (i := k - 1) (by omega)
        injection eq' with eq'
        injection eq' with eq1 eq2
        subst eq1 eq2
        have Hrow := @Lib.hid _ @hrow'
        clear hrow'
        have hm1 := solo_mile hok (Hall.out (k - 1) (by omega)).1
        have hk1 : (1 : Int) ≤ k := by omega
        have hk2 : ((k : Int) == 0) = false := by simp; omega
        have hk3 : ((k : Int) - 1).toNat = k - 1 := by omega
        cases hl : decide (g k 0 < g (k - 1) 0)
      case' true.true.true.true.inr.false => cases he : (g k 0 == g (k - 1) 0)
      case' true.true.true.true.inr.false.true => cases hle : decide (g k 1 ≤ g (k - 1) 1)
      case' true.true.true.true.inr.false.true.false => cases ham : amB (g k 2 - g (k - 1) 2) (-1) 1
      case' true.true.true.true.inl =>
        have hk2 : ((k : Int) == 0) = true := by simp; omega
        have Hk0 := Lib.hid hk0
        clear hk0
      all_goals
        go_wp2_with (first
          | (go_at_call 51; refine (hNight (W := (wr.alloc (.cells #[.int .i64 (g k 0), .int .i64 (g k 1), .int .i64 (g k 2)] 54))) (Below.refl _ _) h0 (by omega) (by omega)).mono ?_; rintro e w2 ⟨rfl, hB2⟩; obtain ⟨_, ⟨_, _, _⟩, _, _, _⟩ := keepQ hSh.out hB2)
          | (go_at_call 40; refine (hGang hB2 h1 (by omega)).mono ?_; rintro e w3 ⟨rfl, hB3⟩; obtain ⟨_, ⟨_, _, _⟩, _, _, _⟩ := keepQ hSh.out hB3)
          | (go_at_call 41; refine (hMile hB3 h2 (by omega)).mono ?_; rintro e w4 ⟨rfl, hB4⟩; obtain ⟨_, ⟨_, _, _⟩, _, _, _⟩ := keepQ hSh.out hB4)
          | (go_at_call 42; refine (hCan hB4 h3 hmX hgX hok (by omega) (by omega) (by omega) (by omega) (by omega) (by omega)).mono ?_; rintro e w5 ⟨rfl, hB5⟩; obtain ⟨_, ⟨_, _, _⟩, _, _, _⟩ := keepQ hSh.out hB5; (have hz5 : wr.heap.size < w5.heap.size := by have := hB5.size; rw [World.size_alloc] at this; omega); (try obtain ⟨_, _, _⟩ := Hrow.out (hWX.trans (hB5.mono hWX.size))))
          | (go_at_call 34; refine (Amid_is ham _).mono ?_; rintro e w6 ⟨rfl, rfl⟩))
        first
          | (go_ret
             exact ⟨ret_bool (Hno.out (solo_no hok (by first | exact .inl h0 | exact .inr (.inl h1) | exact .inr (.inr (.inl h2)) | exact .inr (.inr (.inr h3))))).symm, by first | exact below_after hWX hB5 | exact below_after hWX hB4 | exact below_after hWX hB3 | exact below_after hWX hB2⟩)
          | (go_ret
             exact ⟨ret_bool (no_plan_at hbd.2.1.2 hlt (fun h => step_no (by first | exact .inl hl | exact .inr ⟨he, .inl hle⟩ | exact .inr ⟨he, .inr ham⟩) (h.2 hk0))).symm, belowAlloc (below_after hWX hB5) _⟩)
          | (go_roundw
             case rel => exact ⟨k + 1, by omega, by go_num, fun j hj => by rcases Nat.lt_succ_iff_lt_or_eq.1 hj with h | rfl; exact Hall.out j h; exact ⟨solo_is h0 h1 h3, fun h => by first | exact absurd h (by have := Hk0.out; omega) | exact step_yes hl (.inl he) | exact step_yes hl (.inr ⟨hle, ham⟩)⟩, by first | exact hB.trans ((belowAlloc (below_after hBX hB5) _).mono hsz) | exact hB.trans ((below_after hBX hB5).mono hsz)⟩
             case measure => simp [intOf]; omega)
    · obtain rfl : k = n := by omega
      go_wp2_with fail
      go_ret
      exact ⟨ret_bool ((planB_steps hbd.2.1.2).2 Hall.out).symm, hW⟩
end Go.Proofs.YtdcgmacknccklaaDoor
