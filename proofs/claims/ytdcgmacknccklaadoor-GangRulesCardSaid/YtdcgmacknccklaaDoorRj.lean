/- The reference of layer 4: Closed; All of what is shared. -/
import Derived.Test.YtdcgmacknccklaaDoorRi
import Derived.Test.YtdcgmacknccklaaDoorGn
namespace Go.Proofs.YtdcgmacknccklaaDoor
open Go Go.RowKit

set_option maxRecDepth 100000 in
set_option maxHeartbeats 1000000 in
theorem All_any (x : Int) (hx0 : 0 ≤ x) (c : Nat) (cv : Int) (hcv : cv = c) (hc4 : c ≤ 60) (f : Nat → Bool) (hf0 : ∀ k, k < c → (bitR x k == 1) = f k) (w : World) :
    Calls Tryd.prog 52 #[.int .i64 x, .int .i64 cv] w fun e w' => ∃ p cap, e = .returned (.slice p (K f c).length cap) ∧ Sl w' p 1 (K f c).length (fun i _ => (K f c).getD i 0) ∧ Below w.heap.size w w' := by
  subst hcv
  obtain ⟨i0, hi0, hz0, hz1, hz2⟩ := info_parts info3
  have Hf := Lib.hid hf0
  clear hf0
  go_enter Tryd.func52, Tryd.ntmps52
  go_wp2_with fail
  go_loopw [5, 6] (fun v i wr => ∃ k : Nat, k ≤ c ∧ i = .int .i64 k ∧ wr.ownsRow w.heap.size 3 1 v (K f k).length ((K f k).map (Value.int .i64)) ∧ Below w.heap.size w wr) (fun _ i _ => c - (intOf i).toNat)
  case atStart =>
    refine ⟨0, Nat.zero_le _, rfl, ?_, belowAlloc (Below.refl _ _) _⟩
    have e0 : K f 0 = [] := rfl
    rw [e0]
    exact World.ownsRow_made w #[] 0 (Nat.le_refl _) (by unfold maxLen; omega) rfl
  case round =>
    rename_i wr
    obtain ⟨k, hk, rfl, hown, hB⟩ := hrel
    have hsz := hB.size
    have hle := K_le f k
    by_cases hlt : k < c
    · cases hf : f k
      all_goals
        have hbt : (bitR x k == 1) = _ := (Hf.out k hlt).trans hf
        have Hbt := Lib.hid hbt
        have Hfk := Lib.hid hf
        clear hf hbt
      · go_wp2_with (go_at_call 68; refine (In_is Hbt.out hx0 (by omega) (by omega) _).mono ?_; rintro e w2 ⟨rfl, hw2⟩; obtain rfl := hw2.symm)
        go_roundw
        case rel => exact ⟨k + 1, by omega, by go_num, by rw [K_miss Hfk.out]; exact hown, hB⟩
        case measure => simp [intOf]; omega
      · go_wp2_with (first
          | (go_at_call 68; refine (In_is Hbt.out hx0 (by omega) (by omega) _).mono ?_; rintro e w2 ⟨rfl, hw2⟩; obtain rfl := hw2.symm)
          | (at_builtin; refine wpList_append_own _ rfl _ _ 28 rfl w.heap.size 3 i0 (.int .i64 0) 1 8 Tryd.underlying28 hi0 hz0 hz1 hz2 rfl (by decide) _ _ _ rfl (hown.alloc _) ⟨wr.heap.size, 0, none⟩ 1 1 [.int .i64 k] rfl rfl ?c1 ?c2 ?c3 ?c4 ?c5 ?_))
        case c1 =>
          intro j u hj
          match j, hj with
          | 0, hj => simp at hj; subst hj; simp [Addr.add]
        case c2 => intro u hu; simp at hu; subst hu; rfl
        case c3 => unfold maxLen; omega
        case c4 => omega
        case c5 => simp; omega
        intro v' w1 hown' hgrow _
        have hB3 : Below w.heap.size w w1 := (hB.alloc (by omega) _).grown hgrow (by simp; omega) (fun j hj => by have := (hown.lt j hj).1; omega)
        clear hgrow
        go_wp2
        go_roundw
        case rel => exact ⟨k + 1, by omega, by go_num, by rw [K_hit Hfk.out]; simpa using hown', hB3⟩
        case measure => simp [intOf]; omega
    · obtain rfl : k = c := by omega
      rcases hown.2 with ⟨rfl, h0⟩ | ⟨g, cap, cur, rfl, h1, h2, h3, h4, h5⟩
      · have e0 : K f k = [] := List.eq_nil_of_length_eq_zero h0
        go_wp2_with fail
        go_ret
        exact ⟨none, 0, by rw [e0]; rfl, fun h => absurd h (by omega), hB⟩
      · have hS := sl_of_owns hown
        have h4' := h4
        unfold maxLen at h4'
        go_wp2_with fail
        go_ret
        exact ⟨_, _, rfl, hS, hB⟩

/-- A set with one number more. -/
def orBit (x : Int) (m : Nat) : Int := bits BinOp.or IntKind.i64 x (wrap64 (2 ^ m))

theorem or_all : (List.range 16).all (fun x => (List.range 4).all fun m => decide (0 ≤ orBit x m ∧ orBit x m ≤ 15) && (List.range 4).all fun k => (bitR (orBit x m) k == 1) == ((bitR x k == 1) || (k == m))) = true := by kernel_rfl

theorem or_bit {x : Int} (h0 : 0 ≤ x) (h1 : x ≤ 15) {m : Nat} (hm : m < 4) : (0 ≤ orBit x m ∧ orBit x m ≤ 15) ∧ ∀ k : Nat, k < 4 → (bitR (orBit x m) k == 1) = ((bitR x k == 1) || (k == m)) := by
  have h := List.all_eq_true.1 or_all x.toNat (List.mem_range.2 (by omega))
  have h := List.all_eq_true.1 h m (List.mem_range.2 hm)
  rw [Int.toNat_of_nonneg h0] at h
  rw [Bool.and_eq_true, decide_eq_true_eq] at h
  refine ⟨h.1, fun k hk => ?_⟩
  have := List.all_eq_true.1 h.2 k (List.mem_range.2 hk)
  exact eq_of_beq this

theorem zero_bit : ∀ k : Nat, k < 4 → (bitR 0 k == 1) = false := by
  intro k hk
  obtain rfl | rfl | rfl | rfl : k = 0 ∨ k = 1 ∨ k = 2 ∨ k = 3 := by omega
  all_goals decide

abbrev HeldZ (W : World) (a : Nat) (v0 v1 v2 : Value) (w' : World) : Prop := Below W.heap.size W w' ∧ w'.cell? ⟨a, 0, none⟩ = some v0 ∧ w'.cell? ⟨a, 1, none⟩ = some v1 ∧ w'.cell? ⟨a, 2, none⟩ = some v2

theorem keepZ {W w' : World} {a : Nat} {v0 v1 v2 : Value} (h : HeldZ W a v0 v1 v2 W) (hb : Below W.heap.size W w') : HeldZ W a v0 v1 v2 w' :=
  have lt : ∀ {c : Addr} {v : Value}, W.cell? c = some v → c.block < W.heap.size := fun h => World.block_lt_of_cell? W _ h
  ⟨hb, (hb.cell (lt h.2.1)).trans h.2.1, (hb.cell (lt h.2.2.1)).trans h.2.2.1, (hb.cell (lt h.2.2.2)).trans h.2.2.2⟩

theorem rNight_is (B : Book) (pm pg : Option Addr) (cm cg : Nat) (w : World) (n : Int) :
    Calls Tryd.prog 51 #[.agg #[.slice pm B.nm cm, .slice pg B.ng cg, .int .i64 B.nights], .int .i64 n] w fun e w' => e = .returned (.bool (inB n 0 (wrap64 (B.nights - 1)))) ∧ Below w.heap.size w w' := by
  go_enter Tryd.func51, Tryd.ntmps51
  go_wp2_with (go_at_call 34; refine (Amid_in rfl _).mono ?_; rintro e w2 ⟨rfl, rfl⟩)
  go_ret
  exact ⟨rfl, (Below.refl _ _).alloc (Nat.le_refl _) _⟩

section
variable (B : Book) (pm pg pp : Option Addr) (cm cg cp n : Nat) (g : Nat → Nat → Int) (w : World)

set_option maxRecDepth 100000 in
set_option maxHeartbeats 1000000 in
theorem rClosed_any (night : Int) (hm : Sl w pm 3 B.nm B.mile) (hg : Sl w pg 4 B.ng B.gang) (hok : bookB B = true) (hp : Sl w pp 3 n g) (hn : n ≤ 9223372036854775807) (hq : inB night 0 (B.nights - 1) = true) (his : planB B n g = true) :
    Calls Tryd.prog 15 #[.agg #[.slice pm B.nm cm, .slice pg B.ng cg, .int .i64 B.nights], .slice pp n cp, .int .i64 night] w (MadeIs (fun k : Nat => closeB n g night k) B.nm w) := by
  have hbd := bookB_bd hok
  have hW : Below w.heap.size w (w.alloc (.cells #[.slice pm B.nm cm, .slice pg B.ng cg, .int .i64 B.nights] 25)) := belowAlloc (Below.refl _ _) _
  have hSh := Lib.hid (show HeldZ (w.alloc (.cells #[.slice pm B.nm cm, .slice pg B.ng cg, .int .i64 B.nights] 25)) w.heap.size (.slice pm B.nm cm) (.slice pg B.ng cg) (.int .i64 B.nights) (w.alloc (.cells #[.slice pm B.nm cm, .slice pg B.ng cg, .int .i64 B.nights] 25)) from ⟨Below.refl _ _, by simp, by simp, by simp⟩)
  have hmW := hm.below hW
  have hgW := hg.below hW
  have hpW := hp.below hW
  go_enter Tryd.func15, Tryd.ntmps15
  go_wp2_with fail
  go_region_held3 (fun w' => Below ((w.alloc (.cells #[.slice pm B.nm cm, .slice pg B.ng cg, .int .i64 B.nights] 25))).heap.size (w.alloc (.cells #[.slice pm B.nm cm, .slice pg B.ng cg, .int .i64 B.nights] 25)) w' ∧ w'.cell? ⟨w.heap.size, 0, none⟩ = some (.slice pm B.nm cm) ∧ w'.cell? ⟨w.heap.size, 1, none⟩ = some (.slice pg B.ng cg) ∧ w'.cell? ⟨w.heap.size, 2, none⟩ = some (.int .i64 B.nights))
    (first | exact keepZ hSh.out (Below.drew (Below.refl _ _)) | exact keepZ hSh.out hB3 | exact keepZ hSh.out hB2)
    (first
      | (go_at_call 51; refine (hNight (show HeldZ (w.alloc (.cells #[.slice pm B.nm cm, .slice pg B.ng cg, .int .i64 B.nights] 25)) w.heap.size (.slice pm B.nm cm) (.slice pg B.ng cg) (.int .i64 B.nights) _ by assumption).1 hq (by omega) (by omega)).mono ?_; rintro e w2 ⟨rfl, hB2⟩)
      | (go_at_call 50; refine (held (show HeldZ (w.alloc (.cells #[.slice pm B.nm cm, .slice pg B.ng cg, .int .i64 B.nights] 25)) w.heap.size (.slice pm B.nm cm) (.slice pg B.ng cg) (.int .i64 B.nights) _ by assumption).1 (asked_plan B pm pg pp cm cg cp n g _ true his (hmW.below (show HeldZ (w.alloc (.cells #[.slice pm B.nm cm, .slice pg B.ng cg, .int .i64 B.nights] 25)) w.heap.size (.slice pm B.nm cm) (.slice pg B.ng cg) (.int .i64 B.nights) _ by assumption).1) (hgW.below (show HeldZ (w.alloc (.cells #[.slice pm B.nm cm, .slice pg B.ng cg, .int .i64 B.nights] 25)) w.heap.size (.slice pm B.nm cm) (.slice pg B.ng cg) (.int .i64 B.nights) _ by assumption).1) hok (hpW.below (show HeldZ (w.alloc (.cells #[.slice pm B.nm cm, .slice pg B.ng cg, .int .i64 B.nights] 25)) w.heap.size (.slice pm B.nm cm) (.slice pg B.ng cg) (.int .i64 B.nights) _ by assumption).1) hn)).mono ?_; rintro e w3 ⟨rfl, hB3⟩))
  go_wp2_with fail
  go_loop [9, 10] (fun x i => ∃ k : Nat, k ≤ n ∧ i = .int .i64 k ∧ ∃ y : Int, x = .int .i64 y ∧ (0 ≤ y ∧ y ≤ 15) ∧ ∀ j : Nat, j < 4 → (bitR y j == 1) = closeB k g night j) (fun _ i => n - (intOf i).toNat)
  case atStart => exact ⟨0, Nat.zero_le _, rfl, 0, rfl, by omega, fun j hj => by rw [zero_bit j hj, closeB_zero]⟩
  case round =>
    obtain ⟨k, hk, rfl, y, rfl, hy, hyb⟩ := hrel
    have Hyb := Lib.hid hyb
    clear hyb
    by_cases hlt : k < n
    · obtain ⟨b, off, rfl, hb, hrow⟩ := hp.row3 hlt
      obtain ⟨hd0, hd1, hd2⟩ := hrow (below_after hW hB3)
      clear hrow
      have hml := (plan_fit hok his k hlt).2
      cases hni : (g k 0 == night)
      · have hne : ¬ g k 0 = night := by simpa using hni
        have Hne := Lib.hid hne
        clear hne
        go_wp2_with fail
        go_round
        case rel => exact ⟨k + 1, by omega, by go_num, y, rfl, hy, fun j hj => by rw [Hyb.out j hj, closeB_succ, decide_eq_false Hne.out]; simp⟩
        case measure => simp [intOf]; omega
      · have heq : g k 0 = night := by simpa using hni
        have Heq := Lib.hid heq
        clear heq
        obtain ⟨m, hmm⟩ : ∃ m : Nat, (g k 2).toNat = m := ⟨_, rfl⟩
        have Hmm := Lib.hid hmm
        have hm4 : m < 4 := by omega
        have hob := or_bit hy.1 hy.2 hm4
        have Hob := Lib.hid hob
        clear hmm hob
        go_wp2_with fail
        rw [Hmm.out]
        go_round
        case rel => exact ⟨k + 1, by omega, by go_num, orBit y m, rfl, Hob.out.1, fun j hj => by
          rw [Hob.out.2 j hj, Hyb.out j hj, closeB_succ, decide_eq_true Heq.out, Bool.true_and]
          congr 1
          have := Hmm.out
          rw [Bool.eq_iff_iff]
          simp only [beq_iff_eq, decide_eq_true_eq]
          omega⟩
        case measure => simp [intOf]; omega
    · obtain rfl : k = n := by omega
      have hA := All_any y hy.1 4 4 rfl (by omega) (fun j => closeB k g night j) Hyb.out w3
      have e : K (fun j : Nat => closeB k g night j) 4 = K (fun j : Nat => closeB k g night j) B.nm := K_upto (by omega) (fun j h1 h2 => by
        simp only [closeB, decide_eq_false_iff_not]
        rintro ⟨i, h3, _, h4⟩
        have := (plan_fit hok his i h3).2
        omega)
      rw [e] at hA
      have hA := Lib.hid hA
      clear e
      go_wp2_with (go_at_call 52; refine hA.out.mono ?_; rintro e w4 ⟨p, cap, rfl, hS, hB4⟩)
      go_ret2
      exact ⟨p, cap, rfl, hS, below_after (below_after hW hB3) hB4⟩

set_option maxRecDepth 100000 in
set_option maxHeartbeats 1000000 in
theorem rClosed_no (night : Int) (hm : Sl w pm 3 B.nm B.mile) (hg : Sl w pg 4 B.ng B.gang) (hlm : B.nm ≤ 9223372036854775807) (hlg : B.ng ≤ 9223372036854775807) (hno : bookB B = false) :
    Calls Tryd.prog 15 #[.agg #[.slice pm B.nm cm, .slice pg B.ng cg, .int .i64 B.nights], .slice pp n cp, .int .i64 night] w fun e w' => e = .returned (.tuple #[.slice none 0 0, .int .i64 40]) ∧ Below w.heap.size w w' := by
  have hW : Below w.heap.size w (w.alloc (.cells #[.slice pm B.nm cm, .slice pg B.ng cg, .int .i64 B.nights] 25)) := belowAlloc (Below.refl _ _) _
  have hSh := Lib.hid (show HeldZ (w.alloc (.cells #[.slice pm B.nm cm, .slice pg B.ng cg, .int .i64 B.nights] 25)) w.heap.size (.slice pm B.nm cm) (.slice pg B.ng cg) (.int .i64 B.nights) (w.alloc (.cells #[.slice pm B.nm cm, .slice pg B.ng cg, .int .i64 B.nights] 25)) from ⟨Below.refl _ _, by simp, by simp, by simp⟩)
  have hmW := hm.below hW
  have hgW := hg.below hW
  have hNs := fun wc hb => held (W := (w.alloc (.cells #[.slice pm B.nm cm, .slice pg B.ng cg, .int .i64 B.nights] 25))) (wc := wc) hb (rNight_is B pm pg cm cg wc night)
  go_enter Tryd.func15, Tryd.ntmps15
  go_wp2_with fail
  go_region_held3 (fun w' => Below ((w.alloc (.cells #[.slice pm B.nm cm, .slice pg B.ng cg, .int .i64 B.nights] 25))).heap.size (w.alloc (.cells #[.slice pm B.nm cm, .slice pg B.ng cg, .int .i64 B.nights] 25)) w' ∧ w'.cell? ⟨w.heap.size, 0, none⟩ = some (.slice pm B.nm cm) ∧ w'.cell? ⟨w.heap.size, 1, none⟩ = some (.slice pg B.ng cg) ∧ w'.cell? ⟨w.heap.size, 2, none⟩ = some (.int .i64 B.nights))
    (first | exact keepZ hSh.out (Below.drew (Below.refl _ _)) | exact keepZ hSh.out hB3 | exact keepZ hSh.out hB2)
    (first
      | (go_at_call 51; refine (hNs _ (show HeldZ (w.alloc (.cells #[.slice pm B.nm cm, .slice pg B.ng cg, .int .i64 B.nights] 25)) w.heap.size (.slice pm B.nm cm) (.slice pg B.ng cg) (.int .i64 B.nights) _ by assumption).1).mono ?_; rintro e w2 ⟨rfl, hB2⟩)
      | (go_at_call 50; refine (held (show HeldZ (w.alloc (.cells #[.slice pm B.nm cm, .slice pg B.ng cg, .int .i64 B.nights] 25)) w.heap.size (.slice pm B.nm cm) (.slice pg B.ng cg) (.int .i64 B.nights) _ by assumption).1 (asked_no B pm pg pp cm cg cp n _ _ (hmW.below (show HeldZ (w.alloc (.cells #[.slice pm B.nm cm, .slice pg B.ng cg, .int .i64 B.nights] 25)) w.heap.size (.slice pm B.nm cm) (.slice pg B.ng cg) (.int .i64 B.nights) _ by assumption).1) (hgW.below (show HeldZ (w.alloc (.cells #[.slice pm B.nm cm, .slice pg B.ng cg, .int .i64 B.nights] 25)) w.heap.size (.slice pm B.nm cm) (.slice pg B.ng cg) (.int .i64 B.nights) _ by assumption).1) hlm hlg hno)).mono ?_; rintro e w3 ⟨rfl, hB3⟩))
  go_wp2_with fail
  go_ret2
  exact ⟨rfl, below_after hW hB3⟩

set_option maxRecDepth 100000 in
set_option maxHeartbeats 1000000 in
theorem rClosed_wrong (night : Int) (hm : Sl w pm 3 B.nm B.mile) (hg : Sl w pg 4 B.ng B.gang) (hok : bookB B = true) (hq : inB night 0 (B.nights - 1) = false) :
    Calls Tryd.prog 15 #[.agg #[.slice pm B.nm cm, .slice pg B.ng cg, .int .i64 B.nights], .slice pp n cp, .int .i64 night] w fun e w' => e = .returned (.tuple #[.slice none 0 0, .int .i64 41]) ∧ Below w.heap.size w w' := by
  have hbd := bookB_bd hok
  have hW : Below w.heap.size w (w.alloc (.cells #[.slice pm B.nm cm, .slice pg B.ng cg, .int .i64 B.nights] 25)) := belowAlloc (Below.refl _ _) _
  have hSh := Lib.hid (show HeldZ (w.alloc (.cells #[.slice pm B.nm cm, .slice pg B.ng cg, .int .i64 B.nights] 25)) w.heap.size (.slice pm B.nm cm) (.slice pg B.ng cg) (.int .i64 B.nights) (w.alloc (.cells #[.slice pm B.nm cm, .slice pg B.ng cg, .int .i64 B.nights] 25)) from ⟨Below.refl _ _, by simp, by simp, by simp⟩)
  have hmW := hm.below hW
  have hgW := hg.below hW
  go_enter Tryd.func15, Tryd.ntmps15
  go_wp2_with fail
  go_region_held3 (fun w' => Below ((w.alloc (.cells #[.slice pm B.nm cm, .slice pg B.ng cg, .int .i64 B.nights] 25))).heap.size (w.alloc (.cells #[.slice pm B.nm cm, .slice pg B.ng cg, .int .i64 B.nights] 25)) w' ∧ w'.cell? ⟨w.heap.size, 0, none⟩ = some (.slice pm B.nm cm) ∧ w'.cell? ⟨w.heap.size, 1, none⟩ = some (.slice pg B.ng cg) ∧ w'.cell? ⟨w.heap.size, 2, none⟩ = some (.int .i64 B.nights))
    (first | exact keepZ hSh.out (Below.drew (Below.refl _ _)) | exact keepZ hSh.out hB3 | exact keepZ hSh.out hB2)
    (first
      | (go_at_call 51; refine (hNight (show HeldZ (w.alloc (.cells #[.slice pm B.nm cm, .slice pg B.ng cg, .int .i64 B.nights] 25)) w.heap.size (.slice pm B.nm cm) (.slice pg B.ng cg) (.int .i64 B.nights) _ by assumption).1 hq (by omega) (by omega)).mono ?_; rintro e w2 ⟨rfl, hB2⟩)
      | (go_at_call 50; refine (held (show HeldZ (w.alloc (.cells #[.slice pm B.nm cm, .slice pg B.ng cg, .int .i64 B.nights] 25)) w.heap.size (.slice pm B.nm cm) (.slice pg B.ng cg) (.int .i64 B.nights) _ by assumption).1 (asked_wrong B pm pg pp cm cg cp n _ (hmW.below (show HeldZ (w.alloc (.cells #[.slice pm B.nm cm, .slice pg B.ng cg, .int .i64 B.nights] 25)) w.heap.size (.slice pm B.nm cm) (.slice pg B.ng cg) (.int .i64 B.nights) _ by assumption).1) (hgW.below (show HeldZ (w.alloc (.cells #[.slice pm B.nm cm, .slice pg B.ng cg, .int .i64 B.nights] 25)) w.heap.size (.slice pm B.nm cm) (.slice pg B.ng cg) (.int .i64 B.nights) _ by assumption).1) hok)).mono ?_; rintro e w3 ⟨rfl, hB3⟩))
  go_wp2_with fail
  go_ret2
  exact ⟨rfl, below_after hW hB3⟩

set_option maxRecDepth 100000 in
set_option maxHeartbeats 1000000 in
theorem rClosed_none (night : Int) (hm : Sl w pm 3 B.nm B.mile) (hg : Sl w pg 4 B.ng B.gang) (hok : bookB B = true) (hp : Sl w pp 3 n g) (hn : n ≤ 9223372036854775807) (hq : inB night 0 (B.nights - 1) = true) (hno : planB B n g = false) :
    Calls Tryd.prog 15 #[.agg #[.slice pm B.nm cm, .slice pg B.ng cg, .int .i64 B.nights], .slice pp n cp, .int .i64 night] w fun e w' => e = .returned (.tuple #[.slice none 0 0, .int .i64 41]) ∧ Below w.heap.size w w' := by
  have hbd := bookB_bd hok
  have hW : Below w.heap.size w (w.alloc (.cells #[.slice pm B.nm cm, .slice pg B.ng cg, .int .i64 B.nights] 25)) := belowAlloc (Below.refl _ _) _
  have hSh := Lib.hid (show HeldZ (w.alloc (.cells #[.slice pm B.nm cm, .slice pg B.ng cg, .int .i64 B.nights] 25)) w.heap.size (.slice pm B.nm cm) (.slice pg B.ng cg) (.int .i64 B.nights) (w.alloc (.cells #[.slice pm B.nm cm, .slice pg B.ng cg, .int .i64 B.nights] 25)) from ⟨Below.refl _ _, by simp, by simp, by simp⟩)
  have hmW := hm.below hW
  have hgW := hg.below hW
  have hpW := hp.below hW
  go_enter Tryd.func15, Tryd.ntmps15
  go_wp2_with fail
  go_region_held3 (fun w' => Below ((w.alloc (.cells #[.slice pm B.nm cm, .slice pg B.ng cg, .int .i64 B.nights] 25))).heap.size (w.alloc (.cells #[.slice pm B.nm cm, .slice pg B.ng cg, .int .i64 B.nights] 25)) w' ∧ w'.cell? ⟨w.heap.size, 0, none⟩ = some (.slice pm B.nm cm) ∧ w'.cell? ⟨w.heap.size, 1, none⟩ = some (.slice pg B.ng cg) ∧ w'.cell? ⟨w.heap.size, 2, none⟩ = some (.int .i64 B.nights))
    (first | exact keepZ hSh.out (Below.drew (Below.refl _ _)) | exact keepZ hSh.out hB3 | exact keepZ hSh.out hB2)
    (first
      | (go_at_call 51; refine (hNight (show HeldZ (w.alloc (.cells #[.slice pm B.nm cm, .slice pg B.ng cg, .int .i64 B.nights] 25)) w.heap.size (.slice pm B.nm cm) (.slice pg B.ng cg) (.int .i64 B.nights) _ by assumption).1 hq (by omega) (by omega)).mono ?_; rintro e w2 ⟨rfl, hB2⟩)
      | (go_at_call 50; refine (held (show HeldZ (w.alloc (.cells #[.slice pm B.nm cm, .slice pg B.ng cg, .int .i64 B.nights] 25)) w.heap.size (.slice pm B.nm cm) (.slice pg B.ng cg) (.int .i64 B.nights) _ by assumption).1 (asked_plan B pm pg pp cm cg cp n g _ false hno (hmW.below (show HeldZ (w.alloc (.cells #[.slice pm B.nm cm, .slice pg B.ng cg, .int .i64 B.nights] 25)) w.heap.size (.slice pm B.nm cm) (.slice pg B.ng cg) (.int .i64 B.nights) _ by assumption).1) (hgW.below (show HeldZ (w.alloc (.cells #[.slice pm B.nm cm, .slice pg B.ng cg, .int .i64 B.nights] 25)) w.heap.size (.slice pm B.nm cm) (.slice pg B.ng cg) (.int .i64 B.nights) _ by assumption).1) hok (hpW.below (show HeldZ (w.alloc (.cells #[.slice pm B.nm cm, .slice pg B.ng cg, .int .i64 B.nights] 25)) w.heap.size (.slice pm B.nm cm) (.slice pg B.ng cg) (.int .i64 B.nights) _ by assumption).1) hn)).mono ?_; rintro e w3 ⟨rfl, hB3⟩))
  go_wp2_with fail
  go_ret2
  exact ⟨rfl, below_after hW hB3⟩
end
end Go.Proofs.YtdcgmacknccklaaDoor
