/- The reference of layer 4: May, asked, Can; All and Like of what is shared. -/
import Derived.Test.YtdcgmacknccklaaDoorRh
namespace Go.Proofs.YtdcgmacknccklaaDoor
open Go Go.RowKit

theorem rCheck_is {B : Book} {pm pg : Option Addr} {cm cg : Nat} {v : Int} (h : ckI B = v) (w : World) (hm : Sl w pm 3 B.nm B.mile) (hg : Sl w pg 4 B.ng B.gang) (hlm : B.nm ≤ 9223372036854775807) (hlg : B.ng ≤ 9223372036854775807) :
    Calls Tryd.prog 11 #[.agg #[.slice pm B.nm cm, .slice pg B.ng cg, .int .i64 B.nights]] w fun e w' => e = .returned (.int .i64 v) ∧ Below w.heap.size w w' := h ▸ rCheck_any B pm pg cm cg w hm hg hlm hlg

theorem risPlan_is {B : Book} {pm pg pp : Option Addr} {cm cg cp : Nat} {n : Nat} {g : Nat → Nat → Int} {v : Bool} (h : planB B n g = v) (w : World) (hm : Sl w pm 3 B.nm B.mile) (hg : Sl w pg 4 B.ng B.gang) (hok : bookB B = true) (hp : Sl w pp 3 n g) (hn : n ≤ 9223372036854775807) :
    Calls Tryd.prog 46 #[.agg #[.slice pm B.nm cm, .slice pg B.ng cg, .int .i64 B.nights], .slice pp n cp] w fun e w' => e = .returned (.bool v) ∧ Below w.heap.size w w' := h ▸ risPlan_any B pm pg pp cm cg cp w hm hg hok n g hp hn

section
variable (B : Book) (pm pg pp : Option Addr) (cm cg cp n : Nat) (g : Nat → Nat → Int) (w : World)

set_option maxRecDepth 100000 in
theorem rMay_no (hm : Sl w pm 3 B.nm B.mile) (hg : Sl w pg 4 B.ng B.gang) (hlm : B.nm ≤ 9223372036854775807) (hlg : B.ng ≤ 9223372036854775807) (hno : bookB B = false) :
    Calls Tryd.prog 13 #[.agg #[.slice pm B.nm cm, .slice pg B.ng cg, .int .i64 B.nights], .slice pp n cp] w fun e w' => e = .returned (.tuple #[.bool false, .int .i64 40]) ∧ Below w.heap.size w w' := by
  have hW : Below w.heap.size w (w.alloc (.cells #[.slice pm B.nm cm, .slice pg B.ng cg, .int .i64 B.nights] 25)) := belowAlloc (Below.refl _ _) _
  have hc := Lib.hid (ckI_false hno)
  go_enter Tryd.func13, Tryd.ntmps13
  go_wp2_with (go_at_call 11; refine (rCheck_is hc.out _ (hm.below hW) (hg.below hW) hlm hlg).mono ?_; rintro e w1 ⟨rfl, hB1⟩)
  go_ret2
  exact ⟨rfl, below_after hW hB1⟩

set_option maxRecDepth 100000 in
theorem rMay_any (hm : Sl w pm 3 B.nm B.mile) (hg : Sl w pg 4 B.ng B.gang) (hok : bookB B = true) (hp : Sl w pp 3 n g) (hn : n ≤ 9223372036854775807) :
    Calls Tryd.prog 13 #[.agg #[.slice pm B.nm cm, .slice pg B.ng cg, .int .i64 B.nights], .slice pp n cp] w fun e w' => e = .returned (.tuple #[.bool (planB B n g), .int .i64 0]) ∧ Below w.heap.size w w' := by
  have hbd := bookB_bd hok
  have hW : Below w.heap.size w (w.alloc (.cells #[.slice pm B.nm cm, .slice pg B.ng cg, .int .i64 B.nights] 25)) := belowAlloc (Below.refl _ _) _
  have hc := Lib.hid (ckI_true hok)
  go_enter Tryd.func13, Tryd.ntmps13
  go_wp2_with (first
    | (go_at_call 11; refine (rCheck_is hc.out _ (hm.below hW) (hg.below hW) (by omega) (by omega)).mono ?_; rintro e w1 ⟨rfl, hB1⟩; rw [World.size_alloc] at hB1; obtain ⟨hx0, hW1⟩ := box_facts hB1)
    | (go_at_call 46; refine (risPlan_is rfl _ (hm.below hW1) (hg.below hW1) hok (hp.below hW1) hn).mono ?_; rintro e w2 ⟨rfl, hB2⟩))
  go_ret2
  exact ⟨rfl, below_after hW1 hB2⟩

/-- What asked answers, where a question is right or wrong. -/
def askI (B : Book) (n : Nat) (g : Nat → Nat → Int) (q : Bool) : Int := if bookB B then (if q && planB B n g then 0 else 41) else 40

set_option maxRecDepth 100000 in
theorem asked_no (q : Bool) (hm : Sl w pm 3 B.nm B.mile) (hg : Sl w pg 4 B.ng B.gang) (hlm : B.nm ≤ 9223372036854775807) (hlg : B.ng ≤ 9223372036854775807) (hno : bookB B = false) :
    Calls Tryd.prog 50 #[.agg #[.slice pm B.nm cm, .slice pg B.ng cg, .int .i64 B.nights], .slice pp n cp, .bool q] w fun e w' => e = .returned (.int .i64 40) ∧ Below w.heap.size w w' := by
  have hW : Below w.heap.size w (w.alloc (.cells #[.slice pm B.nm cm, .slice pg B.ng cg, .int .i64 B.nights] 25)) := belowAlloc (Below.refl _ _) _
  have hc := Lib.hid (ckI_false hno)
  go_enter Tryd.func50, Tryd.ntmps50
  go_wp2_with (go_at_call 11; refine (rCheck_is hc.out _ (hm.below hW) (hg.below hW) hlm hlg).mono ?_; rintro e w1 ⟨rfl, hB1⟩)
  go_ret
  exact ⟨rfl, below_after hW hB1⟩

set_option maxRecDepth 100000 in
theorem asked_wrong (hm : Sl w pm 3 B.nm B.mile) (hg : Sl w pg 4 B.ng B.gang) (hok : bookB B = true) :
    Calls Tryd.prog 50 #[.agg #[.slice pm B.nm cm, .slice pg B.ng cg, .int .i64 B.nights], .slice pp n cp, .bool false] w fun e w' => e = .returned (.int .i64 41) ∧ Below w.heap.size w w' := by
  have hbd := bookB_bd hok
  have hW : Below w.heap.size w (w.alloc (.cells #[.slice pm B.nm cm, .slice pg B.ng cg, .int .i64 B.nights] 25)) := belowAlloc (Below.refl _ _) _
  have hc := Lib.hid (ckI_true hok)
  go_enter Tryd.func50, Tryd.ntmps50
  go_wp2_with (go_at_call 11; refine (rCheck_is hc.out _ (hm.below hW) (hg.below hW) (by omega) (by omega)).mono ?_; rintro e w1 ⟨rfl, hB1⟩)
  go_ret
  exact ⟨rfl, below_after hW hB1⟩

set_option maxRecDepth 100000 in
theorem asked_plan (v : Bool) (hv : planB B n g = v) (hm : Sl w pm 3 B.nm B.mile) (hg : Sl w pg 4 B.ng B.gang) (hok : bookB B = true) (hp : Sl w pp 3 n g) (hn : n ≤ 9223372036854775807) :
    Calls Tryd.prog 50 #[.agg #[.slice pm B.nm cm, .slice pg B.ng cg, .int .i64 B.nights], .slice pp n cp, .bool true] w fun e w' => e = .returned (.int .i64 (bif v then 0 else 41)) ∧ Below w.heap.size w w' := by
  have hbd := bookB_bd hok
  have hW : Below w.heap.size w (w.alloc (.cells #[.slice pm B.nm cm, .slice pg B.ng cg, .int .i64 B.nights] 25)) := belowAlloc (Below.refl _ _) _
  have hc := Lib.hid (ckI_true hok)
  cases v
  all_goals
    go_enter Tryd.func50, Tryd.ntmps50
    go_wp2_with (first
      | (go_at_call 11; refine (rCheck_is hc.out _ (hm.below hW) (hg.below hW) (by omega) (by omega)).mono ?_; rintro e w1 ⟨rfl, hB1⟩; rw [World.size_alloc] at hB1; obtain ⟨hx0, hW1⟩ := box_facts hB1)
      | (go_at_call 46; refine (risPlan_is hv _ (hm.below hW1) (hg.below hW1) hok (hp.below hW1) hn).mono ?_; rintro e w2 ⟨rfl, hB2⟩))
    go_ret
    exact ⟨rfl, below_after hW1 hB2⟩

/-- A list of numbers that was made, and no error. -/
def MadeIs (f : Nat → Bool) (c : Nat) (w : World) (e : Ending) (w' : World) : Prop :=
  ∃ p cap, e = .returned (.tuple #[.slice p (K f c).length cap, .int .i64 0]) ∧ Sl w' p 1 (K f c).length (fun i _ => (K f c).getD i 0) ∧ Below w.heap.size w w'

set_option maxRecDepth 100000 in
theorem rCan_no (i m : Int) (hm : Sl w pm 3 B.nm B.mile) (hg : Sl w pg 4 B.ng B.gang) (hlm : B.nm ≤ 9223372036854775807) (hlg : B.ng ≤ 9223372036854775807) (hno : bookB B = false) :
    Calls Tryd.prog 8 #[.agg #[.slice pm B.nm cm, .slice pg B.ng cg, .int .i64 B.nights], .int .i64 i, .int .i64 m] w fun e w' => e = .returned (.tuple #[.slice none 0 0, .int .i64 40]) ∧ Below w.heap.size w w' := by
  have hW : Below w.heap.size w (w.alloc (.cells #[.slice pm B.nm cm, .slice pg B.ng cg, .int .i64 B.nights] 25)) := belowAlloc (Below.refl _ _) _
  have hc := Lib.hid (ckI_false hno)
  go_enter Tryd.func8, Tryd.ntmps8
  go_wp2_with (go_at_call 11; refine (rCheck_is hc.out _ (hm.below hW) (hg.below hW) hlm hlg).mono ?_; rintro e w1 ⟨rfl, hB1⟩)
  go_ret2
  exact ⟨rfl, below_after hW hB1⟩

set_option maxRecDepth 100000 in
theorem rCan_wrong (i m : Int) (hm : Sl w pm 3 B.nm B.mile) (hg : Sl w pg 4 B.ng B.gang) (hok : bookB B = true) (hq : (inB i 0 (B.ng - 1) && inB m 0 (B.nm - 1)) = false) :
    Calls Tryd.prog 8 #[.agg #[.slice pm B.nm cm, .slice pg B.ng cg, .int .i64 B.nights], .int .i64 i, .int .i64 m] w fun e w' => e = .returned (.tuple #[.slice none 0 0, .int .i64 41]) ∧ Below w.heap.size w w' := by
  have hbd := bookB_bd hok
  have hW : Below w.heap.size w (w.alloc (.cells #[.slice pm B.nm cm, .slice pg B.ng cg, .int .i64 B.nights] 25)) := belowAlloc (Below.refl _ _) _
  have hc := Lib.hid (ckI_true hok)
  cases h1 : inB i 0 (B.ng - 1)
  case' true => have h2 : inB m 0 (B.nm - 1) = false := by simpa [h1] using hq
  all_goals
    clear hq
    go_enter Tryd.func8, Tryd.ntmps8
    go_wp2_with (first
      | (go_at_call 11; refine (rCheck_is hc.out _ (hm.below hW) (hg.below hW) (by omega) (by omega)).mono ?_; rintro e w1 ⟨rfl, hB1⟩; rw [World.size_alloc] at hB1; obtain ⟨hx0, hW1⟩ := box_facts hB1)
      | (go_at_call 40; refine (hGang (Below.refl _ _) h1 (by omega)).mono ?_; rintro e w2 ⟨rfl, hB2⟩; have hB3 := box_later hB1 hB2; obtain ⟨hy0, hW2⟩ := box_facts hB3)
      | (go_at_call 41; refine (hMile (Below.refl _ _) h2 (by omega)).mono ?_; rintro e w3 ⟨rfl, hB4⟩))
    go_ret2
    exact ⟨rfl, by first | exact below_after hW2 hB4 | exact hW2⟩

theorem hCanN {i m k : Nat} {v : Bool} (h : canB B i m k = v) (hm : Sl w pm 3 B.nm B.mile) (hg : Sl w pg 4 B.ng B.gang) (hok : bookB B = true) (hi : i < B.ng) (hmi : m < B.nm) (hk : k < 4) :
    Calls Tryd.prog 42 #[.agg #[.slice pm B.nm cm, .slice pg B.ng cg, .int .i64 B.nights], .int .i64 i, .int .i64 m, .int .i64 k] w fun e w' => e = .returned (.bool v) ∧ Below w.heap.size w w' :=
  h ▸ rcan_any B pm pg cm cg w hm hg hok i m i m rfl hi rfl hmi k (by omega) (by omega)

set_option maxRecDepth 100000 in
set_option maxHeartbeats 1000000 in
theorem rCan_any (i m : Nat) (hm : Sl w pm 3 B.nm B.mile) (hg : Sl w pg 4 B.ng B.gang) (hok : bookB B = true) (hi : i < B.ng) (hmi : m < B.nm) :
    Calls Tryd.prog 8 #[.agg #[.slice pm B.nm cm, .slice pg B.ng cg, .int .i64 B.nights], .int .i64 i, .int .i64 m] w (MadeIs (fun k => canB B i m k) B.nights.toNat w) := by
  have hbd := bookB_bd hok
  obtain ⟨i0, hi0, hz0, hz1, hz2⟩ := info_parts info3
  have hW : Below w.heap.size w (w.alloc (.cells #[.slice pm B.nm cm, .slice pg B.ng cg, .int .i64 B.nights] 25)) := belowAlloc (Below.refl _ _) _
  have hc := Lib.hid (ckI_true hok)
  have h1 : inB i 0 (B.ng - 1) = true := by simp only [inB, Bool.and_eq_true, decide_eq_true_eq]; omega
  have h2 : inB m 0 (B.nm - 1) = true := by simp only [inB, Bool.and_eq_true, decide_eq_true_eq]; omega
  obtain ⟨c, hcn⟩ : ∃ c : Nat, B.nights = c := ⟨B.nights.toNat, by omega⟩
  have Hcn := Lib.hid (show B.nights.toNat = c by omega)
  have hc4 : c ≤ 4 := by omega
  have Hc2 := Lib.hid hcn
  clear hcn
  rw [Hcn.out]
  generalize hf : (fun k : Nat => canB B i m k) = f
  have Hf := Lib.hid hf
  clear hf
  go_enter Tryd.func8, Tryd.ntmps8
  go_wp2_with (first
    | (go_at_call 11; refine (rCheck_is hc.out _ (hm.below hW) (hg.below hW) (by omega) (by omega)).mono ?_; rintro e w1 ⟨rfl, hB1⟩; rw [World.size_alloc] at hB1; obtain ⟨hx0, hW1⟩ := box_facts hB1)
    | (go_at_call 40; refine (hGang (Below.refl _ _) h1 (by omega)).mono ?_; rintro e w2 ⟨rfl, hB2⟩; have hB3 := box_later hB1 hB2; obtain ⟨hy0, hW2⟩ := box_facts hB3)
    | (go_at_call 41; refine (hMile (Below.refl _ _) h2 (by omega)).mono ?_; rintro e w3 ⟨rfl, hB4⟩; have hB5 := box_later hB3 hB4; obtain ⟨hu0, hW3⟩ := box_facts hB5))
  go_loopw [9, 10] (fun v i wr => ∃ k : Nat, k ≤ c ∧ i = .int .i64 k ∧ wr.ownsRow (w.heap.size + 1) 3 1 v (K f k).length ((K f k).map (Value.int .i64)) ∧ Below (w.heap.size + 1) (w.alloc (.cells #[.slice pm B.nm cm, .slice pg B.ng cg, .int .i64 B.nights] 25)) wr) (fun _ i _ => c - (intOf i).toNat)
  case atStart =>
    refine ⟨0, Nat.zero_le _, rfl, ?_, hB5.alloc (by have := hB5.size; rwa [World.size_alloc] at this) _⟩
    have e0 : K f 0 = [] := rfl
    rw [e0]
    exact World.ownsRow_made w3 #[] 0 (by have := hB5.size; rwa [World.size_alloc] at this) (by unfold maxLen; omega) rfl
  case round =>
    rename_i wr
    clear hB1 hB3 hB5 hx0 hy0 hu0 hW1 hW2 hW3 hB2 hB4
    obtain ⟨k, hk, rfl, hown, hB⟩ := hrel
    have hsz := hB.size
    rw [World.size_alloc] at hsz
    obtain ⟨hx, hWr⟩ := box_facts hB
    have hle := K_le f k
    by_cases hlt : k < c
    · have hlt2 : (k : Int) < B.nights := by have := Hc2.out; omega
      cases hf : f k
      all_goals
        have hcan : canB B i m k = _ := (congrFun Hf.out k).trans hf
        have Hcan := Lib.hid hcan
        have Hfk := Lib.hid hf
        clear hf hcan
      · go_wp2_with (go_at_call 42; refine (hCanN B pm pg cm cg _ Hcan.out (hm.below hWr) (hg.below hWr) hok hi hmi (by omega)).mono ?_; rintro e w2 ⟨rfl, hB2⟩)
        go_roundw
        case rel => exact ⟨k + 1, by omega, by go_num, by rw [K_miss Hfk.out]; exact ownsRow_below hown hB2, hB.trans (hB2.mono hsz)⟩
        case measure => simp [intOf]; omega
      · go_wp2_with (first
          | (go_at_call 42; refine (hCanN B pm pg cm cg _ Hcan.out (hm.below hWr) (hg.below hWr) hok hi hmi (by omega)).mono ?_; rintro e w2 ⟨rfl, hB2⟩)
          | (at_builtin; refine wpList_append_own _ rfl _ _ 28 rfl (w.heap.size + 1) 3 i0 (.int .i64 0) 1 8 Tryd.underlying28 hi0 hz0 hz1 hz2 rfl (by decide) _ _ _ rfl ((ownsRow_below hown hB2).alloc _) ⟨w2.heap.size, 0, none⟩ 1 1 [.int .i64 k] rfl rfl ?c1 ?c2 ?c3 ?c4 ?c5 ?_))
        case c1 =>
          intro j u hj
          match j, hj with
          | 0, hj => simp at hj; subst hj; simp [Addr.add]
        case c2 => intro u hu; simp at hu; subst hu; rfl
        case c3 => unfold maxLen; omega
        case c4 => omega
        case c5 => have := hB2.size; simp; omega
        intro v' w1 hown' hgrow _
        have hs2 := hB2.size
        have hB3 : Below (w.heap.size + 1) (w.alloc (.cells #[.slice pm B.nm cm, .slice pg B.ng cg, .int .i64 B.nights] 25)) w1 := ((hB.trans (hB2.mono hsz)).alloc (by omega) _).grown hgrow (by simp; omega) (fun j hj => by have := (hown.lt j hj).1; omega)
        clear hgrow
        go_wp2
        go_roundw
        case rel => exact ⟨k + 1, by omega, by go_num, by rw [K_hit Hfk.out]; simpa using hown', hB3⟩
        case measure => simp [intOf]; omega
    · obtain rfl : k = c := by omega
      have hge2 : ¬ (k : Int) < B.nights := by have := Hc2.out; omega
      rcases hown.2 with ⟨rfl, h0⟩ | ⟨g, cap, cur, rfl, h1, h2, h3, h4, h5⟩
      · have e0 : K f k = [] := List.eq_nil_of_length_eq_zero h0
        go_wp2_with fail
        go_ret2
        exact ⟨none, 0, by rw [e0]; rfl, fun h => absurd h (by omega), hWr⟩
      · have hS := sl_of_owns hown
        have h4' := h4
        unfold maxLen at h4'
        go_wp2_with fail
        go_ret2
        exact ⟨_, _, rfl, hS, hWr⟩
end

/-- Have two lists of numbers the same elements? -/
def likeB (l m : List Int) : Bool := decide (l = m)

theorem like_step {l m : List Int} (h : l.length = m.length) : (l = m) ↔ ∀ i, i < l.length → l.getD i 0 = m.getD i 0 := by
  constructor
  · rintro rfl i _; rfl
  · intro h2
    apply List.ext_getElem h
    intro i hi hi2
    have := h2 i hi
    simpa [List.getD_eq_getElem?_getD, List.getElem?_eq_getElem hi, List.getElem?_eq_getElem hi2] using this

set_option maxRecDepth 100000 in
theorem Like_same (p q : Option Addr) (c1 c2 : Nat) (l : List Int) (w : World) (hp : Sl w p 1 l.length (fun i _ => l.getD i 0)) (hq : Sl w q 1 l.length (fun i _ => l.getD i 0)) (hl : l.length ≤ 1000) :
    Calls Tryd.prog 9 #[.slice p l.length c1, .slice q l.length c2] w fun e w' => e = .returned (.bool true) ∧ Below w.heap.size w w' := by
  generalize hn : l.length = n at *
  generalize hg : (fun (i _ : Nat) => l.getD i 0) = g at *
  clear hn hg l
  have hb0 : ((n : Int) == (n : Int)) = true := by simp
  go_enter Tryd.func9, Tryd.ntmps9
  go_wp2_with fail
  go_loopw [5, 6] (fun v i wr => ∃ k : Nat, k ≤ n ∧ i = .int .i64 k ∧ v = .bool true ∧ Below w.heap.size w wr) (fun _ i _ => n - (intOf i).toNat)
  case atStart => exact ⟨0, Nat.zero_le _, rfl, by simp, Below.refl _ _⟩
  case round =>
    rename_i wr
    obtain ⟨k, hk, rfl, rfl, hB⟩ := hrel
    by_cases hlt : k < n
    · obtain ⟨b, off, rfl, hb, hc⟩ := hp.below hB (by omega)
      obtain ⟨b2, off2, rfl, hb2, hc2⟩ := hq.below hB (by omega)
      have hd0 := hc k hlt 0 (by omega)
      have hd1 := hc2 k hlt 0 (by omega)
      simp only [Nat.mul_one, Nat.add_zero] at hd0 hd1
      have Hc := @Lib.hid _ @hc
      have Hc2 := @Lib.hid _ @hc2
      clear hc hc2
      go_wp2_with fail
      go_quiet (fail)
      go_wp2_with fail
      go_roundw
      case rel => exact ⟨k + 1, by omega, by go_num, by simp, belowDrewN hB _⟩
      case measure => simp [intOf]; omega
    · obtain rfl : k = n := by omega
      go_wp2_with fail
      go_ret
      exact ⟨rfl, hB⟩
theorem Like_at {l : List Int} (hl : l.length ≤ 1000) {W1 W wc : World} {p q : Option Addr} {c1 c2 : Nat} (s1 : Sl W1 p 1 l.length (fun i _ => l.getD i 0)) (h1 : Below W1.heap.size W1 W) (s2 : Sl W q 1 l.length (fun i _ => l.getD i 0)) (hb : Below W.heap.size W wc) :
    Calls Tryd.prog 9 #[.slice p l.length c1, .slice q l.length c2] wc fun e w' => e = .returned (.bool true) ∧ Below W.heap.size W w' :=
  held hb (Like_same p q c1 c2 l wc ((s1.below h1).below hb) (s2.below hb) hl)
end Go.Proofs.YtdcgmacknccklaaDoor
