/- isMended, mended, open and firstOf of package gang; numbers with them. -/
import Derived.Test.YtdcgmacknccklaaDoorGo
import Derived.Test.YtdcgmacknccklaaDoorGs
import Derived.Test.YtdcgmacknccklaaDoorRi
import Derived.ChangeKeysEq
namespace Go.Proofs.YtdcgmacknccklaaDoor
open Go Go.RowKit

set_option maxRecDepth 100000 in
theorem numbers3_any (cv : Int) (c : Nat) (hcv : cv = c) (hc : c ≤ 1000) (f : Nat → Bool) (a1 : Value) (w : World)
    (hcl : ∀ k : Nat, k < c → ∀ w', Below w.heap.size w w' → Calls Tryd.prog 89 #[a1, .int .i64 k] w' fun e w'' => e = .returned (.bool (f k)) ∧ Below w'.heap.size w' w'') :
    Calls Tryd.prog 37 #[.int .i64 cv, .func (.func 89) #[a1] #[]] w fun e w' => ∃ p, e = .returned (.slice p (K f c).length (K f c).length) ∧ Sl w' p 1 (K f c).length (fun i _ => (K f c).getD i 0) ∧ Below w.heap.size w w' := by
  subst hcv
  obtain ⟨i0, hi, hz0, hz1, hz2⟩ := info_parts info3
  go_enter Tryd.func37, Tryd.ntmps37
  go_wp2
  go_loopw [5, 8] (fun v i wr => ∃ k : Nat, k ≤ c ∧ i = .int .i64 k ∧ wr.ownsRow w.heap.size 3 1 v (K f k).length ((K f k).map (Value.int .i64)) ∧ Below w.heap.size w wr) (fun _ i _ => c - (intOf i).toNat)
  case atStart => exact ⟨0, Nat.zero_le _, rfl, World.ownsRow_nil _ _ _ _, Below.refl _ _⟩
  case round =>
    rename_i wr
    obtain ⟨k, hk, rfl, hown, hB⟩ := hrel
    have hsz := hB.size
    have hle := K_le f k
    by_cases hlt : k < c
    · have hc1 := hcl k hlt wr hB
      have Hcl := Lib.hid hcl
      clear hcl
      cases hf : f k
      · rw [hf] at hc1
        have Hf := Lib.hid hf
        clear hf
        go_wp2_with (go_at_call 89; refine hc1.mono ?_; rintro e w2 ⟨rfl, hB2⟩)
        go_roundw
        case rel => exact ⟨k + 1, by omega, by go_num, by rw [K_miss Hf.out]; exact ownsRow_below hown hB2, hB.trans (hB2.mono hsz)⟩
        case measure => simp [intOf]; omega
      · rw [hf] at hc1
        have Hf := Lib.hid hf
        clear hf
        go_wp2_with (first
          | (go_at_call 89; refine hc1.mono ?_; rintro e w2 ⟨rfl, hB2⟩)
          | (at_builtin; refine wpList_append_own _ rfl _ _ 28 rfl w.heap.size 3 i0 (.int .i64 0) 1 8 Tryd.underlying28 hi hz0 hz1 hz2 rfl (by decide) _ _ _ rfl ((ownsRow_below hown hB2).alloc _) ⟨w2.heap.size, 0, none⟩ 1 1 [.int .i64 k] rfl rfl ?c1 ?c2 ?c3 ?c4 ?c5 ?_))
        case c1 =>
          intro j u hj
          match j, hj with
          | 0, hj => simp at hj; subst hj; simp [Addr.add]
        case c2 => intro u hu; simp at hu; subst hu; rfl
        case c3 => unfold maxLen; omega
        case c4 => omega
        case c5 => have := hB2.size; simp; omega
        intro v' w1 hown' hgrow _
        have hs2 := hB2.size
        have hB3 : Below w.heap.size w w1 := ((hB.trans (hB2.mono hsz)).alloc (by omega) _).grown hgrow (by simp; omega) (fun j hj => by have := (hown.lt j hj).1; omega)
        clear hgrow
        go_wp2
        go_roundw
        case rel => exact ⟨k + 1, by omega, by go_num, by rw [K_hit Hf.out]; simpa using hown', hB3⟩
        case measure => simp [intOf]; omega
    · obtain rfl : k = c := by omega
      have Hcl := Lib.hid hcl
      clear hcl
      rcases hown.2 with ⟨rfl, h0⟩ | ⟨g, cap, cur, rfl, h1, h2, h3, h4, h5⟩
      · have e0 : K f k = [] := List.eq_nil_of_length_eq_zero h0
        go_wp2
        go_ret
        rw [e0]
        exact ⟨none, rfl, fun h => absurd h (by simp), hB⟩
      · have hS := sl_of_owns hown
        have h4' := h4
        unfold maxLen at h4'
        go_wp2
        go_ret
        exact ⟨_, rfl, hS, hB⟩
set_option maxRecDepth 100000 in
theorem numbers4_any (cv : Int) (c : Nat) (hcv : cv = c) (hc : c ≤ 1000) (f : Nat → Bool) (a1 : Value) (w : World)
    (hcl : ∀ k : Nat, k < c → ∀ w', Below w.heap.size w w' → Calls Tryd.prog 90 #[.int .i64 k, a1] w' fun e w'' => e = .returned (.bool (f k)) ∧ Below w'.heap.size w' w'') :
    Calls Tryd.prog 37 #[.int .i64 cv, .func (.func 90) #[] #[a1]] w fun e w' => ∃ p, e = .returned (.slice p (K f c).length (K f c).length) ∧ Sl w' p 1 (K f c).length (fun i _ => (K f c).getD i 0) ∧ Below w.heap.size w w' := by
  subst hcv
  obtain ⟨i0, hi, hz0, hz1, hz2⟩ := info_parts info3
  go_enter Tryd.func37, Tryd.ntmps37
  go_wp2
  go_loopw [5, 8] (fun v i wr => ∃ k : Nat, k ≤ c ∧ i = .int .i64 k ∧ wr.ownsRow w.heap.size 3 1 v (K f k).length ((K f k).map (Value.int .i64)) ∧ Below w.heap.size w wr) (fun _ i _ => c - (intOf i).toNat)
  case atStart => exact ⟨0, Nat.zero_le _, rfl, World.ownsRow_nil _ _ _ _, Below.refl _ _⟩
  case round =>
    rename_i wr
    obtain ⟨k, hk, rfl, hown, hB⟩ := hrel
    have hsz := hB.size
    have hle := K_le f k
    by_cases hlt : k < c
    · have hc1 := hcl k hlt wr hB
      have Hcl := Lib.hid hcl
      clear hcl
      cases hf : f k
      · rw [hf] at hc1
        have Hf := Lib.hid hf
        clear hf
        go_wp2_with (go_at_call 90; refine hc1.mono ?_; rintro e w2 ⟨rfl, hB2⟩)
        go_roundw
        case rel => exact ⟨k + 1, by omega, by go_num, by rw [K_miss Hf.out]; exact ownsRow_below hown hB2, hB.trans (hB2.mono hsz)⟩
        case measure => simp [intOf]; omega
      · rw [hf] at hc1
        have Hf := Lib.hid hf
        clear hf
        go_wp2_with (first
          | (go_at_call 90; refine hc1.mono ?_; rintro e w2 ⟨rfl, hB2⟩)
          | (at_builtin; refine wpList_append_own _ rfl _ _ 28 rfl w.heap.size 3 i0 (.int .i64 0) 1 8 Tryd.underlying28 hi hz0 hz1 hz2 rfl (by decide) _ _ _ rfl ((ownsRow_below hown hB2).alloc _) ⟨w2.heap.size, 0, none⟩ 1 1 [.int .i64 k] rfl rfl ?c1 ?c2 ?c3 ?c4 ?c5 ?_))
        case c1 =>
          intro j u hj
          match j, hj with
          | 0, hj => simp at hj; subst hj; simp [Addr.add]
        case c2 => intro u hu; simp at hu; subst hu; rfl
        case c3 => unfold maxLen; omega
        case c4 => omega
        case c5 => have := hB2.size; simp; omega
        intro v' w1 hown' hgrow _
        have hs2 := hB2.size
        have hB3 : Below w.heap.size w w1 := ((hB.trans (hB2.mono hsz)).alloc (by omega) _).grown hgrow (by simp; omega) (fun j hj => by have := (hown.lt j hj).1; omega)
        clear hgrow
        go_wp2
        go_roundw
        case rel => exact ⟨k + 1, by omega, by go_num, by rw [K_hit Hf.out]; simpa using hown', hB3⟩
        case measure => simp [intOf]; omega
    · obtain rfl : k = c := by omega
      have Hcl := Lib.hid hcl
      clear hcl
      rcases hown.2 with ⟨rfl, h0⟩ | ⟨g, cap, cur, rfl, h1, h2, h3, h4, h5⟩
      · have e0 : K f k = [] := List.eq_nil_of_length_eq_zero h0
        go_wp2
        go_ret
        rw [e0]
        exact ⟨none, rfl, fun h => absurd h (by simp), hB⟩
      · have hS := sl_of_owns hown
        have h4' := h4
        unfold maxLen at h4'
        go_wp2
        go_ret
        exact ⟨_, rfl, hS, hB⟩
theorem eqItems_int {P : Program} (w : World) {e : TypeId} (he : P.underlying e = some (.int .i64)) (hp : P.plainKey e = true) (d : Nat) (us bs : List Int) : ∀ is : List Nat, (∀ i ∈ is, i < us.length ∧ i < bs.length) →
    (Op.eqItems (d + 1) e 1 (us.map (Value.int .i64)).toArray (bs.map (Value.int .i64)).toArray is).run P w = .ok (is.all fun i => us.getD i 0 == bs.getD i 0) w
  | [], _ => by simp [Op.eqItems]
  | i :: is, h => by
    have h1 := h i (by simp)
    have hx : (us.map (Value.int .i64)).toArray[i * 1]? = some (.int .i64 (us.getD i 0)) := by simp [h1.1]
    have hy : (bs.map (Value.int .i64)).toArray[i * 1]? = some (.int .i64 (bs.getD i 0)) := by simp [h1.2]
    have ih := eqItems_int w he hp d us bs is (fun j hj => h j (by simp [hj]))
    simp only [Op.eqItems, Sem.run_bind, run_part_plain w hp hx, run_part_plain w hp hy, Result.andThen_ok, run_equalIn_int w d e .i64 .i64 _ _ he]
    cases hc : (us.getD i 0 == bs.getD i 0)
    · rw [List.all_cons, hc]; simp
    · rw [List.all_cons, hc]; simpa using ih

set_option maxRecDepth 100000 in

theorem eqA (d : Nat → Int) (w : World) : (Op.equalIn 10000 80 (.agg #[.int .i64 (d 0), .int .i64 (d 1), .int .i64 (d 2), .int .i64 (d 3)]) (.agg #[.int .i64 0, .int .i64 0, .int .i64 0, .int .i64 0])).run Tryd.prog w = .ok (decide (d 0 = 0 ∧ d 1 = 0 ∧ d 2 = 0 ∧ d 3 = 0)) w := by
  have hs : Tryd.prog.cellsOf 3 = 1 := by kernel_rfl
  obtain ⟨i, hi⟩ : ∃ i, Tryd.prog.info? 3 = some i := Option.isSome_iff_exists.1 (by kernel_rfl)
  have h1 := Go.run_equalIn_array (P := Tryd.prog) w (9998 + 1) #[.int .i64 (d 0), .int .i64 (d 1), .int .i64 (d 2), .int .i64 (d 3)] #[.int .i64 0, .int .i64 0, .int .i64 0, .int .i64 0] Tryd.underlying80 hi
  rw [hs] at h1
  refine h1.trans ((eqItems_int w Tryd.underlying3 (by kernel_rfl) 9998 [d 0, d 1, d 2, d 3] [0, 0, 0, 0] (List.range 4) (fun i hi => by simp at hi; simpa using hi)).trans ?_)
  congr 1
  rw [Bool.eq_iff_iff]
  simp [List.range, List.range.loop]

/-- Is so much as is done at a mile enough? -/
def mdB (B : Book) (d : Nat → Int) (m : Nat) : Bool := decide (B.mile m 1 ≤ d m)

theorem bookB_needs {B : Book} (hok : bookB B = true) {i : Nat} (hi : i < B.nm) : 1 ≤ B.mile i 1 ∧ B.mile i 1 ≤ 6 := by
  have := (bookB_mile hok hi).1
  omega

/-- The plan's value at a mile's place. -/
theorem six_at {bb n cp2 : Nat} {A : Option Addr} {d : Nat → Int} {m : Nat} (hm : m < 4) : (#[.pointer (some ⟨bb, 0, none⟩), .slice A n cp2, .int .i64 (d 0), .int .i64 (d 1), .int .i64 (d 2), .int .i64 (d 3)] : Array Value)[2 + m]? = some (.int .i64 (d m)) := by
  obtain rfl | rfl | rfl | rfl : m = 0 ∨ m = 1 ∨ m = 2 ∨ m = 3 := by omega
  all_goals rfl

section
variable (B : Book) (pm pg A : Option Addr) (cm cg bb bm n cp2 : Nat) (d : Nat → Int) (w : World)

set_option maxRecDepth 100000 in
theorem isMended_any (hP : PB B pm pg cm cg bb bm w) (hm : Sl w pm 3 B.nm B.mile) (hok : bookB B = true) (k : Nat) (hk : k < B.nm) :
    Calls Tryd.prog 89 #[.agg #[.pointer (some ⟨bb, 0, none⟩), .slice A n cp2, .int .i64 (d 0), .int .i64 (d 1), .int .i64 (d 2), .int .i64 (d 3)], .int .i64 k] w fun e w' => e = .returned (.bool (mdB B d k)) ∧ Below w.heap.size w w' := by
  have hbd := bookB_bd hok
  have hk4 : k < 4 := by omega
  have hk5 : (k : Int) < 4 := by omega
  have hW : Below w.heap.size w (w.alloc (.cells #[.pointer (some ⟨bb, 0, none⟩), .slice A n cp2, .int .i64 (d 0), .int .i64 (d 1), .int .i64 (d 2), .int .i64 (d 3)] 82)) := belowAlloc (Below.refl _ _) _
  have hc : (w.alloc (.cells #[.pointer (some ⟨bb, 0, none⟩), .slice A n cp2, .int .i64 (d 0), .int .i64 (d 1), .int .i64 (d 2), .int .i64 (d 3)] 82)).cell? ⟨w.heap.size, 2 + k, none⟩ = some (.int .i64 (d k)) := (new2 _ _ _ _ rfl (2 + k)).trans (six_at hk4)
  obtain ⟨hb1, hcells⟩ := hP.below hW
  have k0 := hcells 0
  have k1 := hcells 1
  have k2 := hcells 2
  simp only [List.getElem?_toArray, List.getElem?_cons_zero, List.getElem?_cons_succ] at k0 k1 k2
  obtain ⟨b, off, rfl, hb, hrow⟩ := hm.row3 hk
  obtain ⟨hd0, hd1, hd2⟩ := hrow hW
  clear hrow hcells
  go_enter Tryd.func89, Tryd.ntmps89
  go_wp2_with fail
  go_quiet (fail)
  go_wp2_with fail
  go_ret
  exact ⟨ret_bool (by simp [mdB]), belowDrewN hW _⟩

set_option maxRecDepth 100000 in
theorem openCl_any (t : Nat) (hP : PB B pm pg cm cg bb bm w) (hm : Sl w pm 3 B.nm B.mile) (hok : bookB B = true) (k : Nat) (hk : k < B.nm) (h : ∀ j, w.cell? ⟨t, j, none⟩ = #[.pointer (some ⟨bb, 0, none⟩), .slice A n cp2, .int .i64 (d 0), .int .i64 (d 1), .int .i64 (d 2), .int .i64 (d 3)][j]?) :
    Calls Tryd.prog 90 #[.int .i64 k, .pointer (some ⟨t, 0, none⟩)] w fun e w' => e = .returned (.bool (!mdB B d k)) ∧ Below w.heap.size w w' := by
  go_enter Tryd.func90, Tryd.ntmps90
  go_wp2_with (go_at_call 89; refine (isMended_any B pm pg A cm cg bb bm n cp2 d _ hP hm hok k hk).mono ?_; rintro e w2 ⟨rfl, hB2⟩)
  go_ret
  exact ⟨rfl, hB2⟩

/-- A list that was made, of all numbers that are so. -/
def NumsIs (f : Nat → Bool) (c : Nat) (w : World) (e : Ending) (w' : World) : Prop :=
  ∃ p cap, e = .returned (.slice p (K f c).length cap) ∧ Sl w' p 1 (K f c).length (fun i _ => (K f c).getD i 0) ∧ Below w.heap.size w w'

set_option maxRecDepth 100000 in
set_option maxHeartbeats 1000000 in
theorem mended_any (hP : PB B pm pg cm cg bb bm w) (hm : Sl w pm 3 B.nm B.mile) (hok : bookB B = true) :
    Calls Tryd.prog 64 #[.agg #[.pointer (some ⟨bb, 0, none⟩), .slice A n cp2, .int .i64 (d 0), .int .i64 (d 1), .int .i64 (d 2), .int .i64 (d 3)]] w (NumsIs (mdB B d) B.nm w) := by
  have hbd := bookB_bd hok
  have hW : Below w.heap.size w (w.alloc (.cells #[.pointer (some ⟨bb, 0, none⟩), .slice A n cp2, .int .i64 (d 0), .int .i64 (d 1), .int .i64 (d 2), .int .i64 (d 3)] 82)) := belowAlloc (Below.refl _ _) _
  have hmf : ∀ (fn : Fn) (first cap : Array Value) (w : World), (Instr.makeFunc fn first cap).run Tryd.prog w = .ok (.func fn first cap) w := fun _ _ _ _ => rfl
  cases hz : decide (d 0 = 0 ∧ d 1 = 0 ∧ d 2 = 0 ∧ d 3 = 0)
  · have he : ∀ w : World, (Op.equalIn 10000 80 (.agg #[.int .i64 (d 0), .int .i64 (d 1), .int .i64 (d 2), .int .i64 (d 3)]) (.agg #[.int .i64 0, .int .i64 0, .int .i64 0, .int .i64 0])).run Tryd.prog w = .ok false w := fun w => by rw [eqA, hz]
    clear hz
    have hPW := Lib.hid (hP.below hW)
    have k0 := hPW.out.2 0
    simp only [List.getElem?_toArray, List.getElem?_cons_zero, List.getElem?_cons_succ] at k0
    go_enter Tryd.func64, Tryd.ntmps64
    go_wp2_with fail
    go_region_with (go_at_call 37; refine (numbers3_any (B.nm : Int) B.nm rfl (by omega) (mdB B d) (.agg #[.pointer (some ⟨bb, 0, none⟩), .slice A n cp2, .int .i64 (d 0), .int .i64 (d 1), .int .i64 (d 2), .int .i64 (d 3)]) _ ?_).mono ?_; (intro k hk w' hb; exact isMended_any B pm pg A cm cg bb bm n cp2 d w' (hP.below (below_after (by repeat (first | (with_reducible exact hW) | (with_reducible refine Below.drew ?_) | (with_reducible refine belowAlloc ?_ _) | (with_reducible assumption))) hb)) (hm.below (below_after (by repeat (first | (with_reducible exact hW) | (with_reducible refine Below.drew ?_) | (with_reducible refine belowAlloc ?_ _) | (with_reducible assumption))) hb)) hok k hk); rintro e w2 ⟨p, rfl, hS, hB2⟩; have hF : Below w.heap.size w w2 := by refine below_after ?_ hB2; repeat (first | (with_reducible exact hW) | (with_reducible refine Below.drew ?_) | (with_reducible refine belowAlloc ?_ _) | (with_reducible assumption)))
    all_goals
      (try go_wp2_with fail)
      go_ret
      exact ⟨p, _, rfl, hS, hF⟩
  · have he : ∀ w : World, (Op.equalIn 10000 80 (.agg #[.int .i64 (d 0), .int .i64 (d 1), .int .i64 (d 2), .int .i64 (d 3)]) (.agg #[.int .i64 0, .int .i64 0, .int .i64 0, .int .i64 0])).run Tryd.prog w = .ok true w := fun w => by rw [eqA, hz]
    have hz2 := Lib.hid (of_decide_eq_true hz)
    clear hz
    have hK : K (mdB B d) B.nm = [] := by
      rw [K_congr (f2 := fun _ => false) fun k hk => by
        have h1 := hz2.out
        have h2 := bookB_needs hok hk
        have : d k = 0 := by obtain rfl | rfl | rfl | rfl : k = 0 ∨ k = 1 ∨ k = 2 ∨ k = 3 := by omega
                             all_goals omega
        simp only [mdB, decide_eq_false_iff_not]; omega]
      simp [K]
    have HK := Lib.hid hK
    clear hK
    go_enter Tryd.func64, Tryd.ntmps64
    go_wp2_with fail
    go_ret
    exact ⟨none, 0, by rw [HK.out]; rfl, by rw [HK.out]; exact fun h => absurd h (by simp), hW⟩

set_option maxRecDepth 100000 in
set_option maxHeartbeats 1000000 in
theorem open_any (hP : PB B pm pg cm cg bb bm w) (hm : Sl w pm 3 B.nm B.mile) (hok : bookB B = true) :
    Calls Tryd.prog 67 #[.agg #[.pointer (some ⟨bb, 0, none⟩), .slice A n cp2, .int .i64 (d 0), .int .i64 (d 1), .int .i64 (d 2), .int .i64 (d 3)]] w (NumsIs (fun k => !mdB B d k) B.nm w) := by
  have hbd := bookB_bd hok
  have hW : Below w.heap.size w (w.alloc (.cells #[.pointer (some ⟨bb, 0, none⟩), .slice A n cp2, .int .i64 (d 0), .int .i64 (d 1), .int .i64 (d 2), .int .i64 (d 3)] 82)) := belowAlloc (Below.refl _ _) _
  have hmf : ∀ (fn : Fn) (first cap : Array Value) (w : World), (Instr.makeFunc fn first cap).run Tryd.prog w = .ok (.func fn first cap) w := fun _ _ _ _ => rfl
  have hPW := Lib.hid (hP.below hW)
  have k0 := hPW.out.2 0
  simp only [List.getElem?_toArray, List.getElem?_cons_zero, List.getElem?_cons_succ] at k0
  go_enter Tryd.func67, Tryd.ntmps67
  go_wp2_with (go_at_call 37; refine (numbers4_any (B.nm : Int) B.nm rfl (by omega) (fun k => !mdB B d k) _ _ ?_).mono ?_; (intro k hk w' hb; exact openCl_any B pm pg A cm cg bb bm n cp2 d w' w.heap.size (hP.below (below_after hW hb)) (hm.below (below_after hW hb)) hok k hk (fun j => (hb.cell (p := ⟨w.heap.size, j, none⟩) (by simp)).trans (new2 _ _ _ _ rfl j))); rintro e w2 ⟨p, rfl, hS, hB2⟩)
  go_ret
  exact ⟨p, _, rfl, hS, below_after hW hB2⟩
end

theorem firstOf_any (p : Option Addr) (l : List Int) (cap : Nat) (w : World) (hs : Sl w p 1 l.length (fun i _ => l.getD i 0)) (hl : l.length ≤ 1000) :
    Calls Tryd.prog 66 #[.slice p l.length cap] w fun e w' => e = .returned (.tuple #[.int .i64 (l.getD 0 0), .int .i64 (bif l.length == 0 then 4 else 0)]) ∧ Below w.heap.size w w' := by
  cases l with
  | nil =>
    go_enter Tryd.func66, Tryd.ntmps66
    go_wp2_with fail
    go_ret2
    exact ⟨rfl, Below.refl _ _⟩
  | cons x xs =>
    obtain ⟨b, off, rfl, hb, hc⟩ := hs (by simp)
    have hd0 := hc 0 (by simp) 0 (by omega)
    simp only [Nat.zero_mul, Nat.add_zero, List.getD_cons_zero] at hd0
    have Hc := @Lib.hid _ @hc
    clear hc
    have hl2 : ((x :: xs).length : Int) ≤ 1000 := by omega
    have hl3 : (0 : Int) < (x :: xs).length := by simp
    have hl4 : (((x :: xs).length : Int) == 0) = false := by simp; omega
    have hl6 : ((x :: xs).length == 0) = false := by simp
    generalize hn : (x :: xs).length = n at *
    have Hn := Lib.hid hn
    clear hn
    have hl5 : 0 < n := by omega
    rw [hl6]
    clear hl6
    go_enter Tryd.func66, Tryd.ntmps66
    go_wp2_with fail
    go_ret2
    exact ⟨by simp, Below.refl _ _⟩
end Go.Proofs.YtdcgmacknccklaaDoor
