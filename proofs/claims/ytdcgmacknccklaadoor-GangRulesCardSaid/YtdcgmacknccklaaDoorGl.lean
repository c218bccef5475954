/- closes and Closed$1 of package gang; numbers with the latter. -/
import Derived.Test.YtdcgmacknccklaaDoorGk
import Derived.Test.YtdcgmacknccklaaDoorGhm
import Derived.Test.YtdcgmacknccklaaDoorRef
namespace Go.Proofs.YtdcgmacknccklaaDoor
open Go Go.RowKit

set_option maxRecDepth 100000 in
theorem numbers2_any (cv : Int) (c : Nat) (hcv : cv = c) (hc : c ≤ 1000) (f : Nat → Bool) (a1 a2 : Value) (w : World)
    (hcl : ∀ k : Nat, k < c → ∀ w', Below w.heap.size w w' → Calls Tryd.prog 48 #[.int .i64 k, a1, a2] w' fun e w'' => e = .returned (.bool (f k)) ∧ Below w'.heap.size w' w'') :
    Calls Tryd.prog 37 #[.int .i64 cv, .func (.func 48) #[] #[a1, a2]] w fun e w' => ∃ p, e = .returned (.slice p (K f c).length (K f c).length) ∧ Sl w' p 1 (K f c).length (fun i _ => (K f c).getD i 0) ∧ Below w.heap.size w w' := by
  subst hcv
  obtain ⟨i0, hi, hz0, hz1, hz2⟩ := info_parts info3
  go_enter Tryd.func37, Tryd.ntmps37
  go_wp2
  go_loopw [5, 8] (fun v i wr => ∃ k : Nat, k ≤ c ∧ i = .int .i64 k ∧ wr.ownsRow w.heap.size 3 1 v (K f k).length ((K f k).map (Value.int .i64)) ∧ Below w.heap.size w wr) (fun _ i _ => c - (intOf i).toNat)
  case atStart => exact ⟨0, Nat.zero_le _, rfl, World.ownsRow_nil _ _ _ _, Below.refl _ _⟩
  case round =>
    rename_i wr
    obtain ⟨k, hk, rfl, hown, hB⟩ := hrel
    have hsz := hB.size
    have hle := K_le f k
    by_cases hlt : k < c
    · have hc1 := hcl k hlt wr hB
      have Hcl := Lib.hid hcl
      clear hcl
      cases hf : f k
      · rw [hf] at hc1
        have Hf := Lib.hid hf
        clear hf
        go_wp2_with (go_at_call 48; refine hc1.mono ?_; rintro e w2 ⟨rfl, hB2⟩)
        go_roundw
        case rel => exact ⟨k + 1, by omega, by go_num, by rw [K_miss Hf.out]; exact ownsRow_below hown hB2, hB.trans (hB2.mono hsz)⟩
        case measure => simp [intOf]; omega
      · rw [hf] at hc1
        have Hf := Lib.hid hf
        clear hf
        go_wp2_with (first
          | (go_at_call 48; refine hc1.mono ?_; rintro e w2 ⟨rfl, hB2⟩)
          | (at_builtin; refine wpList_append_own _ rfl _ _ 28 rfl w.heap.size 3 i0 (.int .i64 0) 1 8 Tryd.underlying28 hi hz0 hz1 hz2 rfl (by decide) _ _ _ rfl ((ownsRow_below hown hB2).alloc _) ⟨w2.heap.size, 0, none⟩ 1 1 [.int .i64 k] rfl rfl ?c1 ?c2 ?c3 ?c4 ?c5 ?_))
        case c1 =>
          intro j u hj
          match j, hj with
          | 0, hj => simp at hj; subst hj; simp [Addr.add]
        case c2 => intro u hu; simp at hu; subst hu; rfl
        case c3 => unfold maxLen; omega
        case c4 => omega
        case c5 => have := hB2.size; simp; omega
        intro v' w1 hown' hgrow _
        have hs2 := hB2.size
        have hB3 : Below w.heap.size w w1 := ((hB.trans (hB2.mono hsz)).alloc (by omega) _).grown hgrow (by simp; omega) (fun j hj => by have := (hown.lt j hj).1; omega)
        clear hgrow
        go_wp2
        go_roundw
        case rel => exact ⟨k + 1, by omega, by go_num, by rw [K_hit Hf.out]; simpa using hown', hB3⟩
        case measure => simp [intOf]; omega
    · obtain rfl : k = c := by omega
      have Hcl := Lib.hid hcl
      clear hcl
      rcases hown.2 with ⟨rfl, h0⟩ | ⟨g, cap, cur, rfl, h1, h2, h3, h4, h5⟩
      · have e0 : K f k = [] := List.eq_nil_of_length_eq_zero h0
        go_wp2
        go_ret
        rw [e0]
        exact ⟨none, rfl, fun h => absurd h (by simp), hB⟩
      · have hS := sl_of_owns hown
        have h4' := h4
        unfold maxLen at h4'
        go_wp2
        go_ret
        exact ⟨_, rfl, hS, hB⟩

/-- Is a work at a spot? -/
def atB (x : Nat → Int) (night mile : Int) : Bool := (x 0 == night) && (x 2 == mile)

abbrev HeldC (W : World) (a s : Nat) (x : Nat → Int) (night mile : Int) (w' : World) : Prop := Below W.heap.size W w' ∧ w'.cell? ⟨a, 0, none⟩ = some (.int .i64 (x 0)) ∧ w'.cell? ⟨a, 1, none⟩ = some (.int .i64 (x 1)) ∧ w'.cell? ⟨a, 2, none⟩ = some (.int .i64 (x 2)) ∧ w'.cell? ⟨s, 0, none⟩ = some (.int .i64 night) ∧ w'.cell? ⟨s, 1, none⟩ = some (.int .i64 mile)

theorem keepC {W w' : World} {a s : Nat} {x : Nat → Int} {night mile : Int} (h : HeldC W a s x night mile W) (hb : Below W.heap.size W w') : HeldC W a s x night mile w' :=
  have lt : ∀ {c : Addr} {v : Value}, W.cell? c = some v → c.block < W.heap.size := fun h => World.block_lt_of_cell? W _ h
  ⟨hb, (hb.cell (lt h.2.1)).trans h.2.1, (hb.cell (lt h.2.2.1)).trans h.2.2.1, (hb.cell (lt h.2.2.2.1)).trans h.2.2.2.1, (hb.cell (lt h.2.2.2.2.1)).trans h.2.2.2.2.1, (hb.cell (lt h.2.2.2.2.2)).trans h.2.2.2.2.2⟩

set_option maxRecDepth 100000 in
theorem closesCl_any (x : Nat → Int) (night mile : Int) (s : Nat) (w : World) (h0 : w.cell? ⟨s, 0, none⟩ = some (.int .i64 night)) (h1 : w.cell? ⟨s, 1, none⟩ = some (.int .i64 mile)) :
    Calls Tryd.prog 77 #[.agg #[.int .i64 (x 0), .int .i64 (x 1), .int .i64 (x 2)], .pointer (some ⟨s, 0, none⟩)] w fun e w' => e = .returned (.bool (atB x night mile)) ∧ Below w.heap.size w w' := by
  have hs := World.block_lt_of_cell? w _ h0
  have hW : Below w.heap.size w (w.alloc (.cells #[.int .i64 (x 0), .int .i64 (x 1), .int .i64 (x 2)] 54)) := belowAlloc (Below.refl _ _) _
  have hS : HeldC (w.alloc (.cells #[.int .i64 (x 0), .int .i64 (x 1), .int .i64 (x 2)] 54)) w.heap.size s x night mile (w.alloc (.cells #[.int .i64 (x 0), .int .i64 (x 1), .int .i64 (x 2)] 54)) := ⟨Below.refl _ _, new2 _ _ _ _ rfl 0, new2 _ _ _ _ rfl 1, new2 _ _ _ _ rfl 2, (hW.cell (p := ⟨s, 0, none⟩) hs).trans h0, (hW.cell (p := ⟨s, 1, none⟩) hs).trans h1⟩
  have hSh := Lib.hid hS
  clear hS
  cases hb0 : (x 0 == night)
  case' true => cases hb1 : (x 2 == mile)
  all_goals
    go_enter Tryd.func77, Tryd.ntmps77
    go_wp2_with fail
    go_region_held3 (fun w' => Below ((w.alloc (.cells #[.int .i64 (x 0), .int .i64 (x 1), .int .i64 (x 2)] 54))).heap.size (w.alloc (.cells #[.int .i64 (x 0), .int .i64 (x 1), .int .i64 (x 2)] 54)) w' ∧ w'.cell? ⟨w.heap.size, 0, none⟩ = some (.int .i64 (x 0)) ∧ w'.cell? ⟨w.heap.size, 1, none⟩ = some (.int .i64 (x 1)) ∧ w'.cell? ⟨w.heap.size, 2, none⟩ = some (.int .i64 (x 2)) ∧ w'.cell? ⟨s, 0, none⟩ = some (.int .i64 night) ∧ w'.cell? ⟨s, 1, none⟩ = some (.int .i64 mile))
      (first | exact keepC hSh.out (Below.drew (Below.refl _ _)) | exact keepC hSh.out hB3)
      (first | (go_at_call 78; refine (held (show HeldC (w.alloc (.cells #[.int .i64 (x 0), .int .i64 (x 1), .int .i64 (x 2)] 54)) w.heap.size s x night mile _ by assumption).1 (at_any _ _ _ _)).mono ?_; rintro e w3 ⟨rfl, hB3⟩))
    all_goals
      (try go_wp2_with fail)
      go_ret
      refine ⟨ret_bool ?_, hW.trans (hB3.mono hW.size)⟩
      simp only [atB, *, Bool.true_and, Bool.false_and]

/-- The first place from k on, among so many, at which something is so (-1: none). -/
def ixL (f : Nat → Bool) (k n : Nat) : Int := plL (fun i _ => if f i then 1 else 0) 1 k n

theorem ixL_iff (f : Nat → Bool) (n : Nat) : 0 ≤ ixL f 0 n ↔ ∃ i, i < n ∧ f i = true := by
  rw [ixL, plL_iff]
  constructor
  · rintro ⟨i, _, h2, h3⟩; exact ⟨i, by omega, by cases hf : f i; rw [hf] at h3; simp at h3; rfl⟩
  · rintro ⟨i, h2, h3⟩; exact ⟨i, by omega, by omega, by simp [h3]⟩

theorem ixL_hit {f : Nat → Bool} {k n : Nat} (h : f k = true) : ixL f k (n + 1) = k := by simp [ixL, plL, h]
theorem ixL_miss {f : Nat → Bool} {k n : Nat} (h : f k = false) : ixL f k (n + 1) = ixL f (k + 1) n := by simp [ixL, plL, h]

set_option maxRecDepth 100000 in
theorem indexF_any (p : Option Addr) (n cap : Nat) (g : Nat → Nat → Int) (a1 : Value) (f : Nat → Bool) (w : World) (hs : Sl w p 3 n g) (hn : n ≤ 9223372036854775807)
    (hcl : ∀ k : Nat, k < n → ∀ w', Below w.heap.size w w' → Calls Tryd.prog 77 #[.agg #[.int .i64 (g k 0), .int .i64 (g k 1), .int .i64 (g k 2)], a1] w' fun e w'' => e = .returned (.bool (f k)) ∧ Below w'.heap.size w' w'') :
    Calls Tryd.prog 95 #[.slice p n cap, .func (.func 77) #[] #[a1]] w fun e w' => e = .returned (.int .i64 (ixL f 0 n)) ∧ Below w.heap.size w w' := by
  go_enter Tryd.func95, Tryd.ntmps95
  go_wp2_with fail
  go_loopw [8] (fun i wr => ∃ k : Nat, k ≤ n ∧ i = .int .i64 k ∧ ixL f 0 n = ixL f k (n - k) ∧ Below w.heap.size w wr) (fun i _ => n - (intOf i).toNat)
  case atStart => exact ⟨0, Nat.zero_le _, rfl, rfl, Below.refl _ _⟩
  case round =>
    rename_i wr
    obtain ⟨k, hk, rfl, ho, hB⟩ := hrel
    by_cases hlt : k < n
    · have hc1 := hcl k hlt wr hB
      have Hcl := Lib.hid hcl
      clear hcl
      obtain ⟨b, off, rfl, hb, hrow⟩ := hs.row3 hlt
      obtain ⟨hd0, hd1, hd2⟩ := hrow hB
      clear hrow
      rw [show n - k = (n - (k + 1)) + 1 by omega] at ho
      have Ho := Lib.hid ho
      clear ho
      cases hf : f k
      all_goals
        rw [hf] at hc1
        have Hf := Lib.hid hf
        clear hf
        go_wp2_with (go_at_call 77; refine hc1.mono ?_; rintro e w2 ⟨rfl, hB2⟩)
      · go_roundw
        case rel => exact ⟨k + 1, by omega, by go_num, by rw [Ho.out, ixL_miss Hf.out], hB.trans (hB2.mono hB.size)⟩
        case measure => simp [intOf]; omega
      · go_ret
        exact ⟨ret_int (by rw [Ho.out, ixL_hit Hf.out]), hB.trans (hB2.mono hB.size)⟩
    · obtain rfl : k = n := by omega
      have Hcl := Lib.hid hcl
      have Ho := Lib.hid ho
      clear hcl ho
      go_wp2_with fail
      go_ret
      exact ⟨ret_int (by rw [Ho.out]; simp [ixL, plL]), hB⟩

theorem closeB_any (n : Nat) (g : Nat → Nat → Int) (night mile : Int) : decide (0 ≤ ixL (fun i => atB (g i) night mile) 0 n) = closeB n g night mile := by
  rw [Bool.eq_iff_iff]
  simp only [decide_eq_true_eq, ixL_iff, closeB, atB, Bool.and_eq_true, beq_iff_eq]

theorem contains_any (p : Option Addr) (n cap : Nat) (g : Nat → Nat → Int) (s : Nat) (night mile : Int) (w : World) (hs : Sl w p 3 n g) (hn : n ≤ 9223372036854775807) (h0 : w.cell? ⟨s, 0, none⟩ = some (.int .i64 night)) (h1 : w.cell? ⟨s, 1, none⟩ = some (.int .i64 mile)) :
    Calls Tryd.prog 76 #[.slice p n cap, .func (.func 77) #[] #[.pointer (some ⟨s, 0, none⟩)]] w fun e w' => e = .returned (.bool (closeB n g night mile)) ∧ Below w.heap.size w w' := by
  have hlt := World.block_lt_of_cell? w _ h0
  have hI := Lib.hid (indexF_any p n cap g (.pointer (some ⟨s, 0, none⟩)) (fun i => atB (g i) night mile) w hs hn (fun k _ w' hb => closesCl_any (g k) night mile s w' ((hb.cell (p := ⟨s, 0, none⟩) hlt).trans h0) ((hb.cell (p := ⟨s, 1, none⟩) hlt).trans h1)))
  go_enter Tryd.func76, Tryd.ntmps76
  go_wp2_with (go_at_call 95; refine hI.out.mono ?_; rintro e w2 ⟨rfl, hB2⟩)
  go_ret
  exact ⟨ret_bool (by rw [← closeB_any]), hB2⟩

set_option maxRecDepth 100000 in
theorem closes_any (p : Option Addr) (n cap : Nat) (g : Nat → Nat → Int) (v0 : Value) (d : Nat → Int) (night mile : Int) (w : World) (hs : Sl w p 3 n g) (hn : n ≤ 9223372036854775807) :
    Calls Tryd.prog 49 #[.agg #[v0, .slice p n cap, .int .i64 (d 0), .int .i64 (d 1), .int .i64 (d 2), .int .i64 (d 3)], .agg #[.int .i64 night, .int .i64 mile]] w fun e w' => e = .returned (.bool (closeB n g night mile)) ∧ Below w.heap.size w w' := by
  have hmf : ∀ (fn : Fn) (first cap : Array Value) (w : World), (Instr.makeFunc fn first cap).run Tryd.prog w = .ok (.func fn first cap) w := fun _ _ _ _ => rfl
  have hW : Below w.heap.size w ((w.alloc (.cells #[v0, .slice p n cap, .int .i64 (d 0), .int .i64 (d 1), .int .i64 (d 2), .int .i64 (d 3)] 82)).alloc (.cells #[.int .i64 night, .int .i64 mile] 73)) := belowAlloc (belowAlloc (Below.refl _ _) _) _
  go_enter Tryd.func49, Tryd.ntmps49
  go_wp2_with (go_at_call 76; refine (contains_any p n cap g _ night mile _ (hs.below hW) hn ?_ ?_).mono ?_; (rw [new2 (hb := by simp)]; rfl); (rw [new2 (hb := by simp)]; rfl); rintro e w2 ⟨rfl, hB2⟩)
  go_ret
  exact ⟨rfl, hW.trans (hB2.mono hW.size)⟩
end Go.Proofs.YtdcgmacknccklaaDoor
