/- isNext of package gang. -/
import Derived.Test.YtdcgmacknccklaaDoorGab
namespace Go.Proofs.YtdcgmacknccklaaDoor
open Go Go.RowKit

theorem isNumber_is {n c : Int} {v : Bool} (h : inB n 0 (c - 1) = v) (w : World) (h0 : 0 ≤ c) (h1 : c ≤ 9223372036854775807) :
    Calls Tryd.prog 35 #[.int .i64 n, .int .i64 c] w fun e w' => e = .returned (.bool v) ∧ w' = w := h ▸ isNumber_any n c w h0 h1

theorem can_is {B : Book} {pm pg : Option Addr} {cm cg bb bm : Nat} {w : World} {iv : Int} {i : Nat} {m n : Int} {v : Bool} (h : canB B i m n = v) (hP : PB B pm pg cm cg bb bm w) (hm : Sl w pm 3 B.nm B.mile) (hg : Sl w pg 4 B.ng B.gang) (hok : bookB B = true)
    (hiv : iv = i) (hi : i < B.ng) (hn0 : 0 ≤ n) (hn1 : n ≤ 63) :
    Calls Tryd.prog 39 #[.pointer (some ⟨bb, 0, none⟩), .int .i64 iv, .agg #[.int .i64 n, .int .i64 m]] w fun e w' => e = .returned (.bool v) ∧ Below w.heap.size w w' :=
  h ▸ can_any B pm pg cm cg bb bm w hP hm hg hok iv i hiv hi m n hn0 hn1

theorem keepN {W w' : World} {a b : Nat} {v0 v1 v2 u1 u2 : Value} (hb : Below W.heap.size W w') (h0 : W.cell? ⟨a, 0, none⟩ = some v0) (h1 : W.cell? ⟨a, 1, none⟩ = some v1) (h2 : W.cell? ⟨a, 2, none⟩ = some v2)
    (k1 : W.cell? ⟨b, 1, none⟩ = some u1) (k2 : W.cell? ⟨b, 2, none⟩ = some u2) :
    Below W.heap.size W w' ∧ w'.cell? ⟨a, 0, none⟩ = some v0 ∧ w'.cell? ⟨a, 1, none⟩ = some v1 ∧ w'.cell? ⟨a, 2, none⟩ = some v2 ∧ w'.cell? ⟨b, 1, none⟩ = some u1 ∧ w'.cell? ⟨b, 2, none⟩ = some u2 :=
  have lt : ∀ {c : Addr} {v : Value}, W.cell? c = some v → c.block < W.heap.size := fun h => World.block_lt_of_cell? W _ h
  ⟨hb, (hb.cell (lt h0)).trans h0, (hb.cell (lt h1)).trans h1, (hb.cell (lt h2)).trans h2, (hb.cell (lt k1)).trans k1, (hb.cell (lt k2)).trans k2⟩

/-- What is held of a world while a work is looked at. -/
abbrev HeldN (W : World) (a b : Nat) (v0 v1 v2 u1 u2 : Value) (w' : World) : Prop := Below W.heap.size W w' ∧ w'.cell? ⟨a, 0, none⟩ = some v0 ∧ w'.cell? ⟨a, 1, none⟩ = some v1 ∧ w'.cell? ⟨a, 2, none⟩ = some v2 ∧ w'.cell? ⟨b, 1, none⟩ = some u1 ∧ w'.cell? ⟨b, 2, none⟩ = some u2

theorem at_held {W wc : World} {a b : Nat} {v0 v1 v2 u1 u2 : Value} (hq : HeldN W a b v0 v1 v2 u1 u2 wc) (n g m : Int) :
    Calls Tryd.prog 78 #[.agg #[.int .i64 n, .int .i64 g, .int .i64 m]] wc fun e w' => e = .returned (.agg #[.int .i64 n, .int .i64 m]) ∧ Below W.heap.size W w' :=
  (at_any n g m wc).mono fun _ _ ⟨h, hb⟩ => ⟨h, hq.1.trans (hb.mono hq.1.size)⟩

theorem can_held {W wc : World} {a b : Nat} {v0 v1 v2 u1 u2 : Value} (hq : HeldN W a b v0 v1 v2 u1 u2 wc) {B : Book} {pm pg : Option Addr} {cm cg bb bm : Nat} {iv : Int} {i : Nat} {m n : Int} {v : Bool} (h : canB B i m n = v)
    (hP : PB B pm pg cm cg bb bm W) (hm : Sl W pm 3 B.nm B.mile) (hg : Sl W pg 4 B.ng B.gang) (hok : bookB B = true) (hiv : iv = i) (hi : i < B.ng) (hn0 : 0 ≤ n) (hn1 : n ≤ 63) :
    Calls Tryd.prog 39 #[.pointer (some ⟨bb, 0, none⟩), .int .i64 iv, .agg #[.int .i64 n, .int .i64 m]] wc fun e w' => e = .returned (.bool v) ∧ Below W.heap.size W w' :=
  (can_is h (hP.below hq.1) (hm.below hq.1) (hg.below hq.1) hok hiv hi hn0 hn1).mono fun _ _ ⟨h, hb⟩ => ⟨h, hq.1.trans (hb.mono hq.1.size)⟩

abbrev HeldM (W : World) (a b : Nat) (x y : Nat → Int) (w' : World) : Prop := Below W.heap.size W w' ∧ w'.cell? ⟨a, 0, none⟩ = some (.int .i64 (x 0)) ∧ w'.cell? ⟨a, 1, none⟩ = some (.int .i64 (x 1)) ∧ w'.cell? ⟨a, 2, none⟩ = some (.int .i64 (x 2)) ∧
  w'.cell? ⟨b, 0, none⟩ = some (.int .i64 (y 0)) ∧ w'.cell? ⟨b, 1, none⟩ = some (.int .i64 (y 1)) ∧ w'.cell? ⟨b, 2, none⟩ = some (.int .i64 (y 2))

theorem keepM {W w' : World} {a b : Nat} {x y : Nat → Int} (h : HeldM W a b x y W) (hb : Below W.heap.size W w') : HeldM W a b x y w' :=
  have lt : ∀ {c : Addr} {v : Value}, W.cell? c = some v → c.block < W.heap.size := fun h => World.block_lt_of_cell? W _ h
  ⟨hb, (hb.cell (lt h.2.1)).trans h.2.1, (hb.cell (lt h.2.2.1)).trans h.2.2.1, (hb.cell (lt h.2.2.2.1)).trans h.2.2.2.1, (hb.cell (lt h.2.2.2.2.1)).trans h.2.2.2.2.1, (hb.cell (lt h.2.2.2.2.2.1)).trans h.2.2.2.2.2.1, (hb.cell (lt h.2.2.2.2.2.2)).trans h.2.2.2.2.2.2⟩

theorem at_heldM {W wc : World} {a b : Nat} {x y : Nat → Int} (hq : HeldM W a b x y wc) (n g m : Int) :
    Calls Tryd.prog 78 #[.agg #[.int .i64 n, .int .i64 g, .int .i64 m]] wc fun e w' => e = .returned (.agg #[.int .i64 n, .int .i64 m]) ∧ Below W.heap.size W w' :=
  (at_any n g m wc).mono fun _ _ ⟨h, hb⟩ => ⟨h, hq.1.trans (hb.mono hq.1.size)⟩

theorem behind_heldM {W wc : World} {a b : Nat} {x y : Nat → Int} {v : Bool} (hq : HeldM W a b x y wc) (h : behB x y = v) :
    Calls Tryd.prog 92 #[.agg #[.int .i64 (x 0), .int .i64 (x 1), .int .i64 (x 2)], .agg #[.int .i64 (y 0), .int .i64 (y 1), .int .i64 (y 2)]] wc fun e w' => e = .returned (.bool v) ∧ Below W.heap.size W w' :=
  h ▸ (isBehind_any x y wc).mono fun _ _ ⟨h, hb⟩ => ⟨h, hq.1.trans (hb.mono hq.1.size)⟩

theorem behind_is {x y : Nat → Int} {v : Bool} (h : behB x y = v) (w : World) :
    Calls Tryd.prog 92 #[.agg #[.int .i64 (x 0), .int .i64 (x 1), .int .i64 (x 2)], .agg #[.int .i64 (y 0), .int .i64 (y 1), .int .i64 (y 2)]] w fun e w' => e = .returned (.bool v) ∧ Below w.heap.size w w' := h ▸ isBehind_any x y w

theorem near_heldM {W wc : World} {a b : Nat} {x y : Nat → Int} {v : Bool} (hq : HeldM W a b x y wc) {n m n2 m2 : Int} (h : nearB n m n2 m2 = v) (h0 : 0 ≤ m) (h3 : m ≤ 1000) (hN : NB W) :
    Calls Tryd.prog 93 #[.agg #[.int .i64 n, .int .i64 m], .agg #[.int .i64 n2, .int .i64 m2]] wc fun e w' => e = .returned (.bool v) ∧ Below W.heap.size W w' :=
  h ▸ (isNear_any n m n2 m2 h0 h3 wc (hN.below hq.1)).mono fun _ _ ⟨h, hb⟩ => ⟨h, hq.1.trans (hb.mono hq.1.size)⟩

/-- Can a work be done behind the first n ones of a plan? -/
def nextB (B : Book) (x : Nat → Int) (n : Nat) (g : Nat → Nat → Int) : Bool :=
  inB (x 0) 0 (B.nights - 1) && (inB (x 1) 0 (B.ng - 1) && (canB B (x 1).toNat (x 2) (x 0) && decide (∀ j, j < n → behB x (g j) = true ∧ nearB (x 0) (x 2) (g j 0) (g j 2) = false)))

set_option maxRecDepth 100000 in
set_option maxHeartbeats 4000000 in
theorem isNext_any (B : Book) (pm pg pp : Option Addr) (cm cg cp bb bm : Nat) (w : World) (hP : PB B pm pg cm cg bb bm w) (hm : Sl w pm 3 B.nm B.mile) (hg : Sl w pg 4 B.ng B.gang) (hok : bookB B = true) (hN : NB w)
    (x : Nat → Int) (n : Nat) (g : Nat → Nat → Int) (hp : Sl w pp 3 n g) (hn : n ≤ 9223372036854775807) :
    Calls Tryd.prog 74 #[.pointer (some ⟨bb, 0, none⟩), .agg #[.int .i64 (x 0), .int .i64 (x 1), .int .i64 (x 2)], .slice pp n cp] w fun e w' => e = .returned (.bool (nextB B x n g)) ∧ Below w.heap.size w w' := by
  have hbd := bookB_bd hok
  have hW : Below w.heap.size w (w.alloc (.cells #[.int .i64 (x 0), .int .i64 (x 1), .int .i64 (x 2)] 54)) := (Below.refl _ _).alloc (Nat.le_refl _) _
  obtain ⟨hbb, hcells⟩ := hP.below hW
  have hP2 := hP.below hW
  have k1 := hcells 1
  have k2 := hcells 2
  simp only [List.getElem?_toArray, List.getElem?_cons_zero, List.getElem?_cons_succ] at k1 k2
  clear hcells
  cases hA : inB (x 0) 0 (B.nights - 1)
  · go_enter Tryd.func74, Tryd.ntmps74
    go_wp2_with fail
    go_quiet ((go_at_call_of 35 (Value.int .i64 (x 0)); exact Calls.quiet_of_same (isNumber_is hA _ (by omega) (by omega))))
    go_wp2
    go_ret
    exact ⟨ret_bool (by simp [nextB, hA]), belowDrewN hW _⟩
  cases hG : inB (x 1) 0 (B.ng - 1)
  · go_enter Tryd.func74, Tryd.ntmps74
    go_wp2_with fail
    go_quiet ((first | (go_at_call_of 35 (Value.int .i64 (x 0)); exact Calls.quiet_of_same (isNumber_is hA _ (by omega) (by omega))) | (go_at_call_of 35 (Value.int .i64 (x 1)); exact Calls.quiet_of_same (isNumber_is hG _ (by omega) (by omega)))))
    go_wp2
    go_ret
    exact ⟨ret_bool (by simp [nextB, hA, hG]), belowDrewN hW _⟩
  have x0 : ((w.alloc (.cells #[.int .i64 (x 0), .int .i64 (x 1), .int .i64 (x 2)] 54))).cell? ⟨w.heap.size, 0, none⟩ = some (.int .i64 (x 0)) := new2 _ _ _ _ rfl 0
  have x1 : ((w.alloc (.cells #[.int .i64 (x 0), .int .i64 (x 1), .int .i64 (x 2)] 54))).cell? ⟨w.heap.size, 1, none⟩ = some (.int .i64 (x 1)) := new2 _ _ _ _ rfl 1
  have x2 : ((w.alloc (.cells #[.int .i64 (x 0), .int .i64 (x 1), .int .i64 (x 2)] 54))).cell? ⟨w.heap.size, 2, none⟩ = some (.int .i64 (x 2)) := new2 _ _ _ _ rfl 2
  have hA2 := hA
  have hG2 := hG
  simp only [inB, Bool.and_eq_true, decide_eq_true_eq] at hA2 hG2
  have hg1 := Lib.hid (show x 1 = ((x 1).toNat : Nat) by omega)
  cases hC : canB B (x 1).toNat (x 2) (x 0)
  · go_enter Tryd.func74, Tryd.ntmps74
    go_wp2_with fail
    go_region_held3 (fun w' => Below ((w.alloc (.cells #[.int .i64 (x 0), .int .i64 (x 1), .int .i64 (x 2)] 54))).heap.size (w.alloc (.cells #[.int .i64 (x 0), .int .i64 (x 1), .int .i64 (x 2)] 54)) w' ∧ w'.cell? ⟨w.heap.size, 0, none⟩ = some (.int .i64 (x 0)) ∧ w'.cell? ⟨w.heap.size, 1, none⟩ = some (.int .i64 (x 1)) ∧ w'.cell? ⟨w.heap.size, 2, none⟩ = some (.int .i64 (x 2)) ∧ w'.cell? ⟨bb, 1, none⟩ = some (.slice pg B.ng cg) ∧ w'.cell? ⟨bb, 2, none⟩ = some (.int .i64 B.nights))
      (first | exact keepN (Below.drew (Below.refl _ _)) x0 x1 x2 k1 k2 | exact keepN hB4 x0 x1 x2 k1 k2 | exact keepN hB3 x0 x1 x2 k1 k2)
      (first
        | (go_at_call_of 35 (Value.int .i64 (x 0)); refine (isNumber_is hA _ (by omega) (by omega)).mono ?_; rintro e w2 ⟨rfl, rfl⟩)
        | (go_at_call_of 35 (Value.int .i64 (x 1)); refine (isNumber_is hG _ (by omega) (by omega)).mono ?_; rintro e w2 ⟨rfl, rfl⟩)
        | (go_at_call 78; refine (at_held (show HeldN (w.alloc (.cells #[.int .i64 (x 0), .int .i64 (x 1), .int .i64 (x 2)] 54)) w.heap.size bb (.int .i64 (x 0)) (.int .i64 (x 1)) (.int .i64 (x 2)) (.slice pg B.ng cg) (.int .i64 B.nights) _ by assumption) _ _ _).mono ?_; rintro e w3 ⟨rfl, hB3⟩)
        | (go_at_call 39; refine (can_held (show HeldN (w.alloc (.cells #[.int .i64 (x 0), .int .i64 (x 1), .int .i64 (x 2)] 54)) w.heap.size bb (.int .i64 (x 0)) (.int .i64 (x 1)) (.int .i64 (x 2)) (.slice pg B.ng cg) (.int .i64 B.nights) _ by assumption) hC hP2 (hm.below hW) (hg.below hW) hok hg1.out (by omega) (by omega) (by omega)).mono ?_; rintro e w4 ⟨rfl, hB4⟩))
    all_goals
      (try go_wp2)
      (go_ret
       exact ⟨ret_bool (by simp [nextB, hA, hG, hC]), hW.trans ((by first | exact hB4 | assumption : Below _ _ _).mono (by simp))⟩)
  have hm2 : 0 ≤ x 2 ∧ x 2 ≤ 1000 := by
    have h1 := bookB_gang hok (i := (x 1).toNat) (by omega)
    simp only [canB, inB, Bool.and_eq_true, decide_eq_true_eq] at hC
    omega
  go_enter Tryd.func74, Tryd.ntmps74
  go_wp2_with fail
  go_region_held3 (fun w' => Below ((w.alloc (.cells #[.int .i64 (x 0), .int .i64 (x 1), .int .i64 (x 2)] 54))).heap.size (w.alloc (.cells #[.int .i64 (x 0), .int .i64 (x 1), .int .i64 (x 2)] 54)) w' ∧ w'.cell? ⟨w.heap.size, 0, none⟩ = some (.int .i64 (x 0)) ∧ w'.cell? ⟨w.heap.size, 1, none⟩ = some (.int .i64 (x 1)) ∧ w'.cell? ⟨w.heap.size, 2, none⟩ = some (.int .i64 (x 2)) ∧ w'.cell? ⟨bb, 1, none⟩ = some (.slice pg B.ng cg) ∧ w'.cell? ⟨bb, 2, none⟩ = some (.int .i64 B.nights))
    (first | exact keepN (Below.drew (Below.refl _ _)) x0 x1 x2 k1 k2 | exact keepN hB4 x0 x1 x2 k1 k2 | exact keepN hB3 x0 x1 x2 k1 k2)
    (first
      | (go_at_call_of 35 (Value.int .i64 (x 0)); refine (isNumber_is hA _ (by omega) (by omega)).mono ?_; rintro e w2 ⟨rfl, rfl⟩)
      | (go_at_call_of 35 (Value.int .i64 (x 1)); refine (isNumber_is hG _ (by omega) (by omega)).mono ?_; rintro e w2 ⟨rfl, rfl⟩)
      | (go_at_call 78; refine (at_held (show HeldN (w.alloc (.cells #[.int .i64 (x 0), .int .i64 (x 1), .int .i64 (x 2)] 54)) w.heap.size bb (.int .i64 (x 0)) (.int .i64 (x 1)) (.int .i64 (x 2)) (.slice pg B.ng cg) (.int .i64 B.nights) _ by assumption) _ _ _).mono ?_; rintro e w3 ⟨rfl, hB3⟩)
      | (go_at_call 39; refine (can_held (show HeldN (w.alloc (.cells #[.int .i64 (x 0), .int .i64 (x 1), .int .i64 (x 2)] 54)) w.heap.size bb (.int .i64 (x 0)) (.int .i64 (x 1)) (.int .i64 (x 2)) (.slice pg B.ng cg) (.int .i64 B.nights) _ by assumption) hC hP2 (hm.below hW) (hg.below hW) hok hg1.out (by omega) (by omega) (by omega)).mono ?_; rintro e w4 ⟨rfl, hB4⟩))
  clear k1 k2 hP2
  go_wp2_with fail
  go_loopw [41] (fun i wr => ∃ k : Nat, k ≤ n ∧ i = .int .i64 k ∧ (∀ j, j < k → behB x (g j) = true ∧ nearB (x 0) (x 2) (g j 0) (g j 2) = false) ∧ Below ((w.alloc (.cells #[.int .i64 (x 0), .int .i64 (x 1), .int .i64 (x 2)] 54))).heap.size (w.alloc (.cells #[.int .i64 (x 0), .int .i64 (x 1), .int .i64 (x 2)] 54)) wr) (fun i _ => n - (intOf i).toNat)
  case atStart => exact ⟨0, Nat.zero_le _, rfl, by omega, hB4⟩
  case round =>
    rename_i wr
    clear hB3 hB4
    obtain ⟨k, hk, rfl, hall, hB⟩ := hrel
    have Hall := Lib.hid hall
    clear hall
    have hWr : Below w.heap.size w wr := hW.trans (hB.mono (by simp))
    have hsz := hB.size
    rw [World.size_alloc] at hsz
    by_cases hlt : k < n
    · obtain ⟨b, off, rfl, hb, hc⟩ := hp.row3 hlt
      obtain ⟨hd0, hd1, hd2⟩ := hc hWr
      clear hc
      have y0 := (hB.cell (p := ⟨w.heap.size, 0, none⟩) (by simp)).trans x0
      have y1 := (hB.cell (p := ⟨w.heap.size, 1, none⟩) (by simp)).trans x1
      have y2 := (hB.cell (p := ⟨w.heap.size, 2, none⟩) (by simp)).trans x2
      have hS : HeldM (wr.alloc (.cells #[.int .i64 (g k 0), .int .i64 (g k 1), .int .i64 (g k 2)] 54)) w.heap.size wr.heap.size x (g k) (wr.alloc (.cells #[.int .i64 (g k 0), .int .i64 (g k 1), .int .i64 (g k 2)] 54)) := ⟨Below.refl _ _, by rw [World.cell?_alloc_past _ _ _ (by show w.heap.size < wr.heap.size; omega)]; exact y0, by rw [World.cell?_alloc_past _ _ _ (by show w.heap.size < wr.heap.size; omega)]; exact y1, by rw [World.cell?_alloc_past _ _ _ (by show w.heap.size < wr.heap.size; omega)]; exact y2, new2 _ _ _ _ rfl 0, new2 _ _ _ _ rfl 1, new2 _ _ _ _ rfl 2⟩
      have hBR : Below w.heap.size w (wr.alloc (.cells #[.int .i64 (g k 0), .int .i64 (g k 1), .int .i64 (g k 2)] 54)) := hWr.alloc (by omega) _
      have hBQ : Below ((w.alloc (.cells #[.int .i64 (x 0), .int .i64 (x 1), .int .i64 (x 2)] 54))).heap.size (w.alloc (.cells #[.int .i64 (x 0), .int .i64 (x 1), .int .i64 (x 2)] 54)) (wr.alloc (.cells #[.int .i64 (g k 0), .int .i64 (g k 1), .int .i64 (g k 2)] 54)) := hB.alloc (by simp; omega) _
      have hNR := hN.below hBR
      have hSh := Lib.hid hS
      clear x0 x1 x2 hS
      cases hbh : behB x (g k)
      · go_wp2_with fail
        obtain ⟨z0, z1, z2, z3, z4, z5, z6⟩ := hSh.out
        go_region_with ((go_at_call 92; refine (behind_is hbh _).mono ?_; rintro e w5 ⟨rfl, hB5⟩))
        all_goals
          (try go_wp2_with fail)
          go_ret
          exact ⟨ret_bool (by simp only [nextB, hA, hG, hC, Bool.true_and]; symm; simp only [decide_eq_false_iff_not]; intro hh; have := (hh k hlt).1; rw [hbh] at this; cases this), (Below.drew hBR).trans (hB5.mono (by simp; omega))⟩
      cases hnr : nearB (x 0) (x 2) (g k 0) (g k 2)
      all_goals
        go_wp2_with fail
        go_region_held3 (fun w' => Below ((wr.alloc (.cells #[.int .i64 (g k 0), .int .i64 (g k 1), .int .i64 (g k 2)] 54))).heap.size (wr.alloc (.cells #[.int .i64 (g k 0), .int .i64 (g k 1), .int .i64 (g k 2)] 54)) w' ∧ w'.cell? ⟨w.heap.size, 0, none⟩ = some (.int .i64 (x 0)) ∧ w'.cell? ⟨w.heap.size, 1, none⟩ = some (.int .i64 (x 1)) ∧ w'.cell? ⟨w.heap.size, 2, none⟩ = some (.int .i64 (x 2)) ∧ w'.cell? ⟨wr.heap.size, 0, none⟩ = some (.int .i64 (g k 0)) ∧ w'.cell? ⟨wr.heap.size, 1, none⟩ = some (.int .i64 (g k 1)) ∧ w'.cell? ⟨wr.heap.size, 2, none⟩ = some (.int .i64 (g k 2))) (first | exact keepM hSh.out (Below.drew (Below.refl _ _)) | exact keepM hSh.out hB7 | exact keepM hSh.out hB6 | exact keepM hSh.out hB5)
          (first
            | (go_at_call 92; refine (behind_heldM (show HeldM (wr.alloc (.cells #[.int .i64 (g k 0), .int .i64 (g k 1), .int .i64 (g k 2)] 54)) w.heap.size wr.heap.size x (g k) _ by assumption) hbh).mono ?_; rintro e w5 ⟨rfl, hB5⟩)
            | (go_at_call 78; refine (at_heldM (show HeldM (wr.alloc (.cells #[.int .i64 (g k 0), .int .i64 (g k 1), .int .i64 (g k 2)] 54)) w.heap.size wr.heap.size x (g k) _ by assumption) _ _ _).mono ?_; rintro e w6 ⟨rfl, hB6⟩)
            | (go_at_call 93; refine (near_heldM (show HeldM (wr.alloc (.cells #[.int .i64 (g k 0), .int .i64 (g k 1), .int .i64 (g k 2)] 54)) w.heap.size wr.heap.size x (g k) _ by assumption) hnr hm2.1 hm2.2 hNR).mono ?_; rintro e w7 ⟨rfl, hB7⟩))
        go_wp2_with fail
      · go_roundw
        case rel => exact ⟨k + 1, by omega, by go_num, fun j hj => by rcases Nat.lt_succ_iff_lt_or_eq.1 hj with h | rfl; exact Hall.out j h; exact ⟨hbh, hnr⟩, hBQ.trans (hB7.mono (by simp; omega))⟩
        case measure => simp [intOf]; omega
      · go_ret
        exact ⟨ret_bool (by simp only [nextB, hA, hG, hC, Bool.true_and]; symm; simp only [decide_eq_false_iff_not]; intro hh; have := (hh k hlt).2; rw [hnr] at this; cases this), hBR.trans (hB7.mono (by simp; omega))⟩
    · obtain rfl : k = n := by omega
      go_wp2_with fail
      go_ret
      exact ⟨ret_bool (by simp only [nextB, hA, hG, hC, Bool.true_and]; symm; simp only [decide_eq_true_eq]; exact Hall.out), hWr⟩
end Go.Proofs.YtdcgmacknccklaaDoor
