/- Closed of package gang. -/
import Derived.Test.YtdcgmacknccklaaDoorGn
namespace Go.Proofs.YtdcgmacknccklaaDoor
open Go Go.RowKit

theorem isNumber_any2 (n c : Int) (w : World) : Calls Tryd.prog 35 #[.int .i64 n, .int .i64 c] w fun e w' => e = .returned (.bool (inB n 0 (wrap64 (c - 1)))) ∧ w' = w := by
  go_enter Tryd.func35, Tryd.ntmps35
  go_wp2_with (go_at_call 71; refine (isWithin_any _ _ _ _).mono ?_; rintro e w2 ⟨rfl, rfl⟩)
  go_ret
  exact ⟨rfl, rfl⟩

abbrev HeldT (W : World) (a b : Nat) (v0 v1 v2 u : Value) (w' : World) : Prop := Below W.heap.size W w' ∧ w'.cell? ⟨a, 0, none⟩ = some v0 ∧ w'.cell? ⟨a, 1, none⟩ = some v1 ∧ w'.cell? ⟨a, 2, none⟩ = some v2 ∧ w'.cell? ⟨b, 0, none⟩ = some u

theorem keepT {W w' : World} {a b : Nat} {v0 v1 v2 u : Value} (h : HeldT W a b v0 v1 v2 u W) (hb : Below W.heap.size W w') : HeldT W a b v0 v1 v2 u w' :=
  have lt : ∀ {c : Addr} {v : Value}, W.cell? c = some v → c.block < W.heap.size := fun h => World.block_lt_of_cell? W _ h
  ⟨hb, (hb.cell (lt h.2.1)).trans h.2.1, (hb.cell (lt h.2.2.1)).trans h.2.2.1, (hb.cell (lt h.2.2.2.1)).trans h.2.2.2.1, (hb.cell (lt h.2.2.2.2)).trans h.2.2.2.2⟩

/-- A list of numbers, and no error. -/
def ListIs (f : Nat → Bool) (c : Nat) (w : World) (e : Ending) (w' : World) : Prop :=
  ∃ p, e = .returned (.tuple #[.slice p (K f c).length (K f c).length, .int .i64 0]) ∧ Sl w' p 1 (K f c).length (fun i _ => (K f c).getD i 0) ∧ Below w.heap.size w w'

theorem new_three (W : World) (o : Obj) (x : Nat) (hx : x = W.heap.size) : (W.alloc o).heap[x]? = some o := by subst hx; exact heap_alloc_new W o

set_option maxRecDepth 100000 in
theorem closedCl_any (v0 : Value) (A : Option Addr) (n cp2 : Nat) (d : Nat → Int) (g : Nat → Nat → Int) (night : Int) (t8 b2 : Nat) (k : Nat) (w : World) (h : ∀ j, w.cell? ⟨t8, j, none⟩ = #[v0, .slice A n cp2, .int .i64 (d 0), .int .i64 (d 1), .int .i64 (d 2), .int .i64 (d 3)][j]?)
    (hn : w.cell? ⟨b2, 0, none⟩ = some (.int .i64 night)) (hs : Sl w A 3 n g) (hl : n ≤ 9223372036854775807) :
    Calls Tryd.prog 48 #[.int .i64 k, .pointer (some ⟨t8, 0, none⟩), .pointer (some ⟨b2, 0, none⟩)] w fun e w' => e = .returned (.bool (closeB n g night k)) ∧ Below w.heap.size w w' := by
  go_enter Tryd.func48, Tryd.ntmps48
  go_wp2_with (go_at_call 49; refine (closes_any A n cp2 g v0 d night k _ hs hl).mono ?_; rintro e w2 ⟨rfl, hB2⟩)
  go_ret
  exact ⟨rfl, hB2⟩

theorem closedNumbers {v0 : Value} {A : Option Addr} {n cp2 : Nat} {d : Nat → Int} {g : Nat → Nat → Int} {night : Int} {t8 b2 : Nat} {w : World} (h : ∀ j, w.cell? ⟨t8, j, none⟩ = #[v0, .slice A n cp2, .int .i64 (d 0), .int .i64 (d 1), .int .i64 (d 2), .int .i64 (d 3)][j]?)
    (hn : w.cell? ⟨b2, 0, none⟩ = some (.int .i64 night)) (hs : Sl w A 3 n g) (hl : n ≤ 9223372036854775807) {c : Nat} {cv : Int} (hcv : cv = c) (hc : c ≤ 1000) :
    Calls Tryd.prog 37 #[.int .i64 cv, .func (.func 48) #[] #[.pointer (some ⟨t8, 0, none⟩), .pointer (some ⟨b2, 0, none⟩)]] w fun e w' => ∃ p, e = .returned (.slice p (K (fun k : Nat => closeB n g night k) c).length (K (fun k : Nat => closeB n g night k) c).length) ∧ Sl w' p 1 (K (fun k : Nat => closeB n g night k) c).length (fun i _ => (K (fun k : Nat => closeB n g night k) c).getD i 0) ∧ Below w.heap.size w w' :=
  have lt8 := World.block_lt_of_cell? w _ (h 0)
  have lt2 := World.block_lt_of_cell? w _ hn
  numbers2_any cv c hcv hc _ _ _ w (fun k _ w' hb => closedCl_any v0 A n cp2 d g night t8 b2 k w' (fun j => (hb.cell (p := ⟨t8, j, none⟩) lt8).trans (h j)) ((hb.cell (p := ⟨b2, 0, none⟩) lt2).trans hn) (hs.below hb) hl)

section
variable (B : Book) (pm pg pp : Option Addr) (cm cg cp n : Nat) (w : World)

set_option maxRecDepth 100000 in
set_option maxHeartbeats 1000000 in
theorem Closed_no_book (hm : Sl w pm 3 B.nm B.mile) (hg : Sl w pg 4 B.ng B.gang) (hlm : B.nm ≤ 9223372036854775807) (hno : bookB B = false) (night : Int) :
    Calls Tryd.prog 14 #[.agg #[.slice pm B.nm cm, .slice pg B.ng cg, .int .i64 B.nights], .slice pp n cp, .int .i64 night] w fun e w' => e = .returned (.tuple #[.slice none 0 0, .int .i64 40]) ∧ Below w.heap.size w w' := by
  obtain ⟨v, hv⟩ := show ∃ v, ∀ w, Calls Tryd.prog 35 #[.int .i64 night, .int .i64 B.nights] w fun e w' => e = .returned (.bool v) ∧ w' = w from ⟨_, fun w => isNumber_any2 night B.nights w⟩
  have hW : Below w.heap.size w ((w.alloc (.cells #[.slice pm B.nm cm, .slice pg B.ng cg, .int .i64 B.nights] 25)).alloc (.cells #[.int .i64 night] 3)) := belowAlloc (belowAlloc (Below.refl _ _) _) _
  have hS : HeldT ((w.alloc (.cells #[.slice pm B.nm cm, .slice pg B.ng cg, .int .i64 B.nights] 25)).alloc (.cells #[.int .i64 night] 3)) w.heap.size (w.heap.size + 1) (.slice pm B.nm cm) (.slice pg B.ng cg) (.int .i64 B.nights) (.int .i64 night) ((w.alloc (.cells #[.slice pm B.nm cm, .slice pg B.ng cg, .int .i64 B.nights] 25)).alloc (.cells #[.int .i64 night] 3)) := ⟨Below.refl _ _, by simp, by simp, by simp, by simp⟩
  have hSh := Lib.hid hS
  clear hS
  go_enter Tryd.func14, Tryd.ntmps14
  go_wp2_with fail
  go_region_held3 (fun w' => Below (((w.alloc (.cells #[.slice pm B.nm cm, .slice pg B.ng cg, .int .i64 B.nights] 25)).alloc (.cells #[.int .i64 night] 3))).heap.size ((w.alloc (.cells #[.slice pm B.nm cm, .slice pg B.ng cg, .int .i64 B.nights] 25)).alloc (.cells #[.int .i64 night] 3)) w' ∧ w'.cell? ⟨w.heap.size, 0, none⟩ = some (.slice pm B.nm cm) ∧ w'.cell? ⟨w.heap.size, 1, none⟩ = some (.slice pg B.ng cg) ∧ w'.cell? ⟨w.heap.size, 2, none⟩ = some (.int .i64 B.nights) ∧ w'.cell? ⟨w.heap.size + 1, 0, none⟩ = some (.int .i64 night))
    (first | exact keepT hSh.out (by repeat (first | (with_reducible exact Below.refl _ _) | (with_reducible refine Below.drew ?_) | (with_reducible refine belowAlloc ?_ _) | (with_reducible assumption) | (with_reducible refine Below.setCell ?_ (by simp; try omega) _))))
    (first
      | (go_at_call 35; refine (hv _).mono ?_; rintro e w2 ⟨rfl, rfl⟩)
      | (go_at_call 47; ((with_reducible refine (read_no_book B pm pg pp cm cg cp n _ ?_ ?_ hlm hno _).mono ?_)); (exact hm.below (by repeat (first | (with_reducible exact hW) | (with_reducible refine Below.drew ?_) | (with_reducible refine belowAlloc ?_ _)))); (exact hg.below (by repeat (first | (with_reducible exact hW) | (with_reducible refine Below.drew ?_) | (with_reducible refine belowAlloc ?_ _)))); rintro e w5 ⟨rfl, hB5⟩; (have hK : Below (((w.alloc (.cells #[.slice pm B.nm cm, .slice pg B.ng cg, .int .i64 B.nights] 25)).alloc (.cells #[.int .i64 night] 3))).heap.size ((w.alloc (.cells #[.slice pm B.nm cm, .slice pg B.ng cg, .int .i64 B.nights] 25)).alloc (.cells #[.int .i64 night] 3)) w5 := by refine below_after ?_ hB5; repeat (first | (with_reducible exact Below.refl _ _) | (with_reducible refine Below.drew ?_) | (with_reducible refine belowAlloc ?_ _) | (with_reducible assumption) | (with_reducible refine Below.setCell ?_ (by simp; try omega) _))); obtain ⟨hc5, hz5⟩ := bcell hB5))
  all_goals
    go_wp2_with fail
    go_ret2
    exact ⟨rfl, below_after hW (by repeat (first | (with_reducible exact Below.refl _ _) | (with_reducible refine Below.drew ?_) | (with_reducible refine belowAlloc ?_ _) | (with_reducible assumption) | (with_reducible refine Below.setCell ?_ (by simp; try omega) _)))⟩
set_option maxRecDepth 100000 in
set_option maxHeartbeats 1000000 in
theorem Closed_no_ask (hm : Sl w pm 3 B.nm B.mile) (hg : Sl w pg 4 B.ng B.gang) (hok : bookB B = true) (night : Int) (hq : inB night 0 (B.nights - 1) = false) :
    Calls Tryd.prog 14 #[.agg #[.slice pm B.nm cm, .slice pg B.ng cg, .int .i64 B.nights], .slice pp n cp, .int .i64 night] w fun e w' => e = .returned (.tuple #[.slice none 0 0, .int .i64 41]) ∧ Below w.heap.size w w' := by
  have hbd := bookB_bd hok
  have hv := fun w => isNumber_is (w := w) hq (by omega) (by omega)
  have hW : Below w.heap.size w ((w.alloc (.cells #[.slice pm B.nm cm, .slice pg B.ng cg, .int .i64 B.nights] 25)).alloc (.cells #[.int .i64 night] 3)) := belowAlloc (belowAlloc (Below.refl _ _) _) _
  have hS : HeldT ((w.alloc (.cells #[.slice pm B.nm cm, .slice pg B.ng cg, .int .i64 B.nights] 25)).alloc (.cells #[.int .i64 night] 3)) w.heap.size (w.heap.size + 1) (.slice pm B.nm cm) (.slice pg B.ng cg) (.int .i64 B.nights) (.int .i64 night) ((w.alloc (.cells #[.slice pm B.nm cm, .slice pg B.ng cg, .int .i64 B.nights] 25)).alloc (.cells #[.int .i64 night] 3)) := ⟨Below.refl _ _, by simp, by simp, by simp, by simp⟩
  have hSh := Lib.hid hS
  clear hS
  go_enter Tryd.func14, Tryd.ntmps14
  go_wp2_with fail
  go_region_held3 (fun w' => Below (((w.alloc (.cells #[.slice pm B.nm cm, .slice pg B.ng cg, .int .i64 B.nights] 25)).alloc (.cells #[.int .i64 night] 3))).heap.size ((w.alloc (.cells #[.slice pm B.nm cm, .slice pg B.ng cg, .int .i64 B.nights] 25)).alloc (.cells #[.int .i64 night] 3)) w' ∧ w'.cell? ⟨w.heap.size, 0, none⟩ = some (.slice pm B.nm cm) ∧ w'.cell? ⟨w.heap.size, 1, none⟩ = some (.slice pg B.ng cg) ∧ w'.cell? ⟨w.heap.size, 2, none⟩ = some (.int .i64 B.nights) ∧ w'.cell? ⟨w.heap.size + 1, 0, none⟩ = some (.int .i64 night))
    (first | exact keepT hSh.out (by repeat (first | (with_reducible exact Below.refl _ _) | (with_reducible refine Below.drew ?_) | (with_reducible refine belowAlloc ?_ _) | (with_reducible assumption) | (with_reducible refine Below.setCell ?_ (by simp; try omega) _))))
    (first
      | (go_at_call 35; refine (hv _).mono ?_; rintro e w2 ⟨rfl, rfl⟩)
      | (go_at_call 47; ((with_reducible refine (read_no_ask B pm pg pp cm cg cp n _ ?_ ?_ hok).mono ?_)); (exact hm.below (by repeat (first | (with_reducible exact hW) | (with_reducible refine Below.drew ?_) | (with_reducible refine belowAlloc ?_ _)))); (exact hg.below (by repeat (first | (with_reducible exact hW) | (with_reducible refine Below.drew ?_) | (with_reducible refine belowAlloc ?_ _)))); rintro e w5 ⟨rfl, hB5⟩; (have hK : Below (((w.alloc (.cells #[.slice pm B.nm cm, .slice pg B.ng cg, .int .i64 B.nights] 25)).alloc (.cells #[.int .i64 night] 3))).heap.size ((w.alloc (.cells #[.slice pm B.nm cm, .slice pg B.ng cg, .int .i64 B.nights] 25)).alloc (.cells #[.int .i64 night] 3)) w5 := by refine below_after ?_ hB5; repeat (first | (with_reducible exact Below.refl _ _) | (with_reducible refine Below.drew ?_) | (with_reducible refine belowAlloc ?_ _) | (with_reducible assumption) | (with_reducible refine Below.setCell ?_ (by simp; try omega) _))); obtain ⟨hc5, hz5⟩ := bcell hB5))
  all_goals
    go_wp2_with fail
    go_ret2
    exact ⟨rfl, below_after hW (by repeat (first | (with_reducible exact Below.refl _ _) | (with_reducible refine Below.drew ?_) | (with_reducible refine belowAlloc ?_ _) | (with_reducible assumption) | (with_reducible refine Below.setCell ?_ (by simp; try omega) _)))⟩
set_option maxRecDepth 100000 in
set_option maxHeartbeats 1000000 in
theorem Closed_no_plan (hm : Sl w pm 3 B.nm B.mile) (hg : Sl w pg 4 B.ng B.gang) (hok : bookB B = true) (hN : NB w) (g : Nat → Nat → Int) (hp : Sl w pp 3 n g) (hn : n ≤ cp) (hc : cp ≤ 9223372036854775807) (hno : planB B n g = false) (night : Int) (hq : inB night 0 (B.nights - 1) = true) :
    Calls Tryd.prog 14 #[.agg #[.slice pm B.nm cm, .slice pg B.ng cg, .int .i64 B.nights], .slice pp n cp, .int .i64 night] w fun e w' => e = .returned (.tuple #[.slice none 0 0, .int .i64 41]) ∧ Below w.heap.size w w' := by
  have hbd := bookB_bd hok
  have hv := fun w => isNumber_is (w := w) hq (by omega) (by omega)
  have hW : Below w.heap.size w ((w.alloc (.cells #[.slice pm B.nm cm, .slice pg B.ng cg, .int .i64 B.nights] 25)).alloc (.cells #[.int .i64 night] 3)) := belowAlloc (belowAlloc (Below.refl _ _) _) _
  have hS : HeldT ((w.alloc (.cells #[.slice pm B.nm cm, .slice pg B.ng cg, .int .i64 B.nights] 25)).alloc (.cells #[.int .i64 night] 3)) w.heap.size (w.heap.size + 1) (.slice pm B.nm cm) (.slice pg B.ng cg) (.int .i64 B.nights) (.int .i64 night) ((w.alloc (.cells #[.slice pm B.nm cm, .slice pg B.ng cg, .int .i64 B.nights] 25)).alloc (.cells #[.int .i64 night] 3)) := ⟨Below.refl _ _, by simp, by simp, by simp, by simp⟩
  have hSh := Lib.hid hS
  clear hS
  go_enter Tryd.func14, Tryd.ntmps14
  go_wp2_with fail
  go_region_held3 (fun w' => Below (((w.alloc (.cells #[.slice pm B.nm cm, .slice pg B.ng cg, .int .i64 B.nights] 25)).alloc (.cells #[.int .i64 night] 3))).heap.size ((w.alloc (.cells #[.slice pm B.nm cm, .slice pg B.ng cg, .int .i64 B.nights] 25)).alloc (.cells #[.int .i64 night] 3)) w' ∧ w'.cell? ⟨w.heap.size, 0, none⟩ = some (.slice pm B.nm cm) ∧ w'.cell? ⟨w.heap.size, 1, none⟩ = some (.slice pg B.ng cg) ∧ w'.cell? ⟨w.heap.size, 2, none⟩ = some (.int .i64 B.nights) ∧ w'.cell? ⟨w.heap.size + 1, 0, none⟩ = some (.int .i64 night))
    (first | exact keepT hSh.out (by repeat (first | (with_reducible exact Below.refl _ _) | (with_reducible refine Below.drew ?_) | (with_reducible refine belowAlloc ?_ _) | (with_reducible assumption) | (with_reducible refine Below.setCell ?_ (by simp; try omega) _))))
    (first
      | (go_at_call 35; refine (hv _).mono ?_; rintro e w2 ⟨rfl, rfl⟩)
      | (go_at_call 47; ((with_reducible refine (read_no_plan B pm pg pp cm cg cp n _ ?_ ?_ hok ?_ g ?_ hn hc hno).mono ?_)); (exact hm.below (by repeat (first | (with_reducible exact hW) | (with_reducible refine Below.drew ?_) | (with_reducible refine belowAlloc ?_ _)))); (exact hg.below (by repeat (first | (with_reducible exact hW) | (with_reducible refine Below.drew ?_) | (with_reducible refine belowAlloc ?_ _)))); (exact hN.below (by repeat (first | (with_reducible exact hW) | (with_reducible refine Below.drew ?_) | (with_reducible refine belowAlloc ?_ _)))); (exact hp.below (by repeat (first | (with_reducible exact hW) | (with_reducible refine Below.drew ?_) | (with_reducible refine belowAlloc ?_ _)))); rintro e w5 ⟨rfl, hB5⟩; (have hK : Below (((w.alloc (.cells #[.slice pm B.nm cm, .slice pg B.ng cg, .int .i64 B.nights] 25)).alloc (.cells #[.int .i64 night] 3))).heap.size ((w.alloc (.cells #[.slice pm B.nm cm, .slice pg B.ng cg, .int .i64 B.nights] 25)).alloc (.cells #[.int .i64 night] 3)) w5 := by refine below_after ?_ hB5; repeat (first | (with_reducible exact Below.refl _ _) | (with_reducible refine Below.drew ?_) | (with_reducible refine belowAlloc ?_ _) | (with_reducible assumption) | (with_reducible refine Below.setCell ?_ (by simp; try omega) _))); obtain ⟨hc5, hz5⟩ := bcell hB5))
  all_goals
    go_wp2_with fail
    go_ret2
    exact ⟨rfl, below_after hW (by repeat (first | (with_reducible exact Below.refl _ _) | (with_reducible refine Below.drew ?_) | (with_reducible refine belowAlloc ?_ _) | (with_reducible assumption) | (with_reducible refine Below.setCell ?_ (by simp; try omega) _)))⟩
set_option maxRecDepth 100000 in
set_option maxHeartbeats 1000000 in
theorem Closed_plan (hm : Sl w pm 3 B.nm B.mile) (hg : Sl w pg 4 B.ng B.gang) (hok : bookB B = true) (hN : NB w) (g : Nat → Nat → Int) (hp : Sl w pp 3 n g) (hn : n ≤ cp) (hc : cp ≤ 9223372036854775807) (hcp : pp = none → cp = 0) (his : planB B n g = true) (night : Int) (hq : inB night 0 (B.nights - 1) = true) :
    Calls Tryd.prog 14 #[.agg #[.slice pm B.nm cm, .slice pg B.ng cg, .int .i64 B.nights], .slice pp n cp, .int .i64 night] w (ListIs (fun k : Nat => closeB n g night k) B.nm w) := by
  have hbd := bookB_bd hok
  have hcp := Lib.hid hcp
  have hv := fun w => isNumber_is (w := w) hq (by omega) (by omega)
  have hW : Below w.heap.size w ((w.alloc (.cells #[.slice pm B.nm cm, .slice pg B.ng cg, .int .i64 B.nights] 25)).alloc (.cells #[.int .i64 night] 3)) := belowAlloc (belowAlloc (Below.refl _ _) _) _
  have hS : HeldT ((w.alloc (.cells #[.slice pm B.nm cm, .slice pg B.ng cg, .int .i64 B.nights] 25)).alloc (.cells #[.int .i64 night] 3)) w.heap.size (w.heap.size + 1) (.slice pm B.nm cm) (.slice pg B.ng cg) (.int .i64 B.nights) (.int .i64 night) ((w.alloc (.cells #[.slice pm B.nm cm, .slice pg B.ng cg, .int .i64 B.nights] 25)).alloc (.cells #[.int .i64 night] 3)) := ⟨Below.refl _ _, by simp, by simp, by simp, by simp⟩
  have hSh := Lib.hid hS
  clear hS
  go_enter Tryd.func14, Tryd.ntmps14
  go_wp2_with fail
  go_region_held3 (fun w' => Below (((w.alloc (.cells #[.slice pm B.nm cm, .slice pg B.ng cg, .int .i64 B.nights] 25)).alloc (.cells #[.int .i64 night] 3))).heap.size ((w.alloc (.cells #[.slice pm B.nm cm, .slice pg B.ng cg, .int .i64 B.nights] 25)).alloc (.cells #[.int .i64 night] 3)) w' ∧ w'.cell? ⟨w.heap.size, 0, none⟩ = some (.slice pm B.nm cm) ∧ w'.cell? ⟨w.heap.size, 1, none⟩ = some (.slice pg B.ng cg) ∧ w'.cell? ⟨w.heap.size, 2, none⟩ = some (.int .i64 B.nights) ∧ w'.cell? ⟨w.heap.size + 1, 0, none⟩ = some (.int .i64 night))
    (first | exact keepT hSh.out (by repeat (first | (with_reducible exact Below.refl _ _) | (with_reducible refine Below.drew ?_) | (with_reducible refine belowAlloc ?_ _) | (with_reducible assumption) | (with_reducible refine Below.setCell ?_ (by simp; try omega) _))))
    (first
      | (go_at_call 35; refine (hv _).mono ?_; rintro e w2 ⟨rfl, rfl⟩)
      | (go_at_call 47; ((with_reducible refine (read_plan B pm pg pp cm cg cp n _ ?_ ?_ hok ?_ g ?_ hn hc hcp.out his).mono ?_)); (exact hm.below (by repeat (first | (with_reducible exact hW) | (with_reducible refine Below.drew ?_) | (with_reducible refine belowAlloc ?_ _)))); (exact hg.below (by repeat (first | (with_reducible exact hW) | (with_reducible refine Below.drew ?_) | (with_reducible refine belowAlloc ?_ _)))); (exact hN.below (by repeat (first | (with_reducible exact hW) | (with_reducible refine Below.drew ?_) | (with_reducible refine belowAlloc ?_ _)))); (exact hp.below (by repeat (first | (with_reducible exact hW) | (with_reducible refine Below.drew ?_) | (with_reducible refine belowAlloc ?_ _)))); rintro e w5 ⟨bb, bm, A, cp2, rfl, p0, p1, p2, p3, p4, p5, p6, hB5⟩; clear p6; have p3 := Lib.hid p3; have p4 := Lib.hid p4; have p5 := Lib.hid p5; (have hK : Below (((w.alloc (.cells #[.slice pm B.nm cm, .slice pg B.ng cg, .int .i64 B.nights] 25)).alloc (.cells #[.int .i64 night] 3))).heap.size ((w.alloc (.cells #[.slice pm B.nm cm, .slice pg B.ng cg, .int .i64 B.nights] 25)).alloc (.cells #[.int .i64 night] 3)) w5 := by refine below_after ?_ hB5; repeat (first | (with_reducible exact Below.refl _ _) | (with_reducible refine Below.drew ?_) | (with_reducible refine belowAlloc ?_ _) | (with_reducible assumption) | (with_reducible refine Below.setCell ?_ (by simp; try omega) _))); obtain ⟨hc5, hz5⟩ := bcell hB5))
  all_goals
    go_wp2_with fail
  · have hF : Below (((w.alloc (.cells #[.slice pm B.nm cm, .slice pg B.ng cg, .int .i64 B.nights] 25)).alloc (.cells #[.int .i64 night] 3))).heap.size ((w.alloc (.cells #[.slice pm B.nm cm, .slice pg B.ng cg, .int .i64 B.nights] 25)).alloc (.cells #[.int .i64 night] 3)) (w5.alloc (.cells #[.pointer (some ⟨bb, 0, none⟩), .slice A n cp2, .int .i64 (doneF B 0 g 0 n), .int .i64 (doneF B 0 g 1 n), .int .i64 (doneF B 0 g 2 n), .int .i64 (doneF B 0 g 3 n)] 82)) := by repeat (first | (with_reducible exact Below.refl _ _) | (with_reducible refine Below.drew ?_) | (with_reducible refine belowAlloc ?_ _) | (with_reducible assumption) | (with_reducible refine Below.setCell ?_ (by simp; try omega) _))
    refine (closedNumbers (w := w5.alloc (.cells #[.pointer (some ⟨bb, 0, none⟩), .slice A n cp2, .int .i64 (doneF B 0 g 0 n), .int .i64 (doneF B 0 g 1 n), .int .i64 (doneF B 0 g 2 n), .int .i64 (doneF B 0 g 3 n)] 82)) (v0 := .pointer (some ⟨bb, 0, none⟩)) (t8 := w5.heap.size) (b2 := w.heap.size + 1) (d := fun m => doneF B 0 g m n) (fun j => new2 _ _ _ _ rfl j) ((hF.cell (p := ⟨w.heap.size + 1, 0, none⟩) (by simp)).trans (new2 _ _ _ _ (by simp) 0)) (p4.out.alloc _) (by omega) (hcv := rfl) (by omega)).mono ?_
    rintro e w6 ⟨q, rfl, hq, hB6⟩
    go_wp2_with fail
    go_ret2
    exact ⟨q, rfl, hq, below_after (below_after hW hF) hB6⟩
  all_goals
    have hz5 := hB5.size
    have hF : Below (((w.alloc (.cells #[.slice pm B.nm cm, .slice pg B.ng cg, .int .i64 B.nights] 25)).alloc (.cells #[.int .i64 night] 3))).heap.size ((w.alloc (.cells #[.slice pm B.nm cm, .slice pg B.ng cg, .int .i64 B.nights] 25)).alloc (.cells #[.int .i64 night] 3)) ((((((w5.setCell ⟨w.heap.size + 1 + 1, 0, none⟩ (.pointer (some ⟨bb, 0, none⟩))).setCell ⟨w.heap.size + 1 + 1, 1, none⟩ (.slice A n cp2)).setCell ⟨w.heap.size + 1 + 1, 2, none⟩ (.int .i64 (doneF B 0 g 0 n))).setCell ⟨w.heap.size + 1 + 1, 3, none⟩ (.int .i64 (doneF B 0 g 1 n))).setCell ⟨w.heap.size + 1 + 1, 4, none⟩ (.int .i64 (doneF B 0 g 2 n))).setCell ⟨w.heap.size + 1 + 1, 5, none⟩ (.int .i64 (doneF B 0 g 3 n))) := by repeat (first | (with_reducible exact Below.refl _ _) | (with_reducible refine Below.drew ?_) | (with_reducible refine belowAlloc ?_ _) | (with_reducible assumption) | (with_reducible refine Below.setCell ?_ (by simp; try omega) _))
    have kz : w5.heap[w.heap.size + 1 + 1]? = some (.cells #[.pointer none, .slice none 0 0, .int .i64 0, .int .i64 0, .int .i64 0, .int .i64 0] 82 (0, 0)) := (hB5.block (w.heap.size + 1 + 1) (by simp)).trans (new_three ((w.alloc (.cells #[.slice pm B.nm cm, .slice pg B.ng cg, .int .i64 B.nights] 25)).alloc (.cells #[.int .i64 night] 3)) _ _ (by simp))
    refine (closedNumbers (w := ((((((w5.setCell ⟨w.heap.size + 1 + 1, 0, none⟩ (.pointer (some ⟨bb, 0, none⟩))).setCell ⟨w.heap.size + 1 + 1, 1, none⟩ (.slice A n cp2)).setCell ⟨w.heap.size + 1 + 1, 2, none⟩ (.int .i64 (doneF B 0 g 0 n))).setCell ⟨w.heap.size + 1 + 1, 3, none⟩ (.int .i64 (doneF B 0 g 1 n))).setCell ⟨w.heap.size + 1 + 1, 4, none⟩ (.int .i64 (doneF B 0 g 2 n))).setCell ⟨w.heap.size + 1 + 1, 5, none⟩ (.int .i64 (doneF B 0 g 3 n)))) (v0 := .pointer (some ⟨bb, 0, none⟩)) (t8 := w.heap.size + 1 + 1) (b2 := w.heap.size + 1) (d := fun m => doneF B 0 g m n) (cell_of_heap (set_six rfl kz _ _ _ _ _ _)) ((hF.cell (p := ⟨w.heap.size + 1, 0, none⟩) (by simp)).trans (new2 _ _ _ _ (by simp) 0)) (sl_six p4.out (fun k hk => by have := p5.out k hk; simp at this; omega) _ _ _ _ _ _) (by omega) (hcv := rfl) (by omega)).mono ?_
    rintro e w6 ⟨q, rfl, hq, hB6⟩
    go_wp2_with fail
    go_ret2
    exact ⟨q, rfl, hq, below_after (below_after hW hF) hB6⟩

end
end Go.Proofs.YtdcgmacknccklaaDoor
