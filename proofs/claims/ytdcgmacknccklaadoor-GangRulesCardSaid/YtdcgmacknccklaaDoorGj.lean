/- done and plus of package gang: how much works do at each mile. -/
import Derived.Test.YtdcgmacknccklaaDoorGi
import Derived.RegionTactic
import Derived.ChangeAlike
namespace Go.Proofs.YtdcgmacknccklaaDoor
open Go Go.RowKit

theorem belowAlloc {a w : World} (h : Below a.heap.size a w) (o : Obj) : Below a.heap.size a (w.alloc o) := h.alloc h.size o

theorem setCell_heap_same {w : World} {x j : Nat} {a : Array Value} {T : TypeId} {r : Nat × Nat} {v : Value} (h : w.heap[x]? = some (.cells a T r)) : (w.setCell ⟨x, j, none⟩ v).heap[x]? = some (.cells (a.setIfInBounds j v) T r) := by
  simp [World.setCell, Array.getElem?_modify, h]
theorem setCell_heap_other {w : World} {x j b : Nat} {v : Value} (h : b ≠ x) : (w.setCell ⟨x, j, none⟩ v).heap[b]? = w.heap[b]? := by
  simp [World.setCell, Array.getElem?_modify, Ne.symm h]
theorem cell_of_heap {w : World} {x : Nat} {c : Array Value} {T : TypeId} {r : Nat × Nat} (h : w.heap[x]? = some (.cells c T r)) (j : Nat) : w.cell? ⟨x, j, none⟩ = c[j]? := by simp [World.cell?, h]
theorem frozen_of_heap {w : World} {x : Nat} {c : Array Value} {T : TypeId} (h : w.heap[x]? = some (.cells c T (0, 0))) (j : Nat) : w.frozen? ⟨x, j, none⟩ = false := by simp [World.frozen?, h]

/-- Four numbers as cells. -/
abbrev four (d : Nat → Int) : Array Value := #[.int .i64 (d 0), .int .i64 (d 1), .int .i64 (d 2), .int .i64 (d 3)]

theorem set_four {w : World} {x : Nat} {z : Nat → Int} {T : TypeId} {r : Nat × Nat} (h : w.heap[x]? = some (.cells (four z) T r)) (a b c d : Value) :
    ((((w.setCell ⟨x, 0, none⟩ a).setCell ⟨x, 1, none⟩ b).setCell ⟨x, 2, none⟩ c).setCell ⟨x, 3, none⟩ d).heap[x]? = some (.cells #[a, b, c, d] T r) := by
  rw [setCell_heap_same (setCell_heap_same (setCell_heap_same (setCell_heap_same h)))]
  rfl

theorem below_four {a w : World} {x : Nat} (h : Below a.heap.size a w) (hx : a.heap.size ≤ x) (v0 v1 v2 v3 : Value) :
    Below a.heap.size a ((((w.setCell ⟨x, 0, none⟩ v0).setCell ⟨x, 1, none⟩ v1).setCell ⟨x, 2, none⟩ v2).setCell ⟨x, 3, none⟩ v3) :=
  (((h.setCell hx _).setCell hx _).setCell hx _).setCell hx _

structure DInv (w wr : World) (d : Nat → Int) : Prop where
  below : Below w.heap.size w wr
  h0 : wr.heap[w.heap.size]? = some (.cells (four fun _ => 0) 80 (0, 0))
  h1 : wr.heap[w.heap.size + 1]? = some (.cells (four d) 80 (0, 0))

theorem DInv.congr {w wr : World} {d d' : Nat → Int} (h : DInv w wr d) (hd : ∀ j, j < 4 → d j = d' j) : DInv w wr d' :=
  ⟨h.below, h.h0, by rw [h.h1, four, four, hd 0 (by omega), hd 1 (by omega), hd 2 (by omega), hd 3 (by omega)]⟩

theorem DInv.bump {w wr w2 : World} {d : Nat → Int} (h : DInv w wr d) (h1 : Below wr.heap.size wr w2) (m : Nat) (hm : m < 4) (x : Int) :
    DInv w (w2.setCell ⟨w.heap.size + 1, m, none⟩ (.int .i64 x)) (fun j => if j = m then x else d j) := by
  have hlt : w.heap.size + 1 < wr.heap.size := (Array.getElem?_eq_some_iff.1 h.h1).1
  have hk : w2.heap[w.heap.size + 1]? = some (.cells (four d) 80 (0, 0)) := (h1.block _ hlt).trans h.h1
  have hb : Below w.heap.size w w2 := h.below.trans (h1.mono h.below.size)
  have hk0 : w2.heap[w.heap.size]? = some (.cells (four fun _ => 0) 80 (0, 0)) := (h1.block _ (by omega)).trans h.h0
  refine ⟨hb.setCell (by simp) _, by rw [setCell_heap_other (by omega)]; exact hk0, ?_⟩
  rw [setCell_heap_same hk]
  obtain rfl | rfl | rfl | rfl : m = 0 ∨ m = 1 ∨ m = 2 ∨ m = 3 := by omega
  all_goals rfl

/-- How much the first works of a list do at a mile. -/
def doneF (B : Book) (hi : Nat) (g : Nat → Nat → Int) (m : Int) : Nat → Int
  | 0 => 0
  | n + 1 => doneF B hi g m n + if g n 2 = m then st B hi (g n 1).toNat else 0

theorem st_bd {B : Book} (hok : bookB B = true) {hi i : Nat} (h2 : hi < 2) (h : i < B.ng) : 0 ≤ st B hi i ∧ st B hi i ≤ 3 := by
  simp only [bookB, gangsB, Bool.and_eq_true, decide_eq_true_eq] at hok
  have := hok.2.1.2.2 i h
  simp only [gangB, spanB, inB, Bool.and_eq_true, decide_eq_true_eq] at this
  unfold st
  obtain rfl | rfl : hi = 0 ∨ hi = 1 := by omega
  · simp; omega
  · simp; omega

/-- Works whose gangs and miles are those of a book. -/
def Fit (B : Book) (n : Nat) (g : Nat → Nat → Int) : Prop := ∀ i, i < n → (0 ≤ g i 1 ∧ g i 1 < B.ng) ∧ 0 ≤ g i 2 ∧ g i 2 < B.nm

theorem doneF_bd {B : Book} (hok : bookB B = true) {hi : Nat} (h2 : hi < 2) {n : Nat} {g : Nat → Nat → Int} (hf : Fit B n g) (m : Int) : ∀ k, k ≤ n → 0 ≤ doneF B hi g m k ∧ doneF B hi g m k ≤ 3 * k
  | 0, _ => by simp [doneF]
  | k + 1, hk => by
    have := doneF_bd hok h2 hf m k (by omega)
    have h3 := hf k (by omega)
    have := st_bd hok h2 (i := (g k 1).toNat) (by omega)
    simp only [doneF]
    split <;> omega

theorem strength_at {W wc : World} (h1 : Below W.heap.size W wc) {B : Book} {pm pg : Option Addr} {cm cg bb bm : Nat} (hP : PB B pm pg cm cg bb bm W) (hg : Sl W pg 4 B.ng B.gang) (i hi : Nat) (hin : i < B.ng) (h2 : hi < 2) :
    Calls Tryd.prog 86 #[.pointer (some ⟨bb, 0, none⟩), .int .i64 i, .int .i64 hi] wc fun e w' => e = .returned (.int .i64 (st B hi i)) ∧ Below W.heap.size W w' :=
  held h1 (strength_any B pm pg cm cg bb bm wc (hP.below h1) (hg.below h1) i hi i hi rfl rfl hin h2)

set_option maxRecDepth 100000 in
set_option maxHeartbeats 4000000 in
theorem done_any (B : Book) (pm pg pp : Option Addr) (cm cg cp bb bm : Nat) (w : World) (hP : PB B pm pg cm cg bb bm w) (hg : Sl w pg 4 B.ng B.gang) (hok : bookB B = true) (n : Nat) (g : Nat → Nat → Int) (hp : Sl w pp 3 n g) (hn : n ≤ 1000) (hf : Fit B n g) (hv : Int) (hi : Nat) (hh : hv = hi) (h2 : hi < 2) :
    Calls Tryd.prog 62 #[.pointer (some ⟨bb, 0, none⟩), .slice pp n cp, .int .i64 hv] w fun e w' => e = .returned (.agg (four fun m => doneF B hi g m n)) ∧ Below w.heap.size w w' := by
  subst hh
  have hbd := bookB_bd hok
  go_enter Tryd.func62, Tryd.ntmps62
  go_wp2_with fail
  go_loopw [12] (fun i wr => ∃ k : Nat, k ≤ n ∧ i = .int .i64 k ∧ DInv w wr (fun m => doneF B hi g m k)) (fun i _ => n - (intOf i).toNat)
  case atStart => exact ⟨0, Nat.zero_le _, rfl, belowAlloc (belowAlloc (Below.refl _ _) _) _, heap_alloc2_old w _ _, heap_alloc2_new w _ _⟩
  case round =>
    rename_i wr
    obtain ⟨k, hk, rfl, hD⟩ := hrel
    have hlt1 : w.heap.size + 1 < wr.heap.size := (Array.getElem?_eq_some_iff.1 hD.h1).1
    have C0 := Lib.hid (show ∀ j, wr.cell? ⟨w.heap.size + 1, j, none⟩ = (four fun m => doneF B hi g m k)[j]? from cell_of_heap hD.h1)
    have D0 := Lib.hid (show ∀ j, wr.cell? ⟨w.heap.size, j, none⟩ = (four fun _ => 0)[j]? from cell_of_heap hD.h0)
    have F0 := Lib.hid (show ∀ j, wr.frozen? ⟨w.heap.size, j, none⟩ = false from frozen_of_heap hD.h0)
    by_cases hlt : k < n
    · obtain ⟨b, off, rfl, hb, hrow⟩ := hp.row3 hlt
      obtain ⟨hd0, hd1, hd2⟩ := hrow hD.below
      clear hrow
      have hfk := hf k hlt
      obtain ⟨i, hi1⟩ : ∃ i : Nat, g k 1 = i := ⟨(g k 1).toNat, by omega⟩
      obtain ⟨m, hm1⟩ : ∃ m : Nat, g k 2 = m := ⟨(g k 2).toNat, by omega⟩
      have hin : i < B.ng := by omega
      have hst := st_bd hok h2 hin
      have hsum := doneF_bd hok h2 hf m k hk
      have hnext : ∀ j : Nat, j < 4 → (if j = m then doneF B hi g m k + st B hi i else doneF B hi g j k) = doneF B hi g j (k + 1) := fun j hj => by
        simp only [doneF, hi1, hm1, Int.toNat_natCast]
        by_cases h : j = m
        · subst h; simp
        · rw [if_neg h, if_neg (by omega)]; omega
      have Hnext := Lib.hid hnext
      rw [hi1] at hd1
      rw [hm1] at hd2
      have hm4 : m < 4 := by omega
      have hm5 : (m : Int) < 4 := by omega
      have hm6 : (m : Int).toNat = m := by omega
      clear hnext hi1 hm1 hfk
      obtain ⟨cm4, fm4⟩ : wr.cell? ⟨w.heap.size + 1, m, none⟩ = some (.int .i64 (doneF B hi g m k)) ∧ wr.frozen? ⟨w.heap.size + 1, m, none⟩ = false := by
        refine ⟨?_, frozen_of_heap hD.h1 m⟩
        rw [cell_of_heap hD.h1]
        obtain rfl | rfl | rfl | rfl : m = 0 ∨ m = 1 ∨ m = 2 ∨ m = 3 := by omega
        all_goals rfl
      have hBR : Below wr.heap.size wr (wr.alloc (.cells #[.int .i64 (g k 0), .int .i64 i, .int .i64 m] 54)) := belowAlloc (Below.refl _ _) _
      have q0 := Lib.hid (show ((wr.alloc (.cells #[.int .i64 (g k 0), .int .i64 i, .int .i64 m] 54))).cell? ⟨wr.heap.size, 0, none⟩ = some (.int .i64 (g k 0)) from new2 _ _ _ _ rfl 0)
      have q1 := Lib.hid (show ((wr.alloc (.cells #[.int .i64 (g k 0), .int .i64 i, .int .i64 m] 54))).cell? ⟨wr.heap.size, 1, none⟩ = some (.int .i64 i) from new2 _ _ _ _ rfl 1)
      have q2 := Lib.hid (show ((wr.alloc (.cells #[.int .i64 (g k 0), .int .i64 i, .int .i64 m] 54))).cell? ⟨wr.heap.size, 2, none⟩ = some (.int .i64 m) from new2 _ _ _ _ rfl 2)
      have q3 := Lib.hid (show ((wr.alloc (.cells #[.int .i64 (g k 0), .int .i64 i, .int .i64 m] 54))).cell? ⟨w.heap.size + 1, m, none⟩ = some (.int .i64 (doneF B hi g m k)) from (hBR.cell (p := ⟨w.heap.size + 1, m, none⟩) hlt1).trans cm4)
      have q4 := Lib.hid (show ((wr.alloc (.cells #[.int .i64 (g k 0), .int .i64 i, .int .i64 m] 54))).frozen? ⟨w.heap.size + 1, m, none⟩ = false from (hBR.frozen (p := ⟨w.heap.size + 1, m, none⟩) hlt1).trans fm4)
      have hPR := hP.below (hD.below.trans (hBR.mono hD.below.size))
      have hgR := hg.below (hD.below.trans (hBR.mono hD.below.size))
      go_wp2_with fail
      go_region_with ((go_at_call 86; refine (strength_at (W := (wr.alloc (.cells #[.int .i64 (g k 0), .int .i64 i, .int .i64 m] 54))) ?_ hPR hgR i hi hin h2).mono ?_; (repeat (first | exact Below.refl _ _ | (refine Below.drew ?_) | (refine belowAlloc ?_ _))); (rintro e w5 ⟨rfl, hB5⟩; have e0 := (hB5.cell (p := ⟨wr.heap.size, 0, none⟩) (by simp)).trans q0.out; have e1 := (hB5.cell (p := ⟨wr.heap.size, 1, none⟩) (by simp)).trans q1.out; have e2 := (hB5.cell (p := ⟨wr.heap.size, 2, none⟩) (by simp)).trans q2.out; have e3 := (hB5.cell (p := ⟨w.heap.size + 1, m, none⟩) (by simp; omega)).trans q3.out; have e4 := (hB5.frozen (p := ⟨w.heap.size + 1, m, none⟩) (by simp; omega)).trans q4.out)))
      all_goals
        rw [IntWalk.i64_in (doneF B hi g m k + st B hi i) (by omega)]
        go_wp2_with fail
        go_roundw
        case rel => exact ⟨k + 1, by omega, by go_num, (hD.bump (hBR.trans (hB5.mono hBR.size)) m hm4 _).congr fun j hj => Hnext.out j hj⟩
        case measure => simp [intOf]; omega
    · obtain rfl : k = n := by omega
      have c0 := C0.out
      have d0 := D0.out
      have f0 := F0.out
      go_wp2_with fail
      (try simp only [Exit.inBlock, Exit.then])
      refine bodyPost_ret (results_cell_row rfl _ _ w.heap.size 80 (four fun m => doneF B hi g m k) (0, 0) _ rfl ?_ Tryd.underlying80 rfl (by kernel_rfl)) rfl ?_
      · exact set_four hD.h0 _ _ _ _
      exact ⟨rfl, below_four hD.below (Nat.le_refl _) _ _ _ _⟩

structure PInv (w wr : World) (c e : Nat → Int) : Prop where
  below : Below w.heap.size w wr
  h0 : wr.heap[w.heap.size]? = some (.cells (four c) 80 (0, 0))
  h1 : wr.heap[w.heap.size + 1]? = some (.cells (four e) 80 (0, 0))
  h2 : wr.heap[w.heap.size + 2]? = some (.cells (four fun _ => 0) 80 (0, 0))

theorem PInv.drew {w wr : World} {c e : Nat → Int} (h : PInv w wr c e) : PInv w wr.drew c e := ⟨Below.drew h.below, h.h0, h.h1, h.h2⟩

theorem PInv.bump {w wr : World} {c e : Nat → Int} (h : PInv w wr c e) (m : Nat) (hm : m < 4) (x : Int) :
    PInv w (wr.setCell ⟨w.heap.size, m, none⟩ (.int .i64 x)) (fun j => if j = m then x else c j) e := by
  refine ⟨h.below.setCell (by simp) _, ?_, by rw [setCell_heap_other (by omega)]; exact h.h1, by rw [setCell_heap_other (by omega)]; exact h.h2⟩
  rw [setCell_heap_same h.h0]
  obtain rfl | rfl | rfl | rfl : m = 0 ∨ m = 1 ∨ m = 2 ∨ m = 3 := by omega
  all_goals rfl

theorem four_at {c : Nat → Int} {m : Nat} (hm : m < 4) : (four c)[m]? = some (.int .i64 (c m)) := by
  obtain rfl | rfl | rfl | rfl : m = 0 ∨ m = 1 ∨ m = 2 ∨ m = 3 := by omega
  all_goals rfl

theorem four_congr {c d : Nat → Int} (h : ∀ j, j < 4 → c j = d j) : four c = four d := by
  rw [four, four, h 0 (by omega), h 1 (by omega), h 2 (by omega), h 3 (by omega)]

theorem PInv.congr {w wr : World} {c d e : Nat → Int} (h : PInv w wr c e) (hd : ∀ j, j < 4 → c j = d j) : PInv w wr d e :=
  ⟨h.below, by rw [h.h0, four_congr hd], h.h1, h.h2⟩

/-- The amounts of two lists of works together. -/
theorem plus_any (d e : Nat → Int) (hd : ∀ j, j < 4 → 0 ≤ d j ∧ d j ≤ 1000000) (he : ∀ j, j < 4 → 0 ≤ e j ∧ e j ≤ 1000000) (w : World) :
    Calls Tryd.prog 94 #[.agg (four d), .agg (four e)] w fun r w' => r = .returned (.agg (four fun j => d j + e j)) ∧ Below w.heap.size w w' := by
  go_enter Tryd.func94, Tryd.ntmps94
  go_wp2_with fail
  go_loopw [6] (fun i wr => ∃ k : Nat, k ≤ 4 ∧ i = .int .i64 k ∧ PInv w wr (fun j => if j < k then d j + e j else d j) e) (fun i _ => 4 - (intOf i).toNat)
  case atStart =>
    refine ⟨0, by omega, rfl, belowAlloc (belowAlloc (belowAlloc (Below.refl _ _) _) _) _, ?_, ?_, ?_⟩
    · rw [heap_alloc_old, heap_alloc2_old]
      · rfl
      · simp; omega
    · rw [heap_alloc_old, heap_alloc2_new]
      simp
    · have := heap_alloc2_new (w.alloc (.cells (four d) 80)) (.cells (four e) 80) (.cells (four fun _ => 0) 80)
      rwa [World.size_alloc] at this
  case round =>
    rename_i wr
    obtain ⟨k, hk, rfl, hI⟩ := hrel
    have C0 := Lib.hid (show ∀ j, wr.cell? ⟨w.heap.size, j, none⟩ = (four fun j => if j < k then d j + e j else d j)[j]? from cell_of_heap hI.h0)
    have C2 := Lib.hid (show ∀ j, wr.cell? ⟨w.heap.size + 2, j, none⟩ = (four fun _ => 0)[j]? from cell_of_heap hI.h2)
    have F0 := Lib.hid (show ∀ j, wr.frozen? ⟨w.heap.size + 2, j, none⟩ = false from frozen_of_heap hI.h2)
    by_cases hlt : k < 4
    · have hlt2 : (k : Int) < 4 := by omega
      have hlt3 : (k : Int).toNat = k := by omega
      have a1 := hd k hlt
      have a2 := he k hlt
      have c0 : wr.cell? ⟨w.heap.size, k, none⟩ = some (.int .i64 (d k)) := by rw [C0.out, four_at hlt]; simp
      have c1 : wr.cell? ⟨w.heap.size + 1, k, none⟩ = some (.int .i64 (e k)) := by rw [cell_of_heap hI.h1, four_at hlt]
      have f0 : wr.frozen? ⟨w.heap.size, k, none⟩ = false := frozen_of_heap hI.h0 k
      go_wp2_with fail
      go_region
      all_goals
        go_wp2_with fail
        go_roundw
        case rel => exact ⟨k + 1, by omega, by go_num, (hI.bump k hlt _).drew.congr fun j hj => by by_cases h : j = k; subst h; simp; simp only [if_neg h]; by_cases h2 : j < k; rw [if_pos h2, if_pos (by omega)]; rw [if_neg h2, if_neg (by omega)]⟩
        case measure => simp [intOf]; omega
    · obtain rfl : k = 4 := by omega
      have c0 := C0.out
      have c2 := C2.out
      have f0 := F0.out
      go_wp2_with fail
      (try simp only [Exit.inBlock, Exit.then])
      refine bodyPost_ret (results_cell_row rfl _ _ (w.heap.size + 2) 80 (four fun j => d j + e j) (0, 0) _ rfl ?_ Tryd.underlying80 rfl (by kernel_rfl)) rfl ?_
      · exact set_four hI.h2 _ _ _ _
      exact ⟨rfl, below_four hI.below (by omega) _ _ _ _⟩
end Go.Proofs.YtdcgmacknccklaaDoor
