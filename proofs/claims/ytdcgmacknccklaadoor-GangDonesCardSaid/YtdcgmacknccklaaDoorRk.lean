/- The reference of layer 4: done and mended; Reach, Just and Sum of what is shared. -/
import Derived.Test.YtdcgmacknccklaaDoorRj
import Derived.Test.YtdcgmacknccklaaDoorDa
namespace Go.Proofs.YtdcgmacknccklaaDoor
open Go Go.RowKit

theorem set_two {w : World} {x : Nat} {z : Array Value} {T : TypeId} {r : Nat × Nat} (hz : z.size = 2) (h : w.heap[x]? = some (.cells z T r)) (a b : Value) :
    ((w.setCell ⟨x, 0, none⟩ a).setCell ⟨x, 1, none⟩ b).heap[x]? = some (.cells #[a, b] T r) := by
  rw [setCell_heap_same (setCell_heap_same h)]
  obtain ⟨l⟩ := z
  match l, hz with
  | [_, _], _ => rfl

theorem below_two {a W : World} {x : Nat} (h : Below a.heap.size a W) (hx : a.heap.size ≤ x) (b0 b1 : Value) :
    Below a.heap.size a ((W.setCell ⟨x, 0, none⟩ b0).setCell ⟨x, 1, none⟩ b1) := (h.setCell hx _).setCell hx _

theorem Reach_any (a b : Int) (w : World) : Calls Tryd.prog 32 #[.int .i64 a, .int .i64 b] w fun e w' => e = .returned (.agg #[.int .i64 a, .int .i64 b]) ∧ Below w.heap.size w w' := by
  have hG := Lib.hid (show (w.alloc (.cells #[.int .i64 0, .int .i64 0] 40)).heap[w.heap.size]? = _ from heap_alloc_new w _)
  go_enter Tryd.func32, Tryd.ntmps32
  go_wp2_with fail
  (try simp only [Exit.inBlock, Exit.then])
  refine bodyPost_ret (results_cell_row rfl _ _ w.heap.size 40 #[.int .i64 a, .int .i64 b] (0, 0) _ rfl ?_ Tryd.underlying40 rfl (by kernel_rfl)) rfl ?_
  · first | exact set_two rfl hG.out _ _ | exact heap_alloc_new w _
  · first | exact ⟨rfl, below_two (belowAlloc (Below.refl _ _) _) (Nat.le_refl _) _ _⟩ | exact ⟨rfl, belowAlloc (Below.refl _ _) _⟩

theorem Just_any (a : Int) (w : World) : Calls Tryd.prog 87 #[.int .i64 a] w fun e w' => e = .returned (.agg #[.int .i64 a, .int .i64 a]) ∧ Below w.heap.size w w' := by
  have hW : Below w.heap.size w (w.alloc (.cells #[.int .i64 0, .int .i64 0] 40)) := belowAlloc (Below.refl _ _) _
  have hG := Lib.hid (show (w.alloc (.cells #[.int .i64 0, .int .i64 0] 40)).heap[w.heap.size]? = _ from heap_alloc_new w _)
  go_enter Tryd.func87, Tryd.ntmps87
  go_wp2_with (go_at_call 32; refine (Reach_any _ _ _).mono ?_; rintro e w2 ⟨rfl, hB2⟩; (have k1 := Lib.hid ((hB2.block w.heap.size (by simp)).trans hG.out)); (have c1 : ∀ j, w2.cell? ⟨w.heap.size, j, none⟩ = _ := cell_of_heap k1.out); (have f1 : ∀ j, w2.frozen? ⟨w.heap.size, j, none⟩ = false := frozen_of_heap k1.out))
  (try simp only [Exit.inBlock, Exit.then])
  refine bodyPost_ret (results_cell_row rfl _ _ w.heap.size 40 #[.int .i64 a, .int .i64 a] (0, 0) _ rfl ?_ Tryd.underlying40 rfl (by kernel_rfl)) rfl ?_
  · exact set_two rfl k1.out _ _
  · exact ⟨rfl, below_two (below_after hW hB2) (Nat.le_refl _) _ _⟩

theorem Sum_any (a b c d : Int) (ha : 0 ≤ a ∧ a ≤ 100000) (hb : 0 ≤ b ∧ b ≤ 100000) (hc : 0 ≤ c ∧ c ≤ 100000) (hd : 0 ≤ d ∧ d ≤ 100000) (w : World) :
    Calls Tryd.prog 88 #[.agg #[.int .i64 a, .int .i64 b], .agg #[.int .i64 c, .int .i64 d]] w fun e w' => e = .returned (.agg #[.int .i64 (a + c), .int .i64 (b + d)]) ∧ Below w.heap.size w w' := by
  have hW : Below w.heap.size w (((w.alloc (.cells #[.int .i64 a, .int .i64 b] 40)).alloc (.cells #[.int .i64 c, .int .i64 d] 40)).alloc (.cells #[.int .i64 0, .int .i64 0] 40)) := belowAlloc (belowAlloc (belowAlloc (Below.refl _ _) _) _) _
  have hG := Lib.hid (show (((w.alloc (.cells #[.int .i64 a, .int .i64 b] 40)).alloc (.cells #[.int .i64 c, .int .i64 d] 40)).alloc (.cells #[.int .i64 0, .int .i64 0] 40)).heap[w.heap.size + 1 + 1]? = _ from new_three _ _ _ (by simp))
  go_enter Tryd.func88, Tryd.ntmps88
  go_wp2_with (go_at_call 32; refine (Reach_any _ _ _).mono ?_; rintro e w2 ⟨rfl, hB2⟩; (have k1 := Lib.hid ((hB2.block (w.heap.size + 1 + 1) (by simp)).trans hG.out)); (have c1 : ∀ j, w2.cell? ⟨w.heap.size + 1 + 1, j, none⟩ = _ := cell_of_heap k1.out); (have f1 : ∀ j, w2.frozen? ⟨w.heap.size + 1 + 1, j, none⟩ = false := frozen_of_heap k1.out))
  (try simp only [Exit.inBlock, Exit.then])
  refine bodyPost_ret (results_cell_row rfl _ _ (w.heap.size + 1 + 1) 40 #[.int .i64 (a + c), .int .i64 (b + d)] (0, 0) _ rfl ?_ Tryd.underlying40 rfl (by kernel_rfl)) rfl ?_
  · exact set_two rfl k1.out _ _
  · exact ⟨rfl, below_two (below_after hW hB2) (by omega) _ _⟩

theorem done_step {B : Book} {hi : Nat} {g : Nat → Nat → Int} {m : Int} {k i : Nat} (h : g k 2 = m) (h1 : g k 1 = i) : doneF B hi g m (k + 1) = doneF B hi g m k + st B hi i := by
  simp only [doneF, if_pos h, h1, Int.toNat_natCast]

structure RInv (w wr : World) (x : Nat) (bc : Array Value) (a b : Int) : Prop where
  below : Below w.heap.size w wr
  h0 : wr.heap[w.heap.size]? = some (.cells bc 25 (0, 0))
  h1 : wr.heap[w.heap.size + 1]? = some (.cells #[.int .i64 0, .int .i64 0] 40 (0, 0))
  h2 : wr.heap[x]? = some (.cells #[.int .i64 a, .int .i64 b] 40 (0, 0))

theorem RInv.later {w wr w2 : World} {x : Nat} {bc : Array Value} {a b : Int} (h : RInv w wr x bc a b) (hb : Below wr.heap.size wr w2) : RInv w w2 x bc a b :=
  have l0 := (Array.getElem?_eq_some_iff.1 h.h0).1
  have l1 := (Array.getElem?_eq_some_iff.1 h.h1).1
  have l2 := (Array.getElem?_eq_some_iff.1 h.h2).1
  ⟨below_after h.below hb, (hb.block _ l0).trans h.h0, (hb.block _ l1).trans h.h1, (hb.block _ l2).trans h.h2⟩

theorem RInv.set {w wr : World} {x : Nat} {bc : Array Value} {a b : Int} (h : RInv w wr x bc a b) (hx : w.heap.size + 1 < x) (c d : Int) : RInv w ((wr.setCell ⟨x, 0, none⟩ (.int .i64 c)).setCell ⟨x, 1, none⟩ (.int .i64 d)) x bc c d :=
  ⟨below_two h.below (by omega) _ _, by rw [setCell_heap_other (by omega), setCell_heap_other (by omega)]; exact h.h0, by rw [setCell_heap_other (by omega), setCell_heap_other (by omega)]; exact h.h1, set_two rfl h.h2 _ _⟩

set_option maxRecDepth 100000 in
set_option maxHeartbeats 4000000 in
theorem rdone_any (B : Book) (pm pg pp : Option Addr) (cm cg cp : Nat) (w : World) (hg : Sl w pg 4 B.ng B.gang) (hok : bookB B = true) (n : Nat) (g : Nat → Nat → Int) (hp : Sl w pp 3 n g) (hn : n ≤ 1000) (hf : Fit B n g) (m : Int) :
    Calls Tryd.prog 63 #[.agg #[.slice pm B.nm cm, .slice pg B.ng cg, .int .i64 B.nights], .slice pp n cp, .int .i64 m] w fun e w' => e = .returned (.agg #[.int .i64 (doneF B 0 g m n), .int .i64 (doneF B 1 g m n)]) ∧ Below w.heap.size w w' := by
  have hbd := bookB_bd hok
  have hW : Below w.heap.size w ((w.alloc (.cells #[.slice pm B.nm cm, .slice pg B.ng cg, .int .i64 B.nights] 25)).alloc (.cells #[.int .i64 0, .int .i64 0] 40)) := belowAlloc (belowAlloc (Below.refl _ _) _) _
  have hG0 := Lib.hid (show ((w.alloc (.cells #[.slice pm B.nm cm, .slice pg B.ng cg, .int .i64 B.nights] 25)).alloc (.cells #[.int .i64 0, .int .i64 0] 40)).heap[w.heap.size]? = _ from heap_alloc2_old w _ _)
  have hG1 := Lib.hid (show ((w.alloc (.cells #[.slice pm B.nm cm, .slice pg B.ng cg, .int .i64 B.nights] 25)).alloc (.cells #[.int .i64 0, .int .i64 0] 40)).heap[w.heap.size + 1]? = _ from heap_alloc2_new w _ _)
  go_enter Tryd.func63, Tryd.ntmps63
  go_wp2_with (go_at_call 87; refine (Just_any _ _).mono ?_; rintro e w1 ⟨rfl, hB1⟩)
  have hz1 := hB1.size
  simp only [World.size_alloc] at hz1
  go_loopw [8] (fun i wr => ∃ k : Nat, k ≤ n ∧ i = .int .i64 k ∧ RInv w wr w1.heap.size #[.slice pm B.nm cm, .slice pg B.ng cg, .int .i64 B.nights] (doneF B 0 g m k) (doneF B 1 g m k)) (fun i _ => n - (intOf i).toNat)
  case atStart => exact ⟨0, Nat.zero_le _, rfl, belowAlloc (below_after hW hB1) _, by rw [heap_alloc_old]; exact (hB1.block _ (by simp; omega)).trans hG0.out; omega, by rw [heap_alloc_old]; exact (hB1.block _ (by simp)).trans hG1.out; omega, heap_alloc_new _ _⟩
  case round =>
    rename_i wr
    obtain ⟨k, hk, rfl, hI⟩ := hrel
    have HI := Lib.hid hI
    have hx2 := (Array.getElem?_eq_some_iff.1 hI.h2).1
    have hx1 := (Array.getElem?_eq_some_iff.1 hI.h1).1
    have hWr := hI.below
    have c0 : ∀ j, wr.cell? ⟨w.heap.size, j, none⟩ = _ := cell_of_heap hI.h0
    have c2 : ∀ j, wr.cell? ⟨w1.heap.size, j, none⟩ = _ := cell_of_heap hI.h2
    have f2 : ∀ j, wr.frozen? ⟨w1.heap.size, j, none⟩ = false := frozen_of_heap hI.h2
    have C1 := Lib.hid (show ∀ j, wr.cell? ⟨w.heap.size + 1, j, none⟩ = _ from cell_of_heap hI.h1)
    have F1 := Lib.hid (show ∀ j, wr.frozen? ⟨w.heap.size + 1, j, none⟩ = false from frozen_of_heap hI.h1)
    clear hI
    by_cases hlt : k < n
    · obtain ⟨b, off, rfl, hb, hrow⟩ := hp.row3 hlt
      obtain ⟨hd0, hd1, hd2⟩ := hrow hWr
      clear hrow
      have hfk := hf k hlt
      have b0 := doneF_bd hok (hi := 0) (by omega) hf m k (by omega)
      have b1 := doneF_bd hok (hi := 1) (by omega) hf m k (by omega)
      obtain ⟨i, hi1⟩ : ∃ i : Nat, g k 1 = i := ⟨(g k 1).toNat, by omega⟩
      have hin : i < B.ng := by omega
      have hin2 : (i : Int) < B.ng := by omega
      have s0 := st_bd hok (hi := 0) (by omega) hin
      have s1 := st_bd hok (hi := 1) (by omega) hin
      rw [hi1] at hd1
      have Hi1 := Lib.hid hi1
      clear hi1 hfk
      obtain ⟨b4, off4, rfl, hb4, hrow4⟩ := hg.row4 hin
      obtain ⟨_, _, q2, q3⟩ := hrow4 hWr
      clear hrow4
      cases hmq : (g k 2 == m)
      · have hmne : ¬ g k 2 = m := by simpa using hmq
        have Hmne := Lib.hid hmne
        clear hmne
        go_wp2_with fail
        go_roundw
        case rel => exact ⟨k + 1, by omega, by go_num, by simp only [doneF, if_neg Hmne.out, Int.add_zero]; exact HI.out⟩
        case measure => simp [intOf]; omega
      · have hmeq : g k 2 = m := by simpa using hmq
        have Hmeq := Lib.hid hmeq
        clear hmeq
        go_wp2_with fail
        go_region_with ((go_at_call 88; refine (Sum_any _ _ _ _ ⟨by omega, by omega⟩ ⟨by omega, by omega⟩ ⟨s0.1, by have := s0.2; unfold st at this; simp at this; omega⟩ ⟨s1.1, by have := s1.2; unfold st at this; simp at this; omega⟩ _).mono ?_; (rintro e w5 ⟨rfl, hB5⟩; have e0 := (hB5.cell (p := ⟨w1.heap.size, 0, none⟩) hx2).trans (c2 0); have e1 := (hB5.cell (p := ⟨w1.heap.size, 1, none⟩) hx2).trans (c2 1); have e2 := (hB5.frozen (p := ⟨w1.heap.size, 0, none⟩) hx2).trans (f2 0); have e3 := (hB5.frozen (p := ⟨w1.heap.size, 1, none⟩) hx2).trans (f2 1); simp only [List.getElem?_toArray, List.getElem?_cons_zero, List.getElem?_cons_succ] at e0 e1)))
        all_goals
          go_wp2_with fail
          go_roundw
          case rel => exact ⟨k + 1, by omega, by go_num, by rw [done_step Hmeq.out Hi1.out, done_step Hmeq.out Hi1.out]; exact (HI.out.later (below_after (Below.drew (Below.refl _ _)) hB5)).set (by omega) _ _⟩
          case measure => simp [intOf]; omega
    · obtain rfl : k = n := by omega
      have c1 := C1.out
      have f1 := F1.out
      go_wp2_with fail
      (try simp only [Exit.inBlock, Exit.then])
      refine bodyPost_ret (results_cell_row rfl _ _ (w.heap.size + 1) 40 #[.int .i64 (doneF B 0 g m k), .int .i64 (doneF B 1 g m k)] (0, 0) _ rfl ?_ Tryd.underlying40 rfl (by kernel_rfl)) rfl ?_
      · exact set_two rfl HI.out.h1 _ _
      · exact ⟨rfl, below_two hWr (by omega) _ _⟩
end Go.Proofs.YtdcgmacknccklaaDoor
