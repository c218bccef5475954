/- prepare and can of package gang, for a valid book. -/
import Derived.Test.YtdcgmacknccklaaDoorGa
import Derived.IntWalk
import Derived.Carry
namespace Go.Proofs.YtdcgmacknccklaaDoor
open Go Go.RowKit

theorem belowDrewN {a w : World} (h : Below a.heap.size a w) (n : Nat) : Below a.heap.size a (w.drewN n) := ⟨h.os, h.tape, h.output, h.size, h.block⟩

/-- A pointer to the book that the package calculates with. -/
def PB (B : Book) (pm pg : Option Addr) (cm cg bb bm : Nat) (w : World) : Prop := bb < w.heap.size ∧ ∀ j, w.cell? ⟨bb, j, none⟩ = #[.slice pm B.nm cm, .slice pg B.ng cg, .int .i64 B.nights, .map (some bm)][j]?

theorem PB.below {B : Book} {pm pg : Option Addr} {cm cg bb bm : Nat} {w w' : World} (h : PB B pm pg cm cg bb bm w) (hb : Below w.heap.size w w') : PB B pm pg cm cg bb bm w' :=
  ⟨Nat.lt_of_lt_of_le h.1 hb.size, fun j => (hb.cell (p := ⟨bb, j, none⟩) h.1).trans (h.2 j)⟩

theorem prepare_any (B : Book) (pm pg : Option Addr) (cm cg : Nat) (w : World) :
    Calls Tryd.prog 36 #[.agg #[.slice pm B.nm cm, .slice pg B.ng cg, .int .i64 B.nights]] w fun e w' => ∃ bb bm, e = .returned (.pointer (some ⟨bb, 0, none⟩)) ∧ w.heap.size ≤ bb ∧ PB B pm pg cm cg bb bm w' ∧ w'.heap[bm]? = some (.map #[] 0) ∧ w.heap.size ≤ bm ∧ bb ≠ bm ∧ Below w.heap.size w w' := by
  have hmm := @run_makeMap Tryd.prog
  go_enter Tryd.func36, Tryd.ntmps36
  go_wp2
  go_ret
  refine ⟨w.heap.size + 2, w.heap.size + 1, rfl, by omega, ⟨by simp, fun j => ?_⟩, ?_, by omega, by omega, (((Below.refl _ _).alloc (Nat.le_refl _) _).alloc (by simp) _).alloc (by simp; omega) _⟩
  · rw [World.cell?_alloc_at _ _ _ _ (by simp)]
  · rw [heap_alloc_old]
    have := heap_alloc_new (w.alloc (.cells #[.slice pm B.nm cm, .slice pg B.ng cg, .int .i64 B.nights] 25)) (.map #[] 0)
    rwa [World.size_alloc] at this
    simp

theorem isWithin_is {n lo hi : Int} {v : Bool} (h : inB n lo hi = v) (w : World) :
    Calls Tryd.prog 71 #[.int .i64 n, .int .i64 lo, .int .i64 hi] w fun e w' => e = .returned (.bool v) ∧ w' = w := h ▸ isWithin_any n lo hi w

def bitE (x n : Int) : Int := bits BinOp.and IntKind.i64 (x / 2 ^ n.toNat) 1
def canB (B : Book) (i : Nat) (m n : Int) : Bool := inB m (B.gang i 0) (B.gang i 1) && (bitE (B.mile m.toNat 2) n == 0)

theorem bookB_gang {B : Book} (hok : bookB B = true) {i : Nat} (hi : i < B.ng) : 0 ≤ B.gang i 0 ∧ B.gang i 1 < B.nm := by
  simp only [bookB, gangsB, Bool.and_eq_true, decide_eq_true_eq] at hok
  have := hok.2.1.2.2 i hi
  simp only [gangB, inB, Bool.and_eq_true, decide_eq_true_eq] at this
  omega

theorem bookB_mails {B : Book} (hok : bookB B = true) {i : Nat} (hi : i < B.nm) : 0 ≤ B.mile i 2 ∧ B.mile i 2 ≤ 15 := by
  simp only [bookB, milesB, Bool.and_eq_true, decide_eq_true_eq] at hok
  have := hok.1.2.2 i hi
  simp only [mileB, inB, Bool.and_eq_true, decide_eq_true_eq] at this
  omega

theorem bookB_bd {B : Book} (hok : bookB B = true) : (1 ≤ B.nm ∧ B.nm ≤ 4) ∧ (1 ≤ B.ng ∧ B.ng ≤ 2) ∧ 1 ≤ B.nights ∧ B.nights ≤ 4 := by
  simp only [bookB, milesB, gangsB, inB, Bool.and_eq_true, decide_eq_true_eq] at hok
  exact ⟨⟨hok.1.1, hok.1.2.1⟩, ⟨hok.2.1.1, hok.2.1.2.1⟩, hok.2.2.1, hok.2.2.2⟩

set_option maxRecDepth 100000 in
theorem can_any (B : Book) (pm pg : Option Addr) (cm cg bb bm : Nat) (w : World) (hP : PB B pm pg cm cg bb bm w) (hm : Sl w pm 3 B.nm B.mile) (hg : Sl w pg 4 B.ng B.gang) (hok : bookB B = true)
    (iv : Int) (i : Nat) (hiv : iv = i) (hi : i < B.ng) (m n : Int) (hn0 : 0 ≤ n) (hn1 : n ≤ 63) :
    Calls Tryd.prog 39 #[.pointer (some ⟨bb, 0, none⟩), .int .i64 iv, .agg #[.int .i64 n, .int .i64 m]] w fun e w' => e = .returned (.bool (canB B i m n)) ∧ Below w.heap.size w w' := by
  subst hiv
  have hgb := bookB_gang hok hi
  obtain ⟨hbb, hcells⟩ := hP
  obtain ⟨b, off, rfl, hb, hrow⟩ := hg.row4 hi
  have hW1 : Below w.heap.size w (w.alloc (.cells #[.int .i64 n, .int .i64 m] 73)) := (Below.refl _ _).alloc (Nat.le_refl _) _
  obtain ⟨hd0, hd1, hd2, hd3⟩ := hrow hW1
  clear hrow
  by_cases hin : inB m (B.gang i 0) (B.gang i 1) = true
  · have hin2 := hin
    simp only [inB, Bool.and_eq_true, decide_eq_true_eq] at hin2
    obtain ⟨k, rfl⟩ : ∃ k : Nat, m = k := ⟨m.toNat, by omega⟩
    have hk : k < B.nm := by omega
    obtain ⟨b2, off2, rfl, hb2, hrow2⟩ := hm.row3 hk
    have hW2 := hW1.alloc (by simp) (.cells #[.int .i64 (B.gang i 0), .int .i64 (B.gang i 1), .int .i64 (B.gang i 2), .int .i64 (B.gang i 3)] 59)
    obtain ⟨hc0, hc1, hc2⟩ := hrow2 hW2
    clear hrow2
    have hmb := bookB_mails hok hk
    go_enter Tryd.func39, Tryd.ntmps39
    go_wp2_with fail
    go_quiet ((go_at_call 71; exact Calls.quiet_of_same (isWithin_is hin _)))
    go_wp2
    go_ret
    exact ⟨ret_bool (by simp [canB, bitE, hin]), belowDrewN hW2 _⟩
  · have hin : inB m (B.gang i 0) (B.gang i 1) = false := by simpa using hin
    have hW2 := hW1.alloc (by simp) (.cells #[.int .i64 (B.gang i 0), .int .i64 (B.gang i 1), .int .i64 (B.gang i 2), .int .i64 (B.gang i 3)] 59)
    go_enter Tryd.func39, Tryd.ntmps39
    go_wp2_with fail
    go_quiet ((go_at_call 71; exact Calls.quiet_of_same (isWithin_is hin _)))
    go_wp2
    go_ret
    exact ⟨ret_bool (by simp [canB, hin]), belowDrewN hW2 _⟩
end Go.Proofs.YtdcgmacknccklaaDoor
