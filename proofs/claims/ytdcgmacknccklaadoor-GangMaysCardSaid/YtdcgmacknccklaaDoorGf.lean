/- isNear of package gang. -/
import Derived.Test.YtdcgmacknccklaaDoorGe
namespace Go.Proofs.YtdcgmacknccklaaDoor
open Go Go.RowKit

/-- The steps to miles that are near, as the program's text lays them. -/
def NB (w : World) : Prop := 0 < w.heap.size ∧ ∀ j, j < 3 → w.cell? ⟨0, j, none⟩ = some (.int .i64 ([-1, 0, 1].getD j 0))

theorem NB.below {w w' : World} (h : NB w) (hb : Below w.heap.size w w') : NB w' :=
  ⟨Nat.lt_of_lt_of_le h.1 hb.size, fun j hj => (hb.cell (p := ⟨0, j, none⟩) h.1).trans (h.2 j hj)⟩

def nearB (n m n2 m2 : Int) : Bool := decide (n2 = n ∧ (m2 = m - 1 ∨ m2 = m ∨ m2 = m + 1))

set_option maxRecDepth 100000 in
theorem isNear_any (n m n2 m2 : Int) (h0 : 0 ≤ m) (h3 : m ≤ 1000) (w : World) (hN : NB w) :
    Calls Tryd.prog 93 #[.agg #[.int .i64 n, .int .i64 m], .agg #[.int .i64 n2, .int .i64 m2]] w fun e w' => e = .returned (.bool (nearB n m n2 m2)) ∧ Below w.heap.size w w' := by
  have i0 : ∀ w : World, (Instr.index 27 (.agg #[.int .i64 (-1), .int .i64 0, .int .i64 1]) (.int .i64 0)).run Tryd.prog w = .ok (.int .i64 (-1)) w := fun _ => by kernel_rfl
  have i1 : ∀ w : World, (Instr.index 27 (.agg #[.int .i64 (-1), .int .i64 0, .int .i64 1]) (.int .i64 1)).run Tryd.prog w = .ok (.int .i64 0) w := fun _ => by kernel_rfl
  have i2 : ∀ w : World, (Instr.index 27 (.agg #[.int .i64 (-1), .int .i64 0, .int .i64 1]) (.int .i64 2)).run Tryd.prog w = .ok (.int .i64 1) w := fun _ => by kernel_rfl
  have hW : Below w.heap.size w ((w.alloc (.cells #[.int .i64 n, .int .i64 m] 73)).alloc (.cells #[.int .i64 n2, .int .i64 m2] 73)) :=
    ((Below.refl _ _).alloc (Nat.le_refl _) _).alloc (by simp) _
  have g0 := (hN.below hW).2 0 (by omega)
  have g1 := (hN.below hW).2 1 (by omega)
  have g2 := (hN.below hW).2 2 (by omega)
  simp only [List.getD_cons_zero, List.getD_cons_succ] at g0 g1 g2
  go_enter Tryd.func93, Tryd.ntmps93
  go_wp2_with fail
  go_loop [8] (fun i => ∃ k : Nat, k ≤ 3 ∧ i = .int .i64 k ∧ ∀ j, j < k → ¬ (n2 = n ∧ m2 = m + ([-1, 0, 1].getD j 0 : Int))) (fun i => 3 - (intOf i).toNat)
  case atStart => exact ⟨0, Nat.zero_le _, rfl, by omega⟩
  case round =>
    obtain ⟨k, hk, rfl, hall⟩ := hrel
    have Hall := Lib.hid hall
    clear hall
    by_cases hlt : k < 3
    · obtain rfl | rfl | rfl : k = 0 ∨ k = 1 ∨ k = 2 := by omega
      all_goals
        go_wp2_with fail
      all_goals first
        | (go_ret
           exact ⟨ret_bool (by simp [nearB] <;> omega), ((Below.refl _ _).alloc (Nat.le_refl _) _).alloc (by simp) _⟩)
        | (go_round
           case rel => exact ⟨_, Nat.succ_le_of_lt hlt, by go_num, fun j hj => by rcases Nat.lt_succ_iff_lt_or_eq.1 hj with h | rfl; exact Hall.out j h; simp; omega⟩
           case measure => simp [intOf])
        | (refine ⟨⟨_, _, _, ⟨_, Nat.succ_le_of_lt hlt, rfl, fun j hj => ?_⟩, rfl, rfl, rfl⟩, by simp [intOf]⟩
           have Hx := Hall.out
           simp only [List.getD_eq_getElem?_getD] at Hx
           rcases Nat.lt_succ_iff_lt_or_eq.1 hj with h | rfl
           · intro h2; exact Hx j h ⟨by assumption, h2⟩
           · simp; omega)
    · obtain rfl : k = 3 := by omega
      go_wp2_with fail
      go_ret
      have a0 := Hall.out 0 (by omega)
      have a1 := Hall.out 1 (by omega)
      have a2 := Hall.out 2 (by omega)
      simp only [List.getD_cons_zero, List.getD_cons_succ] at a0 a1 a2
      exact ⟨ret_bool (by simp only [nearB]; symm; simp only [decide_eq_false_iff_not]; omega), hW⟩
end Go.Proofs.YtdcgmacknccklaaDoor
