/- Check, Can and May of package gang, where a book or a question is wrong. -/
import Derived.Test.YtdcgmacknccklaaDoorGhm
namespace Go.Proofs.YtdcgmacknccklaaDoor
open Go Go.RowKit

section
variable (B : Book) (pm pg pp : Option Addr) (cm cg cp n : Nat) (w : World)

set_option maxRecDepth 100000 in
theorem Can_no (i m : Int) (hm : Sl w pm 3 B.nm B.mile) (hg : Sl w pg 4 B.ng B.gang) (hlm : B.nm ≤ 9223372036854775807) (hno : bookB B = false) :
    Calls Tryd.prog 7 #[.agg #[.slice pm B.nm cm, .slice pg B.ng cg, .int .i64 B.nights], .int .i64 i, .int .i64 m] w fun e w' => e = .returned (.tuple #[.slice none 0 0, .int .i64 40]) ∧ Below w.heap.size w w' := by
  have hW0 : Below w.heap.size w (((w.alloc (.cells #[.slice pm B.nm cm, .slice pg B.ng cg, .int .i64 B.nights] 25)).alloc (.cells #[.int .i64 i] 3)).alloc (.cells #[.int .i64 m] 3)) :=
    (((Below.refl _ _).alloc (Nat.le_refl _) _).alloc (by simp) _).alloc (by simp; omega) _
  go_enter Tryd.func7, Tryd.ntmps7
  go_wp2_with (go_at_call 10; refine (Check_any B _ _ _ _ _ (hm.below hW0) (hg.below hW0) hlm).mono ?_; rintro e w1 ⟨rfl, hB1⟩; simp only [hno])
  go_ret2
  exact ⟨rfl, below_after hW0 hB1⟩

set_option maxRecDepth 100000 in
theorem Can_wrong (i m : Int) (hm : Sl w pm 3 B.nm B.mile) (hg : Sl w pg 4 B.ng B.gang) (hok : bookB B = true) (hq : (inB i 0 (B.ng - 1) && inB m 0 (B.nm - 1)) = false) :
    Calls Tryd.prog 7 #[.agg #[.slice pm B.nm cm, .slice pg B.ng cg, .int .i64 B.nights], .int .i64 i, .int .i64 m] w fun e w' => e = .returned (.tuple #[.slice none 0 0, .int .i64 41]) ∧ Below w.heap.size w w' := by
  have hbd := bookB_bd hok
  have hW0 : Below w.heap.size w (((w.alloc (.cells #[.slice pm B.nm cm, .slice pg B.ng cg, .int .i64 B.nights] 25)).alloc (.cells #[.int .i64 i] 3)).alloc (.cells #[.int .i64 m] 3)) :=
    (((Below.refl _ _).alloc (Nat.le_refl _) _).alloc (by simp) _).alloc (by simp; omega) _
  cases h1 : inB i 0 (B.ng - 1)
  case' true => have h2 : inB m 0 (B.nm - 1) = false := by simpa [h1] using hq
  all_goals
    clear hq
    go_enter Tryd.func7, Tryd.ntmps7
    go_wp2_with (first
      | (go_at_call 10; refine (Check_any B _ _ _ _ _ (hm.below hW0) (hg.below hW0) (by omega)).mono ?_; rintro e w1 ⟨rfl, hB1⟩; simp only [World.size_alloc] at hB1; obtain ⟨hx0, hx1, hx2, hW1⟩ := boxes3 hB1; simp only [hok])
      | (go_at_call_of 35 (Value.int .i64 (B.ng : Int)); refine (isNumber_is h1 _ (by omega) (by omega)).mono ?_; rintro e w3 ⟨rfl, rfl⟩)
      | (go_at_call_of 35 (Value.int .i64 (B.nm : Int)); refine (isNumber_is h2 _ (by omega) (by omega)).mono ?_; rintro e w3 ⟨rfl, rfl⟩))
    go_ret2
    exact ⟨rfl, hW1⟩

set_option maxRecDepth 100000 in
theorem May_no (hm : Sl w pm 3 B.nm B.mile) (hg : Sl w pg 4 B.ng B.gang) (hlm : B.nm ≤ 9223372036854775807) (hno : bookB B = false) :
    Calls Tryd.prog 12 #[.agg #[.slice pm B.nm cm, .slice pg B.ng cg, .int .i64 B.nights], .slice pp n cp] w fun e w' => e = .returned (.tuple #[.bool false, .int .i64 40]) ∧ Below w.heap.size w w' := by
  have hW : Below w.heap.size w (w.alloc (.cells #[.slice pm B.nm cm, .slice pg B.ng cg, .int .i64 B.nights] 25)) := (Below.refl _ _).alloc (Nat.le_refl _) _
  go_enter Tryd.func12, Tryd.ntmps12
  go_wp2_with (go_at_call 10; refine (Check_any B _ _ _ _ _ (hm.below hW) (hg.below hW) hlm).mono ?_; rintro e w1 ⟨rfl, hB1⟩; simp only [hno])
  go_ret2
  exact ⟨rfl, below_after hW hB1⟩
end
end Go.Proofs.YtdcgmacknccklaaDoor
