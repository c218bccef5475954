/- Done, Mended and Open of package gang. -/
import Derived.Test.YtdcgmacknccklaaDoorDa
namespace Go.Proofs.YtdcgmacknccklaaDoor
open Go Go.RowKit

section
variable (B : Book) (pm pg pp : Option Addr) (cm cg cp n : Nat) (w : World)

set_option maxRecDepth 100000 in
theorem Mended_no (c : Int) (hr : ∀ W, Below w.heap.size w W → Calls Tryd.prog 47 #[.agg #[.slice pm B.nm cm, .slice pg B.ng cg, .int .i64 B.nights], .slice pp n cp, .bool true] W (NoPlan c W)) (hc : (c == 0) = false) :
    Calls Tryd.prog 19 #[.agg #[.slice pm B.nm cm, .slice pg B.ng cg, .int .i64 B.nights], .slice pp n cp] w fun e w' => e = .returned (.tuple #[.slice none 0 0, .int .i64 c]) ∧ Below w.heap.size w w' := by
  have hW : Below w.heap.size w (w.alloc (.cells #[.slice pm B.nm cm, .slice pg B.ng cg, .int .i64 B.nights] 25)) := belowAlloc (Below.refl _ _) _
  have hr := Lib.hid hr
  go_enter Tryd.func19, Tryd.ntmps19
  go_wp2_with (go_at_call 47; refine (hr.out _ hW).mono ?_; rintro e w5 ⟨rfl, hB5⟩)
  go_ret2
  exact ⟨rfl, belowAlloc (below_after hW hB5) _⟩

set_option maxRecDepth 100000 in
theorem Open_no (c : Int) (hr : ∀ W, Below w.heap.size w W → Calls Tryd.prog 47 #[.agg #[.slice pm B.nm cm, .slice pg B.ng cg, .int .i64 B.nights], .slice pp n cp, .bool true] W (NoPlan c W)) (hc : (c == 0) = false) :
    Calls Tryd.prog 21 #[.agg #[.slice pm B.nm cm, .slice pg B.ng cg, .int .i64 B.nights], .slice pp n cp] w fun e w' => e = .returned (.tuple #[.int .i64 0, .int .i64 c]) ∧ Below w.heap.size w w' := by
  have hW : Below w.heap.size w (w.alloc (.cells #[.slice pm B.nm cm, .slice pg B.ng cg, .int .i64 B.nights] 25)) := belowAlloc (Below.refl _ _) _
  have hr := Lib.hid hr
  go_enter Tryd.func21, Tryd.ntmps21
  go_wp2_with (go_at_call 47; refine (hr.out _ hW).mono ?_; rintro e w5 ⟨rfl, hB5⟩)
  go_ret2
  exact ⟨rfl, belowAlloc (below_after hW hB5) _⟩

set_option maxRecDepth 100000 in
theorem Mended_plan (g : Nat → Nat → Int) (hm : Sl w pm 3 B.nm B.mile) (hok : bookB B = true) (hr : ∀ W, Below w.heap.size w W → Calls Tryd.prog 47 #[.agg #[.slice pm B.nm cm, .slice pg B.ng cg, .int .i64 B.nights], .slice pp n cp, .bool true] W (ReadIs B pm pg cm cg n W g)) :
    Calls Tryd.prog 19 #[.agg #[.slice pm B.nm cm, .slice pg B.ng cg, .int .i64 B.nights], .slice pp n cp] w (MadeIs (mdB B fun m => doneF B 0 g m n) B.nm w) := by
  have hW : Below w.heap.size w (w.alloc (.cells #[.slice pm B.nm cm, .slice pg B.ng cg, .int .i64 B.nights] 25)) := belowAlloc (Below.refl _ _) _
  have hr := Lib.hid hr
  go_enter Tryd.func19, Tryd.ntmps19
  go_wp2_with (first
    | (go_at_call 47; refine (hr.out _ hW).mono ?_; rintro e w5 ⟨bb, bm, A, cp2, rfl, p0, p1, p2, p3, p4, p5, p6, hB5⟩; clear p6; have p3 := Lib.hid p3; have p4 := Lib.hid p4; have p5 := Lib.hid p5; have hW5 := below_after hW hB5)
    | (go_at_call 64; refine (mended_any B pm pg A cm cg bb bm n cp2 (fun m => doneF B 0 g m n) _ (p0.below (belowAlloc (Below.refl _ _) _)) (hm.below (belowAlloc hW5 _)) hok).mono ?_; rintro e w6 ⟨p, cap, rfl, hS, hB6⟩))
  go_ret2
  exact ⟨p, cap, rfl, hS, below_after (belowAlloc hW5 _) hB6⟩

/-- The first mile that may not be mended. -/
def openN (B : Book) (d : Nat → Int) : Int := (K (fun k => !mdB B d k) B.nm).getD 0 0
def openE (B : Book) (d : Nat → Int) : Int := bif (K (fun k => !mdB B d k) B.nm).length == 0 then 4 else 0

set_option maxRecDepth 100000 in
theorem Open_plan (g : Nat → Nat → Int) (hm : Sl w pm 3 B.nm B.mile) (hok : bookB B = true) (hr : ∀ W, Below w.heap.size w W → Calls Tryd.prog 47 #[.agg #[.slice pm B.nm cm, .slice pg B.ng cg, .int .i64 B.nights], .slice pp n cp, .bool true] W (ReadIs B pm pg cm cg n W g)) :
    Calls Tryd.prog 21 #[.agg #[.slice pm B.nm cm, .slice pg B.ng cg, .int .i64 B.nights], .slice pp n cp] w fun e w' => e = .returned (.tuple #[.int .i64 (openN B fun m => doneF B 0 g m n), .int .i64 (openE B fun m => doneF B 0 g m n)]) ∧ Below w.heap.size w w' := by
  have hbd := bookB_bd hok
  have hle := K_le (fun k => !mdB B (fun m : Nat => doneF B 0 g m n) k) B.nm
  have hW : Below w.heap.size w (w.alloc (.cells #[.slice pm B.nm cm, .slice pg B.ng cg, .int .i64 B.nights] 25)) := belowAlloc (Below.refl _ _) _
  have hr := Lib.hid hr
  unfold openN openE
  go_enter Tryd.func21, Tryd.ntmps21
  go_wp2_with (first
    | (go_at_call 47; refine (hr.out _ hW).mono ?_; rintro e w5 ⟨bb, bm, A, cp2, rfl, p0, p1, p2, p3, p4, p5, p6, hB5⟩; clear p6; have p3 := Lib.hid p3; have p4 := Lib.hid p4; have p5 := Lib.hid p5; have hW5 := below_after hW hB5)
    | (go_at_call 67; refine (open_any B pm pg A cm cg bb bm n cp2 (fun m => doneF B 0 g m n) _ (p0.below (belowAlloc (Below.refl _ _) _)) (hm.below (belowAlloc hW5 _)) hok).mono ?_; rintro e w6 ⟨p, cap, rfl, hS, hB6⟩; have hS := Lib.hid hS)
    | (go_at_call 66; refine (firstOf_any _ _ _ _ hS.out (by omega)).mono ?_; rintro e w7 ⟨rfl, hB7⟩))
  go_ret2
  exact ⟨rfl, below_after (below_after (belowAlloc hW5 _) hB6) hB7⟩
end
end Go.Proofs.YtdcgmacknccklaaDoor
