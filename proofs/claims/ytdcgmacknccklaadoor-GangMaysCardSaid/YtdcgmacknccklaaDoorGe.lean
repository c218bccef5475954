/- at, Compare, Or and isBehind of package gang. -/
import Derived.Test.YtdcgmacknccklaaDoorGb
import Derived.Deep.RegionHeld3
import Derived.Laws.Rows
import Derived.Deep.DeepCutAuto
namespace Go.Proofs.YtdcgmacknccklaaDoor
open Go Go.RowKit

theorem at_any (n g m : Int) (w : World) :
    Calls Tryd.prog 78 #[.agg #[.int .i64 n, .int .i64 g, .int .i64 m]] w fun e w' => e = .returned (.agg #[.int .i64 n, .int .i64 m]) ∧ Below w.heap.size w w' := by
  go_enter Tryd.func78, Tryd.ntmps78
  go_wp2
  (try simp only [Exit.inBlock, Exit.then])
  refine bodyPost_ret (results_cell_row rfl _ _ (w.heap.size + 1) 73 #[.int .i64 n, .int .i64 m] (0, 0) _ rfl ?_ Tryd.underlying73 rfl (by kernel_rfl)) rfl ?_
  · exact heap_alloc2_new w _ _
  exact ⟨rfl, ((Below.refl _ _).alloc (Nat.le_refl _) _).alloc (by simp) _⟩

def cmpZ (x y : Int) : Int := if x < y then -1 else if y < x then 1 else 0

theorem isNaN_any (x : Int) (w : World) : Calls Tryd.prog 118 #[.int .i64 x] w fun e w' => e = .returned (.bool false) ∧ w' = w := by
  go_enter Tryd.func118, Tryd.ntmps118
  go_wp2
  go_ret
  exact ⟨ret_bool (by simp), rfl⟩

theorem Compare_any (x y : Int) (w : World) : Calls Tryd.prog 106 #[.int .i64 x, .int .i64 y] w fun e w' => e = .returned (.int .i64 (cmpZ x y)) ∧ w' = w := by
  go_enter Tryd.func106, Tryd.ntmps106
  go_wp2_with (go_at_call 118; refine (isNaN_any _ _).mono ?_; rintro e w2 ⟨rfl, rfl⟩)
  all_goals
    go_ret
    refine ⟨ret_int ?_, rfl⟩
    simp [cmpZ, *] <;> omega

/-- The first that is not 0, from k on among so many. -/
def orL (g : Nat → Int) : Nat → Nat → Int
  | _, 0 => 0
  | k, n + 1 => if g k = 0 then orL g (k + 1) n else g k

theorem Or_any (p : Option Addr) (n cap : Nat) (g : Nat → Nat → Int) (w : World) (hs : Sl w p 1 n g) (hn : n ≤ 1000) :
    Calls Tryd.prog 105 #[.slice p n cap] w fun e w' => e = .returned (.int .i64 (orL (fun i => g i 0) 0 n)) ∧ w' = w := by
  go_enter Tryd.func105, Tryd.ntmps105
  go_wp2
  go_loop [8] (fun i => ∃ k : Nat, k ≤ n ∧ i = .int .i64 k ∧ orL (fun i => g i 0) 0 n = orL (fun i => g i 0) k (n - k)) (fun i => n - (intOf i).toNat)
  case atStart => exact ⟨0, Nat.zero_le _, rfl, rfl⟩
  case round =>
    obtain ⟨k, hk, rfl, ho⟩ := hrel
    by_cases hlt : k < n
    · obtain ⟨b, off, rfl, hb, hc⟩ := hs (by omega)
      have hd0 := hc k hlt 0 (by omega)
      simp only [Nat.mul_one, Nat.add_zero] at hd0
      rw [show n - k = (n - (k + 1)) + 1 by omega, orL] at ho
      have Hc := Lib.hid hc
      have Ho := Lib.hid ho
      clear hc ho
      by_cases h0 : g k 0 = 0
      · have H0 := Lib.hid h0
        go_wp2
        go_round
        case rel => exact ⟨k + 1, by omega, by go_num, by rw [Ho.out, if_pos H0.out]⟩
        case measure => simp [intOf]; omega
      · have H0 := Lib.hid h0
        go_wp2
        go_ret
        exact ⟨ret_int (by rw [Ho.out, if_neg H0.out]), rfl⟩
    · obtain rfl : k = n := by omega
      have Ho := Lib.hid ho
      clear ho
      go_wp2
      go_ret
      exact ⟨ret_int (by rw [Ho.out]; simp [orL]), rfl⟩

def or2 (x y : Int) : Int := if x = 0 then y else x
def behB (x y : Nat → Int) : Bool := decide (0 < or2 (cmpZ (x 0) (y 0)) (cmpZ (x 1) (y 1)))

theorem sl_two {w : World} {b : Nat} {x y : Int} (h0 : w.cell? ⟨b, 0, none⟩ = some (.int .i64 x)) (h1 : w.cell? ⟨b, 1, none⟩ = some (.int .i64 y)) : Sl w (some ⟨b, 0, none⟩) 1 2 (fun i _ => [x, y].getD i 0) := by
  refine fun _ => ⟨_, 0, rfl, World.block_lt_of_cell? w _ h0, fun i hi j hj => ?_⟩
  obtain rfl : j = 0 := by omega
  obtain rfl | rfl : i = 0 ∨ i = 1 := by omega
  · exact h0
  · exact h1

theorem Or2_any (b : Nat) (x y : Int) (w : World) (h0 : w.cell? ⟨b, 0, none⟩ = some (.int .i64 x)) (h1 : w.cell? ⟨b, 1, none⟩ = some (.int .i64 y)) :
    Calls Tryd.prog 105 #[.slice (some ⟨b, 0, none⟩) 2 2] w fun e w' => e = .returned (.int .i64 (or2 x y)) ∧ w' = w := by
  refine (Or_any _ 2 2 _ w (sl_two h0 h1) (by omega)).mono ?_
  rintro e w' ⟨rfl, rfl⟩
  refine ⟨ret_int ?_, rfl⟩
  simp only [or2, orL, List.getD_cons_zero, List.getD_cons_succ]
  split
  · split <;> simp_all
  · rfl

theorem new2 (w : World) (c : Array Value) (T : TypeId) (b : Nat) (hb : b = w.heap.size) (j : Nat) : (w.alloc (.cells c T)).cell? ⟨b, j, none⟩ = c[j]? := by
  rw [World.cell?_alloc_at _ _ _ _ hb]

set_option maxRecDepth 100000 in
theorem isBehind_any (x y : Nat → Int) (w : World) :
    Calls Tryd.prog 92 #[.agg #[.int .i64 (x 0), .int .i64 (x 1), .int .i64 (x 2)], .agg #[.int .i64 (y 0), .int .i64 (y 1), .int .i64 (y 2)]] w fun e w' => e = .returned (.bool (behB x y)) ∧ Below w.heap.size w w' := by
  have hW : Below w.heap.size w ((w.alloc (.cells #[.int .i64 (x 0), .int .i64 (x 1), .int .i64 (x 2)] 54)).alloc (.cells #[.int .i64 (y 0), .int .i64 (y 1), .int .i64 (y 2)] 54)) :=
    ((Below.refl _ _).alloc (Nat.le_refl _) _).alloc (by simp) _
  go_enter Tryd.func92, Tryd.ntmps92
  go_wp2_with fail
  go_region_held3 (fun w' => w'.cell? ⟨w.heap.size, 0, none⟩ = some (.int .i64 (x 0)) ∧ w'.cell? ⟨w.heap.size, 1, none⟩ = some (.int .i64 (x 1)) ∧ w'.cell? ⟨w.heap.size + 1, 0, none⟩ = some (.int .i64 (y 0)) ∧ w'.cell? ⟨w.heap.size + 1, 1, none⟩ = some (.int .i64 (y 1)))
    (go_keep)
    (first | (go_at_call 106; refine (Compare_any _ _ _).mono ?_; rintro e w2 ⟨rfl, rfl⟩) | (go_at_call 105; refine (Or2_any _ (cmpZ (x 0) (y 0)) (cmpZ (x 1) (y 1)) _ ?_ ?_).mono ?_; (rw [World.cell?_drew, new2 (hb := by simp)]; rfl); (rw [World.cell?_drew, new2 (hb := by simp)]; rfl); rintro e w2 ⟨rfl, rfl⟩))
  all_goals
    (try go_wp2)
    go_ret
    refine ⟨ret_bool ?_, ?_⟩
    · simp [behB]
    · repeat (first | exact hW | (refine Below.drew ?_) | (refine Below.alloc ?_ (by simp <;> omega) _))
end Go.Proofs.YtdcgmacknccklaaDoor
