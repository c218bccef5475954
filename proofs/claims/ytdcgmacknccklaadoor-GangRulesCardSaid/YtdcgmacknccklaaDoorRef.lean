/- What statements share (package macadamref00): Amid, Sane, Wrap, In, Rising, Place. Conditions: small limits. -/
import Derived.Test.YtdcgmacknccklaaDoorBase
import Derived.Test.YtdcgmacknccklaaDoorProg
import Derived.IntWalk
namespace Go.Proofs.YtdcgmacknccklaaDoor
open Go Go.RowKit

def amB (n lo hi : Int) : Bool := decide (lo ≤ n) && decide (n ≤ hi)

theorem Amid_any (n lo hi : Int) (w : World) :
    Calls Tryd.prog 34 #[.int .i64 n, .int .i64 lo, .int .i64 hi] w fun e w' => e = .returned (.bool (amB n lo hi)) ∧ w' = w := by
  go_enter Tryd.func34, Tryd.ntmps34
  go_wp2
  all_goals
    go_ret
    refine ⟨ret_bool ?_, rfl⟩
    simp [amB, *] <;> omega

theorem Amid_is {n lo hi : Int} {v : Bool} (h : amB n lo hi = v) (w : World) :
    Calls Tryd.prog 34 #[.int .i64 n, .int .i64 lo, .int .i64 hi] w fun e w' => e = .returned (.bool v) ∧ w' = w := h ▸ Amid_any n lo hi w

theorem Sane_true {lo hi first last wide : Int} (h0 : -1000 ≤ first) (h1 : first ≤ lo) (h2 : lo ≤ hi) (h3 : hi ≤ last) (h4 : last ≤ 100000) (h5 : hi - lo ≤ wide) (w : World) :
    Calls Tryd.prog 44 #[.agg #[.int .i64 lo, .int .i64 hi], .int .i64 first, .int .i64 last, .int .i64 wide] w fun e w' => e = .returned (.bool true) ∧ Below w.heap.size w w' := by
  go_enter Tryd.func44, Tryd.ntmps44
  go_wp2
  all_goals
    go_ret
    first
      | exact ⟨ret_bool (by simp <;> omega), (Below.refl _ _).alloc (Nat.le_refl _) _⟩
      | exact ⟨rfl, (Below.refl _ _).alloc (Nat.le_refl _) _⟩
      | omega

theorem tmod_bd (n m : Int) (hm : 0 < m) : -m < n.tmod m ∧ n.tmod m < m ∧ (if n.tmod m < 0 then n.tmod m + m else n.tmod m) = n % m := by
  have h1 := Int.tmod_lt_of_pos n hm
  have h2 := Int.lt_tmod_of_pos n hm
  have h3 := Int.emod_nonneg n (show m ≠ 0 by omega)
  have h4 := Int.emod_lt_of_pos n hm
  have h5 := @Int.tmod_eq_emod n m
  refine ⟨h2, h1, ?_⟩
  split at h5 <;> split <;> omega

theorem Wrap_any (n m : Int) (hm : 1 ≤ m) (hm2 : m ≤ 1000) (w : World) :
    Calls Tryd.prog 24 #[.int .i64 n, .int .i64 m] w fun e w' => e = .returned (.int .i64 (n % m)) ∧ w' = w := by
  have hb := tmod_bd n m (by omega)
  go_enter Tryd.func24, Tryd.ntmps24
  go_wp2
  all_goals
    go_ret
    first
      | exact ⟨ret_int (by have := hb.2.2; split at this <;> omega), rfl⟩
      | omega

def bitR (x n : Int) : Int := bits BinOp.and IntKind.i64 (x / 2 ^ n.toNat) 1

theorem In_any (x n : Int) (_hx : 0 ≤ x) (h0 : 0 ≤ n) (h1 : n ≤ 63) (w : World) :
    Calls Tryd.prog 68 #[.int .i64 x, .int .i64 n] w fun e w' => e = .returned (.bool (bitR x n == 1)) ∧ w' = w := by
  go_enter Tryd.func68, Tryd.ntmps68
  go_wp2
  go_ret
  exact ⟨ret_bool (by simp [bitR]), rfl⟩

/-- What stands before the place k of a list (-1 before the first one). -/
def lastL (g : Nat → Nat → Int) : Nat → Int
  | 0 => -1
  | k + 1 => g k 0

def risB (n : Nat) (g : Nat → Nat → Int) (below : Int) : Bool := decide (∀ i, i < n → lastL g i < g i 0 ∧ g i 0 < below)

theorem Rising_any (p : Option Addr) (n cap : Nat) (g : Nat → Nat → Int) (below : Int) (w : World) (hs : Sl w p 1 n g) (hn : n ≤ 9223372036854775807) :
    Calls Tryd.prog 27 #[.slice p n cap, .int .i64 below] w fun e w' => e = .returned (.bool (risB n g below)) ∧ w' = w := by
  go_enter Tryd.func27, Tryd.ntmps27
  go_wp2
  go_loop [5, 6] (fun l i => ∃ k : Nat, k ≤ n ∧ i = .int .i64 k ∧ l = .int .i64 (lastL g k) ∧ ∀ i, i < k → lastL g i < g i 0 ∧ g i 0 < below) (fun _ i => n - (intOf i).toNat)
  case atStart => exact ⟨0, Nat.zero_le _, rfl, rfl, by omega⟩
  case round =>
    obtain ⟨k, hk, rfl, rfl, hall⟩ := hrel
    have Hall := Lib.hid hall
    clear hall
    by_cases hlt : k < n
    · obtain ⟨b, off, rfl, hb, hc⟩ := hs (by omega)
      have hd0 := hc k hlt 0 (by omega)
      simp only [Nat.mul_one, Nat.add_zero] at hd0
      have Hc := Lib.hid hc
      clear hc
      by_cases h1 : lastL g k < g k 0
      · by_cases h2 : g k 0 < below
        · go_wp2
          go_round
          case rel => exact ⟨k + 1, by omega, by go_num, rfl, fun j hj => by rcases Nat.lt_succ_iff_lt_or_eq.1 hj with h | rfl; exact Hall.out j h; exact ⟨h1, h2⟩⟩
          case measure => simp [intOf]; omega
        · go_wp2
          go_ret
          exact ⟨ret_bool (by simp only [risB]; symm; simp only [decide_eq_false_iff_not]; intro hh; have := hh k hlt; omega), rfl⟩
      · go_wp2
        go_ret
        exact ⟨ret_bool (by simp only [risB]; symm; simp only [decide_eq_false_iff_not]; intro hh; have := hh k hlt; omega), rfl⟩
    · obtain rfl : k = n := by omega
      go_wp2
      go_ret
      exact ⟨ret_bool (by simp only [risB]; symm; simp only [decide_eq_true_eq]; exact Hall.out), rfl⟩

/-- The first place of a number from k on, among so many (-1: none). -/
def plL (g : Nat → Nat → Int) (x : Int) : Nat → Nat → Int
  | _, 0 => -1
  | k, n + 1 => if g k 0 = x then (k : Int) else plL g x (k + 1) n

theorem plL_iff (g : Nat → Nat → Int) (x : Int) (n : Nat) : ∀ k, 0 ≤ plL g x k n ↔ ∃ i, k ≤ i ∧ i < k + n ∧ g i 0 = x := by
  induction n with
  | zero => intro k; simp only [plL]; constructor
            · intro h; omega
            · rintro ⟨i, h1, h2, _⟩; omega
  | succ n ih =>
    intro k
    simp only [plL]
    by_cases h : g k 0 = x
    · rw [if_pos h]
      exact ⟨fun _ => ⟨k, by omega, by omega, h⟩, fun _ => by omega⟩
    · rw [if_neg h, ih]
      constructor
      · rintro ⟨i, h1, h2, h3⟩; exact ⟨i, by omega, by omega, h3⟩
      · rintro ⟨i, h1, h2, h3⟩
        exact ⟨i, by rcases Nat.lt_or_ge k i with h4 | h4; omega; exact absurd ((show i = k by omega) ▸ h3) h, by omega, h3⟩

theorem Place_any (p : Option Addr) (n cap : Nat) (g : Nat → Nat → Int) (x : Int) (w : World) (hs : Sl w p 1 n g) (hn : n ≤ 9223372036854775807) :
    Calls Tryd.prog 28 #[.slice p n cap, .int .i64 x] w fun e w' => e = .returned (.int .i64 (plL g x 0 n)) ∧ w' = w := by
  go_enter Tryd.func28, Tryd.ntmps28
  go_wp2
  go_loop [5] (fun i => ∃ k : Nat, k ≤ n ∧ i = .int .i64 k ∧ plL g x 0 n = plL g x k (n - k)) (fun i => n - (intOf i).toNat)
  case atStart => exact ⟨0, Nat.zero_le _, rfl, rfl⟩
  case round =>
    obtain ⟨k, hk, rfl, ho⟩ := hrel
    by_cases hlt : k < n
    · obtain ⟨b, off, rfl, hb, hc⟩ := hs (by omega)
      have hd0 := hc k hlt 0 (by omega)
      simp only [Nat.mul_one, Nat.add_zero] at hd0
      rw [show n - k = (n - (k + 1)) + 1 by omega, plL] at ho
      have Ho := Lib.hid ho
      have Hc := Lib.hid hc
      clear ho hc
      by_cases h0 : g k 0 = x
      · have H0 := Lib.hid h0
        go_wp2
        go_ret
        exact ⟨ret_int (by rw [Ho.out, if_pos H0.out]), rfl⟩
      · have H0 := Lib.hid h0
        go_wp2
        go_round
        case rel => exact ⟨k + 1, by omega, by go_num, by rw [Ho.out, if_neg H0.out]⟩
        case measure => simp [intOf]; omega
    · obtain rfl : k = n := by omega
      have Ho := Lib.hid ho
      clear ho
      go_wp2
      go_ret
      exact ⟨ret_int (by rw [Ho.out]; simp [plL]), rfl⟩
end Go.Proofs.YtdcgmacknccklaaDoor
