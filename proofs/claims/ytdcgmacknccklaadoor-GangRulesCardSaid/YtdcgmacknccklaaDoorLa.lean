/- shut and lawful of the statements on layer 4: the miles of a night's works; works in order. -/
import Derived.Test.YtdcgmacknccklaaDoorGcd
import Derived.Test.YtdcgmacknccklaaDoorRef
namespace Go.Proofs.YtdcgmacknccklaaDoor
open Go Go.RowKit

/-- The miles of a night's works, in their order. -/
def shL (g : Nat → Nat → Int) (night : Int) : Nat → List Int
  | 0 => []
  | n + 1 => if g n 0 = night then shL g night n ++ [g n 2] else shL g night n

theorem shL_hit {g : Nat → Nat → Int} {night : Int} {n : Nat} (h : g n 0 = night) : shL g night (n + 1) = shL g night n ++ [g n 2] := by simp [shL, h]
theorem shL_miss {g : Nat → Nat → Int} {night : Int} {n : Nat} (h : ¬ g n 0 = night) : shL g night (n + 1) = shL g night n := by simp [shL, h]
theorem shL_le (g : Nat → Nat → Int) (night : Int) : ∀ n, (shL g night n).length ≤ n
  | 0 => by simp [shL]
  | n + 1 => by
    have := shL_le g night n
    simp only [shL]
    split
    · simp; omega
    · omega

set_option maxRecDepth 100000 in
set_option maxHeartbeats 1000000 in
theorem shut_any (pp : Option Addr) (n cp : Nat) (g : Nat → Nat → Int) (night : Int) (w : World) (hp : Sl w pp 3 n g) (hn : n ≤ 1000) :
    Calls Tryd.prog 26 #[.slice pp n cp, .int .i64 night] w fun e w' => ∃ p cap, e = .returned (.slice p (shL g night n).length cap) ∧ Sl w' p 1 (shL g night n).length (fun i _ => (shL g night n).getD i 0) ∧ Below w.heap.size w w' := by
  obtain ⟨i0, hi0, hz0, hz1, hz2⟩ := info_parts info3
  go_enter Tryd.func26, Tryd.ntmps26
  go_wp2_with fail
  go_loopw [5, 6] (fun v i wr => ∃ k : Nat, k ≤ n ∧ i = .int .i64 k ∧ wr.ownsRow w.heap.size 3 1 v (shL g night k).length ((shL g night k).map (Value.int .i64)) ∧ Below w.heap.size w wr) (fun _ i _ => n - (intOf i).toNat)
  case atStart =>
    refine ⟨0, Nat.zero_le _, rfl, ?_, (Below.refl _ _).alloc (Nat.le_refl _) _⟩
    have e0 : shL g night 0 = [] := rfl
    rw [e0]
    exact World.ownsRow_made w #[] 0 (Nat.le_refl _) (by unfold maxLen; omega) rfl
  case round =>
    rename_i wr
    obtain ⟨k, hk, rfl, hown, hB⟩ := hrel
    have hsz := hB.size
    have hle := shL_le g night k
    by_cases hlt : k < n
    · obtain ⟨b, off, rfl, hb, hrow⟩ := hp.row3 hlt
      obtain ⟨hd0, hd1, hd2⟩ := hrow hB
      clear hrow
      cases hni : (g k 0 == night)
      · have hne : ¬ g k 0 = night := by simpa using hni
        have Hne := Lib.hid hne
        clear hne
        go_wp2_with fail
        go_roundw
        case rel => exact ⟨k + 1, by omega, by go_num, by rw [shL_miss Hne.out]; exact hown, hB⟩
        case measure => simp [intOf]; omega
      · have heq : g k 0 = night := by simpa using hni
        have Heq := Lib.hid heq
        clear heq
        go_wp2_with (at_builtin; refine wpList_append_own _ rfl _ _ 28 rfl w.heap.size 3 i0 (.int .i64 0) 1 8 Tryd.underlying28 hi0 hz0 hz1 hz2 rfl (by decide) _ _ _ rfl (hown.alloc _) ⟨wr.heap.size, 0, none⟩ 1 1 [.int .i64 (g k 2)] rfl rfl ?c1 ?c2 ?c3 ?c4 ?c5 ?_)
        case c1 =>
          intro j u hj
          match j, hj with
          | 0, hj => simp at hj; subst hj; simp [Addr.add]
        case c2 => intro u hu; simp at hu; subst hu; rfl
        case c3 => unfold maxLen; omega
        case c4 => omega
        case c5 => simp; omega
        intro v' w1 hown' hgrow _
        have hB3 : Below w.heap.size w w1 := (hB.alloc (by omega) _).grown hgrow (by simp; omega) (fun j hj => by have := (hown.lt j hj).1; omega)
        clear hgrow
        go_wp2
        go_roundw
        case rel => exact ⟨k + 1, by omega, by go_num, by rw [shL_hit Heq.out]; simpa using hown', hB3⟩
        case measure => simp [intOf]; omega
    · obtain rfl : k = n := by omega
      rcases hown.2 with ⟨rfl, h0⟩ | ⟨g0, cap, cur, rfl, h1, h2, h3, h4, h5⟩
      · have e0 : shL g night k = [] := List.eq_nil_of_length_eq_zero h0
        go_wp2_with fail
        go_ret
        exact ⟨none, 0, by rw [e0]; rfl, fun h => absurd h (by omega), hB⟩
      · have hS := sl_of_owns hown
        have h4' := h4
        unfold maxLen at h4'
        go_wp2_with fail
        go_ret
        exact ⟨_, _, rfl, hS, hB⟩

/-- A work's place among all nights and gangs; that of the work before it (-1: none). -/
def atI (x : Nat → Int) : Int := x 0 * 2 + x 1
def lastA (g : Nat → Nat → Int) : Nat → Int
  | 0 => -1
  | k + 1 => atI (g k)

/-- Is a work in order by itself, as the statement looks at it? -/
def lawW (B : Book) (x : Nat → Int) (last : Int) : Bool :=
  inB (x 0) 0 (B.nights - 1) && (inB (x 1) 0 (B.ng - 1) && (inB (x 2) 0 (B.nm - 1) && (!decide (atI x ≤ last) && (!decide (x 2 < B.gang (x 1).toNat 0) && (!decide (B.gang (x 1).toNat 1 < x 2) && !(bitR (B.mile (x 2).toNat 2) (x 0) == 1))))))

/-- Are all pairs of a list's numbers far from each other? -/
def farP (l : List Int) : Prop := ∀ a, a < l.length → ∀ b, b < a → amB (l.getD a 0 - l.getD b 0) (-1) 1 = false

def lawB (B : Book) (n : Nat) (g : Nat → Nat → Int) : Prop := (∀ i, i < n → lawW B (g i) (lastA g i) = true) ∧ ∀ m : Nat, (m : Int) < B.nights → farP (shL g m n)
end Go.Proofs.YtdcgmacknccklaaDoor
