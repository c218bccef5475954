/- The reference of layer 4: can, isPlan. -/
import Derived.Test.YtdcgmacknccklaaDoorRf
import Derived.Test.YtdcgmacknccklaaDoorGq
namespace Go.Proofs.YtdcgmacknccklaaDoor
open Go Go.RowKit

/-- The reference's word: can a gang work at a mile on a night? -/
theorem canB_ref {B : Book} (hok : bookB B = true) {i : Nat} (hi : i < B.ng) {m n : Int} (hn0 : 0 ≤ n) (hn1 : n ≤ 3) {a b : Bool} (ha : amB m (B.gang i 0) (B.gang i 1) = a) (hb : a = true → (bitR (B.mile m.toNat 2) n == 1) = b) : canB B i m n = (a && !b) := by
  have hgb := bookB_gang hok hi
  have e : canB B i m n = (amB m (B.gang i 0) (B.gang i 1) && (bitR (B.mile m.toNat 2) n == 0)) := rfl
  rw [e, ha]
  cases a
  · rfl
  · have hm : 0 ≤ m ∧ m < B.nm := by simp only [amB, Bool.and_eq_true, decide_eq_true_eq] at ha; omega
    have hmb := bookB_mails hok (i := m.toNat) (by omega)
    have h := hb rfl
    rcases bit_or hmb.1 hmb.2 hn0 hn1 with h1 | h1
    · rw [h1] at h ⊢; subst h; rfl
    · rw [h1] at h ⊢; subst h; rfl

set_option maxRecDepth 100000 in
set_option maxHeartbeats 1000000 in
theorem rcan_any (B : Book) (pm pg : Option Addr) (cm cg : Nat) (w : World) (hm : Sl w pm 3 B.nm B.mile) (hg : Sl w pg 4 B.ng B.gang) (hok : bookB B = true)
    (iv mv : Int) (i m : Nat) (hiv : iv = i) (hi : i < B.ng) (hmv : mv = m) (hmi : m < B.nm) (n : Int) (hn0 : 0 ≤ n) (hn1 : n ≤ 3) :
    Calls Tryd.prog 42 #[.agg #[.slice pm B.nm cm, .slice pg B.ng cg, .int .i64 B.nights], .int .i64 iv, .int .i64 mv, .int .i64 n] w fun e w' => e = .returned (.bool (canB B i m n)) ∧ Below w.heap.size w w' := by
  subst hiv hmv
  have hW : Below w.heap.size w (w.alloc (.cells #[.slice pm B.nm cm, .slice pg B.ng cg, .int .i64 B.nights] 25)) := belowAlloc (Below.refl _ _) _
  obtain ⟨b4, off4, rfl, hb4, hrow4⟩ := hg.row4 hi
  obtain ⟨b3, off3, rfl, hb3, hrow3⟩ := hm.row3 hmi
  obtain ⟨g0, g1, g2, g3⟩ := hrow4 hW
  obtain ⟨m0, m1, m2⟩ := hrow3 hW
  clear hrow3 hrow4
  have hmb := bookB_mails hok hmi
  cases ha : amB m (B.gang i 0) (B.gang i 1)
  · have hc := Lib.hid (canB_ref hok hi (b := true) hn0 hn1 ha (fun h => by cases h))
    go_enter Tryd.func42, Tryd.ntmps42
    go_wp2_with fail
    go_quiet ((go_at_call 34; exact Calls.quiet_of_same (Amid_is ha _)))
    go_wp2
    go_ret
    exact ⟨ret_bool (by rw [hc.out]; rfl), belowDrewN hW _⟩
  · cases hb : (bitR (B.mile m 2) n == 1)
    all_goals
      have hc := Lib.hid (canB_ref hok hi hn0 hn1 ha (fun _ => hb))
      go_enter Tryd.func42, Tryd.ntmps42
      go_wp2_with fail
      go_quiet ((first | (go_at_call 34; exact Calls.quiet_of_same (Amid_is ha _)) | (go_at_call 68; exact Calls.quiet_of_same (In_is hb hmb.1 hn0 (by omega) _))))
      go_wp2
      go_ret
      exact ⟨ret_bool (by rw [hc.out]; rfl), belowDrewN hW _⟩
end Go.Proofs.YtdcgmacknccklaaDoor
