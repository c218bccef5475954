/- sound of the statements on layer 4: it is Check's answer. -/
import Derived.Test.YtdcgmacknccklaaDoorGab
import Derived.Test.YtdcgmacknccklaaDoorRef
namespace Go.Proofs.YtdcgmacknccklaaDoor
open Go Go.RowKit

theorem bookB_mile {B : Book} (hok : bookB B = true) {i : Nat} (hi : i < B.nm) : (1 ≤ B.mile i 0 ∧ B.mile i 0 ≤ B.mile i 1 ∧ B.mile i 1 ≤ 6 ∧ B.mile i 1 - B.mile i 0 ≤ 2) ∧ 0 ≤ B.mile i 2 ∧ B.mile i 2 ≤ 15 := by
  simp only [bookB, milesB, Bool.and_eq_true, decide_eq_true_eq] at hok
  have := hok.1.2.2 i hi
  simp only [mileB, spanB, inB, Bool.and_eq_true, decide_eq_true_eq] at this
  omega

theorem bookB_crew {B : Book} (hok : bookB B = true) {i : Nat} (hi : i < B.ng) : (0 ≤ B.gang i 0 ∧ B.gang i 0 ≤ B.gang i 1 ∧ B.gang i 1 < B.nm) ∧ 1 ≤ B.gang i 2 ∧ B.gang i 2 ≤ B.gang i 3 ∧ B.gang i 3 ≤ 3 ∧ B.gang i 3 - B.gang i 2 ≤ 2 := by
  simp only [bookB, gangsB, Bool.and_eq_true, decide_eq_true_eq] at hok
  have := hok.2.1.2.2 i hi
  simp only [gangB, spanB, inB, Bool.and_eq_true, decide_eq_true_eq] at this
  omega

theorem am_true {n lo hi : Int} (h : lo ≤ n ∧ n ≤ hi) : amB n lo hi = true := by simp [amB, h]

set_option maxRecDepth 100000 in
theorem sound_false (B : Book) (pm pg : Option Addr) (cm cg : Nat) (w : World) (hm : Sl w pm 3 B.nm B.mile) (hg : Sl w pg 4 B.ng B.gang) (hlm : B.nm ≤ 9223372036854775807) (hok : bookB B = false) :
    Calls Tryd.prog 23 #[.agg #[.slice pm B.nm cm, .slice pg B.ng cg, .int .i64 B.nights]] w fun e w' => e = .returned (.bool false) ∧ Below w.heap.size w w' := by
  go_enter Tryd.func23, Tryd.ntmps23
  go_wp2_with (go_at_call 10; refine (Check_any B _ _ _ _ _ (hm.alloc _) (hg.alloc _) hlm).mono ?_; rintro e w1 ⟨rfl, hB1⟩; rw [World.size_alloc] at hB1; obtain ⟨hx0, hW1⟩ := box_facts hB1; simp only [hok])
  go_loop [3, 4] (fun v i => v = .bool false ∧ i = .int .i64 0) (fun _ _ => 0)
  case atStart => exact ⟨rfl, rfl⟩
  case round =>
    obtain ⟨rfl, rfl⟩ := hrel
    go_wp2_with fail
    go_loop [3, 5] (fun v i => v = .bool false ∧ i = .int .i64 0) (fun _ _ => 0)
    case atStart => exact ⟨rfl, rfl⟩
    case round =>
      obtain ⟨rfl, rfl⟩ := hrel
      go_wp2_with fail
      go_ret
      exact ⟨rfl, hW1⟩

set_option maxRecDepth 100000 in
set_option maxHeartbeats 2000000 in
theorem sound_true (B : Book) (pm pg : Option Addr) (cm cg : Nat) (w : World) (hm : Sl w pm 3 B.nm B.mile) (hg : Sl w pg 4 B.ng B.gang) (hok : bookB B = true) :
    Calls Tryd.prog 23 #[.agg #[.slice pm B.nm cm, .slice pg B.ng cg, .int .i64 B.nights]] w fun e w' => e = .returned (.bool true) ∧ Below w.heap.size w w' := by
  have hbd := bookB_bd hok
  go_enter Tryd.func23, Tryd.ntmps23
  go_wp2_with (first
    | (go_at_call 10; refine (Check_any B _ _ _ _ _ (hm.alloc _) (hg.alloc _) (by omega)).mono ?_; rintro e w1 ⟨rfl, hB1⟩; rw [World.size_alloc] at hB1; obtain ⟨hx0, hW1⟩ := box_facts hB1; simp only [hok])
    | (go_at_call 34; refine (Amid_is (am_true (by omega)) _).mono ?_; rintro e w2 ⟨rfl, rfl⟩))
  go_loopw [3, 4] (fun v i wr => ∃ k : Nat, k ≤ B.nm ∧ i = .int .i64 k ∧ v = .bool true ∧ Below (w.heap.size + 1) (w.alloc (.cells #[.slice pm B.nm cm, .slice pg B.ng cg, .int .i64 B.nights] 25)) wr) (fun _ i _ => B.nm - (intOf i).toNat)
  case atStart => exact ⟨0, Nat.zero_le _, rfl, rfl, by assumption⟩
  case round =>
    rename_i wr
    obtain ⟨k, hk, rfl, rfl, hB⟩ := hrel
    obtain ⟨hx, hW⟩ := box_facts hB
    by_cases hlt : k < B.nm
    · obtain ⟨b, off, rfl, hb, hrow⟩ := hm.row3 hlt
      obtain ⟨hd0, hd1, hd2⟩ := hrow hW
      have Hrow := @Lib.hid _ @hrow
      clear hrow
      have hmb := bookB_mile hok hlt
      go_wp2_with (first
        | (go_at_call 44; refine (Sane_true (by omega) (by omega) (by omega) (by omega) (by omega) (by omega) _).mono ?_; rintro e w3 ⟨rfl, hB2⟩; have hB3 := box_later hB hB2; obtain ⟨hy, hWy⟩ := box_facts hB3; obtain ⟨he0, he1, he2⟩ := Hrow.out hWy)
        | (go_at_call 34; refine (Amid_is (am_true (by omega)) _).mono ?_; rintro e w4 ⟨rfl, rfl⟩))
      go_roundw
      case rel => exact ⟨k + 1, by omega, by go_num, rfl, by assumption⟩
      case measure => simp [intOf]; omega
    · obtain rfl : k = B.nm := by omega
      go_wp2_with fail
      obtain ⟨wo, rfl⟩ : ∃ wo : World, wo = wr := ⟨_, rfl⟩
      go_loopw [3, 5] (fun v i wr => ∃ k : Nat, k ≤ B.ng ∧ i = .int .i64 k ∧ v = .bool true ∧ Below (w.heap.size + 1) (w.alloc (.cells #[.slice pm B.nm cm, .slice pg B.ng cg, .int .i64 B.nights] 25)) wr) (fun _ i _ => B.ng - (intOf i).toNat)
      case atStart => exact ⟨0, Nat.zero_le _, rfl, rfl, hB⟩
      case round =>
        rename_i wr
        clear hB hx hW
        obtain ⟨k, hk, rfl, rfl, hB⟩ := hrel
        obtain ⟨hx, hW⟩ := box_facts hB
        have hsz := hB.size
        rw [World.size_alloc] at hsz
        by_cases hlt : k < B.ng
        · obtain ⟨b, off, rfl, hb, hrow⟩ := hg.row4 hlt
          obtain ⟨hd0, hd1, hd2, hd3⟩ := hrow hW
          clear hrow
          have hmb := bookB_crew hok hlt
          have hB4 := hB.alloc hsz (.cells #[.int .i64 (B.gang k 0), .int .i64 (B.gang k 1), .int .i64 (B.gang k 2), .int .i64 (B.gang k 3)] 59)
          obtain ⟨hy, hWy⟩ := box_facts hB4
          go_wp2_with (first
            | (go_at_call 44; refine (Sane_true (by omega) (by omega) (by omega) (by omega) (by omega) (by omega) _).mono ?_; rintro e w3 ⟨rfl, hB2⟩; have hB3 := box_later hB4 hB2)
            | (go_at_call 34; refine (Amid_is (am_true (by omega)) _).mono ?_; rintro e w4 ⟨rfl, rfl⟩))
          go_roundw
          case rel => exact ⟨k + 1, by omega, by go_num, rfl, by assumption⟩
          case measure => simp [intOf]; omega
        · obtain rfl : k = B.ng := by omega
          go_wp2_with fail
          go_ret
          exact ⟨rfl, hW⟩
end Go.Proofs.YtdcgmacknccklaaDoor
