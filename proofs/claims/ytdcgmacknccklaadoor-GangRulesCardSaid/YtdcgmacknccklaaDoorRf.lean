/- The reference of layer 4 (package macadamref04): Check, isMile, isGang, isNight, can answer what the book says. -/
import Derived.Test.YtdcgmacknccklaaDoorGs
import Derived.Test.YtdcgmacknccklaaDoorGhm
import Derived.Test.YtdcgmacknccklaaDoorGj
namespace Go.Proofs.YtdcgmacknccklaaDoor
open Go Go.RowKit

def saneB (lo hi first last wide : Int) : Bool := decide (first ≤ lo) && (decide (lo ≤ hi) && (decide (hi ≤ last) && decide (hi - lo ≤ wide)))

theorem Sane_any (lo hi first last wide : Int) (h0 : -1000 ≤ first) (h4 : last ≤ 100000) (w : World) :
    Calls Tryd.prog 44 #[.agg #[.int .i64 lo, .int .i64 hi], .int .i64 first, .int .i64 last, .int .i64 wide] w fun e w' => e = .returned (.bool (saneB lo hi first last wide)) ∧ Below w.heap.size w w' := by
  by_cases h1 : first ≤ lo
  · by_cases h2 : lo ≤ hi
    · by_cases h3 : hi ≤ last
      · go_enter Tryd.func44, Tryd.ntmps44
        go_wp2
        all_goals
          go_ret
          exact ⟨ret_bool (by simp [saneB, h1, h2, h3] <;> omega), (Below.refl _ _).alloc (Nat.le_refl _) _⟩
      · go_enter Tryd.func44, Tryd.ntmps44
        go_wp2
        all_goals
          go_ret
          exact ⟨ret_bool (by simp [saneB, h1, h2, h3] <;> omega), (Below.refl _ _).alloc (Nat.le_refl _) _⟩
    · go_enter Tryd.func44, Tryd.ntmps44
      go_wp2
      all_goals
        go_ret
        exact ⟨ret_bool (by simp [saneB, h1, h2] <;> omega), (Below.refl _ _).alloc (Nat.le_refl _) _⟩
  · go_enter Tryd.func44, Tryd.ntmps44
    go_wp2
    all_goals
      go_ret
      exact ⟨ret_bool (by simp [saneB, h1] <;> omega), (Below.refl _ _).alloc (Nat.le_refl _) _⟩

theorem saneB_span {lo hi most : Int} : saneB lo hi 1 most 2 = spanB lo hi most := by
  rw [Bool.eq_iff_iff]
  simp only [saneB, spanB, inB, Bool.and_eq_true, decide_eq_true_eq]
  omega

theorem Sane_is {lo hi most : Int} {v : Bool} (h : spanB lo hi most = v) (hm : most ≤ 100000) (w : World) :
    Calls Tryd.prog 44 #[.agg #[.int .i64 lo, .int .i64 hi], .int .i64 1, .int .i64 most, .int .i64 2] w fun e w' => e = .returned (.bool v) ∧ Below w.heap.size w w' := by
  rw [← h, ← saneB_span]
  exact Sane_any lo hi 1 most 2 (by omega) hm w

theorem Amid_in {n lo hi : Int} {v : Bool} (h : inB n lo hi = v) (w : World) :
    Calls Tryd.prog 34 #[.int .i64 n, .int .i64 lo, .int .i64 hi] w fun e w' => e = .returned (.bool v) ∧ w' = w := h ▸ Amid_any n lo hi w

section
variable (B : Book) (pm pg : Option Addr) (cm cg : Nat) (w : World)

theorem rMile_any (n : Int) (hlm : B.nm ≤ 9223372036854775807) :
    Calls Tryd.prog 41 #[.agg #[.slice pm B.nm cm, .slice pg B.ng cg, .int .i64 B.nights], .int .i64 n] w fun e w' => e = .returned (.bool (inB n 0 (B.nm - 1))) ∧ Below w.heap.size w w' := by
  go_enter Tryd.func41, Tryd.ntmps41
  go_wp2_with (go_at_call 34; refine (Amid_in rfl _).mono ?_; rintro e w2 ⟨rfl, rfl⟩)
  go_ret
  exact ⟨rfl, (Below.refl _ _).alloc (Nat.le_refl _) _⟩

theorem rGang_any (n : Int) (hlg : B.ng ≤ 9223372036854775807) :
    Calls Tryd.prog 40 #[.agg #[.slice pm B.nm cm, .slice pg B.ng cg, .int .i64 B.nights], .int .i64 n] w fun e w' => e = .returned (.bool (inB n 0 (B.ng - 1))) ∧ Below w.heap.size w w' := by
  go_enter Tryd.func40, Tryd.ntmps40
  go_wp2_with (go_at_call 34; refine (Amid_in rfl _).mono ?_; rintro e w2 ⟨rfl, rfl⟩)
  go_ret
  exact ⟨rfl, (Below.refl _ _).alloc (Nat.le_refl _) _⟩

theorem rNight_any (n : Int) (h0 : 0 ≤ B.nights) (h1 : B.nights ≤ 1000) :
    Calls Tryd.prog 51 #[.agg #[.slice pm B.nm cm, .slice pg B.ng cg, .int .i64 B.nights], .int .i64 n] w fun e w' => e = .returned (.bool (inB n 0 (B.nights - 1))) ∧ Below w.heap.size w w' := by
  go_enter Tryd.func51, Tryd.ntmps51
  go_wp2_with (go_at_call 34; refine (Amid_in rfl _).mono ?_; rintro e w2 ⟨rfl, rfl⟩)
  go_ret
  exact ⟨rfl, (Below.refl _ _).alloc (Nat.le_refl _) _⟩

/-- For a wrong book: some answer. -/
theorem rNight_some (n : Int) :
    Calls Tryd.prog 51 #[.agg #[.slice pm B.nm cm, .slice pg B.ng cg, .int .i64 B.nights], .int .i64 n] w fun e w' => (∃ v, e = .returned (.bool v)) ∧ Below w.heap.size w w' := by
  go_enter Tryd.func51, Tryd.ntmps51
  go_wp2_with (go_at_call 34; refine (Amid_any _ _ _ _).mono ?_; rintro e w2 ⟨rfl, rfl⟩)
  go_ret
  exact ⟨⟨_, rfl⟩, (Below.refl _ _).alloc (Nat.le_refl _) _⟩
end

theorem rMile_is {B : Book} {pm pg : Option Addr} {cm cg : Nat} {n : Int} {v : Bool} (h : inB n 0 (B.nm - 1) = v) (hlm : B.nm ≤ 9223372036854775807) (w : World) :
    Calls Tryd.prog 41 #[.agg #[.slice pm B.nm cm, .slice pg B.ng cg, .int .i64 B.nights], .int .i64 n] w fun e w' => e = .returned (.bool v) ∧ Below w.heap.size w w' := h ▸ rMile_any B pm pg cm cg w n hlm

theorem no_book_mile {B : Book} {k : Nat} (hk : k < B.nm) (h : mileB (B.mile k) = false) : bookB B = false := by
  cases hb : bookB B
  · rfl
  · simp only [bookB, milesB, Bool.and_eq_true, decide_eq_true_eq] at hb
    have := hb.1.2.2 k hk
    rw [h] at this; cases this

theorem no_book_gang {B : Book} {k : Nat} (hk : k < B.ng) (h : gangB B.nm (B.gang k) = false) : bookB B = false := by
  cases hb : bookB B
  · rfl
  · simp only [bookB, gangsB, Bool.and_eq_true, decide_eq_true_eq] at hb
    have := hb.2.1.2.2 k hk
    rw [h] at this; cases this

theorem no_book_counts {B : Book} (h : (inB B.nm 1 4 && (inB B.ng 1 2 && inB B.nights 1 4)) = false) : bookB B = false := by
  cases hb : bookB B
  · rfl
  · have := bookB_bd hb
    have e : (inB B.nm 1 4 && (inB B.ng 1 2 && inB B.nights 1 4)) = true := by simp only [inB, Bool.and_eq_true, decide_eq_true_eq]; omega
    rw [e] at h; cases h

/-- What Check answers. -/
def ckI (B : Book) : Int := if bookB B then 0 else 40
theorem ckI_true {B : Book} (h : bookB B = true) : ckI B = 0 := by simp [ckI, h]
theorem ckI_false {B : Book} (h : bookB B = false) : ckI B = 40 := by simp [ckI, h]

/-- What holds of the first loop's, and the second loop's, answer. -/
def OkIs (B : Book) (all : Prop) (v : Value) : Prop := (v = .bool true ∧ all) ∨ (v = .bool false ∧ bookB B = false)

set_option maxRecDepth 100000 in
set_option maxHeartbeats 2000000 in
theorem rCheck_counts (B : Book) (pm pg : Option Addr) (cm cg : Nat) (w : World) (hlm : B.nm ≤ 9223372036854775807) (hlg : B.ng ≤ 9223372036854775807) (hc : (inB B.nm 1 4 && (inB B.ng 1 2 && inB B.nights 1 4)) = false) :
    Calls Tryd.prog 11 #[.agg #[.slice pm B.nm cm, .slice pg B.ng cg, .int .i64 B.nights]] w fun e w' => e = .returned (.int .i64 40) ∧ Below w.heap.size w w' := by
  have hW0 : Below w.heap.size w (w.alloc (.cells #[.slice pm B.nm cm, .slice pg B.ng cg, .int .i64 B.nights] 25)) := belowAlloc (Below.refl _ _) _
  cases hN : inB B.nm 1 4
  case' true => cases hG : inB B.ng 1 2
  case' true.true => have hT : inB B.nights 1 4 = false := by simpa [hN, hG] using hc
  all_goals
    clear hc
    go_enter Tryd.func11, Tryd.ntmps11
    go_wp2_with (first
      | (go_at_call_of 34 (Value.int .i64 (B.nm : Int)); refine (Amid_in hN _).mono ?_; rintro e w2 ⟨rfl, rfl⟩)
      | (go_at_call_of 34 (Value.int .i64 (B.ng : Int)); refine (Amid_in hG _).mono ?_; rintro e w2 ⟨rfl, rfl⟩)
      | (go_at_call_of 34 (Value.int .i64 B.nights); refine (Amid_in hT _).mono ?_; rintro e w2 ⟨rfl, rfl⟩))
    go_loop [3, 4] (fun v i => v = .bool false ∧ i = .int .i64 0) (fun _ _ => 0)
    case atStart => exact ⟨rfl, rfl⟩
    case round =>
      obtain ⟨rfl, rfl⟩ := hrel
      go_wp2_with fail
      go_loop [3, 5] (fun v i => v = .bool false ∧ i = .int .i64 0) (fun _ _ => 0)
      case atStart => exact ⟨rfl, rfl⟩
      case round =>
        obtain ⟨rfl, rfl⟩ := hrel
        go_wp2_with fail
        go_ret
        exact ⟨rfl, hW0⟩

set_option maxRecDepth 100000 in
set_option maxHeartbeats 4000000 in
theorem rCheck_any (B : Book) (pm pg : Option Addr) (cm cg : Nat) (w : World) (hm : Sl w pm 3 B.nm B.mile) (hg : Sl w pg 4 B.ng B.gang) (hlm : B.nm ≤ 9223372036854775807) (hlg : B.ng ≤ 9223372036854775807) :
    Calls Tryd.prog 11 #[.agg #[.slice pm B.nm cm, .slice pg B.ng cg, .int .i64 B.nights]] w fun e w' => e = .returned (.int .i64 (ckI B)) ∧ Below w.heap.size w w' := by
  cases hc : (inB B.nm 1 4 && (inB B.ng 1 2 && inB B.nights 1 4))
  · rw [ckI_false (no_book_counts hc)]
    exact rCheck_counts B pm pg cm cg w hlm hlg hc
  simp only [Bool.and_eq_true] at hc
  obtain ⟨hN, hG, hT⟩ := hc
  have bN : 1 ≤ B.nm ∧ B.nm ≤ 4 := by simp only [inB, Bool.and_eq_true, decide_eq_true_eq] at hN; omega
  have bG : 1 ≤ B.ng ∧ B.ng ≤ 2 := by simp only [inB, Bool.and_eq_true, decide_eq_true_eq] at hG; omega
  go_enter Tryd.func11, Tryd.ntmps11
  go_wp2_with (first
    | (go_at_call_of 34 (Value.int .i64 (B.nm : Int)); refine (Amid_in hN _).mono ?_; rintro e w2 ⟨rfl, rfl⟩)
    | (go_at_call_of 34 (Value.int .i64 (B.ng : Int)); refine (Amid_in hG _).mono ?_; rintro e w2 ⟨rfl, rfl⟩)
    | (go_at_call_of 34 (Value.int .i64 B.nights); refine (Amid_in hT _).mono ?_; rintro e w2 ⟨rfl, rfl⟩))
  have hbB : (∀ j, j < B.nm → mileB (B.mile j) = true) → (∀ j, j < B.ng → gangB B.nm (B.gang j) = true) → bookB B = true := fun h1 h2 => by
    simp only [bookB, milesB, gangsB, Bool.and_eq_true, decide_eq_true_eq]
    exact ⟨⟨bN.1, bN.2, h1⟩, ⟨bG.1, bG.2, h2⟩, hT⟩
  have HbB := Lib.hid hbB
  clear hbB hN hG hT
  go_loopw [3, 4] (fun v i wr => ∃ k : Nat, k ≤ B.nm ∧ i = .int .i64 k ∧ OkIs B (∀ j, j < k → mileB (B.mile j) = true) v ∧ Below (w.heap.size + 1) (w.alloc (.cells #[.slice pm B.nm cm, .slice pg B.ng cg, .int .i64 B.nights] 25)) wr) (fun _ i _ => B.nm - (intOf i).toNat)
  case atStart => exact ⟨0, Nat.zero_le _, rfl, .inl ⟨rfl, by omega⟩, Below.refl _ _⟩
  case round =>
    rename_i wr
    obtain ⟨k, hk, rfl, hok, hB⟩ := hrel
    obtain ⟨hx, hW⟩ := box_facts hB
    rcases hok with ⟨rfl, hall⟩ | ⟨rfl, hno⟩
    · have Hall := Lib.hid hall
      clear hall
      by_cases hlt : k < B.nm
      · obtain ⟨b, off, rfl, hb, hrow⟩ := hm.row3 hlt
        obtain ⟨hd0, hd1, hd2⟩ := hrow hW
        have Hrow := @Lib.hid _ @hrow
        clear hrow
        cases hsp : spanB (B.mile k 0) (B.mile k 1) 6
        case' true => cases hma : inB (B.mile k 2) 0 15
        all_goals
          go_wp2_with (first
            | (go_at_call 44; refine (Sane_is hsp (by omega) _).mono ?_; rintro e w3 ⟨rfl, hB2⟩; have hB3 := box_later hB hB2; obtain ⟨hy, hWy⟩ := box_facts hB3; obtain ⟨he0, he1, he2⟩ := Hrow.out hWy)
            | (go_at_call 34; refine (Amid_in hma _).mono ?_; rintro e w4 ⟨rfl, rfl⟩))
          go_roundw
          case rel => 
            refine ⟨k + 1, by omega, by go_num, ?_, hB3⟩
            first
              | exact .inr ⟨rfl, no_book_mile hlt (by first | (simp [mileB, hsp]; done) | simp [mileB, hsp, hma])⟩
              | exact .inl ⟨rfl, fun j hj => by rcases Nat.lt_succ_iff_lt_or_eq.1 hj with h | rfl; exact Hall.out j h; simp [mileB, hsp, hma]⟩
          case measure => simp [intOf]; omega
      · obtain rfl : k = B.nm := by omega
        go_wp2_with fail
        go_loopw [3, 5] (fun v i wr => ∃ k : Nat, k ≤ B.ng ∧ i = .int .i64 k ∧ OkIs B (∀ j, j < k → gangB B.nm (B.gang j) = true) v ∧ Below (w.heap.size + 1) (w.alloc (.cells #[.slice pm B.nm cm, .slice pg B.ng cg, .int .i64 B.nights] 25)) wr) (fun _ i _ => B.ng - (intOf i).toNat)
        case atStart => exact ⟨0, Nat.zero_le _, rfl, .inl ⟨rfl, by omega⟩, hB⟩
        case round =>
          rename_i wr
          clear hB hx hW
          obtain ⟨k, hk, rfl, hok, hB⟩ := hrel
          obtain ⟨hx, hW⟩ := box_facts hB
          have hsz := hB.size
          rw [World.size_alloc] at hsz
          rcases hok with ⟨rfl, hal2⟩ | ⟨rfl, hno⟩
          · have Hal2 := Lib.hid hal2
            clear hal2
            by_cases hlt : k < B.ng
            · obtain ⟨b, off, rfl, hb, hrow⟩ := hg.row4 hlt
              obtain ⟨hd0, hd1, hd2, hd3⟩ := hrow hW
              clear hrow
              have hB4 := hB.alloc hsz (.cells #[.int .i64 (B.gang k 0), .int .i64 (B.gang k 1), .int .i64 (B.gang k 2), .int .i64 (B.gang k 3)] 59)
              obtain ⟨hx4, hW4⟩ := box_facts hB4
              have q := fun j => Lib.hid (show ((wr.alloc (.cells #[.int .i64 (B.gang k 0), .int .i64 (B.gang k 1), .int .i64 (B.gang k 2), .int .i64 (B.gang k 3)] 59))).cell? ⟨wr.heap.size, j, none⟩ = _ from new2 _ _ _ _ rfl j)
              cases hA : inB (B.gang k 0) 0 (B.nm - 1)
              case' true => cases hE : inB (B.gang k 1) 0 (B.nm - 1)
              case' true.true => cases hC : decide (B.gang k 0 ≤ B.gang k 1)
              case' true.true.true => cases hS : spanB (B.gang k 2) (B.gang k 3) 3
              all_goals
                go_wp2_with (first
                  | (go_at_call_of 41 (Value.int .i64 (B.gang k 0)); refine (rMile_is hA hlm _).mono ?_; rintro e w3 ⟨rfl, hB5⟩; have hB6 := box_later hB4 hB5; obtain ⟨hy, hWy⟩ := box_facts hB6; have x0 := (hB5.cell (p := ⟨wr.heap.size, 0, none⟩) (by simp)).trans (q 0).out; have x1 := (hB5.cell (p := ⟨wr.heap.size, 1, none⟩) (by simp)).trans (q 1).out; have x2 := (hB5.cell (p := ⟨wr.heap.size, 2, none⟩) (by simp)).trans (q 2).out; have x3 := (hB5.cell (p := ⟨wr.heap.size, 3, none⟩) (by simp)).trans (q 3).out; simp only [List.getElem?_toArray, List.getElem?_cons_zero, List.getElem?_cons_succ] at x0 x1 x2 x3)
                  | (go_at_call_of 41 (Value.int .i64 (B.gang k 1)); refine (rMile_is hE hlm _).mono ?_; rintro e w4 ⟨rfl, hB7⟩; have hB8 := box_later hB6 hB7; obtain ⟨hz, hWz⟩ := box_facts hB8; have y0 := (hB7.cell (p := ⟨wr.heap.size, 0, none⟩) (World.block_lt_of_cell? _ _ x0)).trans x0; have y1 := (hB7.cell (p := ⟨wr.heap.size, 1, none⟩) (World.block_lt_of_cell? _ _ x1)).trans x1; have y2 := (hB7.cell (p := ⟨wr.heap.size, 2, none⟩) (World.block_lt_of_cell? _ _ x2)).trans x2; have y3 := (hB7.cell (p := ⟨wr.heap.size, 3, none⟩) (World.block_lt_of_cell? _ _ x3)).trans x3)
                  | (go_at_call 44; refine (Sane_is hS (by omega) _).mono ?_; rintro e w5 ⟨rfl, hB9⟩; have hB10 := box_later hB8 hB9))
                go_roundw
                case rel =>
                  refine ⟨k + 1, by omega, by go_num, ?_, by first | exact hB10 | exact hB8 | exact hB6⟩
                  first
                    | exact .inr ⟨rfl, no_book_gang hlt (by simp only [gangB, *, Bool.true_and, Bool.false_and, Bool.and_false])⟩
                    | exact .inl ⟨rfl, fun j hj => by rcases Nat.lt_succ_iff_lt_or_eq.1 hj with h | rfl; exact Hal2.out j h; simp only [gangB, hA, hE, hC, hS, Bool.true_and]⟩
                case measure => simp [intOf]; omega
            · obtain rfl : k = B.ng := by omega
              go_wp2_with fail
              go_ret
              exact ⟨ret_int (ckI_true (HbB.out Hall.out Hal2.out)).symm, hW⟩
          · have Hno := Lib.hid hno
            clear hno
            go_wp2_with fail
            go_ret
            exact ⟨ret_int (ckI_false Hno.out).symm, hW⟩
    · have Hno := Lib.hid hno
      clear hno
      go_wp2_with fail
      go_loop [3, 5] (fun v i => v = .bool false ∧ i = .int .i64 0) (fun _ _ => 0)
      case atStart => exact ⟨rfl, rfl⟩
      case round =>
        obtain ⟨rfl, rfl⟩ := hrel
        go_wp2_with fail
        go_ret
        exact ⟨ret_int (ckI_false Hno.out).symm, hW⟩
end Go.Proofs.YtdcgmacknccklaaDoor
