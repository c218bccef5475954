/- The valid book of package gang: isWithin, isNumber, isSpan, areMiles, areGangs answer what the chapter asks, for all arguments. prepare and can of package gang, for a valid book. at, Compare, Or and isBehind of package gang. isNear of package gang. -/
import Derived.Test.YtdcgmacknccklaaDoorBase
import Derived.Test.YtdcgmacknccklaaDoorProg
import Derived.IntWalk
import Derived.Carry
import Derived.Deep.RegionHeld3
import Derived.Laws.Rows
import Derived.Deep.DeepCutAuto
namespace Go.Proofs.YtdcgmacknccklaaDoor
open Go Go.RowKit

theorem box_facts {w wr : World} {c : Array Value} {T : TypeId} (hB : Below (w.heap.size + 1) (w.alloc (.cells c T)) wr) :
    (∀ j, wr.cell? ⟨w.heap.size, j, none⟩ = c[j]?) ∧ Below w.heap.size w wr :=
  ⟨fun j => (hB.cell (p := ⟨w.heap.size, j, none⟩) (by simp)).trans (by rw [World.cell?_alloc_at _ _ _ _ rfl]),
   ((Below.refl _ _).alloc (Nat.le_refl _) _).trans (hB.mono (by omega))⟩

/-- A later call keeps a box that lies just at the heap's end. -/
theorem box_later {w wr wr' : World} {c : Array Value} {T : TypeId} (hB : Below (w.heap.size + 1) (w.alloc (.cells c T)) wr) (hB' : Below wr.heap.size wr wr') : Below (w.heap.size + 1) (w.alloc (.cells c T)) wr' :=
  hB.trans (hB'.mono (by have := hB.size; rwa [World.size_alloc] at this))

def inB (n lo hi : Int) : Bool := decide (lo ≤ n) && decide (n ≤ hi)

theorem isWithin_any (n lo hi : Int) (w : World) :
    Calls Tryd.prog 71 #[.int .i64 n, .int .i64 lo, .int .i64 hi] w fun e w' => e = .returned (.bool (inB n lo hi)) ∧ w' = w := by
  go_enter Tryd.func71, Tryd.ntmps71
  go_wp2
  all_goals
    go_ret
    refine ⟨ret_bool ?_, rfl⟩
    simp [inB, *] <;> omega

theorem isNumber_any (n c : Int) (w : World) (h0 : 0 ≤ c) (h1 : c ≤ 9223372036854775807) :
    Calls Tryd.prog 35 #[.int .i64 n, .int .i64 c] w fun e w' => e = .returned (.bool (inB n 0 (c - 1))) ∧ w' = w := by
  go_enter Tryd.func35, Tryd.ntmps35
  go_wp2_with (go_at_call 71; refine (isWithin_any _ _ _ _).mono ?_; rintro e w2 ⟨rfl, rfl⟩)
  go_ret
  exact ⟨rfl, rfl⟩

def spanB (lo hi most : Int) : Bool := inB lo 1 most && (inB hi lo most && decide (hi - lo ≤ 2))

theorem isSpan_any (lo hi most : Int) (hm : 0 ≤ most) (hm2 : most ≤ 1000) (w : World) :
    Calls Tryd.prog 91 #[.agg #[.int .i64 lo, .int .i64 hi], .int .i64 most] w fun e w' => e = .returned (.bool (spanB lo hi most)) ∧ Below w.heap.size w w' := by
  by_cases h1 : inB lo 1 most = true
  · by_cases h2 : inB hi lo most = true
    · have h3 := h1
      have h4 := h2
      simp only [inB, Bool.and_eq_true, decide_eq_true_eq] at h3 h4
      have H1 := Lib.hid h1
      go_enter Tryd.func91, Tryd.ntmps91
      go_wp2_with (go_at_call 71; refine (isWithin_any _ _ _ _).mono ?_; rintro e w2 ⟨rfl, rfl⟩)
      all_goals
        go_ret
        refine ⟨ret_bool ?_, (Below.refl _ _).alloc (Nat.le_refl _) _⟩
        simp [spanB, H1.out, h2] <;> omega
    · have h2 : inB hi lo most = false := by simpa using h2
      go_enter Tryd.func91, Tryd.ntmps91
      go_wp2_with (go_at_call 71; refine (isWithin_any _ _ _ _).mono ?_; rintro e w2 ⟨rfl, rfl⟩)
      all_goals
        go_ret
        refine ⟨ret_bool ?_, (Below.refl _ _).alloc (Nat.le_refl _) _⟩
        simp [spanB, h1, h2]
  · have h1 : inB lo 1 most = false := by simpa using h1
    go_enter Tryd.func91, Tryd.ntmps91
    go_wp2_with (go_at_call 71; refine (isWithin_any _ _ _ _).mono ?_; rintro e w2 ⟨rfl, rfl⟩)
    all_goals
      go_ret
      refine ⟨ret_bool ?_, (Below.refl _ _).alloc (Nat.le_refl _) _⟩
      simp [spanB, h1]

def mileB (g : Nat → Int) : Bool := spanB (g 0) (g 1) 6 && inB (g 2) 0 15
def milesB (n : Nat) (g : Nat → Nat → Int) : Bool := decide (1 ≤ n ∧ n ≤ 4 ∧ ∀ i, i < n → mileB (g i) = true)
def gangB (nm : Nat) (g : Nat → Int) : Bool := inB (g 0) 0 (nm - 1) && (inB (g 1) 0 (nm - 1) && (decide (g 0 ≤ g 1) && spanB (g 2) (g 3) 3))
def gangsB (nm n : Nat) (g : Nat → Nat → Int) : Bool := decide (1 ≤ n ∧ n ≤ 2 ∧ ∀ i, i < n → gangB nm (g i) = true)

theorem areMiles_any (p : Option Addr) (n cap : Nat) (g : Nat → Nat → Int) (w : World) (hs : Sl w p 3 n g) :
    Calls Tryd.prog 72 #[.slice p n cap] w fun e w' => e = .returned (.bool (milesB n g)) ∧ Below w.heap.size w w' := by
  by_cases h1 : 1 ≤ n ∧ n ≤ 4
  · have h4 : inB n 1 4 = true := by simp [inB]; omega
    go_enter Tryd.func72, Tryd.ntmps72
    go_wp2_with (go_at_call 71; refine (isWithin_any _ _ _ _).mono ?_; rintro e w' ⟨rfl, rfl⟩)
    go_loopw [11] (fun i wr => ∃ k : Nat, k ≤ n ∧ i = .int .i64 k ∧ (∀ j, j < k → mileB (g j) = true) ∧ Below w'.heap.size w' wr) (fun i _ => n - (intOf i).toNat)
    case atStart => exact ⟨0, Nat.zero_le _, rfl, by omega, Below.refl _ _⟩
    case round =>
      rename_i wr
      obtain ⟨k, hk, rfl, hall, hB⟩ := hrel
      have hsz := hB.size
      have Hall := Lib.hid hall
      clear hall
      by_cases hlt : k < n
      · obtain ⟨b, off, rfl, hb, hc⟩ := hs.row3 hlt
        obtain ⟨hd0, hd1, hd2⟩ := hc hB
        clear hc
        cases hsp : spanB (g k 0) (g k 1) 6
        all_goals
          have Hsp := Lib.hid hsp
          go_wp2_with (first | (go_at_call 91; refine (isSpan_any _ _ _ (by omega) (by omega) _).mono ?_; rintro e w2 ⟨rfl, hB2⟩; rw [World.size_alloc] at hB2; obtain ⟨hbox, hW2⟩ := box_facts hB2) | (go_at_call 71; refine (isWithin_any _ _ _ _).mono ?_; rintro e w3 ⟨rfl, rfl⟩))
          all_goals
            have hB3 := hB.trans (hW2.mono hsz)
            first
            | (go_ret
               exact ⟨ret_bool (by simp only [milesB]; symm; simp only [decide_eq_false_iff_not]; intro hh; have := hh.2.2 k hlt; simp_all [mileB]), hB3⟩)
            | (go_roundw
               case rel => exact ⟨k + 1, by omega, by go_num, fun j hj => by rcases Nat.lt_succ_iff_lt_or_eq.1 hj with h | rfl; exact Hall.out j h; simp_all [mileB], hB3⟩
               case measure => simp [intOf]; omega)
      · go_wp2
        go_ret
        exact ⟨ret_bool (by simp only [milesB]; symm; simp only [decide_eq_true_eq]; exact ⟨h1.1, h1.2, fun i hi => Hall.out i (by omega)⟩), hB⟩
  · have h4 : inB n 1 4 = false := by simp [inB]; omega
    go_enter Tryd.func72, Tryd.ntmps72
    go_wp2_with (go_at_call 71; refine (isWithin_any _ _ _ _).mono ?_; rintro e w' ⟨rfl, rfl⟩)
    go_ret
    exact ⟨ret_bool (by simp [milesB]; omega), Below.refl _ _⟩

theorem areGangs_any (p : Option Addr) (n cap nm : Nat) (g : Nat → Nat → Int) (w : World) (hs : Sl w p 4 n g) (hnm : nm ≤ 9223372036854775807) :
    Calls Tryd.prog 73 #[.slice p n cap, .int .i64 nm] w fun e w' => e = .returned (.bool (gangsB nm n g)) ∧ Below w.heap.size w w' := by
  by_cases h1 : 1 ≤ n ∧ n ≤ 2
  · have h4 : inB n 1 2 = true := by simp [inB]; omega
    go_enter Tryd.func73, Tryd.ntmps73
    go_wp2_with (go_at_call 71; refine (isWithin_any _ _ _ _).mono ?_; rintro e w' ⟨rfl, rfl⟩)
    go_loopw [13] (fun i wr => ∃ k : Nat, k ≤ n ∧ i = .int .i64 k ∧ (∀ j, j < k → gangB nm (g j) = true) ∧ Below w'.heap.size w' wr) (fun i _ => n - (intOf i).toNat)
    case atStart => exact ⟨0, Nat.zero_le _, rfl, by omega, Below.refl _ _⟩
    case round =>
      rename_i wr
      obtain ⟨k, hk, rfl, hall, hB⟩ := hrel
      have hsz := hB.size
      have Hall := Lib.hid hall
      clear hall
      by_cases hlt : k < n
      · obtain ⟨b, off, rfl, hb, hc⟩ := hs.row4 hlt
        obtain ⟨hd0, hd1, hd2, hd3⟩ := hc hB
        clear hc
        have hB1 := hB.alloc hsz (.cells #[.int .i64 (g k 0), .int .i64 (g k 1), .int .i64 (g k 2), .int .i64 (g k 3)] 59)
        cases hsp : spanB (g k 2) (g k 3) 3
        all_goals
          have Hsp := Lib.hid hsp
          go_wp2_with (first | (go_at_call 91; refine (isSpan_any _ _ _ (by omega) (by omega) _).mono ?_; rintro e w2 ⟨rfl, hB2⟩; have hB4 := hB1.trans (hB2.mono (by simp; omega))) | (go_at_call 35; refine (isNumber_any _ _ _ (by omega) (by omega)).mono ?_; rintro e w3 ⟨rfl, rfl⟩))
          all_goals
            first
            | (go_ret
               exact ⟨ret_bool (by simp only [gangsB]; symm; simp only [decide_eq_false_iff_not]; intro hh; have := hh.2.2 k hlt; simp only [gangB, Bool.and_eq_true, decide_eq_true_eq] at this; obtain ⟨t1, t2, t3, t4⟩ := this; first | omega | simp_all), by first | exact hB4 | exact hB1⟩)
            | (go_roundw
               case rel => exact ⟨k + 1, by omega, by go_num, fun j hj => by rcases Nat.lt_succ_iff_lt_or_eq.1 hj with h | rfl; exact Hall.out j h; simp only [gangB, Bool.and_eq_true, decide_eq_true_eq]; refine ⟨?_, ?_, ?_, ?_⟩ <;> first | omega | assumption | exact Hsp.out, by first | exact hB4 | exact hB1⟩
               case measure => simp [intOf]; omega)
      · go_wp2
        go_ret
        exact ⟨ret_bool (by simp only [gangsB]; symm; simp only [decide_eq_true_eq]; exact ⟨h1.1, h1.2, fun i hi => Hall.out i (by omega)⟩), hB⟩
  · have h4 : inB n 1 2 = false := by simp [inB]; omega
    go_enter Tryd.func73, Tryd.ntmps73
    go_wp2_with (go_at_call 71; refine (isWithin_any _ _ _ _).mono ?_; rintro e w' ⟨rfl, rfl⟩)
    go_ret
    exact ⟨ret_bool (by simp [gangsB]; omega), Below.refl _ _⟩

/-- The numbers of a book. -/
structure Book where
  nm : Nat
  mile : Nat → Nat → Int
  ng : Nat
  gang : Nat → Nat → Int
  nights : Int

def bookB (B : Book) : Bool := milesB B.nm B.mile && (gangsB B.nm B.ng B.gang && inB B.nights 1 4)

theorem isBook_any (B : Book) (pm pg : Option Addr) (cm cg : Nat) (w : World) (hm : Sl w pm 3 B.nm B.mile) (hg : Sl w pg 4 B.ng B.gang) (hlm : B.nm ≤ 9223372036854775807) :
    Calls Tryd.prog 43 #[.agg #[.slice pm B.nm cm, .slice pg B.ng cg, .int .i64 B.nights]] w fun e w' => e = .returned (.bool (bookB B)) ∧ Below w.heap.size w w' := by
  go_enter Tryd.func43, Tryd.ntmps43
  go_wp2_with fail
  refine (areMiles_any _ _ _ B.mile _ (hm.alloc _)).mono ?_
  rintro e w1 ⟨rfl, hB1⟩
  rw [World.size_alloc] at hB1
  obtain ⟨hbox1, hW1⟩ := box_facts hB1
  go_wp2_with (first
    | (go_at_call 73; refine (areGangs_any _ _ _ _ B.gang _ (hg.below (by assumption)) hlm).mono ?_; rintro e w2 ⟨rfl, hB2⟩; have hB2' := box_later hB1 hB2; obtain ⟨hbox2, hW2⟩ := box_facts hB2')
    | (go_at_call 71; refine (isWithin_any _ _ _ _).mono ?_; rintro e w6 ⟨rfl, rfl⟩))
  all_goals
    go_ret
    exact ⟨ret_bool (by simp_all [bookB]), by assumption⟩

theorem Check_any (B : Book) (pm pg : Option Addr) (cm cg : Nat) (w : World) (hm : Sl w pm 3 B.nm B.mile) (hg : Sl w pg 4 B.ng B.gang) (hlm : B.nm ≤ 9223372036854775807) :
    Calls Tryd.prog 10 #[.agg #[.slice pm B.nm cm, .slice pg B.ng cg, .int .i64 B.nights]] w fun e w' => e = .returned (.int .i64 (if bookB B = true then 0 else 40)) ∧ Below w.heap.size w w' := by
  go_enter Tryd.func10, Tryd.ntmps10
  go_wp2_with fail
  refine (isBook_any B _ _ _ _ _ (hm.alloc _) (hg.alloc _) hlm).mono ?_
  rintro e w1 ⟨rfl, hB1⟩
  rw [World.size_alloc] at hB1
  obtain ⟨hbox1, hW1⟩ := box_facts hB1
  go_wp2_with fail
  all_goals
    go_ret
    exact ⟨ret_int (by simp_all), hW1⟩
end Go.Proofs.YtdcgmacknccklaaDoor

namespace Go.Proofs.YtdcgmacknccklaaDoor
open Go Go.RowKit

theorem belowDrewN {a w : World} (h : Below a.heap.size a w) (n : Nat) : Below a.heap.size a (w.drewN n) := ⟨h.os, h.tape, h.output, h.size, h.block⟩

/-- A pointer to the book that the package calculates with. -/
def PB (B : Book) (pm pg : Option Addr) (cm cg bb bm : Nat) (w : World) : Prop := bb < w.heap.size ∧ ∀ j, w.cell? ⟨bb, j, none⟩ = #[.slice pm B.nm cm, .slice pg B.ng cg, .int .i64 B.nights, .map (some bm)][j]?

theorem PB.below {B : Book} {pm pg : Option Addr} {cm cg bb bm : Nat} {w w' : World} (h : PB B pm pg cm cg bb bm w) (hb : Below w.heap.size w w') : PB B pm pg cm cg bb bm w' :=
  ⟨Nat.lt_of_lt_of_le h.1 hb.size, fun j => (hb.cell (p := ⟨bb, j, none⟩) h.1).trans (h.2 j)⟩

theorem prepare_any (B : Book) (pm pg : Option Addr) (cm cg : Nat) (w : World) :
    Calls Tryd.prog 36 #[.agg #[.slice pm B.nm cm, .slice pg B.ng cg, .int .i64 B.nights]] w fun e w' => ∃ bb bm, e = .returned (.pointer (some ⟨bb, 0, none⟩)) ∧ w.heap.size ≤ bb ∧ PB B pm pg cm cg bb bm w' ∧ w'.heap[bm]? = some (.map #[] 0) ∧ w.heap.size ≤ bm ∧ bb ≠ bm ∧ Below w.heap.size w w' := by
  have hmm := @run_makeMap Tryd.prog
  go_enter Tryd.func36, Tryd.ntmps36
  go_wp2
  go_ret
  refine ⟨w.heap.size + 2, w.heap.size + 1, rfl, by omega, ⟨by simp, fun j => ?_⟩, ?_, by omega, by omega, (((Below.refl _ _).alloc (Nat.le_refl _) _).alloc (by simp) _).alloc (by simp; omega) _⟩
  · rw [World.cell?_alloc_at _ _ _ _ (by simp)]
  · rw [heap_alloc_old]
    have := heap_alloc_new (w.alloc (.cells #[.slice pm B.nm cm, .slice pg B.ng cg, .int .i64 B.nights] 25)) (.map #[] 0)
    rwa [World.size_alloc] at this
    simp

theorem isWithin_is {n lo hi : Int} {v : Bool} (h : inB n lo hi = v) (w : World) :
    Calls Tryd.prog 71 #[.int .i64 n, .int .i64 lo, .int .i64 hi] w fun e w' => e = .returned (.bool v) ∧ w' = w := h ▸ isWithin_any n lo hi w

def bitE (x n : Int) : Int := bits BinOp.and IntKind.i64 (x / 2 ^ n.toNat) 1
def canB (B : Book) (i : Nat) (m n : Int) : Bool := inB m (B.gang i 0) (B.gang i 1) && (bitE (B.mile m.toNat 2) n == 0)

theorem bookB_gang {B : Book} (hok : bookB B = true) {i : Nat} (hi : i < B.ng) : 0 ≤ B.gang i 0 ∧ B.gang i 1 < B.nm := by
  simp only [bookB, gangsB, Bool.and_eq_true, decide_eq_true_eq] at hok
  have := hok.2.1.2.2 i hi
  simp only [gangB, inB, Bool.and_eq_true, decide_eq_true_eq] at this
  omega

theorem bookB_mails {B : Book} (hok : bookB B = true) {i : Nat} (hi : i < B.nm) : 0 ≤ B.mile i 2 ∧ B.mile i 2 ≤ 15 := by
  simp only [bookB, milesB, Bool.and_eq_true, decide_eq_true_eq] at hok
  have := hok.1.2.2 i hi
  simp only [mileB, inB, Bool.and_eq_true, decide_eq_true_eq] at this
  omega

theorem bookB_bd {B : Book} (hok : bookB B = true) : (1 ≤ B.nm ∧ B.nm ≤ 4) ∧ (1 ≤ B.ng ∧ B.ng ≤ 2) ∧ 1 ≤ B.nights ∧ B.nights ≤ 4 := by
  simp only [bookB, milesB, gangsB, inB, Bool.and_eq_true, decide_eq_true_eq] at hok
  exact ⟨⟨hok.1.1, hok.1.2.1⟩, ⟨hok.2.1.1, hok.2.1.2.1⟩, hok.2.2.1, hok.2.2.2⟩

set_option maxRecDepth 100000 in
theorem can_any (B : Book) (pm pg : Option Addr) (cm cg bb bm : Nat) (w : World) (hP : PB B pm pg cm cg bb bm w) (hm : Sl w pm 3 B.nm B.mile) (hg : Sl w pg 4 B.ng B.gang) (hok : bookB B = true)
    (iv : Int) (i : Nat) (hiv : iv = i) (hi : i < B.ng) (m n : Int) (hn0 : 0 ≤ n) (hn1 : n ≤ 63) :
    Calls Tryd.prog 39 #[.pointer (some ⟨bb, 0, none⟩), .int .i64 iv, .agg #[.int .i64 n, .int .i64 m]] w fun e w' => e = .returned (.bool (canB B i m n)) ∧ Below w.heap.size w w' := by
  subst hiv
  have hgb := bookB_gang hok hi
  obtain ⟨hbb, hcells⟩ := hP
  obtain ⟨b, off, rfl, hb, hrow⟩ := hg.row4 hi
  have hW1 : Below w.heap.size w (w.alloc (.cells #[.int .i64 n, .int .i64 m] 73)) := (Below.refl _ _).alloc (Nat.le_refl _) _
  obtain ⟨hd0, hd1, hd2, hd3⟩ := hrow hW1
  clear hrow
  by_cases hin : inB m (B.gang i 0) (B.gang i 1) = true
  · have hin2 := hin
    simp only [inB, Bool.and_eq_true, decide_eq_true_eq] at hin2
    obtain ⟨k, rfl⟩ : ∃ k : Nat, m = k := ⟨m.toNat, by omega⟩
    have hk : k < B.nm := by omega
    obtain ⟨b2, off2, rfl, hb2, hrow2⟩ := hm.row3 hk
    have hW2 := hW1.alloc (by simp) (.cells #[.int .i64 (B.gang i 0), .int .i64 (B.gang i 1), .int .i64 (B.gang i 2), .int .i64 (B.gang i 3)] 59)
    obtain ⟨hc0, hc1, hc2⟩ := hrow2 hW2
    clear hrow2
    have hmb := bookB_mails hok hk
    go_enter Tryd.func39, Tryd.ntmps39
    go_wp2_with fail
    go_quiet ((go_at_call 71; exact Calls.quiet_of_same (isWithin_is hin _)))
    go_wp2
    go_ret
    exact ⟨ret_bool (by simp [canB, bitE, hin]), belowDrewN hW2 _⟩
  · have hin : inB m (B.gang i 0) (B.gang i 1) = false := by simpa using hin
    have hW2 := hW1.alloc (by simp) (.cells #[.int .i64 (B.gang i 0), .int .i64 (B.gang i 1), .int .i64 (B.gang i 2), .int .i64 (B.gang i 3)] 59)
    go_enter Tryd.func39, Tryd.ntmps39
    go_wp2_with fail
    go_quiet ((go_at_call 71; exact Calls.quiet_of_same (isWithin_is hin _)))
    go_wp2
    go_ret
    exact ⟨ret_bool (by simp [canB, hin]), belowDrewN hW2 _⟩
end Go.Proofs.YtdcgmacknccklaaDoor

namespace Go.Proofs.YtdcgmacknccklaaDoor
open Go Go.RowKit

theorem at_any (n g m : Int) (w : World) :
    Calls Tryd.prog 78 #[.agg #[.int .i64 n, .int .i64 g, .int .i64 m]] w fun e w' => e = .returned (.agg #[.int .i64 n, .int .i64 m]) ∧ Below w.heap.size w w' := by
  go_enter Tryd.func78, Tryd.ntmps78
  go_wp2
  (try simp only [Exit.inBlock, Exit.then])
  refine bodyPost_ret (results_cell_row rfl _ _ (w.heap.size + 1) 73 #[.int .i64 n, .int .i64 m] (0, 0) _ rfl ?_ Tryd.underlying73 rfl (by kernel_rfl)) rfl ?_
  · exact heap_alloc2_new w _ _
  exact ⟨rfl, ((Below.refl _ _).alloc (Nat.le_refl _) _).alloc (by simp) _⟩

def cmpZ (x y : Int) : Int := if x < y then -1 else if y < x then 1 else 0

theorem isNaN_any (x : Int) (w : World) : Calls Tryd.prog 118 #[.int .i64 x] w fun e w' => e = .returned (.bool false) ∧ w' = w := by
  go_enter Tryd.func118, Tryd.ntmps118
  go_wp2
  go_ret
  exact ⟨ret_bool (by simp), rfl⟩

theorem Compare_any (x y : Int) (w : World) : Calls Tryd.prog 106 #[.int .i64 x, .int .i64 y] w fun e w' => e = .returned (.int .i64 (cmpZ x y)) ∧ w' = w := by
  go_enter Tryd.func106, Tryd.ntmps106
  go_wp2_with (go_at_call 118; refine (isNaN_any _ _).mono ?_; rintro e w2 ⟨rfl, rfl⟩)
  all_goals
    go_ret
    refine ⟨ret_int ?_, rfl⟩
    simp [cmpZ, *] <;> omega

/-- The first that is not 0, from k on among so many. -/
def orL (g : Nat → Int) : Nat → Nat → Int
  | _, 0 => 0
  | k, n + 1 => if g k = 0 then orL g (k + 1) n else g k

theorem Or_any (p : Option Addr) (n cap : Nat) (g : Nat → Nat → Int) (w : World) (hs : Sl w p 1 n g) (hn : n ≤ 1000) :
    Calls Tryd.prog 105 #[.slice p n cap] w fun e w' => e = .returned (.int .i64 (orL (fun i => g i 0) 0 n)) ∧ w' = w := by
  go_enter Tryd.func105, Tryd.ntmps105
  go_wp2
  go_loop [8] (fun i => ∃ k : Nat, k ≤ n ∧ i = .int .i64 k ∧ orL (fun i => g i 0) 0 n = orL (fun i => g i 0) k (n - k)) (fun i => n - (intOf i).toNat)
  case atStart => exact ⟨0, Nat.zero_le _, rfl, rfl⟩
  case round =>
    obtain ⟨k, hk, rfl, ho⟩ := hrel
    by_cases hlt : k < n
    · obtain ⟨b, off, rfl, hb, hc⟩ := hs (by omega)
      have hd0 := hc k hlt 0 (by omega)
      simp only [Nat.mul_one, Nat.add_zero] at hd0
      rw [show n - k = (n - (k + 1)) + 1 by omega, orL] at ho
      have Hc := Lib.hid hc
      have Ho := Lib.hid ho
      clear hc ho
      by_cases h0 : g k 0 = 0
      · have H0 := Lib.hid h0
        go_wp2
        go_round
        case rel => exact ⟨k + 1, by omega, by go_num, by rw [Ho.out, if_pos H0.out]⟩
        case measure => simp [intOf]; omega
      · have H0 := Lib.hid h0
        go_wp2
        go_ret
        exact ⟨ret_int (by rw [Ho.out, if_neg H0.out]), rfl⟩
    · obtain rfl : k = n := by omega
      have Ho := Lib.hid ho
      clear ho
      go_wp2
      go_ret
      exact ⟨ret_int (by rw [Ho.out]; simp [orL]), rfl⟩

def or2 (x y : Int) : Int := if x = 0 then y else x
def behB (x y : Nat → Int) : Bool := decide (0 < or2 (cmpZ (x 0) (y 0)) (cmpZ (x 1) (y 1)))

theorem sl_two {w : World} {b : Nat} {x y : Int} (h0 : w.cell? ⟨b, 0, none⟩ = some (.int .i64 x)) (h1 : w.cell? ⟨b, 1, none⟩ = some (.int .i64 y)) : Sl w (some ⟨b, 0, none⟩) 1 2 (fun i _ => [x, y].getD i 0) := by
  refine fun _ => ⟨_, 0, rfl, World.block_lt_of_cell? w _ h0, fun i hi j hj => ?_⟩
  obtain rfl : j = 0 := by omega
  obtain rfl | rfl : i = 0 ∨ i = 1 := by omega
  · exact h0
  · exact h1

theorem Or2_any (b : Nat) (x y : Int) (w : World) (h0 : w.cell? ⟨b, 0, none⟩ = some (.int .i64 x)) (h1 : w.cell? ⟨b, 1, none⟩ = some (.int .i64 y)) :
    Calls Tryd.prog 105 #[.slice (some ⟨b, 0, none⟩) 2 2] w fun e w' => e = .returned (.int .i64 (or2 x y)) ∧ w' = w := by
  refine (Or_any _ 2 2 _ w (sl_two h0 h1) (by omega)).mono ?_
  rintro e w' ⟨rfl, rfl⟩
  refine ⟨ret_int ?_, rfl⟩
  simp only [or2, orL, List.getD_cons_zero, List.getD_cons_succ]
  split
  · split <;> simp_all
  · rfl

theorem new2 (w : World) (c : Array Value) (T : TypeId) (b : Nat) (hb : b = w.heap.size) (j : Nat) : (w.alloc (.cells c T)).cell? ⟨b, j, none⟩ = c[j]? := by
  rw [World.cell?_alloc_at _ _ _ _ hb]

set_option maxRecDepth 100000 in
theorem isBehind_any (x y : Nat → Int) (w : World) :
    Calls Tryd.prog 92 #[.agg #[.int .i64 (x 0), .int .i64 (x 1), .int .i64 (x 2)], .agg #[.int .i64 (y 0), .int .i64 (y 1), .int .i64 (y 2)]] w fun e w' => e = .returned (.bool (behB x y)) ∧ Below w.heap.size w w' := by
  have hW : Below w.heap.size w ((w.alloc (.cells #[.int .i64 (x 0), .int .i64 (x 1), .int .i64 (x 2)] 54)).alloc (.cells #[.int .i64 (y 0), .int .i64 (y 1), .int .i64 (y 2)] 54)) :=
    ((Below.refl _ _).alloc (Nat.le_refl _) _).alloc (by simp) _
  go_enter Tryd.func92, Tryd.ntmps92
  go_wp2_with fail
  go_region_held3 (fun w' => w'.cell? ⟨w.heap.size, 0, none⟩ = some (.int .i64 (x 0)) ∧ w'.cell? ⟨w.heap.size, 1, none⟩ = some (.int .i64 (x 1)) ∧ w'.cell? ⟨w.heap.size + 1, 0, none⟩ = some (.int .i64 (y 0)) ∧ w'.cell? ⟨w.heap.size + 1, 1, none⟩ = some (.int .i64 (y 1)))
    (go_keep)
    (first | (go_at_call 106; refine (Compare_any _ _ _).mono ?_; rintro e w2 ⟨rfl, rfl⟩) | (go_at_call 105; refine (Or2_any _ (cmpZ (x 0) (y 0)) (cmpZ (x 1) (y 1)) _ ?_ ?_).mono ?_; (rw [World.cell?_drew, new2 (hb := by simp)]; rfl); (rw [World.cell?_drew, new2 (hb := by simp)]; rfl); rintro e w2 ⟨rfl, rfl⟩))
  all_goals
    (try go_wp2)
    go_ret
    refine ⟨ret_bool ?_, ?_⟩
    · simp [behB]
    · repeat (first | exact hW | (refine Below.drew ?_) | (refine Below.alloc ?_ (by simp <;> omega) _))
end Go.Proofs.YtdcgmacknccklaaDoor

namespace Go.Proofs.YtdcgmacknccklaaDoor
open Go Go.RowKit

/-- The steps to miles that are near, as the program's text lays them. -/
def NB (w : World) : Prop := 0 < w.heap.size ∧ ∀ j, j < 3 → w.cell? ⟨0, j, none⟩ = some (.int .i64 ([-1, 0, 1].getD j 0))

theorem NB.below {w w' : World} (h : NB w) (hb : Below w.heap.size w w') : NB w' :=
  ⟨Nat.lt_of_lt_of_le h.1 hb.size, fun j hj => (hb.cell (p := ⟨0, j, none⟩) h.1).trans (h.2 j hj)⟩

def nearB (n m n2 m2 : Int) : Bool := decide (n2 = n ∧ (m2 = m - 1 ∨ m2 = m ∨ m2 = m + 1))

set_option maxRecDepth 100000 in
theorem isNear_any (n m n2 m2 : Int) (h0 : 0 ≤ m) (h3 : m ≤ 1000) (w : World) (hN : NB w) :
    Calls Tryd.prog 93 #[.agg #[.int .i64 n, .int .i64 m], .agg #[.int .i64 n2, .int .i64 m2]] w fun e w' => e = .returned (.bool (nearB n m n2 m2)) ∧ Below w.heap.size w w' := by
  have i0 : ∀ w : World, (Instr.index 27 (.agg #[.int .i64 (-1), .int .i64 0, .int .i64 1]) (.int .i64 0)).run Tryd.prog w = .ok (.int .i64 (-1)) w := fun _ => by kernel_rfl
  have i1 : ∀ w : World, (Instr.index 27 (.agg #[.int .i64 (-1), .int .i64 0, .int .i64 1]) (.int .i64 1)).run Tryd.prog w = .ok (.int .i64 0) w := fun _ => by kernel_rfl
  have i2 : ∀ w : World, (Instr.index 27 (.agg #[.int .i64 (-1), .int .i64 0, .int .i64 1]) (.int .i64 2)).run Tryd.prog w = .ok (.int .i64 1) w := fun _ => by kernel_rfl
  have hW : Below w.heap.size w ((w.alloc (.cells #[.int .i64 n, .int .i64 m] 73)).alloc (.cells #[.int .i64 n2, .int .i64 m2] 73)) :=
    ((Below.refl _ _).alloc (Nat.le_refl _) _).alloc (by simp) _
  have g0 := (hN.below hW).2 0 (by omega)
  have g1 := (hN.below hW).2 1 (by omega)
  have g2 := (hN.below hW).2 2 (by omega)
  simp only [List.getD_cons_zero, List.getD_cons_succ] at g0 g1 g2
  go_enter Tryd.func93, Tryd.ntmps93
  go_wp2_with fail
  go_loop [8] (fun i => ∃ k : Nat, k ≤ 3 ∧ i = .int .i64 k ∧ ∀ j, j < k → ¬ (n2 = n ∧ m2 = m + ([-1, 0, 1].getD j 0 : Int))) (fun i => 3 - (intOf i).toNat)
  case atStart => exact ⟨0, Nat.zero_le _, rfl, by omega⟩
  case round =>
    obtain ⟨k, hk, rfl, hall⟩ := hrel
    have Hall := Lib.hid hall
    clear hall
    by_cases hlt : k < 3
    · obtain rfl | rfl | rfl : k = 0 ∨ k = 1 ∨ k = 2 := by omega
      all_goals
        go_wp2_with fail
      all_goals first
        | (go_ret
           exact ⟨ret_bool (by simp [nearB] <;> omega), ((Below.refl _ _).alloc (Nat.le_refl _) _).alloc (by simp) _⟩)
        | (go_round
           case rel => exact ⟨_, Nat.succ_le_of_lt hlt, by go_num, fun j hj => by rcases Nat.lt_succ_iff_lt_or_eq.1 hj with h | rfl; exact Hall.out j h; simp; omega⟩
           case measure => simp [intOf])
        | (refine ⟨⟨_, _, _, ⟨_, Nat.succ_le_of_lt hlt, rfl, fun j hj => ?_⟩, rfl, rfl, rfl⟩, by simp [intOf]⟩
           have Hx := Hall.out
           simp only [List.getD_eq_getElem?_getD] at Hx
           rcases Nat.lt_succ_iff_lt_or_eq.1 hj with h | rfl
           · intro h2; exact Hx j h ⟨by assumption, h2⟩
           · simp; omega)
    · obtain rfl : k = 3 := by omega
      go_wp2_with fail
      go_ret
      have a0 := Hall.out 0 (by omega)
      have a1 := Hall.out 1 (by omega)
      have a2 := Hall.out 2 (by omega)
      simp only [List.getD_cons_zero, List.getD_cons_succ] at a0 a1 a2
      exact ⟨ret_bool (by simp only [nearB]; symm; simp only [decide_eq_false_iff_not]; omega), hW⟩
end Go.Proofs.YtdcgmacknccklaaDoor

