/- The valid book of package gang: isWithin, isNumber, isSpan, areMiles, areGangs answer what the chapter asks, for all arguments. -/
import Derived.Test.YtdcgmacknccklaaDoorBase
import Derived.Test.YtdcgmacknccklaaDoorProg
namespace Go.Proofs.YtdcgmacknccklaaDoor
open Go Go.RowKit

theorem box_facts {w wr : World} {c : Array Value} {T : TypeId} (hB : Below (w.heap.size + 1) (w.alloc (.cells c T)) wr) :
    (∀ j, wr.cell? ⟨w.heap.size, j, none⟩ = c[j]?) ∧ Below w.heap.size w wr :=
  ⟨fun j => (hB.cell (p := ⟨w.heap.size, j, none⟩) (by simp)).trans (by rw [World.cell?_alloc_at _ _ _ _ rfl]),
   ((Below.refl _ _).alloc (Nat.le_refl _) _).trans (hB.mono (by omega))⟩

/-- A later call keeps a box that lies just at the heap's end. -/
theorem box_later {w wr wr' : World} {c : Array Value} {T : TypeId} (hB : Below (w.heap.size + 1) (w.alloc (.cells c T)) wr) (hB' : Below wr.heap.size wr wr') : Below (w.heap.size + 1) (w.alloc (.cells c T)) wr' :=
  hB.trans (hB'.mono (by have := hB.size; rwa [World.size_alloc] at this))

def inB (n lo hi : Int) : Bool := decide (lo ≤ n) && decide (n ≤ hi)

theorem isWithin_any (n lo hi : Int) (w : World) :
    Calls Tryd.prog 71 #[.int .i64 n, .int .i64 lo, .int .i64 hi] w fun e w' => e = .returned (.bool (inB n lo hi)) ∧ w' = w := by
  go_enter Tryd.func71, Tryd.ntmps71
  go_wp2
  all_goals
    go_ret
    refine ⟨ret_bool ?_, rfl⟩
    simp [inB, *] <;> omega

theorem isNumber_any (n c : Int) (w : World) (h0 : 0 ≤ c) (h1 : c ≤ 9223372036854775807) :
    Calls Tryd.prog 35 #[.int .i64 n, .int .i64 c] w fun e w' => e = .returned (.bool (inB n 0 (c - 1))) ∧ w' = w := by
  go_enter Tryd.func35, Tryd.ntmps35
  go_wp2_with (go_at_call 71; refine (isWithin_any _ _ _ _).mono ?_; rintro e w2 ⟨rfl, rfl⟩)
  go_ret
  exact ⟨rfl, rfl⟩

def spanB (lo hi most : Int) : Bool := inB lo 1 most && (inB hi lo most && decide (hi - lo ≤ 2))

theorem isSpan_any (lo hi most : Int) (hm : 0 ≤ most) (hm2 : most ≤ 1000) (w : World) :
    Calls Tryd.prog 91 #[.agg #[.int .i64 lo, .int .i64 hi], .int .i64 most] w fun e w' => e = .returned (.bool (spanB lo hi most)) ∧ Below w.heap.size w w' := by
  by_cases h1 : inB lo 1 most = true
  · by_cases h2 : inB hi lo most = true
    · have h3 := h1
      have h4 := h2
      simp only [inB, Bool.and_eq_true, decide_eq_true_eq] at h3 h4
      have H1 := Lib.hid h1
      go_enter Tryd.func91, Tryd.ntmps91
      go_wp2_with (go_at_call 71; refine (isWithin_any _ _ _ _).mono ?_; rintro e w2 ⟨rfl, rfl⟩)
      all_goals
        go_ret
        refine ⟨ret_bool ?_, (Below.refl _ _).alloc (Nat.le_refl _) _⟩
        simp [spanB, H1.out, h2] <;> omega
    · have h2 : inB hi lo most = false := by simpa using h2
      go_enter Tryd.func91, Tryd.ntmps91
      go_wp2_with (go_at_call 71; refine (isWithin_any _ _ _ _).mono ?_; rintro e w2 ⟨rfl, rfl⟩)
      all_goals
        go_ret
        refine ⟨ret_bool ?_, (Below.refl _ _).alloc (Nat.le_refl _) _⟩
        simp [spanB, h1, h2]
  · have h1 : inB lo 1 most = false := by simpa using h1
    go_enter Tryd.func91, Tryd.ntmps91
    go_wp2_with (go_at_call 71; refine (isWithin_any _ _ _ _).mono ?_; rintro e w2 ⟨rfl, rfl⟩)
    all_goals
      go_ret
      refine ⟨ret_bool ?_, (Below.refl _ _).alloc (Nat.le_refl _) _⟩
      simp [spanB, h1]

def mileB (g : Nat → Int) : Bool := spanB (g 0) (g 1) 6 && inB (g 2) 0 15
def milesB (n : Nat) (g : Nat → Nat → Int) : Bool := decide (1 ≤ n ∧ n ≤ 4 ∧ ∀ i, i < n → mileB (g i) = true)
def gangB (nm : Nat) (g : Nat → Int) : Bool := inB (g 0) 0 (nm - 1) && (inB (g 1) 0 (nm - 1) && (decide (g 0 ≤ g 1) && spanB (g 2) (g 3) 3))
def gangsB (nm n : Nat) (g : Nat → Nat → Int) : Bool := decide (1 ≤ n ∧ n ≤ 2 ∧ ∀ i, i < n → gangB nm (g i) = true)

theorem areMiles_any (p : Option Addr) (n cap : Nat) (g : Nat → Nat → Int) (w : World) (hs : Sl w p 3 n g) :
    Calls Tryd.prog 72 #[.slice p n cap] w fun e w' => e = .returned (.bool (milesB n g)) ∧ Below w.heap.size w w' := by
  by_cases h1 : 1 ≤ n ∧ n ≤ 4
  · have h4 : inB n 1 4 = true := by simp [inB]; omega
    go_enter Tryd.func72, Tryd.ntmps72
    go_wp2_with (go_at_call 71; refine (isWithin_any _ _ _ _).mono ?_; rintro e w' ⟨rfl, rfl⟩)
    go_loopw [11] (fun i wr => ∃ k : Nat, k ≤ n ∧ i = .int .i64 k ∧ (∀ j, j < k → mileB (g j) = true) ∧ Below w'.heap.size w' wr) (fun i _ => n - (intOf i).toNat)
    case atStart => exact ⟨0, Nat.zero_le _, rfl, by omega, Below.refl _ _⟩
    case round =>
      rename_i wr
      obtain ⟨k, hk, rfl, hall, hB⟩ := hrel
      have hsz := hB.size
      have Hall := Lib.hid hall
      clear hall
      by_cases hlt : k < n
      · obtain ⟨b, off, rfl, hb, hc⟩ := hs.row3 hlt
        obtain ⟨hd0, hd1, hd2⟩ := hc hB
        clear hc
        cases hsp : spanB (g k 0) (g k 1) 6
        all_goals
          have Hsp := Lib.hid hsp
          go_wp2_with (first | (go_at_call 91; refine (isSpan_any _ _ _ (by omega) (by omega) _).mono ?_; rintro e w2 ⟨rfl, hB2⟩; rw [World.size_alloc] at hB2; obtain ⟨hbox, hW2⟩ := box_facts hB2) | (go_at_call 71; refine (isWithin_any _ _ _ _).mono ?_; rintro e w3 ⟨rfl, rfl⟩))
          all_goals
            have hB3 := hB.trans (hW2.mono hsz)
            first
            | (go_ret
               exact ⟨ret_bool (by simp only [milesB]; symm; simp only [decide_eq_false_iff_not]; intro hh; have := hh.2.2 k hlt; simp_all [mileB]), hB3⟩)
            | (go_roundw
               case rel => exact ⟨k + 1, by omega, by go_num, fun j hj => by rcases Nat.lt_succ_iff_lt_or_eq.1 hj with h | rfl; exact Hall.out j h; simp_all [mileB], hB3⟩
               case measure => simp [intOf]; omega)
      · go_wp2
        go_ret
        exact ⟨ret_bool (by simp only [milesB]; symm; simp only [decide_eq_true_eq]; exact ⟨h1.1, h1.2, fun i hi => Hall.out i (by omega)⟩), hB⟩
  · have h4 : inB n 1 4 = false := by simp [inB]; omega
    go_enter Tryd.func72, Tryd.ntmps72
    go_wp2_with (go_at_call 71; refine (isWithin_any _ _ _ _).mono ?_; rintro e w' ⟨rfl, rfl⟩)
    go_ret
    exact ⟨ret_bool (by simp [milesB]; omega), Below.refl _ _⟩

theorem areGangs_any (p : Option Addr) (n cap nm : Nat) (g : Nat → Nat → Int) (w : World) (hs : Sl w p 4 n g) (hnm : nm ≤ 9223372036854775807) :
    Calls Tryd.prog 73 #[.slice p n cap, .int .i64 nm] w fun e w' => e = .returned (.bool (gangsB nm n g)) ∧ Below w.heap.size w w' := by
  by_cases h1 : 1 ≤ n ∧ n ≤ 2
  · have h4 : inB n 1 2 = true := by simp [inB]; omega
    go_enter Tryd.func73, Tryd.ntmps73
    go_wp2_with (go_at_call 71; refine (isWithin_any _ _ _ _).mono ?_; rintro e w' ⟨rfl, rfl⟩)
    go_loopw [13] (fun i wr => ∃ k : Nat, k ≤ n ∧ i = .int .i64 k ∧ (∀ j, j < k → gangB nm (g j) = true) ∧ Below w'.heap.size w' wr) (fun i _ => n - (intOf i).toNat)
    case atStart => exact ⟨0, Nat.zero_le _, rfl, by omega, Below.refl _ _⟩
    case round =>
      rename_i wr
      obtain ⟨k, hk, rfl, hall, hB⟩ := hrel
      have hsz := hB.size
      have Hall := Lib.hid hall
      clear hall
      by_cases hlt : k < n
      · obtain ⟨b, off, rfl, hb, hc⟩ := hs.row4 hlt
        obtain ⟨hd0, hd1, hd2, hd3⟩ := hc hB
        clear hc
        have hB1 := hB.alloc hsz (.cells #[.int .i64 (g k 0), .int .i64 (g k 1), .int .i64 (g k 2), .int .i64 (g k 3)] 59)
        cases hsp : spanB (g k 2) (g k 3) 3
        all_goals
          have Hsp := Lib.hid hsp
          go_wp2_with (first | (go_at_call 91; refine (isSpan_any _ _ _ (by omega) (by omega) _).mono ?_; rintro e w2 ⟨rfl, hB2⟩; have hB4 := hB1.trans (hB2.mono (by simp; omega))) | (go_at_call 35; refine (isNumber_any _ _ _ (by omega) (by omega)).mono ?_; rintro e w3 ⟨rfl, rfl⟩))
          all_goals
            first
            | (go_ret
               exact ⟨ret_bool (by simp only [gangsB]; symm; simp only [decide_eq_false_iff_not]; intro hh; have := hh.2.2 k hlt; simp only [gangB, Bool.and_eq_true, decide_eq_true_eq] at this; obtain ⟨t1, t2, t3, t4⟩ := this; first | omega | simp_all), by first | exact hB4 | exact hB1⟩)
            | (go_roundw
               case rel => exact ⟨k + 1, by omega, by go_num, fun j hj => by rcases Nat.lt_succ_iff_lt_or_eq.1 hj with h | rfl; exact Hall.out j h; simp only [gangB, Bool.and_eq_true, decide_eq_true_eq]; refine ⟨?_, ?_, ?_, ?_⟩ <;> first | omega | assumption | exact Hsp.out, by first | exact hB4 | exact hB1⟩
               case measure => simp [intOf]; omega)
      · go_wp2
        go_ret
        exact ⟨ret_bool (by simp only [gangsB]; symm; simp only [decide_eq_true_eq]; exact ⟨h1.1, h1.2, fun i hi => Hall.out i (by omega)⟩), hB⟩
  · have h4 : inB n 1 2 = false := by simp [inB]; omega
    go_enter Tryd.func73, Tryd.ntmps73
    go_wp2_with (go_at_call 71; refine (isWithin_any _ _ _ _).mono ?_; rintro e w' ⟨rfl, rfl⟩)
    go_ret
    exact ⟨ret_bool (by simp [gangsB]; omega), Below.refl _ _⟩

/-- The numbers of a book. -/
structure Book where
  nm : Nat
  mile : Nat → Nat → Int
  ng : Nat
  gang : Nat → Nat → Int
  nights : Int

def bookB (B : Book) : Bool := milesB B.nm B.mile && (gangsB B.nm B.ng B.gang && inB B.nights 1 4)

theorem isBook_any (B : Book) (pm pg : Option Addr) (cm cg : Nat) (w : World) (hm : Sl w pm 3 B.nm B.mile) (hg : Sl w pg 4 B.ng B.gang) (hlm : B.nm ≤ 9223372036854775807) :
    Calls Tryd.prog 43 #[.agg #[.slice pm B.nm cm, .slice pg B.ng cg, .int .i64 B.nights]] w fun e w' => e = .returned (.bool (bookB B)) ∧ Below w.heap.size w w' := by
  go_enter Tryd.func43, Tryd.ntmps43
  go_wp2_with fail
  refine (areMiles_any _ _ _ B.mile _ (hm.alloc _)).mono ?_
  rintro e w1 ⟨rfl, hB1⟩
  rw [World.size_alloc] at hB1
  obtain ⟨hbox1, hW1⟩ := box_facts hB1
  go_wp2_with (first
    | (go_at_call 73; refine (areGangs_any _ _ _ _ B.gang _ (hg.below (by assumption)) hlm).mono ?_; rintro e w2 ⟨rfl, hB2⟩; have hB2' := box_later hB1 hB2; obtain ⟨hbox2, hW2⟩ := box_facts hB2')
    | (go_at_call 71; refine (isWithin_any _ _ _ _).mono ?_; rintro e w6 ⟨rfl, rfl⟩))
  all_goals
    go_ret
    exact ⟨ret_bool (by simp_all [bookB]), by assumption⟩

theorem Check_any (B : Book) (pm pg : Option Addr) (cm cg : Nat) (w : World) (hm : Sl w pm 3 B.nm B.mile) (hg : Sl w pg 4 B.ng B.gang) (hlm : B.nm ≤ 9223372036854775807) :
    Calls Tryd.prog 10 #[.agg #[.slice pm B.nm cm, .slice pg B.ng cg, .int .i64 B.nights]] w fun e w' => e = .returned (.int .i64 (if bookB B = true then 0 else 40)) ∧ Below w.heap.size w w' := by
  go_enter Tryd.func10, Tryd.ntmps10
  go_wp2_with fail
  refine (isBook_any B _ _ _ _ _ (hm.alloc _) (hg.alloc _) hlm).mono ?_
  rintro e w1 ⟨rfl, hB1⟩
  rw [World.size_alloc] at hB1
  obtain ⟨hbox1, hW1⟩ := box_facts hB1
  go_wp2_with fail
  all_goals
    go_ret
    exact ⟨ret_int (by simp_all), hW1⟩
end Go.Proofs.YtdcgmacknccklaaDoor
