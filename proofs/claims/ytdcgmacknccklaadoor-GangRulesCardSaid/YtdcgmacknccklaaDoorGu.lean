/- What Can, May and Closed answer, the program's and the reference's, for any book and question. -/
import Derived.Test.YtdcgmacknccklaaDoorGt
import Derived.Test.YtdcgmacknccklaaDoorGo
import Derived.Test.YtdcgmacknccklaaDoorRj
namespace Go.Proofs.YtdcgmacknccklaaDoor
open Go Go.RowKit

/-- A list of numbers and an error. -/
def ListRes (l : List Int) (c : Int) (w : World) (e : Ending) (w' : World) : Prop :=
  ∃ p cap, e = .returned (.tuple #[.slice p l.length cap, .int .i64 c]) ∧ Sl w' p 1 l.length (fun i _ => l.getD i 0) ∧ Below w.heap.size w w'

theorem ListRes.none {c : Int} {w : World} {e : Ending} {w' : World} (h : e = .returned (.tuple #[.slice none 0 0, .int .i64 c]) ∧ Below w.heap.size w w') : ListRes [] c w e w' :=
  ⟨Option.none, 0, h.1, fun h => absurd h (by simp), h.2⟩

def canAsk (B : Book) (i m : Int) : Bool := inB i 0 (B.ng - 1) && inB m 0 (B.nm - 1)
def canL (B : Book) (i m : Int) : List Int := if bookB B && canAsk B i m then K (fun k => canB B i.toNat m.toNat k) B.nights.toNat else []
def canE (B : Book) (i m : Int) : Int := if bookB B then (if canAsk B i m then 0 else 41) else 40
def mayV (B : Book) (n : Nat) (g : Nat → Nat → Int) : Bool := bookB B && planB B n g
def closedL (B : Book) (n : Nat) (g : Nat → Nat → Int) (night : Int) : List Int := if bookB B && (inB night 0 (B.nights - 1) && planB B n g) then K (fun k : Nat => closeB n g night k) B.nm else []
def closedE (B : Book) (n : Nat) (g : Nat → Nat → Int) (night : Int) : Int := if bookB B then (if inB night 0 (B.nights - 1) && planB B n g then 0 else 41) else 40

theorem canL_le (B : Book) (i m : Int) : (canL B i m).length ≤ 1000 := by
  unfold canL
  split
  · rename_i h
    rw [Bool.and_eq_true] at h
    have := bookB_bd h.1
    have := K_le (fun k => canB B i.toNat m.toNat k) B.nights.toNat
    omega
  · simp

theorem closedL_le (B : Book) (n : Nat) (g : Nat → Nat → Int) (night : Int) : (closedL B n g night).length ≤ 1000 := by
  unfold closedL
  split
  · rename_i h
    rw [Bool.and_eq_true] at h
    have := bookB_bd h.1
    have := K_le (fun k : Nat => closeB n g night k) B.nm
    omega
  · simp

section
variable (B : Book) (pm pg pp : Option Addr) (cm cg cp n : Nat) (g : Nat → Nat → Int) (w : World)

theorem Check_all (hm : Sl w pm 3 B.nm B.mile) (hg : Sl w pg 4 B.ng B.gang) (hlm : B.nm ≤ 9223372036854775807) :
    Calls Tryd.prog 10 #[.agg #[.slice pm B.nm cm, .slice pg B.ng cg, .int .i64 B.nights]] w fun e w' => e = .returned (.int .i64 (ckI B)) ∧ Below w.heap.size w w' := by
  unfold ckI
  exact Check_any B pm pg cm cg w hm hg hlm

theorem Can_all (i m : Int) (hm : Sl w pm 3 B.nm B.mile) (hg : Sl w pg 4 B.ng B.gang) (hlm : B.nm ≤ 9223372036854775807) :
    Calls Tryd.prog 7 #[.agg #[.slice pm B.nm cm, .slice pg B.ng cg, .int .i64 B.nights], .int .i64 i, .int .i64 m] w (ListRes (canL B i m) (canE B i m) w) := by
  unfold canL canE
  cases hok : bookB B
  · exact (Can_no B pm pg cm cg w i m hm hg hlm hok).mono fun _ _ h => ListRes.none h
  · cases hq : canAsk B i m
    · exact (Can_wrong B pm pg cm cg w i m hm hg hok hq).mono fun _ _ h => ListRes.none h
    · simp only [canAsk, inB, Bool.and_eq_true, decide_eq_true_eq] at hq
      obtain ⟨i, rfl⟩ : ∃ k : Nat, i = k := ⟨i.toNat, by omega⟩
      obtain ⟨m, rfl⟩ : ∃ k : Nat, m = k := ⟨m.toNat, by omega⟩
      refine (Can_any B pm pg cm cg w hm hg hok i m i m rfl (by omega) rfl (by omega)).mono ?_
      rintro e w' ⟨p, h, hs, hb⟩
      exact ⟨p, _, h, hs, hb⟩

theorem rCan_all (i m : Int) (hm : Sl w pm 3 B.nm B.mile) (hg : Sl w pg 4 B.ng B.gang) (hlm : B.nm ≤ 9223372036854775807) (hlg : B.ng ≤ 9223372036854775807) :
    Calls Tryd.prog 8 #[.agg #[.slice pm B.nm cm, .slice pg B.ng cg, .int .i64 B.nights], .int .i64 i, .int .i64 m] w (ListRes (canL B i m) (canE B i m) w) := by
  unfold canL canE
  cases hok : bookB B
  · exact (rCan_no B pm pg cm cg w i m hm hg hlm hlg hok).mono fun _ _ h => ListRes.none h
  · cases hq : canAsk B i m
    · exact (rCan_wrong B pm pg cm cg w i m hm hg hok hq).mono fun _ _ h => ListRes.none h
    · simp only [canAsk, inB, Bool.and_eq_true, decide_eq_true_eq] at hq
      obtain ⟨i, rfl⟩ : ∃ k : Nat, i = k := ⟨i.toNat, by omega⟩
      obtain ⟨m, rfl⟩ : ∃ k : Nat, m = k := ⟨m.toNat, by omega⟩
      refine (rCan_any B pm pg cm cg w i m hm hg hok (by omega) (by omega)).mono ?_
      rintro e w' ⟨p, c, h, hs, hb⟩
      exact ⟨p, c, h, hs, hb⟩

theorem May_all (hm : Sl w pm 3 B.nm B.mile) (hg : Sl w pg 4 B.ng B.gang) (hlm : B.nm ≤ 9223372036854775807) (hN : NB w) (hp : Sl w pp 3 n g) (hn : n ≤ cp) (hc : cp ≤ 9223372036854775807) :
    Calls Tryd.prog 12 #[.agg #[.slice pm B.nm cm, .slice pg B.ng cg, .int .i64 B.nights], .slice pp n cp] w fun e w' => e = .returned (.tuple #[.bool (mayV B n g), .int .i64 (ckI B)]) ∧ Below w.heap.size w w' := by
  unfold mayV
  cases hok : bookB B
  · rw [ckI_false hok]
    exact May_no B pm pg pp cm cg cp n w hm hg hlm hok
  · rw [ckI_true hok]
    exact May_any B pm pg pp cm cg cp w hm hg hok hN n g hp hn hc

theorem rMay_all (hm : Sl w pm 3 B.nm B.mile) (hg : Sl w pg 4 B.ng B.gang) (hlm : B.nm ≤ 9223372036854775807) (hlg : B.ng ≤ 9223372036854775807) (hp : Sl w pp 3 n g) (hn : n ≤ 9223372036854775807) :
    Calls Tryd.prog 13 #[.agg #[.slice pm B.nm cm, .slice pg B.ng cg, .int .i64 B.nights], .slice pp n cp] w fun e w' => e = .returned (.tuple #[.bool (mayV B n g), .int .i64 (ckI B)]) ∧ Below w.heap.size w w' := by
  unfold mayV
  cases hok : bookB B
  · rw [ckI_false hok]
    exact rMay_no B pm pg pp cm cg cp n w hm hg hlm hlg hok
  · rw [ckI_true hok]
    exact rMay_any B pm pg pp cm cg cp n g w hm hg hok hp hn

theorem Closed_all (night : Int) (hm : Sl w pm 3 B.nm B.mile) (hg : Sl w pg 4 B.ng B.gang) (hlm : B.nm ≤ 9223372036854775807) (hN : NB w) (hp : Sl w pp 3 n g) (hn : n ≤ cp) (hc : cp ≤ 9223372036854775807) (hcp : pp = none → cp = 0) :
    Calls Tryd.prog 14 #[.agg #[.slice pm B.nm cm, .slice pg B.ng cg, .int .i64 B.nights], .slice pp n cp, .int .i64 night] w (ListRes (closedL B n g night) (closedE B n g night) w) := by
  unfold closedL closedE
  cases hok : bookB B
  · exact (Closed_no_book B pm pg pp cm cg cp n w hm hg hlm hok night).mono fun _ _ h => ListRes.none h
  · cases hq : inB night 0 (B.nights - 1)
    · exact (Closed_no_ask B pm pg pp cm cg cp n w hm hg hok night hq).mono fun _ _ h => ListRes.none h
    · cases hpl : planB B n g
      · exact (Closed_no_plan B pm pg pp cm cg cp n w hm hg hok hN g hp hn hc hpl night hq).mono fun _ _ h => ListRes.none h
      · refine (Closed_plan B pm pg pp cm cg cp n w hm hg hok hN g hp hn hc hcp hpl night hq).mono ?_
        rintro e w' ⟨p, h, hs, hb⟩
        exact ⟨p, _, h, hs, hb⟩

theorem rClosed_all (night : Int) (hm : Sl w pm 3 B.nm B.mile) (hg : Sl w pg 4 B.ng B.gang) (hlm : B.nm ≤ 9223372036854775807) (hlg : B.ng ≤ 9223372036854775807) (hp : Sl w pp 3 n g) (hn : n ≤ 9223372036854775807) :
    Calls Tryd.prog 15 #[.agg #[.slice pm B.nm cm, .slice pg B.ng cg, .int .i64 B.nights], .slice pp n cp, .int .i64 night] w (ListRes (closedL B n g night) (closedE B n g night) w) := by
  unfold closedL closedE
  cases hok : bookB B
  · exact (rClosed_no B pm pg pp cm cg cp n w night hm hg hlm hlg hok).mono fun _ _ h => ListRes.none h
  · cases hq : inB night 0 (B.nights - 1)
    · exact (rClosed_wrong B pm pg pp cm cg cp n w night hm hg hok hq).mono fun _ _ h => ListRes.none h
    · cases hpl : planB B n g
      · exact (rClosed_none B pm pg pp cm cg cp n g w night hm hg hok hp hn hq hpl).mono fun _ _ h => ListRes.none h
      · refine (rClosed_any B pm pg pp cm cg cp n g w night hm hg hok hp hn hq hpl).mono ?_
        rintro e w' ⟨p, c, h, hs, hb⟩
        exact ⟨p, c, h, hs, hb⟩
end
end Go.Proofs.YtdcgmacknccklaaDoor
