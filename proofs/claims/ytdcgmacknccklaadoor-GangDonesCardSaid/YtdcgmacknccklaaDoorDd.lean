/- What Done, Mended and Open answer, the program's and the reference's, for any book, works and mile. -/
import Derived.Test.YtdcgmacknccklaaDoorDcf
import Derived.Test.YtdcgmacknccklaaDoorDe
import Derived.Test.YtdcgmacknccklaaDoorRl
import Derived.Test.YtdcgmacknccklaaDoorRm
import Derived.Test.YtdcgmacknccklaaDoorGu
namespace Go.Proofs.YtdcgmacknccklaaDoor
open Go Go.RowKit

def planE (B : Book) (n : Nat) (g : Nat → Nat → Int) (q : Bool) : Int := if bookB B then (if q && planB B n g then 0 else 41) else 40
def spanAt (B : Book) (n : Nat) (g : Nat → Nat → Int) (hi : Nat) (m : Int) : Int := if bookB B && (inB m 0 (B.nm - 1) && planB B n g) then doneF B hi g m n else 0
def mendL (B : Book) (n : Nat) (g : Nat → Nat → Int) : List Int := if bookB B && planB B n g then K (mdB B (fun m : Nat => doneF B 0 g m n)) B.nm else []
def openV (B : Book) (n : Nat) (g : Nat → Nat → Int) : Int := if bookB B && planB B n g then openN B (fun m : Nat => doneF B 0 g m n) else 0
def openC (B : Book) (n : Nat) (g : Nat → Nat → Int) : Int := if bookB B then (if planB B n g then openE B (fun m : Nat => doneF B 0 g m n) else 41) else 40

theorem mendL_le (B : Book) (n : Nat) (g : Nat → Nat → Int) : (mendL B n g).length ≤ 1000 := by
  unfold mendL
  split
  · rename_i h
    rw [Bool.and_eq_true] at h
    have := bookB_bd h.1
    have := K_le (mdB B (fun m : Nat => doneF B 0 g m n)) B.nm
    omega
  · simp

section
variable (B : Book) (pm pg pp : Option Addr) (cm cg cp n : Nat) (g : Nat → Nat → Int) (w : World)

theorem Mended_all (hm : Sl w pm 3 B.nm B.mile) (hg : Sl w pg 4 B.ng B.gang) (hlm : B.nm ≤ 9223372036854775807) (hN : NB w) (hp : Sl w pp 3 n g) (hn : n ≤ cp) (hc : cp ≤ 9223372036854775807) (hcp : pp = none → cp = 0) :
    Calls Tryd.prog 19 #[.agg #[.slice pm B.nm cm, .slice pg B.ng cg, .int .i64 B.nights], .slice pp n cp] w (ListRes (mendL B n g) (planE B n g true) w) := by
  unfold mendL planE
  cases hok : bookB B
  · exact (Mended_no B pm pg pp cm cg cp n w 40 (fun W hb => read_no_book B pm pg pp cm cg cp n W (hm.below hb) (hg.below hb) hlm hok true) rfl).mono fun _ _ h => ListRes.none h
  · cases hpl : planB B n g
    · exact (Mended_no B pm pg pp cm cg cp n w 41 (fun W hb => read_no_plan B pm pg pp cm cg cp n W (hm.below hb) (hg.below hb) hok (hN.below hb) g (hp.below hb) hn hc hpl) rfl).mono fun _ _ h => ListRes.none h
    · refine (Mended_plan B pm pg pp cm cg cp n w g hm hok (fun W hb => read_plan B pm pg pp cm cg cp n W (hm.below hb) (hg.below hb) hok (hN.below hb) g (hp.below hb) hn hc hcp hpl)).mono ?_
      rintro e w' ⟨p, c, h, hs, hb⟩
      exact ⟨p, c, h, hs, hb⟩

theorem rMended_all (hm : Sl w pm 3 B.nm B.mile) (hg : Sl w pg 4 B.ng B.gang) (hlm : B.nm ≤ 9223372036854775807) (hlg : B.ng ≤ 9223372036854775807) (hp : Sl w pp 3 n g) (hn : n ≤ 9223372036854775807) :
    Calls Tryd.prog 20 #[.agg #[.slice pm B.nm cm, .slice pg B.ng cg, .int .i64 B.nights], .slice pp n cp] w (ListRes (mendL B n g) (planE B n g true) w) := by
  unfold mendL planE
  cases hok : bookB B
  · exact (rMended_no B pm pg pp cm cg cp n w 40 (fun W hb => asked_no B pm pg pp cm cg cp n W true (hm.below hb) (hg.below hb) hlm hlg hok) rfl).mono fun _ _ h => ListRes.none h
  · cases hpl : planB B n g
    · exact (rMended_no B pm pg pp cm cg cp n w 41 (fun W hb => asked_plan B pm pg pp cm cg cp n g W false hpl (hm.below hb) (hg.below hb) hok (hp.below hb) hn) rfl).mono fun _ _ h => ListRes.none h
    · refine (rMended_plan B pm pg pp cm cg cp n g w hm hg hok hp hpl).mono ?_
      rintro e w' ⟨p, c, h, hs, hb⟩
      exact ⟨p, c, h, hs, hb⟩

theorem Open_all (hm : Sl w pm 3 B.nm B.mile) (hg : Sl w pg 4 B.ng B.gang) (hlm : B.nm ≤ 9223372036854775807) (hN : NB w) (hp : Sl w pp 3 n g) (hn : n ≤ cp) (hc : cp ≤ 9223372036854775807) (hcp : pp = none → cp = 0) :
    Calls Tryd.prog 21 #[.agg #[.slice pm B.nm cm, .slice pg B.ng cg, .int .i64 B.nights], .slice pp n cp] w fun e w' => e = .returned (.tuple #[.int .i64 (openV B n g), .int .i64 (openC B n g)]) ∧ Below w.heap.size w w' := by
  unfold openV openC
  cases hok : bookB B
  · exact Open_no B pm pg pp cm cg cp n w 40 (fun W hb => read_no_book B pm pg pp cm cg cp n W (hm.below hb) (hg.below hb) hlm hok true) rfl
  · cases hpl : planB B n g
    · exact Open_no B pm pg pp cm cg cp n w 41 (fun W hb => read_no_plan B pm pg pp cm cg cp n W (hm.below hb) (hg.below hb) hok (hN.below hb) g (hp.below hb) hn hc hpl) rfl
    · exact Open_plan B pm pg pp cm cg cp n w g hm hok (fun W hb => read_plan B pm pg pp cm cg cp n W (hm.below hb) (hg.below hb) hok (hN.below hb) g (hp.below hb) hn hc hcp hpl)

theorem rOpen_all (hm : Sl w pm 3 B.nm B.mile) (hg : Sl w pg 4 B.ng B.gang) (hlm : B.nm ≤ 9223372036854775807) (hlg : B.ng ≤ 9223372036854775807) (hp : Sl w pp 3 n g) (hn : n ≤ 9223372036854775807) :
    Calls Tryd.prog 22 #[.agg #[.slice pm B.nm cm, .slice pg B.ng cg, .int .i64 B.nights], .slice pp n cp] w fun e w' => e = .returned (.tuple #[.int .i64 (openV B n g), .int .i64 (openC B n g)]) ∧ Below w.heap.size w w' := by
  unfold openV openC
  cases hok : bookB B
  · exact rOpen_no B pm pg pp cm cg cp n w 40 (fun W hb => asked_no B pm pg pp cm cg cp n W true (hm.below hb) (hg.below hb) hlm hlg hok) rfl
  · cases hpl : planB B n g
    · exact rOpen_no B pm pg pp cm cg cp n w 41 (fun W hb => asked_plan B pm pg pp cm cg cp n g W false hpl (hm.below hb) (hg.below hb) hok (hp.below hb) hn) rfl
    · exact rOpen_plan B pm pg pp cm cg cp n g w hm hg hok hp hpl

theorem Done_all (m : Int) (hm : Sl w pm 3 B.nm B.mile) (hg : Sl w pg 4 B.ng B.gang) (hlm : B.nm ≤ 9223372036854775807) (hN : NB w) (hp : Sl w pp 3 n g) (hn : n ≤ cp) (hc : cp ≤ 9223372036854775807) (hcp : pp = none → cp = 0) :
    Calls Tryd.prog 17 #[.agg #[.slice pm B.nm cm, .slice pg B.ng cg, .int .i64 B.nights], .slice pp n cp, .int .i64 m] w fun e w' => e = .returned (.tuple #[.agg #[.int .i64 (spanAt B n g 0 m), .int .i64 (spanAt B n g 1 m)], .int .i64 (planE B n g (inB m 0 (B.nm - 1)))]) ∧ Below w.heap.size w w' := by
  unfold spanAt planE
  cases hok : bookB B
  · exact Done_no B pm pg pp cm cg cp n w hlm m 40 _ rfl (fun W hb => read_no_book B pm pg pp cm cg cp n W (hm.below hb) (hg.below hb) hlm hok _) rfl
  · cases hq : inB m 0 (B.nm - 1)
    · exact Done_no B pm pg pp cm cg cp n w hlm m 41 false hq (fun W hb => read_no_ask B pm pg pp cm cg cp n W (hm.below hb) (hg.below hb) hok) rfl
    · cases hpl : planB B n g
      · exact Done_no B pm pg pp cm cg cp n w hlm m 41 true hq (fun W hb => read_no_plan B pm pg pp cm cg cp n W (hm.below hb) (hg.below hb) hok (hN.below hb) g (hp.below hb) hn hc hpl) rfl
      · simp only [inB, Bool.and_eq_true, decide_eq_true_eq] at hq
        obtain ⟨k, rfl⟩ : ∃ k : Nat, m = k := ⟨m.toNat, by omega⟩
        exact Done_plan B pm pg pp cm cg cp n w g hg hok hpl k (by omega) (fun W hb => read_plan B pm pg pp cm cg cp n W (hm.below hb) (hg.below hb) hok (hN.below hb) g (hp.below hb) hn hc hcp hpl)

theorem rDone_all (m : Int) (hm : Sl w pm 3 B.nm B.mile) (hg : Sl w pg 4 B.ng B.gang) (hlm : B.nm ≤ 9223372036854775807) (hlg : B.ng ≤ 9223372036854775807) (hp : Sl w pp 3 n g) (hn : n ≤ 9223372036854775807) :
    Calls Tryd.prog 18 #[.agg #[.slice pm B.nm cm, .slice pg B.ng cg, .int .i64 B.nights], .slice pp n cp, .int .i64 m] w fun e w' => e = .returned (.tuple #[.agg #[.int .i64 (spanAt B n g 0 m), .int .i64 (spanAt B n g 1 m)], .int .i64 (planE B n g (inB m 0 (B.nm - 1)))]) ∧ Below w.heap.size w w' := by
  unfold spanAt planE
  cases hok : bookB B
  · exact rDone_no B pm pg pp cm cg cp n w hlm m 40 _ rfl (fun W hb => asked_no B pm pg pp cm cg cp n W _ (hm.below hb) (hg.below hb) hlm hlg hok) rfl
  · cases hq : inB m 0 (B.nm - 1)
    · exact rDone_no B pm pg pp cm cg cp n w hlm m 41 false hq (fun W hb => asked_wrong B pm pg pp cm cg cp n W (hm.below hb) (hg.below hb) hok) rfl
    · cases hpl : planB B n g
      · exact rDone_no B pm pg pp cm cg cp n w hlm m 41 true hq (fun W hb => asked_plan B pm pg pp cm cg cp n g W false hpl (hm.below hb) (hg.below hb) hok (hp.below hb) hn) rfl
      · exact rDone_plan B pm pg pp cm cg cp n g w hm hg hok hp hpl m (by simpa only [inB, Bool.and_eq_true, decide_eq_true_eq] using hq)
end
end Go.Proofs.YtdcgmacknccklaaDoor
