/-
  What the rows of the laws on layer 4 share: the variable that the program's text lays; the chapter's examples, carried out; arguments opened.
-/
import Derived.Test.YtdcgmacknccklaaDoorXRoot
import Derived.Test.YtdcgmacknccklaaDoorGab
import Derived.Test.YtdcgmacknccklaaDoorIn
import Derived.Test.YtdcgmacknccklaaDoorRows
import Derived.ProofKit
import Derived.LaidMore
import Derived.OpenShut
import Derived.Carry
import Derived.Stop.Joined
import Derived.SevenTiedAt
namespace Go.Proofs.YtdcgmacknccklaaDoor
open Go Go.Ev Go.ChangeShapes Go.WideShapes Go.ChangeAt Go.RowKit Go.Deep

theorem own : ownKnob Tryd.prog.godebug = none := by kernel_rfl
theorem gNear : Tryd.prog.globalNamed "macadam/gang.nearby" = some 0 := by kernel_rfl
theorem tNear : (Tryd.prog.globals[0]?).map (·.type) = some 27 := by kernel_rfl
def laidL : List (String × DataW Unit) := [("macadam/gang.nearby", Rows.laid_macadam_gang_nearby)]
def nearV : List Value := [.int .i64 (-1), .int .i64 0, .int .i64 1]

/-- The door's own heap meets the condition. -/
theorem door_met (os : Os) (args : Array Value) : laidMetH Tryd.prog laidL ((World.doorLaid Tryd.prog 400 os).forCall (fun _ _ => 0) ⟨#[], args, []⟩).memory :=
  laidMetH_of_parts3 (fuel := 8) (laidMet_of_run' 8 (by kernel_rfl) (by kernel_rfl)) (by kernel_rfl) (by kernel_rfl)

theorem int_cells {H : Type} {enc : TypeId × Value → H} {W : World} {base : Nat} {spare : Nat → Bool} {held : Bool} {m : Nat} {cs : List Value} {x : DataW H × List MemPlace} (h : DataW.trod enc Tryd.prog W base spare held m 3 cs = some x) :
    ∃ a, cs = [.int .i64 a] ∧ x.1 = .lit (.int .i64 a) := by
  obtain ⟨a, e1, e2, _⟩ := DataW.trod_int Tryd.underlying3 h
  exact ⟨a, e1, by rw [e2]⟩

set_option maxRecDepth 100000 in
theorem of_laid {W : World} (h : laidMetH Tryd.prog laidL W) : ∀ j u, nearV[j]? = some u → W.cell? ⟨0, j, none⟩ = some u := by
  rw [MakeChecks.laidMetH_plain _ _ _ (by kernel_rfl)] at h
  obtain ⟨ps, ⟨g0, t0, cs0, f0, p0, q0, hg0, ht0, hv0, hd0, _, _⟩, _, _⟩ := h
  obtain rfl := Option.some.inj (gNear.symm.trans hg0)
  obtain rfl := Option.some.inj (tNear.symm.trans ht0)
  obtain ⟨xs, m1, rfl, hx1, hlen, hn3, hel⟩ := DataW.trod_array Tryd.underlying27 hd0
  have c3 : Tryd.prog.cellsOf 3 = 1 := by kernel_rfl
  have cA : Tryd.prog.cellsOf 27 = 3 := by kernel_rfl
  have h0 := hel 0 (by decide)
  have h1 := hel 1 (by decide)
  have h2 := hel 2 (by decide)
  simp only [c3, cA] at h0 h1 h2 hlen
  obtain ⟨l⟩ := cs0
  match xs, hn3 with
  | [x0, x1, x2], _ =>
    obtain ⟨a0, e0, d0⟩ := int_cells (show DataW.trod _ Tryd.prog W 0 _ _ m1 3 _ = some x0 from h0)
    obtain ⟨a1, e1, d1⟩ := int_cells (show DataW.trod _ Tryd.prog W 0 _ _ m1 3 _ = some x1 from h1)
    obtain ⟨a2, e2, d2⟩ := int_cells (show DataW.trod _ Tryd.prog W 0 _ _ m1 3 _ = some x2 from h2)
    simp only [Prod.mk.injEq, Rows.laid_macadam_gang_nearby, List.map_cons, List.map_nil, DataW.agg.injEq, List.cons.injEq, d0, d1, d2, DataW.lit.injEq, Lit.int.injEq, and_true, true_and] at hx1
    match l, hlen with
    | [v0, v1, v2], _ =>
      simp at e0 e1 e2
      obtain ⟨⟨q1, q2, q3⟩, _⟩ := hx1
      subst q1 q2 q3
      subst e0 e1 e2
      have hl : ([.int .i64 (-1), .int .i64 0, .int .i64 1] : List Value) = nearV := rfl
      intro j u hj
      rw [World.var?_cell gNear hv0 j]
      rw [← hl] at hj
      simpa using hj

theorem nb_of_laid {W : World} (h : laidMetH Tryd.prog laidL W) : NB W := by
  refine ⟨World.block_lt_of_cell? W _ (of_laid h 0 _ rfl), fun j hj => ?_⟩
  obtain rfl | rfl | rfl : j = 0 ∨ j = 1 ∨ j = 2 := by omega
  · exact of_laid h 0 _ rfl
  · exact of_laid h 1 _ rfl
  · exact of_laid h 2 _ rfl

theorem shov_any (W : World) (h : NB W) : Calls Tryd.prog 16 #[] W fun e W' => e = .returned (.bool true) ∧ Below W.heap.size W W' := by
  have := root_calls (G := 1) (P := Tryd.prog) (gl := gl0) rfl root_run root_true (w := W) (fun g hg => by have := h.1; omega) (fun g cs hg => by
    have hlt := (List.getElem?_eq_some_iff.1 hg).1
    have e : g = 0 := by simpa [gl0] using hlt
    subst e
    have ec : cs = [.int .i64 (-1), .int .i64 0, .int .i64 1] := by simpa [gl0] using hg.symm
    subst ec
    refine ⟨nearV, ?_, fun j u hj => ?_⟩
    · simp only [nearV, VRs, VR]
      simp
    · match j, hj with
      | 0, hj => simp only [nearV, List.getElem?_cons_zero, Option.some.injEq] at hj; subst hj; exact h.2 0 (by omega)
      | 1, hj => simp only [nearV, List.getElem?_cons_succ, List.getElem?_cons_zero, Option.some.injEq] at hj; subst hj; exact h.2 1 (by omega)
      | 2, hj => simp only [nearV, List.getElem?_cons_succ, List.getElem?_cons_zero, Option.some.injEq] at hj; subst hj; exact h.2 2 (by omega)
      | _ + 3, hj => simp [nearV] at hj) 0
  exact (callsIn_wide.1 this).mono fun e W' ⟨h1, h2, h3, h4, h5, h6⟩ => ⟨h1, ⟨h2, h3, h4, h5, h6⟩⟩

theorem iInt : Ints Tryd.prog 3 1 := Ints.int Tryd.underlying3
theorem iSpan : Ints Tryd.prog 40 2 := Ints.struct2 Tryd.underlying40 (by kernel_rfl) iInt iInt rfl rfl (by kernel_rfl) (by kernel_rfl) rfl
theorem iMile : Ints Tryd.prog 62 3 := Ints.struct2 Tryd.underlying62 (by kernel_rfl) iSpan iInt rfl rfl (by kernel_rfl) (by kernel_rfl) rfl
theorem iGang : Ints Tryd.prog 59 4 := Ints.struct3 Tryd.underlying59 (by kernel_rfl) iInt iInt iSpan rfl rfl rfl (by kernel_rfl) (by kernel_rfl) (by kernel_rfl) rfl
theorem iWork : Ints Tryd.prog 54 3 := Ints.struct3 Tryd.underlying54 (by kernel_rfl) iInt iInt iInt rfl rfl rfl (by kernel_rfl) (by kernel_rfl) (by kernel_rfl) rfl
theorem iThree : Ints Tryd.prog 27 3 := Ints.array Tryd.underlying27 iInt (by kernel_rfl) (by kernel_rfl) rfl

section
variable {H : Type} {enc : TypeId × Value → H}
set_option maxRecDepth 100000 in
theorem open_book {W : World} {base : Nat} {v : Value} {d : DataW H} {p : List MemPlace} (hv : Value.okWide Tryd.prog W .any base 25 v) (h : DataW.Trod enc Tryd.prog W 0 (fun _ => true) true 25 v d p) :
    ∃ (B : Book) (pm pg : Option Addr) (cm cg : Nat), v = .agg #[.slice pm B.nm cm, .slice pg B.ng cg, .int .i64 B.nights] ∧ B.nm ≤ 9223372036854775807 ∧ B.ng ≤ 9223372036854775807 ∧ Sl W pm 3 B.nm B.mile ∧ Sl W pg 4 B.ng B.gang := by
  obtain ⟨cs, rfl, hsz⟩ := okWide_struct Tryd.underlying25 hv
  have cB : Tryd.prog.cellsOf 25 = 3 := by kernel_rfl
  have cm1 : Tryd.prog.cellsOf 22 = 1 := by kernel_rfl
  have cg1 : Tryd.prog.cellsOf 23 = 1 := by kernel_rfl
  have ci1 : Tryd.prog.cellsOf 3 = 1 := by kernel_rfl
  obtain ⟨l⟩ := cs
  match l, hsz.trans cB with
  | [x0, x1, x2], _ =>
    obtain ⟨fuel, hf⟩ := h
    obtain ⟨y0, y1, y2, n, _, _, h0, h1, h2⟩ := trod_struct3 Tryd.underlying25 hf
    simp only [Value.cells, cm1, cg1, ci1] at h0 h1 h2
    obtain ⟨pm, nm, cm, gm, e0, hlm, hcm, hm, _⟩ := open_rows Tryd.underlying22 (by kernel_rfl) (by omega) iMile (show DataW.trod enc Tryd.prog W 0 (fun _ => true) true n 22 [x0] = some y0 from h0)
    obtain ⟨pg, ng, cg, gg, e1, hlg, hcg, hg, _⟩ := open_rows Tryd.underlying23 (by kernel_rfl) (by omega) iGang (show DataW.trod enc Tryd.prog W 0 (fun _ => true) true n 23 [x1] = some y1 from h1)
    obtain ⟨a, e2, _⟩ := int_cells (show DataW.trod enc Tryd.prog W 0 (fun _ => true) true n 3 [x2] = some y2 from h2)
    have e2' : x2 = .int .i64 a := by simpa using e2
    subst e0 e1 e2'
    exact ⟨⟨nm, gm, ng, gg, a⟩, pm, pg, cm, cg, rfl, by show nm ≤ _; omega, by show ng ≤ _; omega, hm, hg⟩

set_option maxRecDepth 100000 in
theorem open_three {W : World} {base : Nat} {v : Value} {d : DataW H} {p : List MemPlace} (hv : Value.okWide Tryd.prog W .any base 27 v) (h : DataW.Trod enc Tryd.prog W 0 (fun _ => true) true 27 v d p) :
    ∃ a b c : Int, v = .agg #[.int .i64 a, .int .i64 b, .int .i64 c] := by
  simp only [Value.okWide, Tryd.underlying27] at hv
  obtain ⟨cs, rfl, _⟩ := hv
  obtain ⟨fuel, hf⟩ := h
  obtain ⟨l, hl, e⟩ := iThree hf
  match l, hl with
  | [a, b, c], _ =>
    obtain ⟨m⟩ := cs
    simp only [Value.cells] at e
    subst e
    exact ⟨a, b, c, rfl⟩

set_option maxRecDepth 100000 in
theorem open_works {W : World} {base : Nat} {v : Value} {d : DataW H} {p : List MemPlace} (hv : Value.okWide Tryd.prog W .any base 26 v) (h : DataW.Trod enc Tryd.prog W 0 (fun _ => true) true 26 v d p) :
    ∃ (pp : Option Addr) (n cp : Nat) (g : Nat → Nat → Int), v = .slice pp n cp ∧ n ≤ cp ∧ cp ≤ 9223372036854775807 ∧ Sl W pp 3 n g ∧ (pp = none → cp = 0) := by
  obtain ⟨a, l, c, rfl⟩ := okWide_slice Tryd.underlying26 hv
  obtain ⟨fuel, hf⟩ := h
  obtain ⟨pp, n, cp, g, e, h1, h2, h3, h4⟩ := open_rows Tryd.underlying26 (by kernel_rfl) (by omega) iWork (show DataW.trod enc Tryd.prog W 0 (fun _ => true) true fuel 26 [.slice a l c] = some _ from hf)
  exact ⟨pp, n, cp, g, e, h1, h2, h3, h4⟩
end

end Go.Proofs.YtdcgmacknccklaaDoor
