/-
  GangKnown answers true, and turns nothing that was there: the row, and its card, under the condition that the listed variable holds what the program's text lays in it.
-/
import Derived.Test.YtehbbnlmindhlaaDoorXRoot
import Derived.Test.YtehbbnlmindhlaaDoorCards
import Derived.Test.YtehbbnlmindhlaaDoorTie
import Derived.ProofKit
import Derived.LaidMore
import Derived.OpenShut
import Derived.Stop.Joined
import Derived.SevenTiedAt
namespace Go.Proofs.YtehbbnlmindhlaaDoor
open Go Go.Ev Go.ChangeShapes Go.WideShapes Go.ChangeAt Go.RowKit

theorem own : ownKnob Tryd.prog.godebug = none := by kernel_rfl
theorem gNear : Tryd.prog.globalNamed "macadam/gang.nearby" = some 0 := by kernel_rfl
theorem tNear : (Tryd.prog.globals[0]?).map (·.type) = some 126 := by kernel_rfl
def laidL : List (String × DataW Unit) := [("macadam/gang.nearby", Rows.laid_macadam_gang_nearby)]
def nearV : List Value := [.int .i64 (-1), .int .i64 0, .int .i64 1]

/-- The door's own heap meets the condition. -/
theorem door_met (os : Os) (args : Array Value) : laidMetH Tryd.prog laidL ((World.doorLaid Tryd.prog 400 os).forCall (fun _ _ => 0) ⟨#[], args, []⟩).memory :=
  laidMetH_of_parts3 (fuel := 8) (laidMet_of_run' 8 (by kernel_rfl) (by kernel_rfl)) (by kernel_rfl) (by kernel_rfl)

theorem int_cells {H : Type} {enc : TypeId × Value → H} {W : World} {base : Nat} {spare : Nat → Bool} {held : Bool} {m : Nat} {cs : List Value} {x : DataW H × List MemPlace} (h : DataW.trod enc Tryd.prog W base spare held m 3 cs = some x) :
    ∃ a, cs = [.int .i64 a] ∧ x.1 = .lit (.int .i64 a) := by
  obtain ⟨a, e1, e2, _⟩ := DataW.trod_int Tryd.underlying3 h
  exact ⟨a, e1, by rw [e2]⟩

set_option maxRecDepth 100000 in
theorem of_laid {W : World} (h : laidMetH Tryd.prog laidL W) : ∀ j u, nearV[j]? = some u → W.cell? ⟨0, j, none⟩ = some u := by
  rw [MakeChecks.laidMetH_plain _ _ _ (by kernel_rfl)] at h
  obtain ⟨ps, ⟨g0, t0, cs0, f0, p0, q0, hg0, ht0, hv0, hd0, _, _⟩, _, _⟩ := h
  obtain rfl := Option.some.inj (gNear.symm.trans hg0)
  obtain rfl := Option.some.inj (tNear.symm.trans ht0)
  obtain ⟨xs, m1, rfl, hx1, hlen, hn3, hel⟩ := DataW.trod_array Tryd.underlying126 hd0
  have c3 : Tryd.prog.cellsOf 3 = 1 := by kernel_rfl
  have c126 : Tryd.prog.cellsOf 126 = 3 := by kernel_rfl
  have h0 := hel 0 (by decide)
  have h1 := hel 1 (by decide)
  have h2 := hel 2 (by decide)
  simp only [c3, c126] at h0 h1 h2 hlen
  obtain ⟨l⟩ := cs0
  match xs, hn3 with
  | [x0, x1, x2], _ =>
    obtain ⟨a0, e0, d0⟩ := int_cells (show DataW.trod _ Tryd.prog W 0 _ _ m1 3 _ = some x0 from h0)
    obtain ⟨a1, e1, d1⟩ := int_cells (show DataW.trod _ Tryd.prog W 0 _ _ m1 3 _ = some x1 from h1)
    obtain ⟨a2, e2, d2⟩ := int_cells (show DataW.trod _ Tryd.prog W 0 _ _ m1 3 _ = some x2 from h2)
    simp only [Prod.mk.injEq, Rows.laid_macadam_gang_nearby, List.map_cons, List.map_nil, DataW.agg.injEq, List.cons.injEq, d0, d1, d2, DataW.lit.injEq, Lit.int.injEq, and_true, true_and] at hx1
    match l, hlen with
    | [v0, v1, v2], _ =>
      simp at e0 e1 e2
      obtain ⟨⟨q1, q2, q3⟩, _⟩ := hx1
      subst q1 q2 q3
      subst e0 e1 e2
      have hl : ([.int .i64 (-1), .int .i64 0, .int .i64 1] : List Value) = nearV := rfl
      intro j u hj
      rw [World.var?_cell gNear hv0 j]
      rw [← hl] at hj
      simpa using hj

theorem near_lt {W : World} (h : laidMetH Tryd.prog laidL W) : 0 < W.heap.size := by
  have := of_laid h 0 _ rfl
  apply Classical.byContradiction
  intro hn
  have hs : W.heap[0]? = none := Array.getElem?_eq_none (by omega)
  simp [World.cell?, hs] at this

theorem known_calls {W : World} (h : laidMetH Tryd.prog laidL W) : Calls Tryd.prog 3 #[] W fun e W' => e = .returned (.bool true) ∧ Below W.heap.size W W' := by
  have := root_calls (G := 1) (P := Tryd.prog) (gl := gl0) rfl root_run root_true (w := W) (fun g hg => by have := near_lt h; omega) (fun g cs hg => by
    have hlt := (List.getElem?_eq_some_iff.1 hg).1
    have e : g = 0 := by simpa [gl0] using hlt
    subst e
    have ec : cs = [.int .i64 (-1), .int .i64 0, .int .i64 1] := by simpa [gl0] using hg.symm
    subst ec
    refine ⟨nearV, ?_, of_laid h⟩
    simp only [nearV, VRs, VR]
    simp) 0
  exact (callsIn_wide.1 this).mono fun e W' ⟨h1, h2, h3, h4, h5, h6⟩ => ⟨h1, ⟨h2, h3, h4, h5, h6⟩⟩

set_option maxRecDepth 100000 in
theorem lifted (os : Os) (started : os.Started) (H : Type) (enc : TypeId × Value → H) :
    ReturnsInHanded {} Tryd.checked os 3 .any (fun w args => (Rows.gangKnownSpec.pre enc Tryd.prog Tryd.f3 [] false w args ∧ laidMetH Tryd.prog laidL w) ∧ sizedMet enc Tryd.prog Tryd.f3 (OpenSpec.ofChange Rows.gangKnownSpec) false w args)
      (Rows.gangKnownSpec.post enc Tryd.prog Tryd.f3 false true false false) := by
  refine returnsInHanded_of_change_and (C := Tryd.checked) (X := fun w _ => laidMetH Tryd.prog laidL w) (fun _ _ _ hh h => h.of_heap hh) own started (by kernel_rfl) Tryd.func3
    (ChangeSpec.witness_shaped (enc := enc) (C := Tryd.checked) (os := os) (X := fun w _ => laidMetH Tryd.prog laidL w) false (World.doorLaid Tryd.prog 400 os) #[] 8 rfl (World.shaped_of_RefB (by kernel_rfl) (by kernel_rfl)) (by kernel_rfl) (by kernel_rfl) (by kernel_rfl) (door_met os _)) ?_
  intro W base args ds gs before _ hW _ _ hL _
  have hW' := hW
  obtain ⟨p, q, hA0, hV, rfl, hfz, hnd⟩ := hW
  have hA : DataW.TrodAll enc Tryd.prog W 0 (fun _ => true) true Tryd.f3.params.toList args.toList ds p := hA0
  rw [Tryd.params3] at hA
  obtain ⟨hargs, rfl, rfl⟩ := trodAll_nil hA
  obtain ⟨rfl, rfl⟩ := trodVars_none hV
  have ea : args = #[] := by simpa using hargs
  subst ea
  simp only [List.append_nil] at hW'
  refine (known_calls hL).mono fun e W' ⟨he, hb⟩ => ?_
  subst he
  exact ⟨_, rfl, [], [], [], [], [], [], hW', trodAll_mk1 (shut_bool Tryd.underlying4 _), hA0, rfl, Below.frame hb _, fun hx => by cases hx⟩

theorem gangKnown_holds : Rows.GangKnownSaid :=
  OpenClaim.holds_of_wide 3 Tryd.f3 rfl rfl rfl rfl rfl rfl rfl ⟨rfl, rfl, rfl, rfl, rfl⟩ rfl rfl rfl rfl rfl (by kernel_rfl) Tryd.func3 (by kernel_rfl)
    (of_decide_eq_true (by kernel_rfl)) (by unfold Func.isWrapper; first | (rw [if_pos (by decide +kernel)]; kernel_rfl) | (rw [if_neg (by decide +kernel)]; exact ⟨rfl, rfl⟩))
    (fun os started H enc _ => lifted os started H enc)

/-- The tied card. -/
theorem gangKnown_card : Rows.GangKnownCardSaid :=
  Claim7.holds_tied_plain_at .later [] [.data] true (true, "c208c64f741a43b02ca195c9c69ff4ba6cb539249ef9b5960d2336a2e6672392") false
    gangKnown_holds (fun _ h => by cases h) (by kernel_rfl) (fun _ h => by cases h) gangKnown_row_tie rfl ⟨rfl, rfl⟩ (by kernel_rfl) rfl
    (fun f fn hf hfn => by
      obtain rfl : f = 3 := Option.some.inj ((show Tryd.prog.funcNamed "macadam/macadamlaw04.GangKnown" = some 3 by kernel_rfl).symm.trans hf) |>.symm
      obtain rfl : fn = Tryd.f3 := (Option.some.inj (Tryd.func3.symm.trans hfn)).symm
      exact ⟨by kernel_rfl, fun j t ht => by
        rw [Tryd.params3] at ht
        simp at ht⟩)
    (by kernel_rfl)
#print axioms gangKnown_card
end Go.Proofs.YtehbbnlmindhlaaDoor
