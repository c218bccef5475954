/-
  DrainKnown answers true, and turns nothing that was there: the row, and its card, under the condition that the listed variable holds what the program's text lays in it.
-/
import Derived.Test.YtoimgppbhpcliaaGreatDoorXRoot
import Derived.Test.YtoimgppbhpcliaaGreatDoorCards
import Derived.Test.YtoimgppbhpcliaaGreatDoorTie
import Derived.ProofKit
import Derived.LaidMore
import Derived.OpenShut
import Derived.Stop.Joined
import Derived.SevenTiedAt
namespace Go.Proofs.YtoimgppbhpcliaaGreatDoor
open Go Go.Ev Go.ChangeShapes Go.WideShapes Go.ChangeAt Go.RowKit

theorem own : ownKnob Tryz.prog.godebug = none := by kernel_rfl
theorem gFrost : Tryz.prog.globalNamed "macadam/drain.states" = some 0 := by kernel_rfl
theorem tFrost : (Tryz.prog.globals[0]?).map (·.type) = some 103 := by kernel_rfl
def laidL : List (String × DataW Unit) := [("macadam/drain.states", Rows.laid_macadam_drain_states)]
def frostV : List Value := [.int .i64 0, .int .i64 0, .int .i64 0, .int .i64 1, .int .i64 1, .int .i64 1]

/-- The door's own heap meets the condition. -/
theorem door_met (os : Os) (args : Array Value) : laidMetH Tryz.prog laidL ((World.doorLaid Tryz.prog 400 os).forCall (fun _ _ => 0) ⟨#[], args, []⟩).memory :=
  laidMetH_of_parts3 (fuel := 8) (laidMet_of_run' 8 (by kernel_rfl) (by kernel_rfl)) (by kernel_rfl) (by kernel_rfl)

set_option maxRecDepth 100000 in
theorem span_cells {H : Type} {enc : TypeId × Value → H} {W : World} {base : Nat} {spare : Nat → Bool} {held : Bool} {m : Nat} {cs : List Value} {x : DataW H × List MemPlace} (h : DataW.trod enc Tryz.prog W base spare held m 35 cs = some x) :
    ∃ a b, cs = [.int .i64 a, .int .i64 b] ∧ x.1 = .agg [.lit (.int .i64 a), .lit (.int .i64 b)] := by
  obtain ⟨y0, y1, n, rfl, hl, h0, h1⟩ := trod_struct2 Tryz.underlying35 h
  have c24 : Tryz.prog.cellsOf 35 = 2 := by kernel_rfl
  have c3 : Tryz.prog.cellsOf 3 = 1 := by kernel_rfl
  rw [c24] at hl
  match cs, hl with
  | [u, v], _ =>
    obtain ⟨a, e1, e2, _⟩ := DataW.trod_int Tryz.underlying3 h0
    obtain ⟨b, e3, e4, _⟩ := DataW.trod_int Tryz.underlying3 h1
    simp only [c3] at e1 e3
    simp at e1 e3
    refine ⟨a, b, by rw [e1, e3], ?_⟩
    rw [e2, e4]

set_option maxRecDepth 100000 in
theorem of_laid {W : World} (h : laidMetH Tryz.prog laidL W) : ∀ j u, frostV[j]? = some u → W.cell? ⟨0, j, none⟩ = some u := by
  rw [MakeChecks.laidMetH_plain _ _ _ (by kernel_rfl)] at h
  obtain ⟨ps, ⟨g0, t0, cs0, f0, p0, q0, hg0, ht0, hv0, hd0, _, _⟩, _, _⟩ := h
  obtain rfl := Option.some.inj (gFrost.symm.trans hg0)
  obtain rfl := Option.some.inj (tFrost.symm.trans ht0)
  obtain ⟨xs, m1, rfl, hx1, hlen, hn3, hel⟩ := DataW.trod_array Tryz.underlying103 hd0
  have c24 : Tryz.prog.cellsOf 35 = 2 := by kernel_rfl
  have c25 : Tryz.prog.cellsOf 103 = 6 := by kernel_rfl
  have h0 := hel 0 (by decide)
  have h1 := hel 1 (by decide)
  have h2 := hel 2 (by decide)
  simp only [c24, c25] at h0 h1 h2 hlen
  obtain ⟨l⟩ := cs0
  match xs, hn3 with
  | [x0, x1, x2], _ =>
    obtain ⟨a0, b0, e0, d0⟩ := span_cells (show DataW.trod _ Tryz.prog W 0 _ _ m1 35 _ = some x0 from h0)
    obtain ⟨a1, b1, e1, d1⟩ := span_cells (show DataW.trod _ Tryz.prog W 0 _ _ m1 35 _ = some x1 from h1)
    obtain ⟨a2, b2, e2, d2⟩ := span_cells (show DataW.trod _ Tryz.prog W 0 _ _ m1 35 _ = some x2 from h2)
    simp only [Prod.mk.injEq, Rows.laid_macadam_drain_states, List.map_cons, List.map_nil, DataW.agg.injEq, List.cons.injEq, d0, d1, d2, DataW.lit.injEq, Lit.int.injEq, and_true, true_and] at hx1
    match l, hlen with
    | [v0, v1, v2, v3, v4, v5], _ =>
      simp at e0 e1 e2
      obtain ⟨⟨⟨q1, q2⟩, ⟨q3, q4⟩, q5, q6⟩, _⟩ := hx1
      subst q1 q2 q3 q4 q5 q6
      obtain ⟨r1, r2⟩ := e0
      obtain ⟨r3, r4⟩ := e1
      obtain ⟨r5, r6⟩ := e2
      subst r1 r2 r3 r4 r5 r6
      have hl : ([.int .i64 0, .int .i64 0, .int .i64 0, .int .i64 1, .int .i64 1, .int .i64 1] : List Value) = frostV := rfl
      intro j u hj
      rw [World.var?_cell gFrost hv0 j]
      rw [← hl] at hj
      simpa using hj

theorem frost_lt {W : World} (h : laidMetH Tryz.prog laidL W) : 0 < W.heap.size := by
  have := of_laid h 0 _ rfl
  apply Classical.byContradiction
  intro hn
  have hs : W.heap[0]? = none := Array.getElem?_eq_none (by omega)
  simp [World.cell?, hs] at this

theorem known_calls {W : World} (h : laidMetH Tryz.prog laidL W) : Calls Tryz.prog 3 #[] W fun e W' => e = .returned (.bool true) ∧ Below W.heap.size W W' := by
  have := root_calls (G := 1) (P := Tryz.prog) (gl := gl0) rfl root_run root_true (w := W) (fun g hg => by have := frost_lt h; omega) (fun g cs hg => by
    have hlt := (List.getElem?_eq_some_iff.1 hg).1
    have e : g = 0 := by simpa [gl0] using hlt
    subst e
    have ec : cs = [.int .i64 0, .int .i64 0, .int .i64 0, .int .i64 1, .int .i64 1, .int .i64 1] := by simpa [gl0] using hg.symm
    subst ec
    refine ⟨frostV, ?_, of_laid h⟩
    simp only [frostV, VRs, VR]
    simp) 0
  exact (callsIn_wide.1 this).mono fun e W' ⟨h1, h2, h3, h4, h5, h6⟩ => ⟨h1, ⟨h2, h3, h4, h5, h6⟩⟩

set_option maxRecDepth 100000 in
theorem lifted (os : Os) (started : os.Started) (H : Type) (enc : TypeId × Value → H) :
    ReturnsInHanded {} Tryz.checked os 3 .any (fun w args => (Rows.drainKnownSpec.pre enc Tryz.prog Tryz.f3 [] false w args ∧ laidMetH Tryz.prog laidL w) ∧ sizedMet enc Tryz.prog Tryz.f3 (OpenSpec.ofChange Rows.drainKnownSpec) false w args)
      (Rows.drainKnownSpec.post enc Tryz.prog Tryz.f3 false true false false) := by
  refine returnsInHanded_of_change_and (C := Tryz.checked) (X := fun w _ => laidMetH Tryz.prog laidL w) (fun _ _ _ hh h => h.of_heap hh) own started (by kernel_rfl) Tryz.func3
    (ChangeSpec.witness_shaped (enc := enc) (C := Tryz.checked) (os := os) (X := fun w _ => laidMetH Tryz.prog laidL w) false (World.doorLaid Tryz.prog 400 os) #[] 8 rfl (World.shaped_of_RefB (by kernel_rfl) (by kernel_rfl)) (by kernel_rfl) (by kernel_rfl) (by kernel_rfl) (door_met os _)) ?_
  intro W base args ds gs before _ hW _ _ hL _
  have hW' := hW
  obtain ⟨p, q, hA0, hV, rfl, hfz, hnd⟩ := hW
  have hA : DataW.TrodAll enc Tryz.prog W 0 (fun _ => true) true Tryz.f3.params.toList args.toList ds p := hA0
  rw [Tryz.params3] at hA
  obtain ⟨hargs, rfl, rfl⟩ := trodAll_nil hA
  obtain ⟨rfl, rfl⟩ := trodVars_none hV
  have ea : args = #[] := by simpa using hargs
  subst ea
  simp only [List.append_nil] at hW'
  refine (known_calls hL).mono fun e W' ⟨he, hb⟩ => ?_
  subst he
  exact ⟨_, rfl, [], [], [], [], [], [], hW', trodAll_mk1 (shut_bool Tryz.underlying4 _), hA0, rfl, Below.frame hb _, fun hx => by cases hx⟩

theorem drainKnown_holds : Rows.DrainKnownSaid :=
  OpenClaim.holds_of_wide 3 Tryz.f3 rfl rfl rfl rfl rfl rfl rfl ⟨rfl, rfl, rfl, rfl, rfl⟩ rfl rfl rfl rfl rfl (by kernel_rfl) Tryz.func3 (by kernel_rfl)
    (of_decide_eq_true (by kernel_rfl)) (by unfold Func.isWrapper; first | (rw [if_pos (by decide +kernel)]; kernel_rfl) | (rw [if_neg (by decide +kernel)]; exact ⟨rfl, rfl⟩))
    (fun os started H enc _ => lifted os started H enc)

/-- The tied card. -/
theorem drainKnown_card : Rows.DrainKnownCardSaid :=
  Claim7.holds_tied_plain_at .later [] [.data] true (true, "0b1066664e4ed1b4000e22ccb5018ad909caa5c04aebe9d3b0b2f1fc3b4f3c01") false
    drainKnown_holds (fun _ h => by cases h) (by kernel_rfl) (fun _ h => by cases h) drainKnown_row_tie rfl ⟨rfl, rfl⟩ (by kernel_rfl) rfl
    (fun f fn hf hfn => by
      obtain rfl : f = 3 := Option.some.inj ((show Tryz.prog.funcNamed "macadam/macadamlaw05.DrainKnown" = some 3 by kernel_rfl).symm.trans hf) |>.symm
      obtain rfl : fn = Tryz.f3 := (Option.some.inj (Tryz.func3.symm.trans hfn)).symm
      exact ⟨by kernel_rfl, fun j t ht => by
        rw [Tryz.params3] at ht
        simp at ht⟩)
    (by kernel_rfl)
#print axioms drainKnown_card
end Go.Proofs.YtoimgppbhpcliaaGreatDoor
