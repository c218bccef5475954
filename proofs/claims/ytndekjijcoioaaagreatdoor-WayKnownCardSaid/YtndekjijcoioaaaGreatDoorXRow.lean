/-
  WayKnown answers true, and turns nothing that was there: the row, and its card, under the condition that the listed variables hold what the program's text lays in them.
-/
import Derived.Test.YtndekjijcoioaaaGreatDoorXRoot
import Derived.Test.YtndekjijcoioaaaGreatDoorCards
import Derived.Test.YtndekjijcoioaaaGreatDoorTie
import Derived.ProofKit
import Derived.LaidMore
import Derived.OpenShut
import Derived.Stop.Joined
import Derived.SevenTiedAt
namespace Go.Proofs.YtndekjijcoioaaaGreatDoor
open Go Go.Ev Go.ChangeShapes Go.WideShapes Go.ChangeAt Go.RowKit

theorem own : ownKnob Tryz.prog.godebug = none := by kernel_rfl
theorem gLim : Tryz.prog.globalNamed "macadam/way.limits" = some 0 := by kernel_rfl
theorem tLim : (Tryz.prog.globals[0]?).map (·.type) = some 162 := by kernel_rfl
theorem gNear : Tryz.prog.globalNamed "macadam/gang.nearby" = some 1 := by kernel_rfl
theorem tNear : (Tryz.prog.globals[1]?).map (·.type) = some 182 := by kernel_rfl
def laidL : List (String × DataW Unit) := [("macadam/gang.nearby", Rows.laid_macadam_gang_nearby), ("macadam/way.limits", Rows.laid_macadam_way_limits)]
def nearV : List Value := [.int .i64 (-1), .int .i64 0, .int .i64 1]
def limV : List Value := [.int .i64 2, .int .i64 4, .int .i64 1, .int .i64 5, .int .i64 1, .int .i64 3, .int .i64 1, .int .i64 60, .int .i64 0, .int .i64 200]

/-- The door's own heap meets the condition. -/
theorem door_met (os : Os) (args : Array Value) : laidMetH Tryz.prog laidL ((World.doorLaid Tryz.prog 400 os).forCall (fun _ _ => 0) ⟨#[], args, []⟩).memory :=
  laidMetH_of_parts3 (fuel := 8) (laidMet_of_run' 8 (by kernel_rfl) (by kernel_rfl)) (by kernel_rfl) (by kernel_rfl)

set_option maxRecDepth 100000 in
theorem span_cells {H : Type} {enc : TypeId × Value → H} {W : World} {base : Nat} {spare : Nat → Bool} {held : Bool} {m : Nat} {cs : List Value} {x : DataW H × List MemPlace} (h : DataW.trod enc Tryz.prog W base spare held m 33 cs = some x) :
    ∃ a b, cs = [.int .i64 a, .int .i64 b] ∧ x.1 = .agg [.lit (.int .i64 a), .lit (.int .i64 b)] := by
  obtain ⟨y0, y1, n, rfl, hl, h0, h1⟩ := trod_struct2 Tryz.underlying33 h
  have c33 : Tryz.prog.cellsOf 33 = 2 := by kernel_rfl
  have c3 : Tryz.prog.cellsOf 3 = 1 := by kernel_rfl
  rw [c33] at hl
  match cs, hl with
  | [u, v], _ =>
    obtain ⟨a, e1, e2, _⟩ := DataW.trod_int Tryz.underlying3 h0
    obtain ⟨b, e3, e4, _⟩ := DataW.trod_int Tryz.underlying3 h1
    simp only [c3] at e1 e3
    simp at e1 e3
    refine ⟨a, b, by rw [e1, e3], ?_⟩
    rw [e2, e4]

theorem int_cells {H : Type} {enc : TypeId × Value → H} {W : World} {base : Nat} {spare : Nat → Bool} {held : Bool} {m : Nat} {cs : List Value} {x : DataW H × List MemPlace} (h : DataW.trod enc Tryz.prog W base spare held m 3 cs = some x) :
    ∃ a, cs = [.int .i64 a] ∧ x.1 = .lit (.int .i64 a) := by
  obtain ⟨a, e1, e2, _⟩ := DataW.trod_int Tryz.underlying3 h
  exact ⟨a, e1, by rw [e2]⟩

set_option maxRecDepth 100000 in
/-- The cells of a variable that is five spans. -/
theorem spans_cells {W : World} {fuel : Nat} {l : List Value} {p : List MemPlace} {a0 b0 a1 b1 a2 b2 a3 b3 a4 b4 : Int} (hd : DataW.trod (fun _ => ()) Tryz.prog W 0 (fun _ => true) false fuel 162 l = some (.agg [.agg [.lit (.int .i64 a0), .lit (.int .i64 b0)], .agg [.lit (.int .i64 a1), .lit (.int .i64 b1)], .agg [.lit (.int .i64 a2), .lit (.int .i64 b2)], .agg [.lit (.int .i64 a3), .lit (.int .i64 b3)], .agg [.lit (.int .i64 a4), .lit (.int .i64 b4)]], p)) :
    l = [.int .i64 a0, .int .i64 b0, .int .i64 a1, .int .i64 b1, .int .i64 a2, .int .i64 b2, .int .i64 a3, .int .i64 b3, .int .i64 a4, .int .i64 b4] := by
  obtain ⟨xs, m1, rfl, hx1, hlen, hn3, hel⟩ := DataW.trod_array Tryz.underlying162 hd
  have c33 : Tryz.prog.cellsOf 33 = 2 := by kernel_rfl
  have c162 : Tryz.prog.cellsOf 162 = 10 := by kernel_rfl
  have h0 := hel 0 (by decide)
  have h1 := hel 1 (by decide)
  have h2 := hel 2 (by decide)
  have h3 := hel 3 (by decide)
  have h4 := hel 4 (by decide)
  simp only [c33, c162] at h0 h1 h2 h3 h4 hlen
  match xs, hn3 with
  | [x0, x1, x2, x3, x4], _ =>
    obtain ⟨u0, v0, e0, d0⟩ := span_cells (show DataW.trod _ Tryz.prog W 0 _ _ m1 33 _ = some x0 from h0)
    obtain ⟨u1, v1, e1, d1⟩ := span_cells (show DataW.trod _ Tryz.prog W 0 _ _ m1 33 _ = some x1 from h1)
    obtain ⟨u2, v2, e2, d2⟩ := span_cells (show DataW.trod _ Tryz.prog W 0 _ _ m1 33 _ = some x2 from h2)
    obtain ⟨u3, v3, e3, d3⟩ := span_cells (show DataW.trod _ Tryz.prog W 0 _ _ m1 33 _ = some x3 from h3)
    obtain ⟨u4, v4, e4, d4⟩ := span_cells (show DataW.trod _ Tryz.prog W 0 _ _ m1 33 _ = some x4 from h4)
    simp only [Prod.mk.injEq, List.map_cons, List.map_nil, DataW.agg.injEq, List.cons.injEq, d0, d1, d2, d3, d4, DataW.lit.injEq, Lit.int.injEq, and_true, true_and] at hx1
    match l, hlen with
    | [w0, w1, w2, w3, w4, w5, w6, w7, w8, w9], _ =>
      simp at e0 e1 e2 e3 e4
      obtain ⟨⟨⟨p0, q0⟩, ⟨p1, q1⟩, ⟨p2, q2⟩, ⟨p3, q3⟩, p4, q4⟩, _⟩ := hx1
      obtain ⟨r0, s0⟩ := e0
      obtain ⟨r1, s1⟩ := e1
      obtain ⟨r2, s2⟩ := e2
      obtain ⟨r3, s3⟩ := e3
      obtain ⟨r4, s4⟩ := e4
      rw [r0, s0, r1, s1, r2, s2, r3, s3, r4, s4, p0, q0, p1, q1, p2, q2, p3, q3, p4, q4]

set_option maxRecDepth 100000 in
/-- The cells of a variable that is three numbers. -/
theorem ints_cells {W : World} {fuel : Nat} {l : List Value} {p : List MemPlace} {a0 a1 a2 : Int} (hd : DataW.trod (fun _ => ()) Tryz.prog W 0 (fun _ => true) false fuel 182 l = some (.agg [.lit (.int .i64 a0), .lit (.int .i64 a1), .lit (.int .i64 a2)], p)) :
    l = [.int .i64 a0, .int .i64 a1, .int .i64 a2] := by
  obtain ⟨xs, m1, rfl, hx1, hlen, hn3, hel⟩ := DataW.trod_array Tryz.underlying182 hd
  have c3 : Tryz.prog.cellsOf 3 = 1 := by kernel_rfl
  have c182 : Tryz.prog.cellsOf 182 = 3 := by kernel_rfl
  have h0 := hel 0 (by decide)
  have h1 := hel 1 (by decide)
  have h2 := hel 2 (by decide)
  simp only [c3, c182] at h0 h1 h2 hlen
  match xs, hn3 with
  | [x0, x1, x2], _ =>
    obtain ⟨u0, e0, d0⟩ := int_cells (show DataW.trod _ Tryz.prog W 0 _ _ m1 3 _ = some x0 from h0)
    obtain ⟨u1, e1, d1⟩ := int_cells (show DataW.trod _ Tryz.prog W 0 _ _ m1 3 _ = some x1 from h1)
    obtain ⟨u2, e2, d2⟩ := int_cells (show DataW.trod _ Tryz.prog W 0 _ _ m1 3 _ = some x2 from h2)
    simp only [Prod.mk.injEq, List.map_cons, List.map_nil, DataW.agg.injEq, List.cons.injEq, d0, d1, d2, DataW.lit.injEq, Lit.int.injEq, and_true, true_and] at hx1
    match l, hlen with
    | [w0, w1, w2], _ =>
      simp at e0 e1 e2
      obtain ⟨⟨q1, q2, q3⟩, _⟩ := hx1
      rw [e0, e1, e2, q1, q2, q3]

theorem of_laid {W : World} (h : laidMetH Tryz.prog laidL W) : (∀ j u, limV[j]? = some u → W.cell? ⟨0, j, none⟩ = some u) ∧ ∀ j u, nearV[j]? = some u → W.cell? ⟨1, j, none⟩ = some u := by
  rw [MakeChecks.laidMetH_plain _ _ _ (by kernel_rfl)] at h
  obtain ⟨ps, ⟨g0, t0, cs0, f0, p0, q0, hg0, ht0, hv0, hd0, ⟨g1, t1, cs1, f1, p1, q1, hg1, ht1, hv1, hd1, _, _⟩, _⟩, _, _⟩ := h
  obtain rfl := Option.some.inj (gNear.symm.trans hg0)
  obtain rfl := Option.some.inj (tNear.symm.trans ht0)
  obtain rfl := Option.some.inj (gLim.symm.trans hg1)
  obtain rfl := Option.some.inj (tLim.symm.trans ht1)
  have e0 : cs0.toList = nearV := ints_cells hd0
  have e1 : cs1.toList = limV := spans_cells hd1
  obtain ⟨l0⟩ := cs0
  obtain ⟨l1⟩ := cs1
  refine ⟨fun j u hj => ?_, fun j u hj => ?_⟩
  · rw [World.var?_cell gLim hv1 j]
    rw [← e1] at hj
    simpa using hj
  · rw [World.var?_cell gNear hv0 j]
    rw [← e0] at hj
    simpa using hj

theorem laid_lt {W : World} (h : laidMetH Tryz.prog laidL W) : 1 < W.heap.size := by
  have := (of_laid h).2 0 _ rfl
  apply Classical.byContradiction
  intro hn
  have hs : W.heap[1]? = none := Array.getElem?_eq_none (by omega)
  simp [World.cell?, hs] at this

theorem known_calls {W : World} (h : laidMetH Tryz.prog laidL W) : Calls Tryz.prog 3 #[] W fun e W' => e = .returned (.bool true) ∧ Below W.heap.size W W' := by
  have := root_calls (G := 2) (P := Tryz.prog) (gl := gl0) rfl root_run root_true (w := W) (fun g hg => by have := laid_lt h; omega) (fun g cs hg => by
    have hlt := (List.getElem?_eq_some_iff.1 hg).1
    have e : g = 0 ∨ g = 1 := by
      have : g < 2 := by simpa [gl0] using hlt
      omega
    rcases e with rfl | rfl
    · have ec : cs = [.int .i64 2, .int .i64 4, .int .i64 1, .int .i64 5, .int .i64 1, .int .i64 3, .int .i64 1, .int .i64 60, .int .i64 0, .int .i64 200] := by simpa [gl0] using hg.symm
      subst ec
      refine ⟨limV, ?_, (of_laid h).1⟩
      simp only [limV, VRs, VR]
      simp
    · have ec : cs = [.int .i64 (-1), .int .i64 0, .int .i64 1] := by simpa [gl0] using hg.symm
      subst ec
      refine ⟨nearV, ?_, (of_laid h).2⟩
      simp only [nearV, VRs, VR]
      simp) 0
  exact (callsIn_wide.1 this).mono fun e W' ⟨h1, h2, h3, h4, h5, h6⟩ => ⟨h1, ⟨h2, h3, h4, h5, h6⟩⟩

set_option maxRecDepth 100000 in
theorem lifted (os : Os) (started : os.Started) (H : Type) (enc : TypeId × Value → H) :
    ReturnsInHanded {} Tryz.checked os 3 .any (fun w args => (Rows.wayKnownSpec.pre enc Tryz.prog Tryz.f3 [] false w args ∧ laidMetH Tryz.prog laidL w) ∧ sizedMet enc Tryz.prog Tryz.f3 (OpenSpec.ofChange Rows.wayKnownSpec) false w args)
      (Rows.wayKnownSpec.post enc Tryz.prog Tryz.f3 false true false false) := by
  refine returnsInHanded_of_change_and (C := Tryz.checked) (X := fun w _ => laidMetH Tryz.prog laidL w) (fun _ _ _ hh h => h.of_heap hh) own started (by kernel_rfl) Tryz.func3
    (ChangeSpec.witness_shaped (enc := enc) (C := Tryz.checked) (os := os) (X := fun w _ => laidMetH Tryz.prog laidL w) false (World.doorLaid Tryz.prog 400 os) #[] 8 rfl (World.shaped_of_RefB (by kernel_rfl) (by kernel_rfl)) (by kernel_rfl) (by kernel_rfl) (by kernel_rfl) (door_met os _)) ?_
  intro W base args ds gs before _ hW _ _ hL _
  have hW' := hW
  obtain ⟨p, q, hA0, hV, rfl, hfz, hnd⟩ := hW
  have hA : DataW.TrodAll enc Tryz.prog W 0 (fun _ => true) true Tryz.f3.params.toList args.toList ds p := hA0
  rw [Tryz.params3] at hA
  obtain ⟨hargs, rfl, rfl⟩ := trodAll_nil hA
  obtain ⟨rfl, rfl⟩ := trodVars_none hV
  have ea : args = #[] := by simpa using hargs
  subst ea
  simp only [List.append_nil] at hW'
  refine (known_calls hL).mono fun e W' ⟨he, hb⟩ => ?_
  subst he
  exact ⟨_, rfl, [], [], [], [], [], [], hW', trodAll_mk1 (shut_bool Tryz.underlying4 _), hA0, rfl, Below.frame hb _, fun hx => by cases hx⟩

theorem wayKnown_holds : Rows.WayKnownSaid :=
  OpenClaim.holds_of_wide 3 Tryz.f3 rfl rfl rfl rfl rfl rfl rfl ⟨rfl, rfl, rfl, rfl, rfl⟩ rfl rfl rfl rfl rfl (by kernel_rfl) Tryz.func3 (by kernel_rfl)
    (of_decide_eq_true (by kernel_rfl)) (by unfold Func.isWrapper; first | (rw [if_pos (by decide +kernel)]; kernel_rfl) | (rw [if_neg (by decide +kernel)]; exact ⟨rfl, rfl⟩))
    (fun os started H enc _ => lifted os started H enc)

/-- The tied card. -/
theorem wayKnown_card : Rows.WayKnownCardSaid :=
  Claim7.holds_tied_plain_at .later [] [.data, .data] true (true, "b3536ed7be970b063e0826cc07659f8720a367aa00822abfef614ab7f94ff7af") false
    wayKnown_holds (fun _ h => by cases h) (by kernel_rfl) (fun _ h => by cases h) wayKnown_row_tie rfl ⟨rfl, rfl⟩ (by kernel_rfl) rfl
    (fun f fn hf hfn => by
      obtain rfl : f = 3 := Option.some.inj ((show Tryz.prog.funcNamed "macadam/macadamlaw09.WayKnown" = some 3 by kernel_rfl).symm.trans hf) |>.symm
      obtain rfl : fn = Tryz.f3 := (Option.some.inj (Tryz.func3.symm.trans hfn)).symm
      exact ⟨by kernel_rfl, fun j t ht => by
        rw [Tryz.params3] at ht
        simp at ht⟩)
    (by kernel_rfl)
#print axioms wayKnown_card
end Go.Proofs.YtndekjijcoioaaaGreatDoor
