/- Texts of one kind, one behind the other: SyW, Pc, Pk. -/
import Derived.Test.YtlnmcadbmpiopaaQk7
import Derived.ProofKit
import Derived.Handed
import Derived.Test.YtlnmcadbmpiopaaXRoot
import Derived.Test.YtlnmcadbmpiopaaRows
import Derived.OpenShut
set_option linter.unusedVariables false
set_option linter.unusedSimpArgs false
/- A row's contract, in a world that holds something. -/
namespace Go.Ev
open Go Go.ChangeShapes Go.WideShapes Go.ChangeAt
section
variable {H : Type} {enc : TypeId × Value → H}
theorem heap_pos {P : Program} {w : World} (h : World.ShapedOpen P w) (hb : decide (P.globals.size < (begin P (fun _ _ => 0) default).world.heap.size) = true) : 0 < w.heap.size := by
  obtain ⟨o, _, h1, _⟩ := h.2 P.globals.size (Nat.le_refl _) (of_decide_eq_true hb)
  have := (Array.getElem?_eq_some_iff.1 h1).1
  omega
theorem returnsInHanded_of_change_h {a : Assume} {C : Checked} {os : Os} {f : FuncId} {fn : Func} {s : ChangeSpec} {conds : List PathCond} {apart fresh handsOn again : Bool}
    (own : ownKnob C.prog.godebug = none) (started : os.Started) (noInit : C.prog.inits.idxOf? f = none) (hfn : C.prog.funcs[f]? = some fn) (hb : decide (C.prog.globals.size < (begin C.prog (fun _ _ => 0) default).world.heap.size) = true)
    (witness : ∃ (w : World) (tape : Tape) (i : Input), w.os = os ∧ (w.forCall tape i).Shaped C.prog ∧ i.vars = [] ∧ Input.okWide C.prog (w.forCall tape i) .any w.heap.size f i ∧
      s.pre6 enc C.prog fn conds apart (w.forCall tape i).memory i.args ∧ a.holds C.prog (lone (Frame.enter C.prog f i.args .normal) [] (w.forCall tape i)))
    (contract : ∀ (W : World) (base : Nat) (args : Array Value) (ds gs : List (DataW H)) (before : List MemPlace), 0 < W.heap.size →
      (∀ (j : Nat) t v, fn.params[j]? = some t → args[j]? = some v → Value.okWide C.prog W .any base t v) →
      DataW.Whole enc C.prog fn.params.toList s.vars apart W args.toList ds gs before →
      conds.all (PathCond.test C.prog ⟨fn.params.toList, ds, s.plain.varTypes C.prog, gs⟩) = true →
      a.holds C.prog (lone (Frame.enter C.prog f args .normal) [] W) →
      Calls C.prog f args W fun e W' => ∃ v, e = .returned v ∧ s.post enc C.prog fn apart fresh handsOn again W args v W') :
    ReturnsInHanded a C os f .any (s.pre6 enc C.prog fn conds apart) (s.post enc C.prog fn apart fresh handsOn again) := by
  refine returnsInHanded_of_calls own started noInit witness ?_
  intro w tape i _ hsh _ hok hpre hholds
  obtain ⟨_, _, _, fn', hfn', _, _, _, _, hval⟩ := hok
  have e : fn' = fn := Option.some.inj (hfn'.symm.trans hfn)
  subst e
  obtain ⟨⟨ds, gs, before, hw, hc⟩, _⟩ := hpre
  have hw' := DataW.Whole.of_heap (w' := w.forCall tape i) (by rfl) hw
  refine (contract (w.forCall tape i) w.heap.size i.args ds gs before (heap_pos hsh hb) hval hw' hc hholds).mono fun e W' ⟨v, he, hp⟩ => ?_
  subst he
  exact ChangeSpec.post_blind hp
end
end Go.Ev
/-
  What the rows of the laws on layer 6 share: the chapter's examples, carried out; a book of claims that came in.
-/
namespace Go.Proofs.Ytlnmcadbmpiopaa
open Go Go.Ev Go.ChangeShapes Go.WideShapes Go.ChangeAt Go.RowKit Go.Deep
theorem own : ownKnob Try.prog.godebug = none := by kernel_rfl
theorem heaped0 : decide (Try.prog.globals.size < (begin Try.prog (fun _ _ => 0) default).world.heap.size) = true := by kernel_rfl
theorem bill_ok : BillOK := by
  obtain ⟨H', c', hr⟩ := saysTrue_some root_true
  have hk := root_run _ _ _ _ _ _ _ _ hr
  refine ⟨hk.1, fun ρ w us hH hv r n => (hk.2 ρ w us hH hv r n).mono ?_⟩
  rintro e w' ⟨u, rfl, ρ', h1, h2, h3, h4⟩
  exact ⟨u, _, H', c', ρ', rfl, rfl, h1, h2, h3.count, .of_ext h3 (Nat.le_refl _), h4⟩
theorem lInt : Go.Ev.Leaves Try.prog 3 [3] := Go.Ev.Leaves.int Try.underlying3
theorem lSpan : Go.Ev.Leaves Try.prog 32 [3, 3] := Go.Ev.Leaves.struct (uss := [[3], [3]]) Try.underlying32 ⟨⟨lInt, rfl, by kernel_rfl⟩, ⟨lInt, rfl, by kernel_rfl⟩, trivial⟩ (by kernel_rfl)
theorem lStage : Go.Ev.Leaves Try.prog 56 [3, 3, 3, 3, 3, 3, 3] := Go.Ev.Leaves.struct (uss := [[3], [3, 3], [3, 3], [3, 3]]) Try.underlying56 ⟨⟨lInt, rfl, by kernel_rfl⟩, ⟨lSpan, rfl, by kernel_rfl⟩, ⟨lSpan, rfl, by kernel_rfl⟩, ⟨lSpan, rfl, by kernel_rfl⟩, trivial⟩ (by kernel_rfl)
theorem lClock : Go.Ev.Leaves Try.prog 42 [3, 3, 3] := Go.Ev.Leaves.struct (uss := [[3], [3], [3]]) Try.underlying42 ⟨⟨lInt, rfl, by kernel_rfl⟩, ⟨lInt, rfl, by kernel_rfl⟩, ⟨lInt, rfl, by kernel_rfl⟩, trivial⟩ (by kernel_rfl)
theorem lThree : Go.Ev.Leaves Try.prog 23 [3, 3, 3] := Go.Ev.Leaves.array (us := [3]) Try.underlying23 lInt (by kernel_rfl) (by kernel_rfl) (by decide)
abbrev bookT : List Nat := [22, 3, 3, 3, 3, 24, 3]
theorem lBook : Go.Ev.Leaves Try.prog 26 bookT := Go.Ev.Leaves.struct (uss := [[22], [3], [3, 3, 3], [24], [3]]) Try.underlying26 ⟨⟨Go.Ev.Leaves.slice Try.underlying22, rfl, by kernel_rfl⟩, ⟨lInt, rfl, by kernel_rfl⟩, ⟨lThree, rfl, by kernel_rfl⟩, ⟨Go.Ev.Leaves.slice Try.underlying24, rfl, by kernel_rfl⟩, ⟨lInt, rfl, by kernel_rfl⟩, trivial⟩ (by kernel_rfl)
section
variable {H : Type} {enc : TypeId × Value → H}
theorem ints_all {us : List Nat} (h : (us.all fun u => u == 3) = true) : ∀ u ∈ us, Try.prog.underlying u = some (.int .i64) := fun u hu => by
  have := List.all_eq_true.1 h u hu
  rw [eq_of_beq this]
  exact Try.underlying3
set_option maxRecDepth 100000 in
theorem open_book {W : World} {b0 : Nat} {v : Value} {d : DataW H} {p : List MemPlace} (hv : Value.okWide Try.prog W .any b0 26 v) (h : DataW.Trod enc Try.prog W 0 (fun _ => true) true 26 v d p) :
    ∃ (B : CBook) (v0 v5 : Value) (g0 g5 : Nat → Nat → Int), v = .agg #[v0, .int .i64 B.wea, .int .i64 (B.cost 0), .int .i64 (B.cost 1), .int .i64 (B.cost 2), v5, .int .i64 B.rate] ∧ RowsW W v0 B.ns 7 g0 ∧ RowsW W v5 B.nc 3 g5 ∧
      (∀ i j a, j < 7 → (stE B i)[j]? = some a → g0 i j = a) ∧ ∀ i j a, j < 3 → (ckE B i)[j]? = some a → g5 i j = a := by
  obtain ⟨cs, rfl, hl, hc⟩ := open_cells (us := bookT) (by kernel_rfl) lBook (by kernel_rfl) hv h
  obtain ⟨v0, m0, y0, e0, o0, d0⟩ := hc 0 _ rfl
  obtain ⟨v1, m1, y1, e1, o1, d1⟩ := hc 1 _ rfl
  obtain ⟨v2, m2, y2, e2, o2, d2⟩ := hc 2 _ rfl
  obtain ⟨v3, m3, y3, e3, o3, d3⟩ := hc 3 _ rfl
  obtain ⟨v4, m4, y4, e4, o4, d4⟩ := hc 4 _ rfl
  obtain ⟨v5, m5, y5, e5, o5, d5⟩ := hc 5 _ rfl
  obtain ⟨v6, m6, y6, e6, o6, d6⟩ := hc 6 _ rfl
  obtain ⟨n0, g0, r0⟩ := open_rowsW Try.underlying22 lStage (ints_all rfl) rfl (by kernel_rfl) o0 d0
  obtain ⟨n5, g5, r5⟩ := open_rowsW Try.underlying24 lClock (ints_all rfl) rfl (by kernel_rfl) o5 d5
  obtain ⟨a1, rfl, _⟩ := open_num Try.underlying3 o1
  obtain ⟨a2, rfl, _⟩ := open_num Try.underlying3 o2
  obtain ⟨a3, rfl, _⟩ := open_num Try.underlying3 o3
  obtain ⟨a4, rfl, _⟩ := open_num Try.underlying3 o4
  obtain ⟨a6, rfl, _⟩ := open_num Try.underlying3 o6
  match cs, hl with
  | [x0, x1, x2, x3, x4, x5, x6], _ =>
    simp at e0 e1 e2 e3 e4 e5 e6
    subst e0 e1 e2 e3 e4 e5 e6
    refine ⟨⟨n0, fun i => g0 i 0, fun i => g0 i 1, fun i => g0 i 2, fun i => g0 i 3, fun i => g0 i 4, fun i => g0 i 5, fun i => g0 i 6, a1, fun i => if i = 0 then a2 else if i = 1 then a3 else a4, n5, fun i => g5 i 0, fun i => g5 i 1, fun i => g5 i 2, a6⟩, x0, x5, g0, g5, rfl, r0, r5, fun i j a hj ha => ?_, fun i j a hj ha => ?_⟩
    · match j, hj with
      | 0, _ => simpa [stE] using ha
      | 1, _ => simpa [stE] using ha
      | 2, _ => simpa [stE] using ha
      | 3, _ => simpa [stE] using ha
      | 4, _ => simpa [stE] using ha
      | 5, _ => simpa [stE] using ha
      | 6, _ => simpa [stE] using ha
    · match j, hj with
      | 0, _ => simpa [ckE] using ha
      | 1, _ => simpa [ckE] using ha
      | 2, _ => simpa [ckE] using ha
end
def bookS {W : World} {B : CBook} {v0 v5 : Value} {g0 g5 : Nat → Nat → Int} (r0 : RowsW W v0 B.ns 7 g0) (r5 : RowsW W v5 B.nc 3 g5) (h0 : ∀ i j a, j < 7 → (stE B i)[j]? = some a → g0 i j = a) (h5 : ∀ i j a, j < 3 → (ckE B i)[j]? = some a → g5 i j = a) : List (SlD W) :=
  [⟨v0, B.ns, 7, g0, stE B, r0, fun _ => rfl, fun i j a _ hj h => h0 i j a hj h⟩, ⟨v5, B.nc, 3, g5, ckE B, r5, fun _ => rfl, fun i j a _ hj h => h5 i j a hj h⟩]
theorem book_vr {W : World} {B : CBook} {v0 v5 : Value} {g0 g5 : Nat → Nat → Int} (r0 : RowsW W v0 B.ns 7 g0) (r5 : RowsW W v5 B.nc 3 g5) {ρ : Rho} (e0 : ρ 0 = some (winV v0)) (e5 : ρ 1 = some (winV v5)) : VR ρ (bk B (slA v0 0) (slA v5 1)) (.agg #[v0, .int .i64 B.wea, .int .i64 (B.cost 0), .int .i64 (B.cost 1), .int .i64 (B.cost 2), v5, .int .i64 B.rate]) := by
  simp only [bk, VR]
  refine ⟨[v0, .int .i64 B.wea, .int .i64 (B.cost 0), .int .i64 (B.cost 1), .int .i64 (B.cost 2), v5, .int .i64 B.rate], ?_, rfl⟩
  exact .cons (r0.vr e0) (.cons (by simp only [VR]) (.cons (by simp only [VR]) (.cons (by simp only [VR]) (.cons (by simp only [VR]) (.cons (r5.vr e5) (.cons (by simp only [VR]) .nil))))))
end Go.Proofs.Ytlnmcadbmpiopaa
/-
  Clocks that came in.
-/
namespace Go.Proofs.Ytlnmcadbmpiopaa
open Go Go.Ev Go.ChangeShapes Go.WideShapes Go.ChangeAt Go.RowKit Go.Deep
section
variable {H : Type} {enc : TypeId × Value → H}
set_option maxRecDepth 100000 in
theorem open_clock {W : World} {b0 : Nat} {v : Value} {d : DataW H} {p : List MemPlace} (hv : Value.okWide Try.prog W .any b0 42 v) (h : DataW.Trod enc Try.prog W 0 (fun _ => true) true 42 v d p) : ∃ a b e : Int, v = .agg #[.int .i64 a, .int .i64 b, .int .i64 e] ∧ In64 a ∧ In64 b ∧ In64 e := by
  obtain ⟨cs, rfl, hl, hc⟩ := open_cells (us := [3, 3, 3]) (by kernel_rfl) lClock (by kernel_rfl) hv h
  obtain ⟨v0, m0, y0, e0, o0, d0⟩ := hc 0 _ rfl
  obtain ⟨v1, m1, y1, e1, o1, d1⟩ := hc 1 _ rfl
  obtain ⟨v2, m2, y2, e2, o2, d2⟩ := hc 2 _ rfl
  obtain ⟨a0, rfl, i0⟩ := open_num Try.underlying3 o0
  obtain ⟨a1, rfl, i1⟩ := open_num Try.underlying3 o1
  obtain ⟨a2, rfl, i2⟩ := open_num Try.underlying3 o2
  match cs, hl with
  | [x0, x1, x2], _ =>
    simp at e0 e1 e2
    subst e0 e1 e2
    exact ⟨a0, a1, a2, rfl, i0, i1, i2⟩
end
end Go.Proofs.Ytlnmcadbmpiopaa
