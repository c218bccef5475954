/- Arguments that are slices of rows of integers, opened to their cells; over any program. -/
import Derived.Test.YtdcgmacknccklaaDoorBase
import Derived.Deep.Slices
import Derived.Deep.Strs
import Derived.ChangeSame
import Derived.OpenShut
namespace Go.Proofs.YtdcgmacknccklaaDoor
open Go Go.RowKit Go.ChangeShapes Go.WideShapes Go.Deep

/-- An element type whose k cells are integers. -/
def Ints (P : Program) (e k : Nat) : Prop := ∀ {H : Type} {enc : TypeId × Value → H} {w : World} {base : Nat} {spare : Nat → Bool} {held : Bool} {n : Nat} {cs : List Value} {y : DataW H × List MemPlace},
  DataW.trod enc P w base spare held n e cs = some y → ∃ l : List Int, l.length = k ∧ cs = l.map (Value.int .i64)

theorem Ints.int {P : Program} {e : Nat} (h : P.underlying e = some (.int .i64)) : Ints P e 1 := fun hd => by
  obtain ⟨a, e1, _⟩ := DataW.trod_int h hd
  exact ⟨[a], rfl, e1⟩

theorem Ints.struct2 {P : Program} {e k a b : Nat} {f0 f1 : Field} (h : P.underlying e = some (.struct #[f0, f1])) (hk : P.cellsOf e = k) (h0 : Ints P f0.type a) (h1 : Ints P f1.type b) (o0 : f0.offset = 0) (o1 : f1.offset = a)
    (c0 : P.cellsOf f0.type = a) (c1 : P.cellsOf f1.type = b) (hab : k = a + b) : Ints P e k := fun {H enc w base spare held n cs y} hd => by
  obtain ⟨y0, y1, m, _, hl, d0, d1⟩ := trod_struct2 h hd
  obtain ⟨l0, hl0, e0⟩ := h0 d0
  obtain ⟨l1, hl1, e1⟩ := h1 d1
  rw [o0, c0] at e0
  rw [o1, c1] at e1
  refine ⟨l0 ++ l1, by simp [hl0, hl1, hab], ?_⟩
  rw [List.map_append, ← e0, ← e1, List.drop_zero]
  have : (cs.drop a).take b = cs.drop a := List.take_of_length_le (by rw [List.length_drop, hl, hk]; omega)
  rw [this, List.take_append_drop]

theorem Ints.struct3 {P : Program} {e k a b c : Nat} {f0 f1 f2 : Field} (h : P.underlying e = some (.struct #[f0, f1, f2])) (hk : P.cellsOf e = k) (h0 : Ints P f0.type a) (h1 : Ints P f1.type b) (h2 : Ints P f2.type c) (o0 : f0.offset = 0) (o1 : f1.offset = a) (o2 : f2.offset = a + b)
    (c0 : P.cellsOf f0.type = a) (c1 : P.cellsOf f1.type = b) (c2 : P.cellsOf f2.type = c) (hab : k = a + b + c) : Ints P e k := fun {H enc w base spare held n cs y} hd => by
  obtain ⟨y0, y1, y2, m, _, hl, d0, d1, d2⟩ := trod_struct3 h hd
  obtain ⟨l0, hl0, e0⟩ := h0 d0
  obtain ⟨l1, hl1, e1⟩ := h1 d1
  obtain ⟨l2, hl2, e2⟩ := h2 d2
  rw [o0, c0] at e0
  rw [o1, c1] at e1
  rw [o2, c2] at e2
  refine ⟨l0 ++ l1 ++ l2, by simp [hl0, hl1, hl2, hab]; omega, ?_⟩
  rw [List.map_append, List.map_append, ← e0, ← e1, ← e2, List.drop_zero]
  have h3 : (cs.drop (a + b)).take c = cs.drop (a + b) := List.take_of_length_le (by rw [List.length_drop, hl, hk]; omega)
  have h4 : cs.take a ++ (cs.drop a).take b = cs.take (a + b) := by rw [List.take_add]
  rw [h3, h4, List.take_append_drop]

theorem Ints.array {P : Program} {t e n k : Nat} (h : P.underlying t = some (.array n e)) (he : Ints P e 1) (hc : P.cellsOf e = 1) (hk : P.cellsOf t = k) (hn : n = k) : Ints P t k := fun {H enc w base spare held m cs y} hd => by
  obtain ⟨xs, m1, _, _, hl, hlen, hel⟩ := DataW.trod_array h hd
  have hx : ∀ i, i < k → ∃ a : Int, cs[i]? = some (.int .i64 a) := fun i hi => by
    have h1 := hel i (by omega)
    rw [hc, Nat.mul_one] at h1
    have hx : xs[i]? = some (xs[i]'(by omega)) := List.getElem?_eq_getElem (by omega)
    obtain ⟨l, hl1, e1⟩ := he (h1.trans hx)
    match l, hl1 with
    | [a], _ =>
      refine ⟨a, ?_⟩
      have := congrArg (·[0]?) e1
      simpa [List.getElem?_take, List.getElem?_drop] using this
  refine ⟨cs.map fun v => match v with | .int .i64 a => a | _ => 0, by simp [hl, hk], ?_⟩
  apply List.ext_getElem?
  intro i
  by_cases hi : i < k
  · obtain ⟨a, ha⟩ := hx i hi
    simp [ha]
  · have : cs.length ≤ i := by omega
    simp [List.getElem?_eq_none this]

/-- What stands at an address, as a number. -/
def readI (w : World) (a : Addr) : Int := match w.cell? a with | some (.int .i64 x) => x | _ => 0

theorem open_rows {P : Program} {H : Type} {enc : TypeId × Value → H} {w : World} {base : Nat} {spare : Nat → Bool} {held : Bool} {t e k : Nat} {fuel : Nat} {v : Value} {x : DataW H × List MemPlace} (ht : P.underlying t = some (.slice e)) (hk : P.cellsOf e = k) (hk0 : 0 < k) (he : Ints P e k)
    (h : DataW.trod enc P w base spare held fuel t [v] = some x) : ∃ (p : Option Addr) (len cap : Nat) (g : Nat → Nat → Int), v = .slice p len cap ∧ len ≤ cap ∧ cap ≤ 9223372036854775807 ∧ Sl w p k len g ∧ (p = none → cap = 0) := by
  rcases open_slice ht h with ⟨hcs, _⟩ | ⟨a, len, cap, m, n, D, Pl, hcs, _, hl, hm, hmm, _, hi⟩
  · exact ⟨none, 0, 0, fun _ _ => 0, by simpa using hcs, Nat.le_refl _, by omega, fun h => absurd h (by omega), fun _ => rfl⟩
  · refine ⟨some a, len, cap, fun i j => readI w ⟨a.block, a.off + i * k + j, none⟩, by simpa using hcs, hl, hm, fun h0 => ?_, fun h => by cases h⟩
    have hlm : len ≤ m := by rw [hmm]; split <;> omega
    have cell : ∀ i j, i < len → j < k → ∃ y : Int, w.cell? ((a.add (i * k)).add j) = some (.int .i64 y) := fun i j hil hj => by
      obtain ⟨cs', h1, h2⟩ := hi i (by omega)
      rw [hk] at h1
      obtain ⟨_, _, hat⟩ := World.cells?_some h1
      obtain ⟨l, hll, rfl⟩ := he h2
      refine ⟨l[j]'(by omega), ?_⟩
      rw [hat j hj, List.getElem?_map, List.getElem?_eq_getElem (by omega)]
      rfl
    obtain ⟨b, o, s⟩ := a
    have hs0 : s = none := by
      obtain ⟨y, hy⟩ := cell 0 0 (by omega) hk0
      cases s with
      | none => rfl
      | some s => simp [Addr.add, World.cell?] at hy; split at hy <;> simp at hy
    subst hs0
    have ad : ∀ i j, ((⟨b, o, none⟩ : Addr).add (i * k)).add j = ⟨b, o + i * k + j, none⟩ := fun i j => by
      unfold Addr.add; split <;> split <;> simp_all
    refine ⟨b, o, rfl, ?_, fun i hil j hj => ?_⟩
    · obtain ⟨y, hy⟩ := cell 0 0 (by omega) hk0
      rw [ad] at hy
      exact World.block_lt_of_cell? w _ hy
    · obtain ⟨y, hy⟩ := cell i j hil hj
      rw [ad] at hy
      simp only [readI, hy]
end Go.Proofs.YtdcgmacknccklaaDoor
