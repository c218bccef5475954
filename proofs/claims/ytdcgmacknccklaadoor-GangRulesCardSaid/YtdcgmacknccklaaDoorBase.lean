/- Plain lemmas on worlds, endings and slices of rows of integers, over any program. No conditions. -/
import Derived.WalkKit
import Derived.Below
import Derived.LoopTactic
import Derived.Outline
import Derived.BigQuiet
import Derived.Deep.QuietTactic
import Derived.Lib.Hide
import Derived.Deep.RegionWith
import Derived.KernelRfl
namespace Go.Proofs.YtdcgmacknccklaaDoor
open Go Go.RowKit

theorem ret_bool {a b : Bool} (h : a = b) : Ending.returned (.bool a) = .returned (.bool b) := by rw [h]
theorem ret_int {k : IntKind} {a b : Int} (h : a = b) : Ending.returned (.int k a) = .returned (.int k b) := by rw [h]

theorem bcell {W w1 : World} (hb : Below W.heap.size W w1) : (∀ b o, b < W.heap.size → w1.cell? ⟨b, o, none⟩ = W.cell? ⟨b, o, none⟩) ∧ (∀ b o, b < W.heap.size → w1.frozen? ⟨b, o, none⟩ = W.frozen? ⟨b, o, none⟩) :=
  ⟨fun b o h => hb.cell (p := ⟨b, o, none⟩) h, fun b o h => hb.frozen (p := ⟨b, o, none⟩) h⟩

/-- A slice of n rows of k integers each, which begins at p. -/
def Sl (w : World) (p : Option Addr) (k n : Nat) (g : Nat → Nat → Int) : Prop :=
  0 < n → ∃ b off, p = some ⟨b, off, none⟩ ∧ b < w.heap.size ∧ ∀ i, i < n → ∀ j, j < k → w.cell? ⟨b, off + i * k + j, none⟩ = some (.int .i64 (g i j))

theorem Sl.below {w w' : World} {p : Option Addr} {k n : Nat} {g : Nat → Nat → Int} (h : Sl w p k n g) (hb : Below w.heap.size w w') : Sl w' p k n g := fun hn =>
  let ⟨b, off, hp, hlt, hc⟩ := h hn
  ⟨b, off, hp, Nat.lt_of_lt_of_le hlt hb.size, fun i hi j hj => (hb.cell (p := ⟨b, _, none⟩) hlt).trans (hc i hi j hj)⟩

theorem Sl.alloc {w : World} {p : Option Addr} {k n : Nat} {g : Nat → Nat → Int} (h : Sl w p k n g) (o : Obj) : Sl (w.alloc o) p k n g :=
  h.below ((Below.refl _ _).alloc (Nat.le_refl _) o)

/-- The row i of a slice, in its own world and in all later ones. -/
theorem Sl.row2 {w : World} {p : Option Addr} {n : Nat} {g : Nat → Nat → Int} (h : Sl w p 2 n g) {i : Nat} (hi : i < n) :
    ∃ b off, p = some ⟨b, off, none⟩ ∧ b < w.heap.size ∧ ∀ {w'}, Below w.heap.size w w' → w'.cell? ⟨b, off + i * 2, none⟩ = some (.int .i64 (g i 0)) ∧ w'.cell? ⟨b, off + i * 2 + 1, none⟩ = some (.int .i64 (g i 1)) :=
  let ⟨b, off, hp, hlt, hc⟩ := h (by omega)
  ⟨b, off, hp, hlt, fun hb => ⟨(hb.cell (p := ⟨b, _, none⟩) hlt).trans (hc i hi 0 (by omega)), (hb.cell (p := ⟨b, _, none⟩) hlt).trans (hc i hi 1 (by omega))⟩⟩

theorem Sl.row3 {w : World} {p : Option Addr} {n : Nat} {g : Nat → Nat → Int} (h : Sl w p 3 n g) {i : Nat} (hi : i < n) :
    ∃ b off, p = some ⟨b, off, none⟩ ∧ b < w.heap.size ∧ ∀ {w'}, Below w.heap.size w w' → w'.cell? ⟨b, off + i * 3, none⟩ = some (.int .i64 (g i 0)) ∧ w'.cell? ⟨b, off + i * 3 + 1, none⟩ = some (.int .i64 (g i 1)) ∧ w'.cell? ⟨b, off + i * 3 + 2, none⟩ = some (.int .i64 (g i 2)) :=
  let ⟨b, off, hp, hlt, hc⟩ := h (by omega)
  ⟨b, off, hp, hlt, fun hb => ⟨(hb.cell (p := ⟨b, _, none⟩) hlt).trans (hc i hi 0 (by omega)), (hb.cell (p := ⟨b, _, none⟩) hlt).trans (hc i hi 1 (by omega)), (hb.cell (p := ⟨b, _, none⟩) hlt).trans (hc i hi 2 (by omega))⟩⟩

theorem Sl.row4 {w : World} {p : Option Addr} {n : Nat} {g : Nat → Nat → Int} (h : Sl w p 4 n g) {i : Nat} (hi : i < n) :
    ∃ b off, p = some ⟨b, off, none⟩ ∧ b < w.heap.size ∧ ∀ {w'}, Below w.heap.size w w' → w'.cell? ⟨b, off + i * 4, none⟩ = some (.int .i64 (g i 0)) ∧ w'.cell? ⟨b, off + i * 4 + 1, none⟩ = some (.int .i64 (g i 1)) ∧ w'.cell? ⟨b, off + i * 4 + 2, none⟩ = some (.int .i64 (g i 2)) ∧ w'.cell? ⟨b, off + i * 4 + 3, none⟩ = some (.int .i64 (g i 3)) :=
  let ⟨b, off, hp, hlt, hc⟩ := h (by omega)
  ⟨b, off, hp, hlt, fun hb => ⟨(hb.cell (p := ⟨b, _, none⟩) hlt).trans (hc i hi 0 (by omega)), (hb.cell (p := ⟨b, _, none⟩) hlt).trans (hc i hi 1 (by omega)), (hb.cell (p := ⟨b, _, none⟩) hlt).trans (hc i hi 2 (by omega)), (hb.cell (p := ⟨b, _, none⟩) hlt).trans (hc i hi 3 (by omega))⟩⟩
end Go.Proofs.YtdcgmacknccklaaDoor
