/-
  DERIVED. GIVEN WITH THE SEED: THE CARDS: each row of YtdiejdhnmoengaaDoorRows.lean that lists a variable, with what it lists TIED to the program's text (the seventh form; the later family's looks); each row that meets fmt, with fmt's text TOLD by the authors' own Lean function (tested against real Go, not proved from fmt's source: count such statements apart). THE CARD IS WHAT COUNTS. Prove the row's statement (the work); the ties are given (YtdiejdhnmoengaaDoorTie.lean); close each card by the builder's one call (the guide's Derived/Test/ToyasCard.lean, 'card_holds'). Laid BY PROGRAM, IN A SANDBOX (cutbox-door.mjs). By AI agents, Wed Nov 11 2026. No macro, syntax, notation, axiom, sorry.
-/
import Derived.Test.YtdiejdhnmoengaaDoorRows
import GoSem.ClaimSeven
namespace Go.Proofs.YtdiejdhnmoengaaDoor
namespace Rows

/-- THE TIED CARD OF 'macadamlaw01.RutKnown'. -/
def rutKnownCard : Claim7 := { stood := { row := rutKnownRow, standIns := [], harness := (true, "fe942a846edcf57db8687e210f1e61767e4297fafec66fba7b31d83d3cad1a0f"), looks := false }, kinds := [], alts := [], laidByText := true, laidKinds := [.data], laidTests := true, laidLooks := .later }
def RutKnownCardSaid : Prop := Claim7.holds Tryd.pinned (.plain (OpenSpec.ofChange rutKnownSpec)) rutKnownCard

/-- THE SECOND FORM's CARD OF 'macadamlaw01.RutKnown'. -/
def rutKnownUptoCard : Claim7 := { stood := { row := rutKnownUptoRow, standIns := [], harness := (true, "fe942a846edcf57db8687e210f1e61767e4297fafec66fba7b31d83d3cad1a0f"), looks := false }, kinds := [], alts := [], laidByText := true, laidKinds := [.data], laidTests := true, laidLooks := .later }
def RutKnownUptoCardSaid : Prop := Claim7.holds Tryd.pinned (.plain (OpenSpec.upto rutKnownSpec)) rutKnownUptoCard
end Rows
end Go.Proofs.YtdiejdhnmoengaaDoor
