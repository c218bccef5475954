/-
  DERIVED. GIVEN WITH THE SEED: THE CARDS: each row of YtklkfhefongkjaaGreatDoorRows.lean that lists a variable, with what it lists TIED to the program's text (the seventh form; the later family's looks); each row that meets fmt, with fmt's text TOLD by the authors' own Lean function (tested against real Go, not proved from fmt's source: count such statements apart). THE CARD IS WHAT COUNTS. Prove the row's statement (the work); the ties are given (YtklkfhefongkjaaGreatDoorTie.lean); close each card by the builder's one call (the guide's Derived/Test/ToyasCard.lean, 'card_holds'). Laid BY PROGRAM, IN A SANDBOX (cutbox-door.mjs). By AI agents, Wed Nov 11 2026. No macro, syntax, notation, axiom, sorry.
-/
import Derived.Test.YtklkfhefongkjaaGreatDoorRows
import GoSem.ClaimSeven
namespace Go.Proofs.YtklkfhefongkjaaGreatDoor
namespace Rows

/-- THE TIED CARD OF 'macadamlaw08.CartKnown'. -/
def cartKnownCard : Claim7 := { stood := { row := cartKnownRow, standIns := [], harness := (true, "da708abed6bb7012cc17af8e9edffc4f9e35d572d4f49f13870e15b12fcbe51d"), looks := false }, kinds := [], alts := [], laidByText := true, laidKinds := [.data, .data], laidTests := true, laidLooks := .later }
def CartKnownCardSaid : Prop := Claim7.holds Tryz.pinned (.plain (OpenSpec.ofChange cartKnownSpec)) cartKnownCard

/-- THE SECOND FORM's CARD OF 'macadamlaw08.CartKnown'. -/
def cartKnownUptoCard : Claim7 := { stood := { row := cartKnownUptoRow, standIns := [], harness := (true, "da708abed6bb7012cc17af8e9edffc4f9e35d572d4f49f13870e15b12fcbe51d"), looks := false }, kinds := [], alts := [], laidByText := true, laidKinds := [.data, .data], laidTests := true, laidLooks := .later }
def CartKnownUptoCardSaid : Prop := Claim7.holds Tryz.pinned (.plain (OpenSpec.upto cartKnownSpec)) cartKnownUptoCard
end Rows
end Go.Proofs.YtklkfhefongkjaaGreatDoor
