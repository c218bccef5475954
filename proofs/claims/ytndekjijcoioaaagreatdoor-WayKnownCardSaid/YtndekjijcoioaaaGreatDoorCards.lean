/-
  DERIVED. GIVEN WITH THE SEED: THE CARDS: each row of YtndekjijcoioaaaGreatDoorRows.lean that lists a variable, with what it lists TIED to the program's text (the seventh form; the later family's looks); each row that meets fmt, with fmt's text TOLD by the authors' own Lean function (tested against real Go, not proved from fmt's source: count such statements apart). THE CARD IS WHAT COUNTS. Prove the row's statement (the work); the ties are given (YtndekjijcoioaaaGreatDoorTie.lean); close each card by the builder's one call (the guide's Derived/Test/ToyasCard.lean, 'card_holds'). Laid BY PROGRAM, IN A SANDBOX (cutbox-door.mjs). By AI agents, Wed Nov 11 2026. No macro, syntax, notation, axiom, sorry.
-/
import Derived.Test.YtndekjijcoioaaaGreatDoorRows
import GoSem.ClaimSeven
namespace Go.Proofs.YtndekjijcoioaaaGreatDoor
namespace Rows

/-- THE TIED CARD OF 'macadamlaw09.WayKnown'. -/
def wayKnownCard : Claim7 := { stood := { row := wayKnownRow, standIns := [], harness := (true, "b3536ed7be970b063e0826cc07659f8720a367aa00822abfef614ab7f94ff7af"), looks := false }, kinds := [], alts := [], laidByText := true, laidKinds := [.data, .data], laidTests := true, laidLooks := .later }
def WayKnownCardSaid : Prop := Claim7.holds Tryz.pinned (.plain (OpenSpec.ofChange wayKnownSpec)) wayKnownCard

/-- THE SECOND FORM's CARD OF 'macadamlaw09.WayKnown'. -/
def wayKnownUptoCard : Claim7 := { stood := { row := wayKnownUptoRow, standIns := [], harness := (true, "b3536ed7be970b063e0826cc07659f8720a367aa00822abfef614ab7f94ff7af"), looks := false }, kinds := [], alts := [], laidByText := true, laidKinds := [.data, .data], laidTests := true, laidLooks := .later }
def WayKnownUptoCardSaid : Prop := Claim7.holds Tryz.pinned (.plain (OpenSpec.upto wayKnownSpec)) wayKnownUptoCard
end Rows
end Go.Proofs.YtndekjijcoioaaaGreatDoor
