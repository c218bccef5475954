/-
  DERIVED. GIVEN WITH THE SEED: THE CARDS: each row of YtoimgppbhpcliaaGreatDoorRows.lean that lists a variable, with what it lists TIED to the program's text (the seventh form; the later family's looks); each row that meets fmt, with fmt's text TOLD by the authors' own Lean function (tested against real Go, not proved from fmt's source: count such statements apart). THE CARD IS WHAT COUNTS. Prove the row's statement (the work); the ties are given (YtoimgppbhpcliaaGreatDoorTie.lean); close each card by the builder's one call (the guide's Derived/Test/ToyasCard.lean, 'card_holds'). Laid BY PROGRAM, IN A SANDBOX (cutbox-door.mjs). By AI agents, Wed Nov 11 2026. No macro, syntax, notation, axiom, sorry.
-/
import Derived.Test.YtoimgppbhpcliaaGreatDoorRows
import GoSem.ClaimSeven
namespace Go.Proofs.YtoimgppbhpcliaaGreatDoor
namespace Rows

/-- THE TIED CARD OF 'macadamlaw05.DrainKnown'. -/
def drainKnownCard : Claim7 := { stood := { row := drainKnownRow, standIns := [], harness := (true, "0b1066664e4ed1b4000e22ccb5018ad909caa5c04aebe9d3b0b2f1fc3b4f3c01"), looks := false }, kinds := [], alts := [], laidByText := true, laidKinds := [.data], laidTests := true, laidLooks := .later }
def DrainKnownCardSaid : Prop := Claim7.holds Tryz.pinned (.plain (OpenSpec.ofChange drainKnownSpec)) drainKnownCard

/-- THE SECOND FORM's CARD OF 'macadamlaw05.DrainKnown'. -/
def drainKnownUptoCard : Claim7 := { stood := { row := drainKnownUptoRow, standIns := [], harness := (true, "0b1066664e4ed1b4000e22ccb5018ad909caa5c04aebe9d3b0b2f1fc3b4f3c01"), looks := false }, kinds := [], alts := [], laidByText := true, laidKinds := [.data], laidTests := true, laidLooks := .later }
def DrainKnownUptoCardSaid : Prop := Claim7.holds Tryz.pinned (.plain (OpenSpec.upto drainKnownSpec)) drainKnownUptoCard
end Rows
end Go.Proofs.YtoimgppbhpcliaaGreatDoor
