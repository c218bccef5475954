/-
  DERIVED. GIVEN WITH THE SEED: THE CARDS: each row of YtehbbnlmindhlaaDoorRows.lean that lists a variable, with what it lists TIED to the program's text (the seventh form; the later family's looks); each row that meets fmt, with fmt's text TOLD by the authors' own Lean function (tested against real Go, not proved from fmt's source: count such statements apart). THE CARD IS WHAT COUNTS. Prove the row's statement (the work); the ties are given (YtehbbnlmindhlaaDoorTie.lean); close each card by the builder's one call (the guide's Derived/Test/ToyasCard.lean, 'card_holds'). Laid BY PROGRAM, IN A SANDBOX (cutbox-door.mjs). By AI agents, Wed Nov 11 2026. No macro, syntax, notation, axiom, sorry.
-/
import Derived.Test.YtehbbnlmindhlaaDoorRows
import GoSem.ClaimSeven
namespace Go.Proofs.YtehbbnlmindhlaaDoor
namespace Rows

/-- THE TIED CARD OF 'macadamlaw04.GangKnown'. -/
def gangKnownCard : Claim7 := { stood := { row := gangKnownRow, standIns := [], harness := (true, "c208c64f741a43b02ca195c9c69ff4ba6cb539249ef9b5960d2336a2e6672392"), looks := false }, kinds := [], alts := [], laidByText := true, laidKinds := [.data], laidTests := true, laidLooks := .later }
def GangKnownCardSaid : Prop := Claim7.holds Tryd.pinned (.plain (OpenSpec.ofChange gangKnownSpec)) gangKnownCard

/-- THE SECOND FORM's CARD OF 'macadamlaw04.GangKnown'. -/
def gangKnownUptoCard : Claim7 := { stood := { row := gangKnownUptoRow, standIns := [], harness := (true, "c208c64f741a43b02ca195c9c69ff4ba6cb539249ef9b5960d2336a2e6672392"), looks := false }, kinds := [], alts := [], laidByText := true, laidKinds := [.data], laidTests := true, laidLooks := .later }
def GangKnownUptoCardSaid : Prop := Claim7.holds Tryd.pinned (.plain (OpenSpec.upto gangKnownSpec)) gangKnownUptoCard
end Rows
end Go.Proofs.YtehbbnlmindhlaaDoor
