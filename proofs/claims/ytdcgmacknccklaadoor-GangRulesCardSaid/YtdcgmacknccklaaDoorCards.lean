/-
  DERIVED. GIVEN WITH THE SEED: THE CARDS: each row of YtdcgmacknccklaaDoorRows.lean that lists a variable, with what it lists TIED to the program's text (the seventh form; the later family's looks); each row that meets fmt, with fmt's text TOLD by the authors' own Lean function (tested against real Go, not proved from fmt's source: count such statements apart). THE CARD IS WHAT COUNTS. Prove the row's statement (the work); the ties are given (YtdcgmacknccklaaDoorTie.lean); close each card by the builder's one call (the guide's Derived/Test/ToyasCard.lean, 'card_holds'). Laid BY PROGRAM, IN A SANDBOX (cutbox-door.mjs). By AI agents, Wed Nov 11 2026. No macro, syntax, notation, axiom, sorry.
-/
import Derived.Test.YtdcgmacknccklaaDoorRows
import GoSem.ClaimSeven
namespace Go.Proofs.YtdcgmacknccklaaDoor
namespace Rows

/-- THE TIED CARD OF 'macadamlaw04.GangMays'. -/
def gangMaysCard : Claim7 := { stood := { row := gangMaysRow, standIns := [], harness := (true, "a29da2b3fecd2e078d560da25393b789559ef82a90faa847574c950d8b95857d"), looks := false }, kinds := [], alts := [], laidByText := true, laidKinds := [.data], laidTests := true, laidLooks := .later }
def GangMaysCardSaid : Prop := Claim7.holds Tryd.pinned (.plain (OpenSpec.ofChange gangMaysSpec)) gangMaysCard

/-- THE TIED CARD OF 'macadamlaw04.GangDones'. -/
def gangDonesCard : Claim7 := { stood := { row := gangDonesRow, standIns := [], harness := (true, "a29da2b3fecd2e078d560da25393b789559ef82a90faa847574c950d8b95857d"), looks := false }, kinds := [], alts := [], laidByText := true, laidKinds := [.data], laidTests := true, laidLooks := .later }
def GangDonesCardSaid : Prop := Claim7.holds Tryd.pinned (.plain (OpenSpec.ofChange gangDonesSpec)) gangDonesCard

/-- THE TIED CARD OF 'macadamlaw04.GangRules'. -/
def gangRulesCard : Claim7 := { stood := { row := gangRulesRow, standIns := [], harness := (true, "a29da2b3fecd2e078d560da25393b789559ef82a90faa847574c950d8b95857d"), looks := false }, kinds := [], alts := [], laidByText := true, laidKinds := [.data], laidTests := true, laidLooks := .later }
def GangRulesCardSaid : Prop := Claim7.holds Tryd.pinned (.plain (OpenSpec.ofChange gangRulesSpec)) gangRulesCard

/-- THE TIED CARD OF 'macadamlaw04.GangTrue'. -/
def gangTrueCard : Claim7 := { stood := { row := gangTrueRow, standIns := [], harness := (true, "a29da2b3fecd2e078d560da25393b789559ef82a90faa847574c950d8b95857d"), looks := false }, kinds := [], alts := [], laidByText := true, laidKinds := [.data], laidTests := true, laidLooks := .later }
def GangTrueCardSaid : Prop := Claim7.holds Tryd.pinned (.plain (OpenSpec.ofChange gangTrueSpec)) gangTrueCard

/-- THE SECOND FORM's CARD OF 'macadamlaw04.GangMays'. -/
def gangMaysUptoCard : Claim7 := { stood := { row := gangMaysUptoRow, standIns := [], harness := (true, "a29da2b3fecd2e078d560da25393b789559ef82a90faa847574c950d8b95857d"), looks := false }, kinds := [], alts := [], laidByText := true, laidKinds := [.data], laidTests := true, laidLooks := .later }
def GangMaysUptoCardSaid : Prop := Claim7.holds Tryd.pinned (.plain (OpenSpec.upto gangMaysSpec)) gangMaysUptoCard

/-- THE SECOND FORM's CARD OF 'macadamlaw04.GangDones'. -/
def gangDonesUptoCard : Claim7 := { stood := { row := gangDonesUptoRow, standIns := [], harness := (true, "a29da2b3fecd2e078d560da25393b789559ef82a90faa847574c950d8b95857d"), looks := false }, kinds := [], alts := [], laidByText := true, laidKinds := [.data], laidTests := true, laidLooks := .later }
def GangDonesUptoCardSaid : Prop := Claim7.holds Tryd.pinned (.plain (OpenSpec.upto gangDonesSpec)) gangDonesUptoCard

/-- THE SECOND FORM's CARD OF 'macadamlaw04.GangRules'. -/
def gangRulesUptoCard : Claim7 := { stood := { row := gangRulesUptoRow, standIns := [], harness := (true, "a29da2b3fecd2e078d560da25393b789559ef82a90faa847574c950d8b95857d"), looks := false }, kinds := [], alts := [], laidByText := true, laidKinds := [.data], laidTests := true, laidLooks := .later }
def GangRulesUptoCardSaid : Prop := Claim7.holds Tryd.pinned (.plain (OpenSpec.upto gangRulesSpec)) gangRulesUptoCard

/-- THE SECOND FORM's CARD OF 'macadamlaw04.GangTrue'. -/
def gangTrueUptoCard : Claim7 := { stood := { row := gangTrueUptoRow, standIns := [], harness := (true, "a29da2b3fecd2e078d560da25393b789559ef82a90faa847574c950d8b95857d"), looks := false }, kinds := [], alts := [], laidByText := true, laidKinds := [.data], laidTests := true, laidLooks := .later }
def GangTrueUptoCardSaid : Prop := Claim7.holds Tryd.pinned (.plain (OpenSpec.upto gangTrueSpec)) gangTrueUptoCard
end Rows
end Go.Proofs.YtdcgmacknccklaaDoor
