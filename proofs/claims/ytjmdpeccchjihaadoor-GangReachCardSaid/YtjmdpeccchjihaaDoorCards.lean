/-
  DERIVED. GIVEN WITH THE SEED: THE CARDS: each row of YtjmdpeccchjihaaDoorRows.lean that lists a variable, with what it lists TIED to the program's text (the seventh form; the later family's looks); each row that meets fmt, with fmt's text TOLD by the authors' own Lean function (tested against real Go, not proved from fmt's source: count such statements apart). THE CARD IS WHAT COUNTS. Prove the row's statement (the work); the ties are given (YtjmdpeccchjihaaDoorTie.lean); close each card by the builder's one call (the guide's Derived/Test/ToyasCard.lean, 'card_holds'). Laid BY PROGRAM, IN A SANDBOX (cutbox-door.mjs). By AI agents, Wed Nov 11 2026. No macro, syntax, notation, axiom, sorry.
-/
import Derived.Test.YtjmdpeccchjihaaDoorRows
import GoSem.ClaimSeven
namespace Go.Proofs.YtjmdpeccchjihaaDoor
namespace Rows

/-- THE TIED CARD OF 'macadamlaw04.GangMays'. -/
def gangMaysCard : Claim7 := { stood := { row := gangMaysRow, standIns := [], harness := (true, "47915093a4f9acec83056b4ad9e7cf7441d39117a4279ec9f67c5c12a1acc94a"), looks := false }, kinds := [], alts := [], laidByText := true, laidKinds := [.data], laidTests := true, laidLooks := .later }
def GangMaysCardSaid : Prop := Claim7.holds Tryd.pinned (.plain (OpenSpec.ofChange gangMaysSpec)) gangMaysCard

/-- THE TIED CARD OF 'macadamlaw04.GangDones'. -/
def gangDonesCard : Claim7 := { stood := { row := gangDonesRow, standIns := [], harness := (true, "47915093a4f9acec83056b4ad9e7cf7441d39117a4279ec9f67c5c12a1acc94a"), looks := false }, kinds := [], alts := [], laidByText := true, laidKinds := [.data], laidTests := true, laidLooks := .later }
def GangDonesCardSaid : Prop := Claim7.holds Tryd.pinned (.plain (OpenSpec.ofChange gangDonesSpec)) gangDonesCard

/-- THE TIED CARD OF 'macadamlaw04.GangRules'. -/
def gangRulesCard : Claim7 := { stood := { row := gangRulesRow, standIns := [], harness := (true, "47915093a4f9acec83056b4ad9e7cf7441d39117a4279ec9f67c5c12a1acc94a"), looks := false }, kinds := [], alts := [], laidByText := true, laidKinds := [.data], laidTests := true, laidLooks := .later }
def GangRulesCardSaid : Prop := Claim7.holds Tryd.pinned (.plain (OpenSpec.ofChange gangRulesSpec)) gangRulesCard

/-- THE TIED CARD OF 'macadamlaw04.GangReach'. -/
def gangReachCard : Claim7 := { stood := { row := gangReachRow, standIns := [], harness := (true, "47915093a4f9acec83056b4ad9e7cf7441d39117a4279ec9f67c5c12a1acc94a"), looks := false }, kinds := [], alts := [], laidByText := true, laidKinds := [.data], laidTests := true, laidLooks := .later }
def GangReachCardSaid : Prop := Claim7.holds Tryd.pinned (.plain (OpenSpec.ofChange gangReachSpec)) gangReachCard

/-- THE SECOND FORM's CARD OF 'macadamlaw04.GangMays'. -/
def gangMaysUptoCard : Claim7 := { stood := { row := gangMaysUptoRow, standIns := [], harness := (true, "47915093a4f9acec83056b4ad9e7cf7441d39117a4279ec9f67c5c12a1acc94a"), looks := false }, kinds := [], alts := [], laidByText := true, laidKinds := [.data], laidTests := true, laidLooks := .later }
def GangMaysUptoCardSaid : Prop := Claim7.holds Tryd.pinned (.plain (OpenSpec.upto gangMaysSpec)) gangMaysUptoCard

/-- THE SECOND FORM's CARD OF 'macadamlaw04.GangDones'. -/
def gangDonesUptoCard : Claim7 := { stood := { row := gangDonesUptoRow, standIns := [], harness := (true, "47915093a4f9acec83056b4ad9e7cf7441d39117a4279ec9f67c5c12a1acc94a"), looks := false }, kinds := [], alts := [], laidByText := true, laidKinds := [.data], laidTests := true, laidLooks := .later }
def GangDonesUptoCardSaid : Prop := Claim7.holds Tryd.pinned (.plain (OpenSpec.upto gangDonesSpec)) gangDonesUptoCard

/-- THE SECOND FORM's CARD OF 'macadamlaw04.GangRules'. -/
def gangRulesUptoCard : Claim7 := { stood := { row := gangRulesUptoRow, standIns := [], harness := (true, "47915093a4f9acec83056b4ad9e7cf7441d39117a4279ec9f67c5c12a1acc94a"), looks := false }, kinds := [], alts := [], laidByText := true, laidKinds := [.data], laidTests := true, laidLooks := .later }
def GangRulesUptoCardSaid : Prop := Claim7.holds Tryd.pinned (.plain (OpenSpec.upto gangRulesSpec)) gangRulesUptoCard

/-- THE SECOND FORM's CARD OF 'macadamlaw04.GangReach'. -/
def gangReachUptoCard : Claim7 := { stood := { row := gangReachUptoRow, standIns := [], harness := (true, "47915093a4f9acec83056b4ad9e7cf7441d39117a4279ec9f67c5c12a1acc94a"), looks := false }, kinds := [], alts := [], laidByText := true, laidKinds := [.data], laidTests := true, laidLooks := .later }
def GangReachUptoCardSaid : Prop := Claim7.holds Tryd.pinned (.plain (OpenSpec.upto gangReachSpec)) gangReachUptoCard
end Rows
end Go.Proofs.YtjmdpeccchjihaaDoor
