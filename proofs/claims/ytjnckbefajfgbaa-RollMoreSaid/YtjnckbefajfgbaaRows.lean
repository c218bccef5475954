/-
  No cell of these rows narrows 'for every input' (looked for: loops, veiled, ifaces, maps, wideKeys, modest, calm, conditions, laid).
  DERIVED. THE GIVEN ROWS OF THIS SEAT. 8 by the template 'for every input the law returns true; each argument reads behind the call as it read before'; 0 by the template 'total and deterministic' (their statements: YtjnckbefajfgbaaTotals.lean).
  GIVEN WITH THE SEED: the statements are not yours to turn. If you find one false, say at which input.
  Laid BY PROGRAM, IN A SANDBOX (cutbox-rows.mjs): the forced cells as the released guide's own fill.sh prints them over the translation 91e8a9b1fbc28fbd… (all of the seat's roots in one cut). By AI agents, Wed Nov 11 2026. No macro, syntax, notation, axiom, sorry.
-/
import Derived.Test.YtjnckbefajfgbaaChecked
import GoSem.Claim
import GoSem.ClaimJoined
import GoSem.ClaimMapViews
import Derived.JoinedTies
import Derived.KernelRfl
namespace Go.Proofs.Ytjnckbefajfgbaa
/- THE CELL 'sum', in the pinned program and in every row, IS THE sha256 OF THE DUMP (.gsa) THAT YtjnckbefajfgbaaProg.lean LOADS. Nothing in Lean hashes anything: it is a label: what it is worth is what the hold of that sum in a sandbox is worth. -/
noncomputable def Try.pinned : Pinned := { name := "ytjnckbefajfgbaa", sum := "91e8a9b1fbc28fbdd81e08cde0155dd9d30954c5d28a1aa299d9ef42549e02a7", checked := Try.checked }
namespace Rows
def none {H : Type} : Left H := { results := [], args := [] }

/-- 'macadamlaw07.RollStones': WHATEVER THE INPUT: true; the input reads as it did. -/
def rollStonesSpec : ChangeSpec := { name := "rollStones", fn := fun _ => fun
  | [d] => { results := [.lit (.bool true)], args := [d] }
  | _ => none }
def rollStonesRow : OpenClaim := { program := "ytjnckbefajfgbaa", sum := "91e8a9b1fbc28fbdd81e08cde0155dd9d30954c5d28a1aa299d9ef42549e02a7", func := "macadam/macadamlaw07.RollStones", spec := "rollStones", unfollowed := true, recurses := true, plainKeys := false, apart := false }
def RollStonesSaid : Prop := rollStonesRow.holds Try.pinned (OpenSpec.ofChange rollStonesSpec)

/-- ITS FALSE NEIGHBOUR: 'it returns false'. Refute it at one input. -/
def rollStonesWrong : ChangeSpec := { name := "rollStones", fn := fun _ => fun
  | [d] => { results := [.lit (.bool false)], args := [d] }
  | _ => none }
def RollStonesWrongFalsely : Prop := rollStonesRow.holds Try.pinned (OpenSpec.ofChange rollStonesWrong)

/-- 'macadamlaw07.RollTrue': WHATEVER THE INPUT: true; the input reads as it did. -/
def rollTrueSpec : ChangeSpec := { name := "rollTrue", fn := fun _ => fun
  | [d1, d2, d3] => { results := [.lit (.bool true)], args := [d1, d2, d3] }
  | _ => none }
def rollTrueRow : OpenClaim := { program := "ytjnckbefajfgbaa", sum := "91e8a9b1fbc28fbdd81e08cde0155dd9d30954c5d28a1aa299d9ef42549e02a7", func := "macadam/macadamlaw07.RollTrue", spec := "rollTrue", unfollowed := true, recurses := true, plainKeys := false, apart := false }
def RollTrueSaid : Prop := rollTrueRow.holds Try.pinned (OpenSpec.ofChange rollTrueSpec)

/-- ITS FALSE NEIGHBOUR: 'it returns false'. Refute it at one input. -/
def rollTrueWrong : ChangeSpec := { name := "rollTrue", fn := fun _ => fun
  | [d1, d2, d3] => { results := [.lit (.bool false)], args := [d1, d2, d3] }
  | _ => none }
def RollTrueWrongFalsely : Prop := rollTrueRow.holds Try.pinned (OpenSpec.ofChange rollTrueWrong)

/-- 'macadamlaw07.RollMore': WHATEVER THE INPUT: true; the input reads as it did. -/
def rollMoreSpec : ChangeSpec := { name := "rollMore", fn := fun _ => fun
  | [d1, d2, d3] => { results := [.lit (.bool true)], args := [d1, d2, d3] }
  | _ => none }
def rollMoreRow : OpenClaim := { program := "ytjnckbefajfgbaa", sum := "91e8a9b1fbc28fbdd81e08cde0155dd9d30954c5d28a1aa299d9ef42549e02a7", func := "macadam/macadamlaw07.RollMore", spec := "rollMore", unfollowed := true, recurses := true, plainKeys := false, apart := false }
def RollMoreSaid : Prop := rollMoreRow.holds Try.pinned (OpenSpec.ofChange rollMoreSpec)

/-- ITS FALSE NEIGHBOUR: 'it returns false'. Refute it at one input. -/
def rollMoreWrong : ChangeSpec := { name := "rollMore", fn := fun _ => fun
  | [d1, d2, d3] => { results := [.lit (.bool false)], args := [d1, d2, d3] }
  | _ => none }
def RollMoreWrongFalsely : Prop := rollMoreRow.holds Try.pinned (OpenSpec.ofChange rollMoreWrong)

/-- 'macadamlaw07.RollDone': WHATEVER THE INPUT: true; the input reads as it did. -/
def rollDoneSpec : ChangeSpec := { name := "rollDone", fn := fun _ => fun
  | [d1, d2] => { results := [.lit (.bool true)], args := [d1, d2] }
  | _ => none }
def rollDoneRow : OpenClaim := { program := "ytjnckbefajfgbaa", sum := "91e8a9b1fbc28fbdd81e08cde0155dd9d30954c5d28a1aa299d9ef42549e02a7", func := "macadam/macadamlaw07.RollDone", spec := "rollDone", unfollowed := true, recurses := true, plainKeys := false, apart := false }
def RollDoneSaid : Prop := rollDoneRow.holds Try.pinned (OpenSpec.ofChange rollDoneSpec)

/-- ITS FALSE NEIGHBOUR: 'it returns false'. Refute it at one input. -/
def rollDoneWrong : ChangeSpec := { name := "rollDone", fn := fun _ => fun
  | [d1, d2] => { results := [.lit (.bool false)], args := [d1, d2] }
  | _ => none }
def RollDoneWrongFalsely : Prop := rollDoneRow.holds Try.pinned (OpenSpec.ofChange rollDoneWrong)

/-- 'macadamlaw07.RollStone': WHATEVER THE INPUT: true; the input reads as it did. -/
def rollStoneSpec : ChangeSpec := { name := "rollStone", fn := fun _ => fun
  | [d1, d2] => { results := [.lit (.bool true)], args := [d1, d2] }
  | _ => none }
def rollStoneRow : OpenClaim := { program := "ytjnckbefajfgbaa", sum := "91e8a9b1fbc28fbdd81e08cde0155dd9d30954c5d28a1aa299d9ef42549e02a7", func := "macadam/macadamlaw07.RollStone", spec := "rollStone", unfollowed := true, recurses := true, plainKeys := false, apart := false }
def RollStoneSaid : Prop := rollStoneRow.holds Try.pinned (OpenSpec.ofChange rollStoneSpec)

/-- ITS FALSE NEIGHBOUR: 'it returns false'. Refute it at one input. -/
def rollStoneWrong : ChangeSpec := { name := "rollStone", fn := fun _ => fun
  | [d1, d2] => { results := [.lit (.bool false)], args := [d1, d2] }
  | _ => none }
def RollStoneWrongFalsely : Prop := rollStoneRow.holds Try.pinned (OpenSpec.ofChange rollStoneWrong)

/-- 'macadamlaw07.RollWater': WHATEVER THE INPUT: true; the input reads as it did. -/
def rollWaterSpec : ChangeSpec := { name := "rollWater", fn := fun _ => fun
  | [d1, d2] => { results := [.lit (.bool true)], args := [d1, d2] }
  | _ => none }
def rollWaterRow : OpenClaim := { program := "ytjnckbefajfgbaa", sum := "91e8a9b1fbc28fbdd81e08cde0155dd9d30954c5d28a1aa299d9ef42549e02a7", func := "macadam/macadamlaw07.RollWater", spec := "rollWater", unfollowed := true, recurses := true, plainKeys := false, apart := false }
def RollWaterSaid : Prop := rollWaterRow.holds Try.pinned (OpenSpec.ofChange rollWaterSpec)

/-- ITS FALSE NEIGHBOUR: 'it returns false'. Refute it at one input. -/
def rollWaterWrong : ChangeSpec := { name := "rollWater", fn := fun _ => fun
  | [d1, d2] => { results := [.lit (.bool false)], args := [d1, d2] }
  | _ => none }
def RollWaterWrongFalsely : Prop := rollWaterRow.holds Try.pinned (OpenSpec.ofChange rollWaterWrong)

/-- 'macadamlaw07.RollBest': WHATEVER THE INPUT: true; the input reads as it did. -/
def rollBestSpec : ChangeSpec := { name := "rollBest", fn := fun _ => fun
  | [d1, d2] => { results := [.lit (.bool true)], args := [d1, d2] }
  | _ => none }
def rollBestRow : OpenClaim := { program := "ytjnckbefajfgbaa", sum := "91e8a9b1fbc28fbdd81e08cde0155dd9d30954c5d28a1aa299d9ef42549e02a7", func := "macadam/macadamlaw07.RollBest", spec := "rollBest", unfollowed := true, recurses := true, plainKeys := false, apart := false }
def RollBestSaid : Prop := rollBestRow.holds Try.pinned (OpenSpec.ofChange rollBestSpec)

/-- ITS FALSE NEIGHBOUR: 'it returns false'. Refute it at one input. -/
def rollBestWrong : ChangeSpec := { name := "rollBest", fn := fun _ => fun
  | [d1, d2] => { results := [.lit (.bool false)], args := [d1, d2] }
  | _ => none }
def RollBestWrongFalsely : Prop := rollBestRow.holds Try.pinned (OpenSpec.ofChange rollBestWrong)

/-- 'macadamlaw07.RollPass': WHATEVER THE INPUT: true; the input reads as it did. -/
def rollPassSpec : ChangeSpec := { name := "rollPass", fn := fun _ => fun
  | [d1, d2] => { results := [.lit (.bool true)], args := [d1, d2] }
  | _ => none }
def rollPassRow : OpenClaim := { program := "ytjnckbefajfgbaa", sum := "91e8a9b1fbc28fbdd81e08cde0155dd9d30954c5d28a1aa299d9ef42549e02a7", func := "macadam/macadamlaw07.RollPass", spec := "rollPass", unfollowed := true, recurses := true, plainKeys := false, apart := false }
def RollPassSaid : Prop := rollPassRow.holds Try.pinned (OpenSpec.ofChange rollPassSpec)

/-- ITS FALSE NEIGHBOUR: 'it returns false'. Refute it at one input. -/
def rollPassWrong : ChangeSpec := { name := "rollPass", fn := fun _ => fun
  | [d1, d2] => { results := [.lit (.bool false)], args := [d1, d2] }
  | _ => none }
def RollPassWrongFalsely : Prop := rollPassRow.holds Try.pinned (OpenSpec.ofChange rollPassWrong)

/- THE SECOND FORM. 'bulk': how many values and letters a reading holds, each counted each time it is reached (what is shared counts as often as it is met; a slice's spare places count too). A statement '..UptoSaid' is the law's where the arguments, and the package variables that the reading takes, are together of bulk at most 1048576: NARROWER than '..Said'. Prove '..Said' where nothing that the law and all that it calls make is longer than what came in: it says more and counts as full. Else prove '..UptoSaid'. A law counts once. -/
mutual
def uptoBulk {H : Type} : DataW H → Nat
  | .lit (.string bytes) => bytes.length + 1
  | .lit _ => 1
  | .nil => 1
  | .ptr d => uptoBulk d + 1
  | .slice elems spare => uptoBulkAll elems + uptoBulkAll spare + 1
  | .agg parts => uptoBulkAll parts + 1
  | .iface _ d => uptoBulk d + 1
  | .map entries => uptoBulkEntries entries + 1
  | .held _ => 1
def uptoBulkAll {H : Type} : List (DataW H) → Nat
  | [] => 0
  | d :: r => uptoBulk d + uptoBulkAll r
def uptoBulkEntries {H : Type} : List (Lit × DataW H) → Nat
  | [] => 0
  | x :: r => uptoBulkEntry x + uptoBulkEntries r
def uptoBulkEntry {H : Type} : Lit × DataW H → Nat
  | (.string bytes, d) => bytes.length + uptoBulk d + 1
  | (_, d) => uptoBulk d + 1
 end
def uptoSmall : (H : Type) → List (DataW H) → Bool := fun _ ds => decide (uptoBulkAll ds ≤ 1048576)
def OpenSpec.upto (s : _root_.Go.ChangeSpec) : _root_.Go.OpenSpec := { _root_.Go.OpenSpec.ofChange s with cond := some uptoSmall }

/-- 'macadamlaw07.RollStones', WHERE WHAT IT READS IS OF BULK AT MOST 1048576: true; the input reads as it did. -/
def rollStonesUptoRow : OpenClaim := { program := "ytjnckbefajfgbaa", sum := "91e8a9b1fbc28fbdd81e08cde0155dd9d30954c5d28a1aa299d9ef42549e02a7", func := "macadam/macadamlaw07.RollStones", spec := "rollStones", unfollowed := true, recurses := true, plainKeys := false, apart := false, narrowed := true }
def RollStonesUptoSaid : Prop := rollStonesUptoRow.holds Try.pinned (OpenSpec.upto rollStonesSpec)

/-- 'macadamlaw07.RollTrue', WHERE WHAT IT READS IS OF BULK AT MOST 1048576: true; the input reads as it did. -/
def rollTrueUptoRow : OpenClaim := { program := "ytjnckbefajfgbaa", sum := "91e8a9b1fbc28fbdd81e08cde0155dd9d30954c5d28a1aa299d9ef42549e02a7", func := "macadam/macadamlaw07.RollTrue", spec := "rollTrue", unfollowed := true, recurses := true, plainKeys := false, apart := false, narrowed := true }
def RollTrueUptoSaid : Prop := rollTrueUptoRow.holds Try.pinned (OpenSpec.upto rollTrueSpec)

/-- 'macadamlaw07.RollMore', WHERE WHAT IT READS IS OF BULK AT MOST 1048576: true; the input reads as it did. -/
def rollMoreUptoRow : OpenClaim := { program := "ytjnckbefajfgbaa", sum := "91e8a9b1fbc28fbdd81e08cde0155dd9d30954c5d28a1aa299d9ef42549e02a7", func := "macadam/macadamlaw07.RollMore", spec := "rollMore", unfollowed := true, recurses := true, plainKeys := false, apart := false, narrowed := true }
def RollMoreUptoSaid : Prop := rollMoreUptoRow.holds Try.pinned (OpenSpec.upto rollMoreSpec)

/-- 'macadamlaw07.RollDone', WHERE WHAT IT READS IS OF BULK AT MOST 1048576: true; the input reads as it did. -/
def rollDoneUptoRow : OpenClaim := { program := "ytjnckbefajfgbaa", sum := "91e8a9b1fbc28fbdd81e08cde0155dd9d30954c5d28a1aa299d9ef42549e02a7", func := "macadam/macadamlaw07.RollDone", spec := "rollDone", unfollowed := true, recurses := true, plainKeys := false, apart := false, narrowed := true }
def RollDoneUptoSaid : Prop := rollDoneUptoRow.holds Try.pinned (OpenSpec.upto rollDoneSpec)

/-- 'macadamlaw07.RollStone', WHERE WHAT IT READS IS OF BULK AT MOST 1048576: true; the input reads as it did. -/
def rollStoneUptoRow : OpenClaim := { program := "ytjnckbefajfgbaa", sum := "91e8a9b1fbc28fbdd81e08cde0155dd9d30954c5d28a1aa299d9ef42549e02a7", func := "macadam/macadamlaw07.RollStone", spec := "rollStone", unfollowed := true, recurses := true, plainKeys := false, apart := false, narrowed := true }
def RollStoneUptoSaid : Prop := rollStoneUptoRow.holds Try.pinned (OpenSpec.upto rollStoneSpec)

/-- 'macadamlaw07.RollWater', WHERE WHAT IT READS IS OF BULK AT MOST 1048576: true; the input reads as it did. -/
def rollWaterUptoRow : OpenClaim := { program := "ytjnckbefajfgbaa", sum := "91e8a9b1fbc28fbdd81e08cde0155dd9d30954c5d28a1aa299d9ef42549e02a7", func := "macadam/macadamlaw07.RollWater", spec := "rollWater", unfollowed := true, recurses := true, plainKeys := false, apart := false, narrowed := true }
def RollWaterUptoSaid : Prop := rollWaterUptoRow.holds Try.pinned (OpenSpec.upto rollWaterSpec)

/-- 'macadamlaw07.RollBest', WHERE WHAT IT READS IS OF BULK AT MOST 1048576: true; the input reads as it did. -/
def rollBestUptoRow : OpenClaim := { program := "ytjnckbefajfgbaa", sum := "91e8a9b1fbc28fbdd81e08cde0155dd9d30954c5d28a1aa299d9ef42549e02a7", func := "macadam/macadamlaw07.RollBest", spec := "rollBest", unfollowed := true, recurses := true, plainKeys := false, apart := false, narrowed := true }
def RollBestUptoSaid : Prop := rollBestUptoRow.holds Try.pinned (OpenSpec.upto rollBestSpec)

/-- 'macadamlaw07.RollPass', WHERE WHAT IT READS IS OF BULK AT MOST 1048576: true; the input reads as it did. -/
def rollPassUptoRow : OpenClaim := { program := "ytjnckbefajfgbaa", sum := "91e8a9b1fbc28fbdd81e08cde0155dd9d30954c5d28a1aa299d9ef42549e02a7", func := "macadam/macadamlaw07.RollPass", spec := "rollPass", unfollowed := true, recurses := true, plainKeys := false, apart := false, narrowed := true }
def RollPassUptoSaid : Prop := rollPassUptoRow.holds Try.pinned (OpenSpec.upto rollPassSpec)

end Rows
end Go.Proofs.Ytjnckbefajfgbaa
