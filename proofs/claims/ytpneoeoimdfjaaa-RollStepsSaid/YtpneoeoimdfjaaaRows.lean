/-
  No cell of these rows narrows 'for every input' (looked for: loops, veiled, ifaces, maps, wideKeys, modest, calm, conditions, laid).
  DERIVED. THE GIVEN ROWS OF THIS SEAT. 6 by the template 'for every input the law returns true; each argument reads behind the call as it read before'; 0 by the template 'total and deterministic' (their statements: YtpneoeoimdfjaaaTotals.lean).
  GIVEN WITH THE SEED: the statements are not yours to turn. If you find one false, say at which input.
  Laid BY PROGRAM, IN A SANDBOX (cutbox-rows.mjs): the forced cells as the released guide's own fill.sh prints them over the translation ec5f88d08e3e4995… (all of the seat's roots in one cut). By AI agents, Wed Nov 11 2026. No macro, syntax, notation, axiom, sorry.
-/
import Derived.Test.YtpneoeoimdfjaaaChecked
import GoSem.Claim
import GoSem.ClaimJoined
import GoSem.ClaimMapViews
import Derived.JoinedTies
import Derived.KernelRfl
namespace Go.Proofs.Ytpneoeoimdfjaaa
/- THE CELL 'sum', in the pinned program and in every row, IS THE sha256 OF THE DUMP (.gsa) THAT YtpneoeoimdfjaaaProg.lean LOADS. Nothing in Lean hashes anything: it is a label: what it is worth is what the hold of that sum in a sandbox is worth. -/
noncomputable def Try.pinned : Pinned := { name := "ytpneoeoimdfjaaa", sum := "ec5f88d08e3e4995c64466b0e7df0a42a52d61ecd167a46d2193b3dadbbe305b", checked := Try.checked }
namespace Rows
def none {H : Type} : Left H := { results := [], args := [] }

/-- 'macadamlaw07.RollSteps': WHATEVER THE INPUT: true; the input reads as it did. -/
def rollStepsSpec : ChangeSpec := { name := "rollSteps", fn := fun _ => fun
  | [d1, d2] => { results := [.lit (.bool true)], args := [d1, d2] }
  | _ => none }
def rollStepsRow : OpenClaim := { program := "ytpneoeoimdfjaaa", sum := "ec5f88d08e3e4995c64466b0e7df0a42a52d61ecd167a46d2193b3dadbbe305b", func := "macadam/macadamlaw07.RollSteps", spec := "rollSteps", unfollowed := true, recurses := true, plainKeys := false, apart := false }
def RollStepsSaid : Prop := rollStepsRow.holds Try.pinned (OpenSpec.ofChange rollStepsSpec)

/-- ITS FALSE NEIGHBOUR: 'it returns false'. Refute it at one input. -/
def rollStepsWrong : ChangeSpec := { name := "rollSteps", fn := fun _ => fun
  | [d1, d2] => { results := [.lit (.bool false)], args := [d1, d2] }
  | _ => none }
def RollStepsWrongFalsely : Prop := rollStepsRow.holds Try.pinned (OpenSpec.ofChange rollStepsWrong)

/-- 'macadamlaw07.RollMore': WHATEVER THE INPUT: true; the input reads as it did. -/
def rollMoreSpec : ChangeSpec := { name := "rollMore", fn := fun _ => fun
  | [d1, d2, d3] => { results := [.lit (.bool true)], args := [d1, d2, d3] }
  | _ => none }
def rollMoreRow : OpenClaim := { program := "ytpneoeoimdfjaaa", sum := "ec5f88d08e3e4995c64466b0e7df0a42a52d61ecd167a46d2193b3dadbbe305b", func := "macadam/macadamlaw07.RollMore", spec := "rollMore", unfollowed := true, recurses := true, plainKeys := false, apart := false }
def RollMoreSaid : Prop := rollMoreRow.holds Try.pinned (OpenSpec.ofChange rollMoreSpec)

/-- ITS FALSE NEIGHBOUR: 'it returns false'. Refute it at one input. -/
def rollMoreWrong : ChangeSpec := { name := "rollMore", fn := fun _ => fun
  | [d1, d2, d3] => { results := [.lit (.bool false)], args := [d1, d2, d3] }
  | _ => none }
def RollMoreWrongFalsely : Prop := rollMoreRow.holds Try.pinned (OpenSpec.ofChange rollMoreWrong)

/-- 'macadamlaw07.RollDone': WHATEVER THE INPUT: true; the input reads as it did. -/
def rollDoneSpec : ChangeSpec := { name := "rollDone", fn := fun _ => fun
  | [d1, d2] => { results := [.lit (.bool true)], args := [d1, d2] }
  | _ => none }
def rollDoneRow : OpenClaim := { program := "ytpneoeoimdfjaaa", sum := "ec5f88d08e3e4995c64466b0e7df0a42a52d61ecd167a46d2193b3dadbbe305b", func := "macadam/macadamlaw07.RollDone", spec := "rollDone", unfollowed := true, recurses := true, plainKeys := false, apart := false }
def RollDoneSaid : Prop := rollDoneRow.holds Try.pinned (OpenSpec.ofChange rollDoneSpec)

/-- ITS FALSE NEIGHBOUR: 'it returns false'. Refute it at one input. -/
def rollDoneWrong : ChangeSpec := { name := "rollDone", fn := fun _ => fun
  | [d1, d2] => { results := [.lit (.bool false)], args := [d1, d2] }
  | _ => none }
def RollDoneWrongFalsely : Prop := rollDoneRow.holds Try.pinned (OpenSpec.ofChange rollDoneWrong)

/-- 'macadamlaw07.RollBest': WHATEVER THE INPUT: true; the input reads as it did. -/
def rollBestSpec : ChangeSpec := { name := "rollBest", fn := fun _ => fun
  | [d1, d2] => { results := [.lit (.bool true)], args := [d1, d2] }
  | _ => none }
def rollBestRow : OpenClaim := { program := "ytpneoeoimdfjaaa", sum := "ec5f88d08e3e4995c64466b0e7df0a42a52d61ecd167a46d2193b3dadbbe305b", func := "macadam/macadamlaw07.RollBest", spec := "rollBest", unfollowed := true, recurses := true, plainKeys := false, apart := false }
def RollBestSaid : Prop := rollBestRow.holds Try.pinned (OpenSpec.ofChange rollBestSpec)

/-- ITS FALSE NEIGHBOUR: 'it returns false'. Refute it at one input. -/
def rollBestWrong : ChangeSpec := { name := "rollBest", fn := fun _ => fun
  | [d1, d2] => { results := [.lit (.bool false)], args := [d1, d2] }
  | _ => none }
def RollBestWrongFalsely : Prop := rollBestRow.holds Try.pinned (OpenSpec.ofChange rollBestWrong)

/-- 'macadamlaw07.RollPass': WHATEVER THE INPUT: true; the input reads as it did. -/
def rollPassSpec : ChangeSpec := { name := "rollPass", fn := fun _ => fun
  | [d1, d2] => { results := [.lit (.bool true)], args := [d1, d2] }
  | _ => none }
def rollPassRow : OpenClaim := { program := "ytpneoeoimdfjaaa", sum := "ec5f88d08e3e4995c64466b0e7df0a42a52d61ecd167a46d2193b3dadbbe305b", func := "macadam/macadamlaw07.RollPass", spec := "rollPass", unfollowed := true, recurses := true, plainKeys := false, apart := false }
def RollPassSaid : Prop := rollPassRow.holds Try.pinned (OpenSpec.ofChange rollPassSpec)

/-- ITS FALSE NEIGHBOUR: 'it returns false'. Refute it at one input. -/
def rollPassWrong : ChangeSpec := { name := "rollPass", fn := fun _ => fun
  | [d1, d2] => { results := [.lit (.bool false)], args := [d1, d2] }
  | _ => none }
def RollPassWrongFalsely : Prop := rollPassRow.holds Try.pinned (OpenSpec.ofChange rollPassWrong)

/-- 'macadamlaw07.RollWrong': WHATEVER THE INPUT: true; the input reads as it did. -/
def rollWrongSpec : ChangeSpec := { name := "rollWrong", fn := fun _ => fun
  | [d1, d2] => { results := [.lit (.bool true)], args := [d1, d2] }
  | _ => none }
def rollWrongRow : OpenClaim := { program := "ytpneoeoimdfjaaa", sum := "ec5f88d08e3e4995c64466b0e7df0a42a52d61ecd167a46d2193b3dadbbe305b", func := "macadam/macadamlaw07.RollWrong", spec := "rollWrong", unfollowed := true, recurses := true, plainKeys := false, apart := false }
def RollWrongSaid : Prop := rollWrongRow.holds Try.pinned (OpenSpec.ofChange rollWrongSpec)

/-- ITS FALSE NEIGHBOUR: 'it returns false'. Refute it at one input. -/
def rollWrongWrong : ChangeSpec := { name := "rollWrong", fn := fun _ => fun
  | [d1, d2] => { results := [.lit (.bool false)], args := [d1, d2] }
  | _ => none }
def RollWrongWrongFalsely : Prop := rollWrongRow.holds Try.pinned (OpenSpec.ofChange rollWrongWrong)

/- THE SECOND FORM. 'bulk': how many values and letters a reading holds, each counted each time it is reached (what is shared counts as often as it is met; a slice's spare places count too). A statement '..UptoSaid' is the law's where the arguments, and the package variables that the reading takes, are together of bulk at most 1048576: NARROWER than '..Said'. Prove '..Said' where nothing that the law and all that it calls make is longer than what came in: it says more and counts as full. Else prove '..UptoSaid'. A law counts once. -/
mutual
def uptoBulk {H : Type} : DataW H → Nat
  | .lit (.string bytes) => bytes.length + 1
  | .lit _ => 1
  | .nil => 1
  | .ptr d => uptoBulk d + 1
  | .slice elems spare => uptoBulkAll elems + uptoBulkAll spare + 1
  | .agg parts => uptoBulkAll parts + 1
  | .iface _ d => uptoBulk d + 1
  | .map entries => uptoBulkEntries entries + 1
  | .held _ => 1
def uptoBulkAll {H : Type} : List (DataW H) → Nat
  | [] => 0
  | d :: r => uptoBulk d + uptoBulkAll r
def uptoBulkEntries {H : Type} : List (Lit × DataW H) → Nat
  | [] => 0
  | x :: r => uptoBulkEntry x + uptoBulkEntries r
def uptoBulkEntry {H : Type} : Lit × DataW H → Nat
  | (.string bytes, d) => bytes.length + uptoBulk d + 1
  | (_, d) => uptoBulk d + 1
 end
def uptoSmall : (H : Type) → List (DataW H) → Bool := fun _ ds => decide (uptoBulkAll ds ≤ 1048576)
def OpenSpec.upto (s : _root_.Go.ChangeSpec) : _root_.Go.OpenSpec := { _root_.Go.OpenSpec.ofChange s with cond := some uptoSmall }

/-- 'macadamlaw07.RollSteps', WHERE WHAT IT READS IS OF BULK AT MOST 1048576: true; the input reads as it did. -/
def rollStepsUptoRow : OpenClaim := { program := "ytpneoeoimdfjaaa", sum := "ec5f88d08e3e4995c64466b0e7df0a42a52d61ecd167a46d2193b3dadbbe305b", func := "macadam/macadamlaw07.RollSteps", spec := "rollSteps", unfollowed := true, recurses := true, plainKeys := false, apart := false, narrowed := true }
def RollStepsUptoSaid : Prop := rollStepsUptoRow.holds Try.pinned (OpenSpec.upto rollStepsSpec)

/-- 'macadamlaw07.RollMore', WHERE WHAT IT READS IS OF BULK AT MOST 1048576: true; the input reads as it did. -/
def rollMoreUptoRow : OpenClaim := { program := "ytpneoeoimdfjaaa", sum := "ec5f88d08e3e4995c64466b0e7df0a42a52d61ecd167a46d2193b3dadbbe305b", func := "macadam/macadamlaw07.RollMore", spec := "rollMore", unfollowed := true, recurses := true, plainKeys := false, apart := false, narrowed := true }
def RollMoreUptoSaid : Prop := rollMoreUptoRow.holds Try.pinned (OpenSpec.upto rollMoreSpec)

/-- 'macadamlaw07.RollDone', WHERE WHAT IT READS IS OF BULK AT MOST 1048576: true; the input reads as it did. -/
def rollDoneUptoRow : OpenClaim := { program := "ytpneoeoimdfjaaa", sum := "ec5f88d08e3e4995c64466b0e7df0a42a52d61ecd167a46d2193b3dadbbe305b", func := "macadam/macadamlaw07.RollDone", spec := "rollDone", unfollowed := true, recurses := true, plainKeys := false, apart := false, narrowed := true }
def RollDoneUptoSaid : Prop := rollDoneUptoRow.holds Try.pinned (OpenSpec.upto rollDoneSpec)

/-- 'macadamlaw07.RollBest', WHERE WHAT IT READS IS OF BULK AT MOST 1048576: true; the input reads as it did. -/
def rollBestUptoRow : OpenClaim := { program := "ytpneoeoimdfjaaa", sum := "ec5f88d08e3e4995c64466b0e7df0a42a52d61ecd167a46d2193b3dadbbe305b", func := "macadam/macadamlaw07.RollBest", spec := "rollBest", unfollowed := true, recurses := true, plainKeys := false, apart := false, narrowed := true }
def RollBestUptoSaid : Prop := rollBestUptoRow.holds Try.pinned (OpenSpec.upto rollBestSpec)

/-- 'macadamlaw07.RollPass', WHERE WHAT IT READS IS OF BULK AT MOST 1048576: true; the input reads as it did. -/
def rollPassUptoRow : OpenClaim := { program := "ytpneoeoimdfjaaa", sum := "ec5f88d08e3e4995c64466b0e7df0a42a52d61ecd167a46d2193b3dadbbe305b", func := "macadam/macadamlaw07.RollPass", spec := "rollPass", unfollowed := true, recurses := true, plainKeys := false, apart := false, narrowed := true }
def RollPassUptoSaid : Prop := rollPassUptoRow.holds Try.pinned (OpenSpec.upto rollPassSpec)

/-- 'macadamlaw07.RollWrong', WHERE WHAT IT READS IS OF BULK AT MOST 1048576: true; the input reads as it did. -/
def rollWrongUptoRow : OpenClaim := { program := "ytpneoeoimdfjaaa", sum := "ec5f88d08e3e4995c64466b0e7df0a42a52d61ecd167a46d2193b3dadbbe305b", func := "macadam/macadamlaw07.RollWrong", spec := "rollWrong", unfollowed := true, recurses := true, plainKeys := false, apart := false, narrowed := true }
def RollWrongUptoSaid : Prop := rollWrongUptoRow.holds Try.pinned (OpenSpec.upto rollWrongSpec)

end Rows
end Go.Proofs.Ytpneoeoimdfjaaa
