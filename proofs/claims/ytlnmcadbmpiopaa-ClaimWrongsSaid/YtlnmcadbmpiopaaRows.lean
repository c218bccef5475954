/-
  No cell of these rows narrows 'for every input' (looked for: loops, veiled, ifaces, maps, wideKeys, modest, calm, conditions, laid).
  DERIVED. THE GIVEN ROWS OF THIS SEAT. 6 by the template 'for every input the law returns true; each argument reads behind the call as it read before'; 0 by the template 'total and deterministic' (their statements: YtlnmcadbmpiopaaTotals.lean).
  GIVEN WITH THE SEED: the statements are not yours to turn. If you find one false, say at which input.
  Laid BY PROGRAM, IN A SANDBOX (cutbox-rows.mjs): the forced cells as the released guide's own fill.sh prints them over the translation 703aa3c9ee1f8292… (all of the seat's roots in one cut). By AI agents, Wed Nov 11 2026. No macro, syntax, notation, axiom, sorry.
-/
import Derived.Test.YtlnmcadbmpiopaaChecked
import GoSem.Claim
import GoSem.ClaimJoined
import GoSem.ClaimMapViews
import Derived.JoinedTies
import Derived.KernelRfl
namespace Go.Proofs.Ytlnmcadbmpiopaa
/- THE CELL 'sum', in the pinned program and in every row, IS THE sha256 OF THE DUMP (.gsa) THAT YtlnmcadbmpiopaaProg.lean LOADS. Nothing in Lean hashes anything: it is a label: what it is worth is what the hold of that sum in a sandbox is worth. -/
noncomputable def Try.pinned : Pinned := { name := "ytlnmcadbmpiopaa", sum := "703aa3c9ee1f8292fdd3b7ee16dbd71efa691264492dae13450536776fd9b0de", checked := Try.checked }
namespace Rows
def none {H : Type} : Left H := { results := [], args := [] }

/-- 'macadamlaw06.ClaimTimes': WHATEVER THE INPUT: true; the input reads as it did. -/
def claimTimesSpec : ChangeSpec := { name := "claimTimes", fn := fun _ => fun
  | [d1, d2] => { results := [.lit (.bool true)], args := [d1, d2] }
  | _ => none }
def claimTimesRow : OpenClaim := { program := "ytlnmcadbmpiopaa", sum := "703aa3c9ee1f8292fdd3b7ee16dbd71efa691264492dae13450536776fd9b0de", func := "macadam/macadamlaw06.ClaimTimes", spec := "claimTimes", unfollowed := true, recurses := true, plainKeys := false, apart := false }
def ClaimTimesSaid : Prop := claimTimesRow.holds Try.pinned (OpenSpec.ofChange claimTimesSpec)

/-- ITS FALSE NEIGHBOUR: 'it returns false'. Refute it at one input. -/
def claimTimesWrong : ChangeSpec := { name := "claimTimes", fn := fun _ => fun
  | [d1, d2] => { results := [.lit (.bool false)], args := [d1, d2] }
  | _ => none }
def ClaimTimesWrongFalsely : Prop := claimTimesRow.holds Try.pinned (OpenSpec.ofChange claimTimesWrong)

/-- 'macadamlaw06.ClaimPays': WHATEVER THE INPUT: true; the input reads as it did. -/
def claimPaysSpec : ChangeSpec := { name := "claimPays", fn := fun _ => fun
  | [d] => { results := [.lit (.bool true)], args := [d] }
  | _ => none }
def claimPaysRow : OpenClaim := { program := "ytlnmcadbmpiopaa", sum := "703aa3c9ee1f8292fdd3b7ee16dbd71efa691264492dae13450536776fd9b0de", func := "macadam/macadamlaw06.ClaimPays", spec := "claimPays", unfollowed := true, recurses := true, plainKeys := false, apart := false }
def ClaimPaysSaid : Prop := claimPaysRow.holds Try.pinned (OpenSpec.ofChange claimPaysSpec)

/-- ITS FALSE NEIGHBOUR: 'it returns false'. Refute it at one input. -/
def claimPaysWrong : ChangeSpec := { name := "claimPays", fn := fun _ => fun
  | [d] => { results := [.lit (.bool false)], args := [d] }
  | _ => none }
def ClaimPaysWrongFalsely : Prop := claimPaysRow.holds Try.pinned (OpenSpec.ofChange claimPaysWrong)

/-- 'macadamlaw06.ClaimWrongs': WHATEVER THE INPUT: true; the input reads as it did. -/
def claimWrongsSpec : ChangeSpec := { name := "claimWrongs", fn := fun _ => fun
  | [d1, d2] => { results := [.lit (.bool true)], args := [d1, d2] }
  | _ => none }
def claimWrongsRow : OpenClaim := { program := "ytlnmcadbmpiopaa", sum := "703aa3c9ee1f8292fdd3b7ee16dbd71efa691264492dae13450536776fd9b0de", func := "macadam/macadamlaw06.ClaimWrongs", spec := "claimWrongs", unfollowed := true, recurses := true, plainKeys := false, apart := false }
def ClaimWrongsSaid : Prop := claimWrongsRow.holds Try.pinned (OpenSpec.ofChange claimWrongsSpec)

/-- ITS FALSE NEIGHBOUR: 'it returns false'. Refute it at one input. -/
def claimWrongsWrong : ChangeSpec := { name := "claimWrongs", fn := fun _ => fun
  | [d1, d2] => { results := [.lit (.bool false)], args := [d1, d2] }
  | _ => none }
def ClaimWrongsWrongFalsely : Prop := claimWrongsRow.holds Try.pinned (OpenSpec.ofChange claimWrongsWrong)

/-- 'macadamlaw06.ClaimTrue': WHATEVER THE INPUT: true; the input reads as it did. -/
def claimTrueSpec : ChangeSpec := { name := "claimTrue", fn := fun _ => fun
  | [d1, d2, d3] => { results := [.lit (.bool true)], args := [d1, d2, d3] }
  | _ => none }
def claimTrueRow : OpenClaim := { program := "ytlnmcadbmpiopaa", sum := "703aa3c9ee1f8292fdd3b7ee16dbd71efa691264492dae13450536776fd9b0de", func := "macadam/macadamlaw06.ClaimTrue", spec := "claimTrue", unfollowed := true, recurses := true, plainKeys := false, apart := false }
def ClaimTrueSaid : Prop := claimTrueRow.holds Try.pinned (OpenSpec.ofChange claimTrueSpec)

/-- ITS FALSE NEIGHBOUR: 'it returns false'. Refute it at one input. -/
def claimTrueWrong : ChangeSpec := { name := "claimTrue", fn := fun _ => fun
  | [d1, d2, d3] => { results := [.lit (.bool false)], args := [d1, d2, d3] }
  | _ => none }
def ClaimTrueWrongFalsely : Prop := claimTrueRow.holds Try.pinned (OpenSpec.ofChange claimTrueWrong)

/-- 'macadamlaw06.ClaimMore': WHATEVER THE INPUT: true; the input reads as it did. -/
def claimMoreSpec : ChangeSpec := { name := "claimMore", fn := fun _ => fun
  | [d1, d2, d3] => { results := [.lit (.bool true)], args := [d1, d2, d3] }
  | _ => none }
def claimMoreRow : OpenClaim := { program := "ytlnmcadbmpiopaa", sum := "703aa3c9ee1f8292fdd3b7ee16dbd71efa691264492dae13450536776fd9b0de", func := "macadam/macadamlaw06.ClaimMore", spec := "claimMore", unfollowed := true, recurses := true, plainKeys := false, apart := false }
def ClaimMoreSaid : Prop := claimMoreRow.holds Try.pinned (OpenSpec.ofChange claimMoreSpec)

/-- ITS FALSE NEIGHBOUR: 'it returns false'. Refute it at one input. -/
def claimMoreWrong : ChangeSpec := { name := "claimMore", fn := fun _ => fun
  | [d1, d2, d3] => { results := [.lit (.bool false)], args := [d1, d2, d3] }
  | _ => none }
def ClaimMoreWrongFalsely : Prop := claimMoreRow.holds Try.pinned (OpenSpec.ofChange claimMoreWrong)

/-- 'macadamlaw06.ClaimWrong': WHATEVER THE INPUT: true; the input reads as it did. -/
def claimWrongSpec : ChangeSpec := { name := "claimWrong", fn := fun _ => fun
  | [d1, d2] => { results := [.lit (.bool true)], args := [d1, d2] }
  | _ => none }
def claimWrongRow : OpenClaim := { program := "ytlnmcadbmpiopaa", sum := "703aa3c9ee1f8292fdd3b7ee16dbd71efa691264492dae13450536776fd9b0de", func := "macadam/macadamlaw06.ClaimWrong", spec := "claimWrong", unfollowed := true, recurses := true, plainKeys := false, apart := false }
def ClaimWrongSaid : Prop := claimWrongRow.holds Try.pinned (OpenSpec.ofChange claimWrongSpec)

/-- ITS FALSE NEIGHBOUR: 'it returns false'. Refute it at one input. -/
def claimWrongWrong : ChangeSpec := { name := "claimWrong", fn := fun _ => fun
  | [d1, d2] => { results := [.lit (.bool false)], args := [d1, d2] }
  | _ => none }
def ClaimWrongWrongFalsely : Prop := claimWrongRow.holds Try.pinned (OpenSpec.ofChange claimWrongWrong)

/- THE SECOND FORM. 'bulk': how many values and letters a reading holds, each counted each time it is reached (what is shared counts as often as it is met; a slice's spare places count too). A statement '..UptoSaid' is the law's where the arguments, and the package variables that the reading takes, are together of bulk at most 1048576: NARROWER than '..Said'. Prove '..Said' where nothing that the law and all that it calls make is longer than what came in: it says more and counts as full. Else prove '..UptoSaid'. A law counts once. -/
mutual
def uptoBulk {H : Type} : DataW H → Nat
  | .lit (.string bytes) => bytes.length + 1
  | .lit _ => 1
  | .nil => 1
  | .ptr d => uptoBulk d + 1
  | .slice elems spare => uptoBulkAll elems + uptoBulkAll spare + 1
  | .agg parts => uptoBulkAll parts + 1
  | .iface _ d => uptoBulk d + 1
  | .map entries => uptoBulkEntries entries + 1
  | .held _ => 1
def uptoBulkAll {H : Type} : List (DataW H) → Nat
  | [] => 0
  | d :: r => uptoBulk d + uptoBulkAll r
def uptoBulkEntries {H : Type} : List (Lit × DataW H) → Nat
  | [] => 0
  | x :: r => uptoBulkEntry x + uptoBulkEntries r
def uptoBulkEntry {H : Type} : Lit × DataW H → Nat
  | (.string bytes, d) => bytes.length + uptoBulk d + 1
  | (_, d) => uptoBulk d + 1
 end
def uptoSmall : (H : Type) → List (DataW H) → Bool := fun _ ds => decide (uptoBulkAll ds ≤ 1048576)
def OpenSpec.upto (s : _root_.Go.ChangeSpec) : _root_.Go.OpenSpec := { _root_.Go.OpenSpec.ofChange s with cond := some uptoSmall }

/-- 'macadamlaw06.ClaimTimes', WHERE WHAT IT READS IS OF BULK AT MOST 1048576: true; the input reads as it did. -/
def claimTimesUptoRow : OpenClaim := { program := "ytlnmcadbmpiopaa", sum := "703aa3c9ee1f8292fdd3b7ee16dbd71efa691264492dae13450536776fd9b0de", func := "macadam/macadamlaw06.ClaimTimes", spec := "claimTimes", unfollowed := true, recurses := true, plainKeys := false, apart := false, narrowed := true }
def ClaimTimesUptoSaid : Prop := claimTimesUptoRow.holds Try.pinned (OpenSpec.upto claimTimesSpec)

/-- 'macadamlaw06.ClaimPays', WHERE WHAT IT READS IS OF BULK AT MOST 1048576: true; the input reads as it did. -/
def claimPaysUptoRow : OpenClaim := { program := "ytlnmcadbmpiopaa", sum := "703aa3c9ee1f8292fdd3b7ee16dbd71efa691264492dae13450536776fd9b0de", func := "macadam/macadamlaw06.ClaimPays", spec := "claimPays", unfollowed := true, recurses := true, plainKeys := false, apart := false, narrowed := true }
def ClaimPaysUptoSaid : Prop := claimPaysUptoRow.holds Try.pinned (OpenSpec.upto claimPaysSpec)

/-- 'macadamlaw06.ClaimWrongs', WHERE WHAT IT READS IS OF BULK AT MOST 1048576: true; the input reads as it did. -/
def claimWrongsUptoRow : OpenClaim := { program := "ytlnmcadbmpiopaa", sum := "703aa3c9ee1f8292fdd3b7ee16dbd71efa691264492dae13450536776fd9b0de", func := "macadam/macadamlaw06.ClaimWrongs", spec := "claimWrongs", unfollowed := true, recurses := true, plainKeys := false, apart := false, narrowed := true }
def ClaimWrongsUptoSaid : Prop := claimWrongsUptoRow.holds Try.pinned (OpenSpec.upto claimWrongsSpec)

/-- 'macadamlaw06.ClaimTrue', WHERE WHAT IT READS IS OF BULK AT MOST 1048576: true; the input reads as it did. -/
def claimTrueUptoRow : OpenClaim := { program := "ytlnmcadbmpiopaa", sum := "703aa3c9ee1f8292fdd3b7ee16dbd71efa691264492dae13450536776fd9b0de", func := "macadam/macadamlaw06.ClaimTrue", spec := "claimTrue", unfollowed := true, recurses := true, plainKeys := false, apart := false, narrowed := true }
def ClaimTrueUptoSaid : Prop := claimTrueUptoRow.holds Try.pinned (OpenSpec.upto claimTrueSpec)

/-- 'macadamlaw06.ClaimMore', WHERE WHAT IT READS IS OF BULK AT MOST 1048576: true; the input reads as it did. -/
def claimMoreUptoRow : OpenClaim := { program := "ytlnmcadbmpiopaa", sum := "703aa3c9ee1f8292fdd3b7ee16dbd71efa691264492dae13450536776fd9b0de", func := "macadam/macadamlaw06.ClaimMore", spec := "claimMore", unfollowed := true, recurses := true, plainKeys := false, apart := false, narrowed := true }
def ClaimMoreUptoSaid : Prop := claimMoreUptoRow.holds Try.pinned (OpenSpec.upto claimMoreSpec)

/-- 'macadamlaw06.ClaimWrong', WHERE WHAT IT READS IS OF BULK AT MOST 1048576: true; the input reads as it did. -/
def claimWrongUptoRow : OpenClaim := { program := "ytlnmcadbmpiopaa", sum := "703aa3c9ee1f8292fdd3b7ee16dbd71efa691264492dae13450536776fd9b0de", func := "macadam/macadamlaw06.ClaimWrong", spec := "claimWrong", unfollowed := true, recurses := true, plainKeys := false, apart := false, narrowed := true }
def ClaimWrongUptoSaid : Prop := claimWrongUptoRow.holds Try.pinned (OpenSpec.upto claimWrongSpec)

end Rows
end Go.Proofs.Ytlnmcadbmpiopaa
