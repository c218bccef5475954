/-
  NARROWER THAN 'FOR EVERY INPUT', by the rows' own cells (each row's printed sentence says how): GangMays: laid · GangDones: laid · GangRules: laid · GangTrue: laid.
  DERIVED. THE GIVEN ROWS OF THIS SEAT. 4 by the template 'for every input the law returns true; each argument reads behind the call as it read before'; 0 by the template 'total and deterministic' (their statements: YtdcgmacknccklaaDoorTotals.lean).
  GIVEN WITH THE SEED: the statements are not yours to turn. If you find one false, say at which input.
  Laid BY PROGRAM, IN A SANDBOX (cutbox-rows.mjs): the forced cells as the released guide's own fill.sh prints them over the translation 019e06c1835a7358… (all of the seat's roots in one cut). By AI agents, Wed Nov 11 2026. No macro, syntax, notation, axiom, sorry.
-/
import Derived.Test.YtdcgmacknccklaaDoorChecked
import GoSem.Claim
import GoSem.ClaimJoined
import GoSem.ClaimMapViews
import Derived.JoinedTies
import Derived.KernelRfl
namespace Go.Proofs.YtdcgmacknccklaaDoor
/- THE CELL 'sum', in the pinned program and in every row, IS THE sha256 OF THE DUMP (.gsa) THAT YtdcgmacknccklaaDoorProg.lean LOADS. Nothing in Lean hashes anything: it is a label: what it is worth is what the hold of that sum in a sandbox is worth. -/
noncomputable def Tryd.pinned : Pinned := { name := "ytdcgmacknccklaadoor", sum := "019e06c1835a7358f51a0c6333e65d91f53870e970bad32e7a0f04f2fca82f4f", checked := Tryd.checked }
namespace Rows
def none {H : Type} : Left H := { results := [], args := [] }

/- WHAT THE LISTED PACKAGE-LEVEL VARIABLES READ AS WHEN THE CALL BEGINS. Each datum BY PROGRAM (the guide's laid-datum.mjs) off the statement by which the dump's own 'gosem.cut.vars' lays the variable. In a bare row this is a premise. The card (YtdcgmacknccklaaDoorCards.lean) ties it to the program's text. -/
def laid_macadam_gang_nearby {H : Type} : DataW H := .agg [.lit (.int .i64 (-1)), .lit (.int .i64 0), .lit (.int .i64 1)]

/-- 'macadamlaw04.GangMays': WHATEVER THE INPUT: true; the input reads as it did. -/
def gangMaysSpec : ChangeSpec := { name := "gangMays", fn := fun _ => fun
  | [d1, d2, d3] => { results := [.lit (.bool true)], args := [d1, d2, d3] }
  | _ => none }
def gangMaysRow : OpenClaim := { program := "ytdcgmacknccklaadoor", sum := "019e06c1835a7358f51a0c6333e65d91f53870e970bad32e7a0f04f2fca82f4f", func := "macadam/macadamlaw04.GangMays", spec := "gangMays", unfollowed := true, recurses := true, named := ["macadam/gang.nearby"], plainKeys := false, apart := false, laid := [("macadam/gang.nearby", laid_macadam_gang_nearby)] }
def GangMaysSaid : Prop := gangMaysRow.holds Tryd.pinned (OpenSpec.ofChange gangMaysSpec)

/-- ITS FALSE NEIGHBOUR: 'it returns false'. Refute it at one input. -/
def gangMaysWrong : ChangeSpec := { name := "gangMays", fn := fun _ => fun
  | [d1, d2, d3] => { results := [.lit (.bool false)], args := [d1, d2, d3] }
  | _ => none }
def GangMaysWrongFalsely : Prop := gangMaysRow.holds Tryd.pinned (OpenSpec.ofChange gangMaysWrong)

/-- 'macadamlaw04.GangDones': WHATEVER THE INPUT: true; the input reads as it did. -/
def gangDonesSpec : ChangeSpec := { name := "gangDones", fn := fun _ => fun
  | [d1, d2, d3] => { results := [.lit (.bool true)], args := [d1, d2, d3] }
  | _ => none }
def gangDonesRow : OpenClaim := { program := "ytdcgmacknccklaadoor", sum := "019e06c1835a7358f51a0c6333e65d91f53870e970bad32e7a0f04f2fca82f4f", func := "macadam/macadamlaw04.GangDones", spec := "gangDones", unfollowed := true, recurses := true, named := ["macadam/gang.nearby"], plainKeys := false, apart := false, laid := [("macadam/gang.nearby", laid_macadam_gang_nearby)] }
def GangDonesSaid : Prop := gangDonesRow.holds Tryd.pinned (OpenSpec.ofChange gangDonesSpec)

/-- ITS FALSE NEIGHBOUR: 'it returns false'. Refute it at one input. -/
def gangDonesWrong : ChangeSpec := { name := "gangDones", fn := fun _ => fun
  | [d1, d2, d3] => { results := [.lit (.bool false)], args := [d1, d2, d3] }
  | _ => none }
def GangDonesWrongFalsely : Prop := gangDonesRow.holds Tryd.pinned (OpenSpec.ofChange gangDonesWrong)

/-- 'macadamlaw04.GangRules': WHATEVER THE INPUT: true; the input reads as it did. -/
def gangRulesSpec : ChangeSpec := { name := "gangRules", fn := fun _ => fun
  | [d1, d2, d3] => { results := [.lit (.bool true)], args := [d1, d2, d3] }
  | _ => none }
def gangRulesRow : OpenClaim := { program := "ytdcgmacknccklaadoor", sum := "019e06c1835a7358f51a0c6333e65d91f53870e970bad32e7a0f04f2fca82f4f", func := "macadam/macadamlaw04.GangRules", spec := "gangRules", unfollowed := true, recurses := true, named := ["macadam/gang.nearby"], plainKeys := false, apart := false, laid := [("macadam/gang.nearby", laid_macadam_gang_nearby)] }
def GangRulesSaid : Prop := gangRulesRow.holds Tryd.pinned (OpenSpec.ofChange gangRulesSpec)

/-- ITS FALSE NEIGHBOUR: 'it returns false'. Refute it at one input. -/
def gangRulesWrong : ChangeSpec := { name := "gangRules", fn := fun _ => fun
  | [d1, d2, d3] => { results := [.lit (.bool false)], args := [d1, d2, d3] }
  | _ => none }
def GangRulesWrongFalsely : Prop := gangRulesRow.holds Tryd.pinned (OpenSpec.ofChange gangRulesWrong)

/-- 'macadamlaw04.GangTrue': WHATEVER THE INPUT: true; the input reads as it did. -/
def gangTrueSpec : ChangeSpec := { name := "gangTrue", fn := fun _ => fun
  | [d1, d2, d3] => { results := [.lit (.bool true)], args := [d1, d2, d3] }
  | _ => none }
def gangTrueRow : OpenClaim := { program := "ytdcgmacknccklaadoor", sum := "019e06c1835a7358f51a0c6333e65d91f53870e970bad32e7a0f04f2fca82f4f", func := "macadam/macadamlaw04.GangTrue", spec := "gangTrue", unfollowed := true, recurses := true, named := ["macadam/gang.nearby"], plainKeys := false, apart := false, laid := [("macadam/gang.nearby", laid_macadam_gang_nearby)] }
def GangTrueSaid : Prop := gangTrueRow.holds Tryd.pinned (OpenSpec.ofChange gangTrueSpec)

/-- ITS FALSE NEIGHBOUR: 'it returns false'. Refute it at one input. -/
def gangTrueWrong : ChangeSpec := { name := "gangTrue", fn := fun _ => fun
  | [d1, d2, d3] => { results := [.lit (.bool false)], args := [d1, d2, d3] }
  | _ => none }
def GangTrueWrongFalsely : Prop := gangTrueRow.holds Tryd.pinned (OpenSpec.ofChange gangTrueWrong)

/- THE SECOND FORM. 'bulk': how many values and letters a reading holds, each counted each time it is reached (what is shared counts as often as it is met; a slice's spare places count too). A statement '..UptoSaid' is the law's where the arguments, and the package variables that the reading takes, are together of bulk at most 1048576: NARROWER than '..Said'. Prove '..Said' where nothing that the law and all that it calls make is longer than what came in: it says more and counts as full. Else prove '..UptoSaid'. A law counts once. -/
mutual
def uptoBulk {H : Type} : DataW H → Nat
  | .lit (.string bytes) => bytes.length + 1
  | .lit _ => 1
  | .nil => 1
  | .ptr d => uptoBulk d + 1
  | .slice elems spare => uptoBulkAll elems + uptoBulkAll spare + 1
  | .agg parts => uptoBulkAll parts + 1
  | .iface _ d => uptoBulk d + 1
  | .map entries => uptoBulkEntries entries + 1
  | .held _ => 1
def uptoBulkAll {H : Type} : List (DataW H) → Nat
  | [] => 0
  | d :: r => uptoBulk d + uptoBulkAll r
def uptoBulkEntries {H : Type} : List (Lit × DataW H) → Nat
  | [] => 0
  | x :: r => uptoBulkEntry x + uptoBulkEntries r
def uptoBulkEntry {H : Type} : Lit × DataW H → Nat
  | (.string bytes, d) => bytes.length + uptoBulk d + 1
  | (_, d) => uptoBulk d + 1
 end
def uptoSmall : (H : Type) → List (DataW H) → Bool := fun _ ds => decide (uptoBulkAll ds ≤ 1048576)
def OpenSpec.upto (s : _root_.Go.ChangeSpec) : _root_.Go.OpenSpec := { _root_.Go.OpenSpec.ofChange s with cond := some uptoSmall }

/-- 'macadamlaw04.GangMays', WHERE WHAT IT READS IS OF BULK AT MOST 1048576: true; the input reads as it did. -/
def gangMaysUptoRow : OpenClaim := { program := "ytdcgmacknccklaadoor", sum := "019e06c1835a7358f51a0c6333e65d91f53870e970bad32e7a0f04f2fca82f4f", func := "macadam/macadamlaw04.GangMays", spec := "gangMays", unfollowed := true, recurses := true, named := ["macadam/gang.nearby"], plainKeys := false, apart := false, laid := [("macadam/gang.nearby", laid_macadam_gang_nearby)], narrowed := true }
def GangMaysUptoSaid : Prop := gangMaysUptoRow.holds Tryd.pinned (OpenSpec.upto gangMaysSpec)

/-- 'macadamlaw04.GangDones', WHERE WHAT IT READS IS OF BULK AT MOST 1048576: true; the input reads as it did. -/
def gangDonesUptoRow : OpenClaim := { program := "ytdcgmacknccklaadoor", sum := "019e06c1835a7358f51a0c6333e65d91f53870e970bad32e7a0f04f2fca82f4f", func := "macadam/macadamlaw04.GangDones", spec := "gangDones", unfollowed := true, recurses := true, named := ["macadam/gang.nearby"], plainKeys := false, apart := false, laid := [("macadam/gang.nearby", laid_macadam_gang_nearby)], narrowed := true }
def GangDonesUptoSaid : Prop := gangDonesUptoRow.holds Tryd.pinned (OpenSpec.upto gangDonesSpec)

/-- 'macadamlaw04.GangRules', WHERE WHAT IT READS IS OF BULK AT MOST 1048576: true; the input reads as it did. -/
def gangRulesUptoRow : OpenClaim := { program := "ytdcgmacknccklaadoor", sum := "019e06c1835a7358f51a0c6333e65d91f53870e970bad32e7a0f04f2fca82f4f", func := "macadam/macadamlaw04.GangRules", spec := "gangRules", unfollowed := true, recurses := true, named := ["macadam/gang.nearby"], plainKeys := false, apart := false, laid := [("macadam/gang.nearby", laid_macadam_gang_nearby)], narrowed := true }
def GangRulesUptoSaid : Prop := gangRulesUptoRow.holds Tryd.pinned (OpenSpec.upto gangRulesSpec)

/-- 'macadamlaw04.GangTrue', WHERE WHAT IT READS IS OF BULK AT MOST 1048576: true; the input reads as it did. -/
def gangTrueUptoRow : OpenClaim := { program := "ytdcgmacknccklaadoor", sum := "019e06c1835a7358f51a0c6333e65d91f53870e970bad32e7a0f04f2fca82f4f", func := "macadam/macadamlaw04.GangTrue", spec := "gangTrue", unfollowed := true, recurses := true, named := ["macadam/gang.nearby"], plainKeys := false, apart := false, laid := [("macadam/gang.nearby", laid_macadam_gang_nearby)], narrowed := true }
def GangTrueUptoSaid : Prop := gangTrueUptoRow.holds Tryd.pinned (OpenSpec.upto gangTrueSpec)

end Rows
end Go.Proofs.YtdcgmacknccklaaDoor
