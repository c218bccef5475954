/-
  NARROWER THAN 'FOR EVERY INPUT', by the rows' own cells (each row's printed sentence says how): WayKnown: laid.
  DERIVED. THE GIVEN ROWS OF THIS SEAT. 1 by the template 'for every input the law returns true; each argument reads behind the call as it read before'; 0 by the template 'total and deterministic' (their statements: YtndekjijcoioaaaGreatDoorTotals.lean).
  GIVEN WITH THE SEED: the statements are not yours to turn. If you find one false, say at which input.
  Laid BY PROGRAM, IN A SANDBOX (cutbox-rows.mjs): the forced cells as the released guide's own fill.sh prints them over the translation 3d4856bf8c475c94… (all of the seat's roots in one cut). By AI agents, Wed Nov 11 2026. No macro, syntax, notation, axiom, sorry.
-/
import Derived.Test.YtndekjijcoioaaaGreatDoorChecked
import GoSem.Claim
import GoSem.ClaimJoined
import GoSem.ClaimMapViews
import Derived.JoinedTies
import Derived.KernelRfl
namespace Go.Proofs.YtndekjijcoioaaaGreatDoor
/- THE CELL 'sum', in the pinned program and in every row, IS THE sha256 OF THE DUMP (.gsa) THAT YtndekjijcoioaaaGreatDoorProg.lean LOADS. Nothing in Lean hashes anything: it is a label: what it is worth is what the hold of that sum in a sandbox is worth. -/
noncomputable def Tryz.pinned : Pinned := { name := "ytndekjijcoioaaagreatdoor", sum := "3d4856bf8c475c94d2c069b91a6d4c1e21e8298bf5f9104dd7add770aa996188", checked := Tryz.checked }
namespace Rows
def none {H : Type} : Left H := { results := [], args := [] }

/- WHAT THE LISTED PACKAGE-LEVEL VARIABLES READ AS WHEN THE CALL BEGINS. Each datum BY PROGRAM (the guide's laid-datum.mjs) off the statement by which the dump's own 'gosem.cut.vars' lays the variable. In a bare row this is a premise. The card (YtndekjijcoioaaaGreatDoorCards.lean) ties it to the program's text. -/
def laid_macadam_gang_nearby {H : Type} : DataW H := .agg [.lit (.int .i64 (-1)), .lit (.int .i64 0), .lit (.int .i64 1)]
def laid_macadam_way_limits {H : Type} : DataW H := .agg [.agg [.lit (.int .i64 2), .lit (.int .i64 4)], .agg [.lit (.int .i64 1), .lit (.int .i64 5)], .agg [.lit (.int .i64 1), .lit (.int .i64 3)], .agg [.lit (.int .i64 1), .lit (.int .i64 60)], .agg [.lit (.int .i64 0), .lit (.int .i64 200)]]

/-- 'macadamlaw09.WayKnown': WHATEVER THE INPUT: true; the input reads as it did. -/
def wayKnownSpec : ChangeSpec := { name := "wayKnown", fn := fun _ => fun
  | [] => { results := [.lit (.bool true)], args := [] }
  | _ => none }
def wayKnownRow : OpenClaim := { program := "ytndekjijcoioaaagreatdoor", sum := "3d4856bf8c475c94d2c069b91a6d4c1e21e8298bf5f9104dd7add770aa996188", func := "macadam/macadamlaw09.WayKnown", spec := "wayKnown", unfollowed := true, recurses := true, named := ["macadam/way.limits", "macadam/gang.nearby"], plainKeys := false, apart := false, laid := [("macadam/gang.nearby", laid_macadam_gang_nearby), ("macadam/way.limits", laid_macadam_way_limits)] }
def WayKnownSaid : Prop := wayKnownRow.holds Tryz.pinned (OpenSpec.ofChange wayKnownSpec)

/-- ITS FALSE NEIGHBOUR: 'it returns false'. Refute it at one input. -/
def wayKnownWrong : ChangeSpec := { name := "wayKnown", fn := fun _ => fun
  | [] => { results := [.lit (.bool false)], args := [] }
  | _ => none }
def WayKnownWrongFalsely : Prop := wayKnownRow.holds Tryz.pinned (OpenSpec.ofChange wayKnownWrong)

/- THE SECOND FORM. 'bulk': how many values and letters a reading holds, each counted each time it is reached (what is shared counts as often as it is met; a slice's spare places count too). A statement '..UptoSaid' is the law's where the arguments, and the package variables that the reading takes, are together of bulk at most 1048576: NARROWER than '..Said'. Prove '..Said' where nothing that the law and all that it calls make is longer than what came in: it says more and counts as full. Else prove '..UptoSaid'. A law counts once. -/
mutual
def uptoBulk {H : Type} : DataW H → Nat
  | .lit (.string bytes) => bytes.length + 1
  | .lit _ => 1
  | .nil => 1
  | .ptr d => uptoBulk d + 1
  | .slice elems spare => uptoBulkAll elems + uptoBulkAll spare + 1
  | .agg parts => uptoBulkAll parts + 1
  | .iface _ d => uptoBulk d + 1
  | .map entries => uptoBulkEntries entries + 1
  | .held _ => 1
def uptoBulkAll {H : Type} : List (DataW H) → Nat
  | [] => 0
  | d :: r => uptoBulk d + uptoBulkAll r
def uptoBulkEntries {H : Type} : List (Lit × DataW H) → Nat
  | [] => 0
  | x :: r => uptoBulkEntry x + uptoBulkEntries r
def uptoBulkEntry {H : Type} : Lit × DataW H → Nat
  | (.string bytes, d) => bytes.length + uptoBulk d + 1
  | (_, d) => uptoBulk d + 1
 end
def uptoSmall : (H : Type) → List (DataW H) → Bool := fun _ ds => decide (uptoBulkAll ds ≤ 1048576)
def OpenSpec.upto (s : _root_.Go.ChangeSpec) : _root_.Go.OpenSpec := { _root_.Go.OpenSpec.ofChange s with cond := some uptoSmall }

/-- 'macadamlaw09.WayKnown', WHERE WHAT IT READS IS OF BULK AT MOST 1048576: true; the input reads as it did. -/
def wayKnownUptoRow : OpenClaim := { program := "ytndekjijcoioaaagreatdoor", sum := "3d4856bf8c475c94d2c069b91a6d4c1e21e8298bf5f9104dd7add770aa996188", func := "macadam/macadamlaw09.WayKnown", spec := "wayKnown", unfollowed := true, recurses := true, named := ["macadam/way.limits", "macadam/gang.nearby"], plainKeys := false, apart := false, laid := [("macadam/gang.nearby", laid_macadam_gang_nearby), ("macadam/way.limits", laid_macadam_way_limits)], narrowed := true }
def WayKnownUptoSaid : Prop := wayKnownUptoRow.holds Tryz.pinned (OpenSpec.upto wayKnownSpec)

end Rows
end Go.Proofs.YtndekjijcoioaaaGreatDoor
