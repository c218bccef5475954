/-
  NARROWER THAN 'FOR EVERY INPUT', by the rows' own cells (each row's printed sentence says how): CartKnown: laid.
  DERIVED. THE GIVEN ROWS OF THIS SEAT. 1 by the template 'for every input the law returns true; each argument reads behind the call as it read before'; 0 by the template 'total and deterministic' (their statements: YtklkfhefongkjaaGreatDoorTotals.lean).
  GIVEN WITH THE SEED: the statements are not yours to turn. If you find one false, say at which input.
  Laid BY PROGRAM, IN A SANDBOX (cutbox-rows.mjs): the forced cells as the released guide's own fill.sh prints them over the translation 8b39edec8c3f930b… (all of the seat's roots in one cut). By AI agents, Wed Nov 11 2026. No macro, syntax, notation, axiom, sorry.
-/
import Derived.Test.YtklkfhefongkjaaGreatDoorChecked
import GoSem.Claim
import GoSem.ClaimJoined
import GoSem.ClaimMapViews
import Derived.JoinedTies
import Derived.KernelRfl
namespace Go.Proofs.YtklkfhefongkjaaGreatDoor
/- THE CELL 'sum', in the pinned program and in every row, IS THE sha256 OF THE DUMP (.gsa) THAT YtklkfhefongkjaaGreatDoorProg.lean LOADS. Nothing in Lean hashes anything: it is a label: what it is worth is what the hold of that sum in a sandbox is worth. -/
noncomputable def Tryz.pinned : Pinned := { name := "ytklkfhefongkjaagreatdoor", sum := "8b39edec8c3f930b0c7692291e70ca9177d8581e66cb6bf1c04b6f5ac7db1d5c", checked := Tryz.checked }
namespace Rows
def none {H : Type} : Left H := { results := [], args := [] }

/- WHAT THE LISTED PACKAGE-LEVEL VARIABLES READ AS WHEN THE CALL BEGINS. Each datum BY PROGRAM (the guide's laid-datum.mjs) off the statement by which the dump's own 'gosem.cut.vars' lays the variable. In a bare row this is a premise. The card (YtklkfhefongkjaaGreatDoorCards.lean) ties it to the program's text. -/
def laid_macadam_rut_frostNights {H : Type} : DataW H := .agg [.agg [.lit (.int .i64 0), .lit (.int .i64 0)], .agg [.lit (.int .i64 0), .lit (.int .i64 1)], .agg [.lit (.int .i64 1), .lit (.int .i64 1)]]
def laid_macadam_cart_limits {H : Type} : DataW H := .agg [.agg [.lit (.int .i64 1), .lit (.int .i64 20)], .agg [.lit (.int .i64 0), .lit (.int .i64 200)], .agg [.lit (.int .i64 0), .lit (.int .i64 50)]]

/-- 'macadamlaw08.CartKnown': WHATEVER THE INPUT: true; the input reads as it did. -/
def cartKnownSpec : ChangeSpec := { name := "cartKnown", fn := fun _ => fun
  | [] => { results := [.lit (.bool true)], args := [] }
  | _ => none }
def cartKnownRow : OpenClaim := { program := "ytklkfhefongkjaagreatdoor", sum := "8b39edec8c3f930b0c7692291e70ca9177d8581e66cb6bf1c04b6f5ac7db1d5c", func := "macadam/macadamlaw08.CartKnown", spec := "cartKnown", unfollowed := true, recurses := true, named := ["macadam/cart.limits", "macadam/rut.frostNights"], plainKeys := false, apart := false, laid := [("macadam/rut.frostNights", laid_macadam_rut_frostNights), ("macadam/cart.limits", laid_macadam_cart_limits)] }
def CartKnownSaid : Prop := cartKnownRow.holds Tryz.pinned (OpenSpec.ofChange cartKnownSpec)

/-- ITS FALSE NEIGHBOUR: 'it returns false'. Refute it at one input. -/
def cartKnownWrong : ChangeSpec := { name := "cartKnown", fn := fun _ => fun
  | [] => { results := [.lit (.bool false)], args := [] }
  | _ => none }
def CartKnownWrongFalsely : Prop := cartKnownRow.holds Tryz.pinned (OpenSpec.ofChange cartKnownWrong)

/- THE SECOND FORM. 'bulk': how many values and letters a reading holds, each counted each time it is reached (what is shared counts as often as it is met; a slice's spare places count too). A statement '..UptoSaid' is the law's where the arguments, and the package variables that the reading takes, are together of bulk at most 1048576: NARROWER than '..Said'. Prove '..Said' where nothing that the law and all that it calls make is longer than what came in: it says more and counts as full. Else prove '..UptoSaid'. A law counts once. -/
mutual
def uptoBulk {H : Type} : DataW H → Nat
  | .lit (.string bytes) => bytes.length + 1
  | .lit _ => 1
  | .nil => 1
  | .ptr d => uptoBulk d + 1
  | .slice elems spare => uptoBulkAll elems + uptoBulkAll spare + 1
  | .agg parts => uptoBulkAll parts + 1
  | .iface _ d => uptoBulk d + 1
  | .map entries => uptoBulkEntries entries + 1
  | .held _ => 1
def uptoBulkAll {H : Type} : List (DataW H) → Nat
  | [] => 0
  | d :: r => uptoBulk d + uptoBulkAll r
def uptoBulkEntries {H : Type} : List (Lit × DataW H) → Nat
  | [] => 0
  | x :: r => uptoBulkEntry x + uptoBulkEntries r
def uptoBulkEntry {H : Type} : Lit × DataW H → Nat
  | (.string bytes, d) => bytes.length + uptoBulk d + 1
  | (_, d) => uptoBulk d + 1
 end
def uptoSmall : (H : Type) → List (DataW H) → Bool := fun _ ds => decide (uptoBulkAll ds ≤ 1048576)
def OpenSpec.upto (s : _root_.Go.ChangeSpec) : _root_.Go.OpenSpec := { _root_.Go.OpenSpec.ofChange s with cond := some uptoSmall }

/-- 'macadamlaw08.CartKnown', WHERE WHAT IT READS IS OF BULK AT MOST 1048576: true; the input reads as it did. -/
def cartKnownUptoRow : OpenClaim := { program := "ytklkfhefongkjaagreatdoor", sum := "8b39edec8c3f930b0c7692291e70ca9177d8581e66cb6bf1c04b6f5ac7db1d5c", func := "macadam/macadamlaw08.CartKnown", spec := "cartKnown", unfollowed := true, recurses := true, named := ["macadam/cart.limits", "macadam/rut.frostNights"], plainKeys := false, apart := false, laid := [("macadam/rut.frostNights", laid_macadam_rut_frostNights), ("macadam/cart.limits", laid_macadam_cart_limits)], narrowed := true }
def CartKnownUptoSaid : Prop := cartKnownUptoRow.holds Tryz.pinned (OpenSpec.upto cartKnownSpec)

end Rows
end Go.Proofs.YtklkfhefongkjaaGreatDoor
