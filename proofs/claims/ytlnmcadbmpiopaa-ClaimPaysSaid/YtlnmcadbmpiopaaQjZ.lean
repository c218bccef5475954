/-
  ClaimPays answers true for every book of claims, and turns nothing that was there: the row, under no condition.
-/
import Derived.Test.YtlnmcadbmpiopaaQj8
set_option linter.unusedVariables false
set_option linter.unusedSimpArgs false
namespace Go.Proofs.Ytlnmcadbmpiopaa
open Go Go.Ev Go.ChangeShapes Go.WideShapes Go.ChangeAt Go.RowKit Go.Deep

set_option maxRecDepth 100000 in
theorem claimPays_lifted (os : Os) (started : os.Started) (H : Type) (enc : TypeId × Value → H) :
    ReturnsInHanded {} Try.checked os 4 .any (Rows.claimPaysSpec.pre6 enc Try.prog Try.f4 Rows.claimPaysRow.domain false) (Rows.claimPaysSpec.post enc Try.prog Try.f4 false true false false) := by
  refine returnsInHanded_of_change_h (C := Try.checked) own started (by kernel_rfl) Try.func4 heaped0
    (ChangeSpec.witness6 (enc := enc) (C := Try.checked) false ⟨#[], #[.agg #[.slice none 0 0, .int .i64 0, .int .i64 0, .int .i64 0, .int .i64 0, .slice none 0 0, .int .i64 0]], []⟩ 8 (by kernel_rfl) (by kernel_rfl) (by kernel_rfl) (by kernel_rfl)) ?_
  intro W base args ds gs before h0 hval0 hW _ _
  have hval : ∀ (j : Nat) t v, Try.f4.params[j]? = some t → args[j]? = some v → Value.okWide Try.prog W .any base t v := hval0
  have hW' := hW
  obtain ⟨p, q, hA0, hV, rfl, hfz, hnd⟩ := hW
  have hA : DataW.TrodAll enc Try.prog W 0 (fun _ => true) true Try.f4.params.toList args.toList ds p := hA0
  rw [Try.params4] at hA hval
  obtain ⟨v0, d0, rfl, rfl, t0⟩ := trodAll_one hA
  obtain ⟨rfl, rfl⟩ := trodVars_none hV
  obtain ⟨B, x0, x5, g0, g5, rfl, r0, r5, q0, q5⟩ := open_book (hval 0 26 v0 rfl rfl) t0
  simp only [List.append_nil] at hW'
  have hlt := hW'.lt
  refine (CanS.law (S := bookS r0 r5 q0 q5) (us := [_]) (pays_law bill_ok B _ _ (r0.is 0) (r5.is 1) r0.le ) h0 (.cons (book_vr r0 r5 rfl rfl) .nil)).mono fun e W' ⟨he, hb⟩ => ?_
  subst he
  have k0 := Below.trod (by kernel_rfl) (by kernel_rfl) (of_decide_eq_true (by kernel_rfl)) t0 hb (fun x hx => hlt x hx)
  exact ⟨_, rfl, [d0], [], p, [], p, [], hW', trodAll_mk1 (shut_bool Try.underlying4 _), trodAll_mk1 k0, rfl, Below.frame hb _, fun hx => by cases hx⟩

theorem claimPays_holds : Rows.ClaimPaysSaid :=
  OpenClaim.holds_of_wide 4 Try.f4 rfl rfl rfl rfl rfl rfl rfl ⟨rfl, rfl, rfl, rfl, rfl⟩ rfl rfl rfl rfl rfl (by kernel_rfl) Try.func4 (by kernel_rfl)
    (of_decide_eq_true (by kernel_rfl)) (by unfold Func.isWrapper; first | (rw [if_neg (by decide +kernel)]; exact ⟨rfl, rfl⟩))
    (fun os started H enc _ => claimPays_lifted os started H enc)
#print axioms claimPays_holds
end Go.Proofs.Ytlnmcadbmpiopaa
