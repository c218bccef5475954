/-
  RollMore answers true for every book of layers, every look and every number, and turns nothing that was there: the row, under no condition.
-/
import Derived.Test.YtjnckbefajfgbaaRm8
set_option linter.unusedVariables false
set_option linter.unusedSimpArgs false
namespace Go.Proofs.Ytjnckbefajfgbaa
open Go Go.Ev Go.ChangeShapes Go.WideShapes Go.ChangeAt Go.RowKit Go.Deep

set_option maxRecDepth 100000 in
theorem rollMore_lifted (os : Os) (started : os.Started) (H : Type) (enc : TypeId × Value → H) :
    ReturnsInHanded {} Try.checked os 5 .any (Rows.rollMoreSpec.pre6 enc Try.prog Try.f5 Rows.rollMoreRow.domain false) (Rows.rollMoreSpec.post enc Try.prog Try.f5 false true false false) := by
  refine returnsInHanded_of_change_h (C := Try.checked) own started (by kernel_rfl) Try.func5 heaped0
    (ChangeSpec.witness6 (enc := enc) (C := Try.checked) false ⟨#[], #[.agg #[.slice none 0 0, .slice none 0 0, .slice none 0 0], .agg #[.int .i64 0, .int .i64 0], .int .i64 0], []⟩ 8 (by kernel_rfl) (by kernel_rfl) (by kernel_rfl) (by kernel_rfl)) ?_
  intro W base args ds gs before h0 hval0 hW _ _
  have hval : ∀ (j : Nat) t v, Try.f5.params[j]? = some t → args[j]? = some v → Value.okWide Try.prog W .any base t v := hval0
  have hW' := hW
  obtain ⟨p, q, hA0, hV, rfl, hfz, hnd⟩ := hW
  have hA : DataW.TrodAll enc Try.prog W 0 (fun _ => true) true Try.f5.params.toList args.toList ds p := hA0
  rw [Try.params5] at hA hval
  obtain ⟨v0, v1, v2, d0, d1, d2, p0, p1, p2, rfl, rfl, rfl, t0, t1, t2⟩ := trodAll_three hA
  obtain ⟨rfl, rfl⟩ := trodVars_none hV
  obtain ⟨B, x0, x1, x2, g0, g1, g2, rfl, r0, r1, r2, q0, q1, q2⟩ := open_book (hval 0 26 v0 rfl rfl) t0
  obtain ⟨a1, b1, rfl⟩ := open_look (hval 1 53 v1 rfl rfl) t1
  obtain ⟨a2, rfl⟩ := okWide_int Try.underlying3 (hval 2 3 v2 rfl rfl)
  simp only [List.append_nil, List.append_assoc] at hW'
  have hlt := hW'.lt
  refine (CanS.law (S := bookS r0 r1 r2 q0 q1 q2) (us := [_, _, _]) (more_law bill_ok B _ _ _ (r0.is 0) (r1.is 1) (r2.is 2) r1.le a1 b1 a2) h0 (.cons (book_vr r0 r1 r2 rfl rfl rfl) (.cons (by simp only [VR]; exact ⟨[.int .i64 a1, .int .i64 b1], .cons (by simp only [VR]) (.cons (by simp only [VR]) .nil), rfl⟩) (.cons (by simp only [VR]) .nil)))).mono fun e W' ⟨he, hb⟩ => ?_
  subst he
  have k0 := Below.trod (by kernel_rfl) (by kernel_rfl) (of_decide_eq_true (by kernel_rfl)) t0 hb (fun x hx => hlt x (List.mem_append_left _ hx))
  have k1 := Below.trod (by kernel_rfl) (by kernel_rfl) (of_decide_eq_true (by kernel_rfl)) t1 hb (fun x hx => hlt x (List.mem_append_right _ (List.mem_append_left _ hx)))
  have k2 := Below.trod (by kernel_rfl) (by kernel_rfl) (of_decide_eq_true (by kernel_rfl)) t2 hb (fun x hx => hlt x (List.mem_append_right _ (List.mem_append_right _ hx)))
  exact ⟨_, rfl, [d0, d1, d2], [], p0 ++ (p1 ++ p2), [], p0 ++ (p1 ++ p2), [], hW', trodAll_mk1 (shut_bool Try.underlying4 _), trodAll_mk3 k0 k1 k2, rfl, Below.frame hb _, fun hx => by cases hx⟩

theorem rollMore_holds : Rows.RollMoreSaid :=
  OpenClaim.holds_of_wide 5 Try.f5 rfl rfl rfl rfl rfl rfl rfl ⟨rfl, rfl, rfl, rfl, rfl⟩ rfl rfl rfl rfl rfl (by kernel_rfl) Try.func5 (by kernel_rfl)
    (of_decide_eq_true (by kernel_rfl)) (by unfold Func.isWrapper; first | (rw [if_neg (by decide +kernel)]; exact ⟨rfl, rfl⟩))
    (fun os started H enc _ => rollMore_lifted os started H enc)
#print axioms rollMore_holds
end Go.Proofs.Ytjnckbefajfgbaa
