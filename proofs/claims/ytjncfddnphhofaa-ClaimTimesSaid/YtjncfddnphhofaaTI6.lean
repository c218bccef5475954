/- Texts of one kind, one behind the other: Em, En, Eo, Ep, Eq, Li. -/
import Derived.Test.YtjncfddnphhofaaTI5
set_option linter.unusedVariables false
set_option linter.unusedSimpArgs false
/- The reference of layer 6: Check, truths and asked at any memory. -/
namespace Go.Proofs.Ytjncfddnphhofaa
open Go Go.Ev

theorem Check6_at {B : CBook} {a1 a2 : AV} {m : List (Nat × Option AObj)} {c : Nat} (h : BkIn B a1 a2 m c) (hn : B.ns ≤ 9223372036854775807) (fl : Nat) : OkAt 0 Try.prog fl 12 [bk B a1 a2] (ofM m) c (.int .i64 (ckV B)) (ofM m) c :=
  (Check6_can B a1 a2 h.h1 h.h2 hn).pure (.int _ _) (h.entry _ fun _ => rfl) fl
def tTr (j : Nat) : Nat := if j = 0 then 5 else 97 + j
theorem tTr_inj : ∀ i j, tTr i = tTr j → i = j := fun i j h => by unfold tTr at h; (repeat' split at h) <;> omega
theorem rtruths_at {B : CBook} {a1 a2 : AV} (h1 : IsSl a1 B.ns 0) (h2 : IsSl a2 B.nc 1) (hB : bkOk B) {m : List (Nat × Option AObj)} {c : Nat} (hm : ∀ x o, lookM m x = some o → x < c) (m0 : lookM m 0 = some (oSt B)) (m1 : lookM m 1 = some (oCk B)) (fl : Nat) :
    OkAt 0 Try.prog fl 51 [bk B a1 a2] (ofM m) c (grI c (gW B).length) (ofM (goM B c (gW B) ++ m)) (c + 200000) := by
  obtain ⟨L, hL⟩ : ∃ l, gW B = l := ⟨_, rfl⟩
  have hcan := rtruths_can B a1 a2 h1 h2 hB
  rw [hL] at hcan ⊢
  have := CanS.freshU tTr (H' := ofM (goM B c L ++ m)) (k := 200000) (v0 := grI 0 L.length) hcan (fun j hj => by unfold tTr; split <;> omega) tTr_inj
    (Entry.win (H := ofM m) (c := c) (W := [(0, 0, none), (1, 0, none)]) (CS := [flat (stE B) (List.range B.ns), flat (ckE B) (List.range B.nc)]) rfl
      ⟨⟨_, getM m0, .inr ⟨_, rfl, cut_all rfl⟩⟩, pls_flat _ _, ⟨_, getM m1, .inr ⟨_, rfl, cut_all rfl⟩⟩, pls_flat _ _, trivial⟩
      (show ArgsW _ [bk B a1 a2] [bk B a1 a2] from ⟨bk_arg h1 h2 rfl rfl, trivial⟩)) (fun v1 H1 c1 ⟨g1, g2, g3⟩ => ?_) fl
  · rw [grI_ren (fun y => c + y) (y := c) rfl] at this
    exact this
  · refine ⟨by rw [g1, grI_ren (fun y => 2 + tTr y) (y := 7) rfl], by omega, fun x o hx => ?_⟩
    rw [ofM_get] at hx
    by_cases hk : ∀ e ∈ goM B c L, e.1 ≠ x
    · rw [look_skip hk] at hx
      exact .inl ⟨hm x o hx, getM hx⟩
    · obtain ⟨e, he⟩ := Classical.not_forall.1 hk
      obtain ⟨he1, he2⟩ := Classical.not_imp.1 he
      have hex : e.1 = x := Classical.byContradiction he2
      refine .inr ?_
      have h5 : ∃ o2, lookM (goM B c L) x = some o2 := by
        rcases List.mem_append.1 he1 with h | h
        · have hL : L ≠ [] := fun q => by rw [q] at h; cases h
          have := ouM_keys e h
          rw [hex] at this
          subst this
          exact ⟨_, goM_list hL⟩
        · obtain ⟨j, hj, h2⟩ := keys_tms _ _ e h
          rw [hex, Nat.zero_add] at h2
          have := goM_tr (B := B) (c := c) (List.getElem?_eq_getElem hj)
          rcases h2 with rfl | rfl
          · exact ⟨_, this.1⟩
          · exact ⟨_, this.2⟩
      obtain ⟨o2, h5⟩ := h5
      have h6 := look_app (gs := m) h5
      rw [hx] at h6
      cases h6
      have eA : ∀ j, j < L.length → 2 + tTr (1 + 2 * j) = fA j ∧ 2 + tTr (2 + 2 * j) = gA j := fun j hj => by
        unfold tTr fA gA
        rw [if_neg (by omega), if_neg (by omega)]; omega
      have eC : ∀ j, c + (1 + 2 * j) = fC c j ∧ c + (2 + 2 * j) = gC c j := fun j => by unfold fC gC; omega
      rcases goM_look h5 with ⟨rfl, hne, rfl⟩ | ⟨j, u, hj, h | h⟩
      · refine ⟨0, .grown (tcsF (fun j => 1 + 2 * j) (fun j => 2 + 2 * j) B.ns 0 L) 3, by omega, ?_, ?_⟩
        · show H1.get 7 = some (AObj.grown (AV.rens _ (tcsF _ _ B.ns 0 L)) 3)
          rw [tcsF_ren, g3 7 _ (goA_list hne)]
          refine congrArg some (congrArg (fun cs => AObj.grown cs 3) ?_)
          exact tcsF_congr L 0 0 fun j hj => by
            rw [Nat.zero_add]
            exact ⟨(eA j hj).1.symm, (eA j hj).2.symm⟩
        · show _ = AObj.grown (AV.rens _ (tcsF _ _ B.ns 0 L)) 3
          rw [tcsF_ren]
          refine congrArg (fun cs => AObj.grown cs 3) ?_
          exact tcsF_congr L 0 0 fun j hj => by
            rw [Nat.zero_add]
            exact ⟨(eC j).1.symm, (eC j).2.symm⟩
      · obtain ⟨rfl, rfl⟩ := h
        have hjl : j < L.length := Classical.byContradiction fun q => by rw [List.getElem?_eq_none (by omega)] at hj; cases hj
        refine ⟨1 + 2 * j, .grown (fE u.r B.ns) 1, (eC j).1.symm, ?_, (ren_grown _ _ _ _).symm⟩
        rw [ren_grown, (eA j hjl).1]
        exact g3 _ _ (goA_tr hj).1
      · obtain ⟨rfl, rfl⟩ := h
        have hjl : j < L.length := Classical.byContradiction fun q => by rw [List.getElem?_eq_none (by omega)] at hj; cases hj
        refine ⟨2 + 2 * j, .grown (fE u.c B.ns) 1, (eC j).2.symm, ?_, (ren_grown _ _ _ _).symm⟩
        rw [ren_grown, (eA j hjl).2]
        exact g3 _ _ (goA_tr hj).2

set_option maxRecDepth 100000 in
theorem asked_no (B : CBook) (a1 a2 : AV) (h1 : IsSl a1 B.ns 0) (h2 : IsSl a2 B.nc 1) (hn : B.ns ≤ 9223372036854775807) (hB : ¬ bkOk B) (q : Bool) : CanS 0 Try.prog 58 2 [bk B a1 a2, .bool q] [(0, some (oSt B)), (1, some (oCk B))] 2 fun v _ _ => v = .tup [.nils, .int .i64 60] := by
  have hk : AV.int .i64 (ckV B) = .int .i64 60 := (ck60 hB).symm
  refine CanS.mk Try.func58 rfl rfl rfl ?_
  repeat' (first | refine RT.nil ?_ | refine sq_n ?_ | refine Tr.seq ?_ | refine Tr.region ?_ | refine Tr.cond_t rfl ?_ | refine Tr.ret ?_ | refine sq_r ?_ | (refine RT.call rfl rfl rfl (val_is hk (Check6_at ⟨h1, h2, rfl, rfl, by decide⟩ hn _)) rfl rfl (Nat.le_refl _) ?_) | (refine RT.goK rfl rfl rfl rfl ?_; apply Nx.of; (first | exact S.neq_t (by decide))) | (refine RT.goK rfl rfl rfl rfl ?_; apply Nx.of; (first | exact S.move | exact S.assign | exact S.loadNc rfl rfl rfl rfl | exact S.box)))
  (first | refine rt_go rfl ?_)
  rfl
set_option maxRecDepth 100000 in
theorem asked_ask (B : CBook) (a1 a2 : AV) (h1 : IsSl a1 B.ns 0) (h2 : IsSl a2 B.nc 1) (hn : B.ns ≤ 9223372036854775807) (hB : bkOk B) : CanS 0 Try.prog 58 2 [bk B a1 a2, .bool false] [(0, some (oSt B)), (1, some (oCk B))] 2 fun v _ _ => v = .tup [.nils, .int .i64 61] := by
  have hk : AV.int .i64 (ckV B) = .int .i64 0 := (ck0 hB).symm
  refine CanS.mk Try.func58 rfl rfl rfl ?_
  repeat' (first | refine RT.nil ?_ | refine sq_n ?_ | refine Tr.seq ?_ | refine Tr.region ?_ | refine Tr.cond_t rfl ?_ | refine Tr.cond_f rfl ?_ | refine Tr.skip ?_ | refine Tr.ret ?_ | refine sq_r ?_ | (refine RT.call rfl rfl rfl (val_is hk (Check6_at ⟨h1, h2, rfl, rfl, by decide⟩ hn _)) rfl rfl (Nat.le_refl _) ?_) | (refine RT.goK rfl rfl rfl rfl ?_; apply Nx.of; (first | exact S.neq_f (by decide))) | (refine RT.goK rfl rfl rfl rfl ?_; apply Nx.of; (first | exact S.move | exact S.assign | exact S.loadNc rfl rfl rfl rfl | exact S.not_f | exact S.box)))
  (first | refine rt_go rfl ?_)
  rfl
theorem m3_low {B : CBook} {a1 a2 : AV} : ∀ x o, lookM [(2, some (.cells (bk B a1 a2).cells)), (0, some (oSt B)), (1, some (oCk B))] x = some o → x < 3 := fun x o hx => by have := lookM_mem hx; simp at this; omega
set_option maxRecDepth 100000 in
theorem asked_false (B : CBook) (a1 a2 : AV) (h1 : IsSl a1 B.ns 0) (h2 : IsSl a2 B.nc 1) (hn : B.ns ≤ 9223372036854775807) (hB : bkOk B) (hW : gW B = []) : CanS 0 Try.prog 58 2 [bk B a1 a2, .bool true] [(0, some (oSt B)), (1, some (oCk B))] 2 fun v _ _ => v = .tup [.nils, .int .i64 62] := by
  have hk : AV.int .i64 (ckV B) = .int .i64 0 := (ck0 hB).symm
  have htr : ∀ fl, OkAt 0 Try.prog fl 51 [bk B a1 a2] (ofM [(2, some (.cells (bk B a1 a2).cells)), (0, some (oSt B)), (1, some (oCk B))]) 3 .nils (ofM [(2, some (.cells (bk B a1 a2).cells)), (0, some (oSt B)), (1, some (oCk B))]) 200003 := fun fl => by
    have := rtruths_at h1 h2 hB (m3_low (B := B) (a1 := a1) (a2 := a2)) rfl rfl fl
    rw [hW] at this
    exact this
  have hsl : IsSl AV.nils 0 3 := IsSl.nils 3
  refine CanS.mk Try.func58 rfl rfl rfl ?_
  repeat' (first | refine RT.nil ?_ | refine sq_n ?_ | refine Tr.seq ?_ | refine Tr.region ?_ | refine Tr.cond_t rfl ?_ | refine Tr.cond_f rfl ?_ | refine Tr.skip ?_ | refine Tr.ret ?_ | refine sq_r ?_ | (refine RT.call rfl rfl rfl (val_is hk (Check6_at ⟨h1, h2, rfl, rfl, by decide⟩ hn _)) rfl rfl (Nat.le_refl _) ?_) | (refine RT.call rfl rfl rfl (htr _) rfl rfl (by decide) ?_) | (refine RT.goK rfl rfl rfl rfl ?_; first | refine Nx.of (S.len_sl rfl rfl rfl hsl) ?_) | (refine RT.goK rfl rfl rfl rfl ?_; apply Nx.of; (first | exact S.eql_t (by decide) | exact S.neq_f (by decide))) | (refine RT.goK rfl rfl rfl rfl ?_; apply Nx.of; (first | exact S.move | exact S.assign | exact S.loadNc rfl rfl rfl rfl | exact S.not_t | exact S.box)))
  (first | refine rt_go rfl ?_)
  rfl
set_option maxRecDepth 100000 in
theorem asked_yes (B : CBook) (a1 a2 : AV) (h1 : IsSl a1 B.ns 0) (h2 : IsSl a2 B.nc 1) (hn : B.ns ≤ 9223372036854775807) (hB : bkOk B) (hW : gW B ≠ []) : CanS 0 Try.prog 58 2 [bk B a1 a2, .bool true] [(0, some (oSt B)), (1, some (oCk B))] 2 fun v H1 c1 => v = .tup [.gs 3 (gW B).length, .int .i64 0] ∧ c1 = 200003 ∧ ∀ x o, lookM (goM B 3 (gW B)) x = some o → H1.get x = some o := by
  have hk : AV.int .i64 (ckV B) = .int .i64 0 := (ck0 hB).symm
  have hlp : 0 < (gW B).length := List.length_pos_iff.2 hW
  have htr : ∀ fl, OkAt 0 Try.prog fl 51 [bk B a1 a2] (ofM [(2, some (.cells (bk B a1 a2).cells)), (0, some (oSt B)), (1, some (oCk B))]) 3 (.gs 3 (gW B).length) (ofM (goM B 3 (gW B) ++ [(2, some (.cells (bk B a1 a2).cells)), (0, some (oSt B)), (1, some (oCk B))])) 200003 := fun fl => by
    have := rtruths_at h1 h2 hB (m3_low (B := B) (a1 := a1) (a2 := a2)) rfl rfl fl
    rw [show grI 3 (gW B).length = .gs 3 (gW B).length by cases hq : (gW B).length with | zero => omega | succ n => rfl] at this
    exact this
  have hsl : IsSl (AV.gs 3 (gW B).length) (gW B).length 3 := IsSl.gs 3 _
  have hne : ¬ ((gW B).length : Int) = 0 := by omega
  refine CanS.mk Try.func58 rfl rfl rfl ?_
  repeat' (first | refine RT.nil ?_ | refine sq_n ?_ | refine Tr.seq ?_ | refine Tr.region ?_ | refine Tr.cond_f rfl ?_ | refine Tr.skip ?_ | refine Tr.ret ?_ | (refine RT.call rfl rfl rfl (val_is hk (Check6_at ⟨h1, h2, rfl, rfl, by decide⟩ hn _)) rfl rfl (Nat.le_refl _) ?_) | (refine RT.call rfl rfl rfl (htr _) rfl rfl (by decide) ?_) | (refine RT.goK rfl rfl rfl rfl ?_; first | refine Nx.of (S.len_sl rfl rfl rfl hsl) ?_ | refine Nx.of (S.eql_f hne) ?_) | (refine RT.goK rfl rfl rfl rfl ?_; apply Nx.of; (first | exact S.neq_f (by decide))) | (refine RT.goK rfl rfl rfl rfl ?_; apply Nx.of; (first | exact S.move | exact S.assign | exact S.loadNc rfl rfl rfl rfl | exact S.not_t | exact S.box)))
  (first | refine rt_go rfl ?_)
  refine ⟨rfl, rfl, fun x o hx => ?_⟩
  rw [ofM_get]
  exact look_app hx
end Go.Proofs.Ytjncfddnphhofaa

/- The reference of layer 6: asked, ends at any memory; spans. -/
namespace Go.Proofs.Ytjncfddnphhofaa
open Go Go.Ev

section
variable {B : CBook} {a1 a2 : AV} {m : List (Nat × Option AObj)} {c : Nat}
theorem asked_no_at (h : BkIn B a1 a2 m c) (hn : B.ns ≤ 9223372036854775807) (hB : ¬ bkOk B) (q : Bool) (fl : Nat) : OkAt 0 Try.prog fl 58 [bk B a1 a2, .bool q] (ofM m) c (.tup [.nils, .int .i64 60]) (ofM m) c :=
  (asked_no B a1 a2 h.h1 h.h2 hn hB q).pure (fun _ => rfl) (h.entry _ fun _ => rfl) fl
theorem asked_ask_at (h : BkIn B a1 a2 m c) (hn : B.ns ≤ 9223372036854775807) (hB : bkOk B) (fl : Nat) : OkAt 0 Try.prog fl 58 [bk B a1 a2, .bool false] (ofM m) c (.tup [.nils, .int .i64 61]) (ofM m) c :=
  (asked_ask B a1 a2 h.h1 h.h2 hn hB).pure (fun _ => rfl) (h.entry _ fun _ => rfl) fl
theorem asked_false_at (h : BkIn B a1 a2 m c) (hn : B.ns ≤ 9223372036854775807) (hB : bkOk B) (hW : gW B = []) (fl : Nat) : OkAt 0 Try.prog fl 58 [bk B a1 a2, .bool true] (ofM m) c (.tup [.nils, .int .i64 62]) (ofM m) c :=
  (asked_false B a1 a2 h.h1 h.h2 hn hB hW).pure (fun _ => rfl) (h.entry _ fun _ => rfl) fl
theorem asked_yes_at (h1 : IsSl a1 B.ns 0) (h2 : IsSl a2 B.nc 1) (hn : B.ns ≤ 9223372036854775807) (hB : bkOk B) (hW : gW B ≠ []) (hm : ∀ x o, lookM m x = some o → x < c) (m0 : lookM m 0 = some (oSt B)) (m1 : lookM m 1 = some (oCk B)) (fl : Nat) :
    OkAt 0 Try.prog fl 58 [bk B a1 a2, .bool true] (ofM m) c (.tup [.gs (c + 1) (gW B).length, .int .i64 0]) (ofM (goM B (c + 1) (gW B) ++ m)) (c + 200001) := by
  have hcan := asked_yes B a1 a2 h1 h2 hn hB hW
  obtain ⟨L, hL⟩ : ∃ l, gW B = l := ⟨_, rfl⟩
  rw [hL] at hcan hW ⊢
  have := CanS.fresh (H' := ofM (goM B (c + 1) L ++ m)) (k := 200001) (v0 := .tup [.gs 1 L.length, .int .i64 0]) hcan
    (Entry.win (H := ofM m) (c := c) (W := [(0, 0, none), (1, 0, none)]) (CS := [flat (stE B) (List.range B.ns), flat (ckE B) (List.range B.nc)]) rfl
      ⟨⟨_, getM m0, .inr ⟨_, rfl, cut_all rfl⟩⟩, pls_flat _ _, ⟨_, getM m1, .inr ⟨_, rfl, cut_all rfl⟩⟩, pls_flat _ _, trivial⟩
      (show ArgsW _ [bk B a1 a2, .bool true] [bk B a1 a2, .bool true] from ⟨bk_arg h1 h2 rfl rfl, .pl (fun _ => rfl), trivial⟩)) (fun v1 H1 c1 ⟨g1, g2, g3⟩ => ?_) fl
  · exact this
  · refine ⟨by rw [g1]; rfl, g2, fun x o hx => ?_⟩
    rw [ofM_get] at hx
    by_cases hk : ∀ e ∈ goM B (c + 1) L, e.1 ≠ x
    · rw [look_skip hk] at hx
      exact .inl ⟨hm x o hx, getM hx⟩
    · obtain ⟨e, he⟩ := Classical.not_forall.1 hk
      obtain ⟨he1, he2⟩ := Classical.not_imp.1 he
      have hex : e.1 = x := Classical.byContradiction he2
      refine .inr ?_
      have h5 : ∃ o2, lookM (goM B (c + 1) L) x = some o2 := by
        rcases List.mem_append.1 he1 with h | h
        · have := ouM_keys e h
          rw [hex] at this
          subst this
          exact ⟨_, goM_list hW⟩
        · obtain ⟨j, hj, h2⟩ := keys_tms _ _ e h
          rw [hex, Nat.zero_add] at h2
          have := goM_tr (B := B) (c := c + 1) (List.getElem?_eq_getElem hj)
          rcases h2 with rfl | rfl
          · exact ⟨_, this.1⟩
          · exact ⟨_, this.2⟩
      obtain ⟨o2, h5⟩ := h5
      have h6 := look_app (gs := m) h5
      rw [hx] at h6
      cases h6
      have eA : ∀ j, 2 + (2 + 2 * j) = fC 3 j ∧ 2 + (3 + 2 * j) = gC 3 j := fun j => by unfold fC gC; omega
      have eC : ∀ j, c + (2 + 2 * j) = fC (c + 1) j ∧ c + (3 + 2 * j) = gC (c + 1) j := fun j => by unfold fC gC; omega
      rcases goM_look h5 with ⟨rfl, hne, rfl⟩ | ⟨j, u, hj, h | h⟩
      · refine ⟨1, .grown (tcsF (fun j => 2 + 2 * j) (fun j => 3 + 2 * j) B.ns 0 L) 3, by omega, ?_, ?_⟩
        · show H1.get 3 = some (AObj.grown (AV.rens _ (tcsF _ _ B.ns 0 L)) 3)
          rw [tcsF_ren, g3 3 _ (goM_list hne)]
          refine congrArg some (congrArg (fun cs => AObj.grown cs 3) ?_)
          exact tcsF_congr L 0 0 fun j hj => by
            rw [Nat.zero_add]
            exact ⟨(eA j).1.symm, (eA j).2.symm⟩
        · show _ = AObj.grown (AV.rens _ (tcsF _ _ B.ns 0 L)) 3
          rw [tcsF_ren]
          refine congrArg (fun cs => AObj.grown cs 3) ?_
          exact tcsF_congr L 0 0 fun j hj => by
            rw [Nat.zero_add]
            exact ⟨(eC j).1.symm, (eC j).2.symm⟩
      · obtain ⟨rfl, rfl⟩ := h
        refine ⟨2 + 2 * j, .grown (fE u.r B.ns) 1, (eC j).1.symm, ?_, (ren_grown _ _ _ _).symm⟩
        rw [ren_grown, (eA j).1]
        exact g3 _ _ (goM_tr hj).1
      · obtain ⟨rfl, rfl⟩ := h
        refine ⟨3 + 2 * j, .grown (fE u.c B.ns) 1, (eC j).2.symm, ?_, (ren_grown _ _ _ _).symm⟩
        rw [ren_grown, (eA j).2]
        exact g3 _ _ (goM_tr hj).2
theorem ends_at {v : AV} {f : Nat → Int} {n : Nat} (h : Li m v f n) (h0 : 0 < n) (hn : n ≤ 1000000) (fl : Nat) : OkAt 0 Try.prog fl 60 [v] (ofM m) c (.agg [.int .i64 (loN f n), .int .i64 (hiN f n)]) (ofM m) c := by
  obtain ⟨w, hw, ha⟩ := h.ex
  obtain ⟨a, h1, h2⟩ := ha [w] 0 rfl
  exact (ends_can f n a h2 h0 hn).pure (fun _ => rfl) (Entry.win (H := ofM m) (c := c) (W := [w]) (CS := [fE f n]) rfl ⟨hw, fE_pls f n, trivial⟩ (show ArgsW [w] [v] [a] from ⟨h1, trivial⟩)) fl
end
/-- The list's truths, by their places. -/
noncomputable def gT (B : CBook) (i : Nat) : Tru := (gW B)[i]?.getD (tru0 0)
theorem gT_at {B : CBook} {i : Nat} (h : i < (gW B).length) : (gW B)[i]? = some (gT B i) := by
  unfold gT
  rw [List.getElem?_eq_getElem h]
  rfl
theorem gW_nil {B : CBook} (hB : bkOk B) : gW B = [] ↔ Ws B = [] := by
  constructor
  · intro h
    refine List.eq_nil_iff_forall_not_mem.2 fun t ht => ?_
    have := (mem_gW hB.1).2 ((mem_Ws hB.1 hB.2.1).1 ht)
    rw [h] at this
    cases this
  · intro h
    refine List.eq_nil_iff_forall_not_mem.2 fun t ht => ?_
    have := (mem_Ws hB.1 hB.2.1).2 ((mem_gW hB.1).1 ht)
    rw [h] at this
    cases this
theorem gW_sp {B : CBook} (hB : bkOk B) (hW : gW B ≠ []) (num : Tru → Int) : IsSp num (Ws B) (loN (fun i => num (gT B i)) (gW B).length) (hiN (fun i => num (gT B i)) (gW B).length) := by
  have hlp : 0 < (gW B).length := List.length_pos_iff.2 hW
  have mem : ∀ i, i < (gW B).length → gT B i ∈ Ws B := fun i hi => (mem_Ws hB.1 hB.2.1).2 ((mem_gW hB.1).1 (List.mem_of_getElem? (gT_at hi)))
  have of : ∀ t ∈ Ws B, ∃ i, i < (gW B).length ∧ gT B i = t := fun t ht => by
    obtain ⟨i, hi, he⟩ := List.getElem_of_mem ((mem_gW hB.1).2 ((mem_Ws hB.1 hB.2.1).1 ht))
    refine ⟨i, hi, ?_⟩
    have := gT_at hi
    rw [List.getElem?_eq_getElem hi, he] at this
    exact (Option.some.inj this).symm
  obtain ⟨l1, l2⟩ := loN_spec (fun i => num (gT B i)) (gW B).length
  obtain ⟨u1, u2⟩ := hiN_spec (fun i => num (gT B i)) (gW B).length
  refine ⟨fun t ht => ?_, ?_, ?_⟩
  · obtain ⟨i, hi, rfl⟩ := of t ht
    exact ⟨l1 i hi, u1 i hi⟩
  · rcases l2 with h | ⟨i, hi, h⟩
    · exact ⟨gT B 0, mem 0 hlp, h.symm⟩
    · exact ⟨gT B i, mem i hi, h⟩
  · rcases u2 with h | ⟨i, hi, h⟩
    · exact ⟨gT B 0, mem 0 hlp, h.symm⟩
    · exact ⟨gT B i, mem i hi, h⟩
theorem ans_gW {B : CBook} {q : Prop} (hB : bkOk B) (hq : q) (hW : gW B ≠ []) (num : Tru → Int) : AV.tup [.agg [.int .i64 (loN (fun i => num (gT B i)) (gW B).length), .int .i64 (hiN (fun i => num (gT B i)) (gW B).length)], .int .i64 0] = ansV B q num := by
  have hW' : Ws B ≠ [] := fun h => hW ((gW_nil hB).2 h)
  have e := ansE_ok hB hq hW'
  obtain ⟨x1, x2⟩ := (gW_sp hB hW num).uniq (sp_is num hW')
  unfold ansV ansL ansH
  rw [e, if_pos rfl, if_pos rfl, x1, x2]
end Go.Proofs.Ytjncfddnphhofaa

/- The reference of layer 6: Comes, Rough. -/
namespace Go.Proofs.Ytjncfddnphhofaa
open Go Go.Ev

theorem pinX_nf {f f1 : Nat} {args : List AV} {m m' : List (Nat × Option AObj)} {c c' c1 fl : Nat} {v : AV} {args1 : List AV} {H1 : T AObj} (h : f1 ≠ f) : pinX f args m c v m' c' fl f1 args1 H1 c1 = none := by
  unfold pinX
  rw [if_neg fun q => h q.1]
/-- The list of numbers that is built. -/
def tEx (x k : Nat) : AV := match k with | 0 => .sl x 0 0 0 | j + 1 => .gs x (j + 1)
def tO (f : Nat → Int) (k : Nat) : AObj := match k with | 0 => .cells [] | j + 1 => .grown (fE f (j + 1)) 1
def gsn (x y : Nat) : Nat := if y = 300000 then x else if y < 300000 then y else y + 2
theorem num_wk {B : CBook} {a1 a2 : AV} (h1 : IsSl a1 B.ns 0) (h2 : IsSl a2 B.nc 1) (hB : bkOk B) {f : Nat → Int} {k nt c x : Nat} {l l2 : List (Nat × AV)} {m : List (Nat × Option AObj)} (hx : 200005 ≤ x) (hc : c ≤ 300003)
    (hl : allL (fun t v => Go.Ev.look l t = some (v.ren (gsn x))) l2) (t8 : Go.Ev.look l 8 = some (tEx x k)) (g8 : lookM m x = some (tO f k)) (hk : ∀ y o, y < 200005 → lookM (goM B 5 (gW B) ++ [(3, some (.cells [.int .i64 0, .int .i64 0])), (2, some (.cells (bk B a1 a2).cells)), (0, some (oSt B)), (1, some (oCk B))]) y = some o → lookM m y = some o) :
    Wk 0 2 2 (stL nt [] l m c) (stL nt [] ((8, tEx 300000 k) :: l2) ((300000, some (tO f k)) :: (goM B 5 (gW B) ++ [(3, some (.cells [.int .i64 0, .int .i64 0])), (2, some (.cells (bk B a1 a2).cells)), (0, some (oSt B)), (1, some (oCk B))])) 300001) := by
  obtain ⟨σ, hσ⟩ : ∃ σ, gsn x = σ := ⟨_, rfl⟩
  rw [hσ] at hl
  have s3 : σ 300000 = x := by rw [← hσ]; rfl
  have sl : ∀ y, y < 300000 → σ y = y := fun y hy => by rw [← hσ]; unfold gsn; rw [if_neg (by omega), if_pos hy]
  have hlen := gWk_len hB 3
  have hlen : (gW B).length ≤ 59049 := hlen
  have keysM : ∀ e ∈ ((goM B 5 (gW B) ++ [(3, some (.cells [.int .i64 0, .int .i64 0])), (2, some (.cells (bk B a1 a2).cells)), (0, some (oSt B)), (1, some (oCk B))]) : List (Nat × Option AObj)), e.1 < 200005 := fun e he => by
    rcases List.mem_append.1 he with h | h
    · have := goM_keys e h
      omega
    · simp at h
      rcases h with rfl | rfl | rfl | rfl <;> simp
  have e8 : (tEx 300000 k).ren σ = tEx x k := by
    cases k with
    | zero => show AV.sl (σ 300000) _ _ _ = _; rw [s3]; rfl
    | succ j => show AV.gs (σ 300000) _ = _; rw [s3]; rfl
  have eO : (tO f k).ren σ = tO f k := by
    cases k with
    | zero => rfl
    | succ j => exact ren_grown _ _ _ _
  have hM : allM (fun y o => lookM m (σ y) = some (o.ren σ)) (goM B 5 (gW B) ++ [(3, some (.cells [.int .i64 0, .int .i64 0])), (2, some (.cells (bk B a1 a2).cells)), (0, some (oSt B)), (1, some (oCk B))]) := by
    have base : ∀ (P : List (Nat × Option AObj)), (∀ e ∈ P, e.1 < 200005) → allM (fun y o => lookM (goM B 5 (gW B) ++ [(3, some (.cells [.int .i64 0, .int .i64 0])), (2, some (.cells (bk B a1 a2).cells)), (0, some (oSt B)), (1, some (oCk B))]) y = some o ∧ o.ren σ = o) P → allM (fun y o => lookM m (σ y) = some (o.ren σ)) P := fun P => by
      induction P with
      | nil => exact fun _ _ => trivial
      | cons e P ih =>
        obtain ⟨y, o⟩ := e
        intro h0 h
        cases o with
        | none => exact ih (fun e he => h0 e (List.mem_cons_of_mem _ he)) h
        | some o =>
          have hy : y < 200005 := h0 _ List.mem_cons_self
          refine ⟨?_, ih (fun e he => h0 e (List.mem_cons_of_mem _ he)) h.2⟩
          show lookM m (σ y) = _
          rw [sl y (by omega), h.1.2]
          exact hk y o hy h.1.1
    refine base _ keysM (allM_app ?_ ?_)
    · refine allM_app ?_ (allM_tms _ _ fun j t ht => ?_)
      · by_cases hL : gW B = []
        · rw [hL]; trivial
        · rw [ouM_hd hL]
          refine ⟨⟨look_app (goM_list hL), ?_⟩, trivial⟩
          show AObj.grown (AV.rens σ (tcsF _ _ B.ns 0 (gW B))) 3 = _
          rw [tcsF_ren]
          refine congrArg (fun cs => AObj.grown cs 3) (tcsF_congr _ 0 0 fun j hj => ?_)
          rw [Nat.zero_add]
          exact ⟨sl _ (by unfold fC; omega), sl _ (by unfold gC; omega)⟩
      · rw [Nat.zero_add]
        have := goM_tr (B := B) (c := 5) ht
        exact ⟨⟨look_app this.1, ren_grown _ _ _ _⟩, look_app this.2, ren_grown _ _ _ _⟩
    · have sk : ∀ {y : Nat} {o : AObj}, y < 5 → lookM [(3, some (.cells [.int .i64 0, .int .i64 0])), (2, some (.cells (bk B a1 a2).cells)), (0, some (oSt B)), (1, some (oCk B))] y = some o → lookM (goM B 5 (gW B) ++ [(3, some (.cells [.int .i64 0, .int .i64 0])), (2, some (.cells (bk B a1 a2).cells)), (0, some (oSt B)), (1, some (oCk B))]) y = some o := fun {y o} hy h => (look_skip fun e he => by have := goM_keys e he; omega).trans h
      exact ⟨⟨sk (by decide) rfl, rfl⟩, ⟨sk (by decide) rfl, bkc_ren h1 h2 (sl 0 (by decide)) (sl 1 (by decide))⟩, ⟨sk (by decide) rfl, ren_ro _ _ _⟩, ⟨sk (by decide) rfl, ren_ro _ _ _⟩, trivial⟩
  refine Wk.by σ (by decide) (by decide) (by decide) ⟨by show _ = some ((tEx 300000 k).ren σ); rw [e8]; exact t8, hl⟩ ⟨by show lookM m (σ 300000) = some ((tO f k).ren σ); rw [s3, eO]; exact g8, hM⟩ rfl (fun u hu v hv huv ee => ?_) (fun u hu => ?_) (fun u hu => ?_) (fun u hu => ?_)
  · have key : ∀ u, u ∈ ((300000, some (tO f k)) :: (goM B 5 (gW B) ++ [(3, some (.cells [.int .i64 0, .int .i64 0])), (2, some (.cells (bk B a1 a2).cells)), (0, some (oSt B)), (1, some (oCk B))]) : List (Nat × Option AObj)).map (fun e => e.1) → u = 300000 ∨ u < 200005 := fun u hu => by
      rcases List.mem_cons.1 hu with h | h
      · exact .inl h
      · obtain ⟨e, he, rfl⟩ := List.mem_map.1 h
        exact .inr (keysM e he)
    have q1 := key u hu
    have q2 := key v hv
    rw [← hσ] at ee
    unfold gsn at ee
    (repeat' split at ee) <;> omega
  · rw [← hσ]; unfold gsn; (repeat' split) <;> omega
  · exact sl u (by omega)
  · rw [← hσ]; unfold gsn; (repeat' split) <;> omega
theorem m4_low {B : CBook} {a1 a2 : AV} : ∀ x o, lookM [(3, some (.cells [.int .i64 0, .int .i64 0])), (2, some (.cells (bk B a1 a2).cells)), (0, some (oSt B)), (1, some (oCk B))] x = some o → x < 4 := fun x o hx => by have := lookM_mem hx; simp at this; omega
theorem n5_at {B : CBook} {k : Nat} (hB : bkOk B) (hk : k < (gW B).length) : (tcsF (fC 5) (gC 5) B.ns 0 (gW B))[k * 3 + 1]? = some (.gs (fC 5 k) B.ns) ∧ (tcsF (fC 5) (gC 5) B.ns 0 (gW B))[k * 3 + 2]? = some (.gs (gC 5 k) B.ns) := by
  have hns := hB.1.1
  have eg : ∀ x, grI x B.ns = .gs x B.ns := fun x => by
    cases hq : B.ns with
    | zero => omega
    | succ n => rfl
  have := tcsF_at (f := fC 5) (g := gC 5) (k := B.ns) (gW B) 0 k (gT B k) (gT_at hk)
  rw [Nat.zero_add, eg, eg] at this
  exact ⟨this.2.1, this.2.2⟩
set_option maxRecDepth 100000 in
set_option maxHeartbeats 4000000 in
theorem Comes6_can (B : CBook) (a1 a2 : AV) (h1 : IsSl a1 B.ns 0) (h2 : IsSl a2 B.nc 1) (hn : B.ns ≤ 9223372036854775807) (n : Int) : CanS 0 Try.prog 14 2 [bk B a1 a2, .int .i64 n] [(0, some (oSt B)), (1, some (oCk B))] 2 fun v _ _ => v = ansV B (stQ B n) (fun t => t.c n.toNat) := by
  refine CanS.mk Try.func14 rfl rfl rfl ?_
  repeat' (first | refine RT.nil ?_ | refine sq_n ?_ | refine Tr.seq ?_ | refine Tr.region ?_ | (refine RT.goK rfl rfl rfl rfl ?_; apply Nx.of; (first | exact S.assign | exact S.box | exact S.alloc rfl)))
  have err : ∀ (qb : Bool) (e : Int), dB (stQ B n) = qb → (∀ fl, OkAt 0 Try.prog fl 58 [bk B a1 a2, .bool qb] (ofM [(3, some (.cells [.int .i64 0, .int .i64 0])), (2, some (.cells (bk B a1 a2).cells)), (0, some (oSt B)), (1, some (oCk B))]) 4 (.tup [.nils, .int .i64 e]) (ofM [(3, some (.cells [.int .i64 0, .int .i64 0])), (2, some (.cells (bk B a1 a2).cells)), (0, some (oSt B)), (1, some (oCk B))]) 4) → CalmC 0 Try.prog (alts [pinX 59 [bk B a1 a2, .int .i64 n] [(3, some (.cells [.int .i64 0, .int .i64 0])), (2, some (.cells (bk B a1 a2).cells)), (0, some (oSt B)), (1, some (oCk B))] 4 (.bool qb) [(3, some (.cells [.int .i64 0, .int .i64 0])), (2, some (.cells (bk B a1 a2).cells)), (0, some (oSt B)), (1, some (oCk B))] 4, pinX 58 [bk B a1 a2, .bool qb] [(3, some (.cells [.int .i64 0, .int .i64 0])), (2, some (.cells (bk B a1 a2).cells)), (0, some (oSt B)), (1, some (oCk B))] 4 (.tup [.nils, .int .i64 e]) [(3, some (.cells [.int .i64 0, .int .i64 0])), (2, some (.cells (bk B a1 a2).cells)), (0, some (oSt B)), (1, some (oCk B))] 4]) := fun qb e hq ha => alts_calm fun g hg => by
    simp only [List.mem_cons, List.not_mem_nil, or_false] at hg
    rcases hg with rfl | rfl
    · exact pinX_calm (fun fl => hq ▸ isStage6_at ⟨h1, h2, rfl, rfl, by decide⟩ hn n fl) (fun fl => Good.refl fl 4 (ofM [(3, some (.cells [.int .i64 0, .int .i64 0])), (2, some (.cells (bk B a1 a2).cells)), (0, some (oSt B)), (1, some (oCk B))]))
    · exact pinX_calm ha (fun fl => Good.refl fl 4 (ofM [(3, some (.cells [.int .i64 0, .int .i64 0])), (2, some (.cells (bk B a1 a2).cells)), (0, some (oSt B)), (1, some (oCk B))]))
  by_cases hB : bkOk B
  · by_cases hq : stQ B n
    · by_cases hW : gW B = []
      · refine Tr.openK un14_1 (by kernel_rfl) (by kernel_rfl) _ (err true 62 (dB_tt hq) fun fl => asked_false_at ⟨h1, h2, rfl, rfl, by decide⟩ hn hB hW fl) ?_
        repeat' (first | (refine RD.free rfl rfl rfl rfl rfl rfl ?_; apply Nx.of; (first | exact S.move)) | (refine RD.load rfl rfl rfl rfl rfl rfl rfl rfl ?_; apply Nx.of; (first | exact S.loadNc rfl rfl rfl rfl)))
        (refine RD.callX rfl rfl rfl rfl rfl rfl rfl rfl (by simp) (fun fl' => alts_hd (pinX_at _ _ _ _ _ _ _ fl')) (fun _ => by refine srOkX_all ?_; simp only [srOkX]; (repeat' (first | exact trivial | refine And.intro ?_ ?_)); all_goals (first | (refine ⟨_, rfl, rfl, ?_⟩; (first | (simp [bk, AV.cells, pbC, rfO, rfVs, rfV, h1.rf, h2.rf]; done))))) ?_)
        (refine RD.callX rfl rfl rfl rfl rfl rfl rfl rfl (by simp) (fun fl' => (alts_tl (pinX_nf (by decide))).trans (alts_hd (pinX_at _ _ _ _ _ _ _ fl'))) (fun _ => by refine srOkX_all ?_; simp only [srOkX]; (repeat' (first | exact trivial | refine And.intro ?_ ?_)); all_goals (first | exact trivial | (refine ⟨_, rfl, rfl, ?_⟩; (first | rfl | (simp [rfO, rfVs, rfV, rfVs_flat]; done) | (simp [bk, AV.cells, pbC, rfO, rfVs, rfV, h1.rf, h2.rf]; done))))) ?_)
        repeat' (first | (refine RD.free rfl rfl rfl rfl rfl rfl ?_; apply Nx.of; (first | exact S.move | exact S.assign | exact S.extract rfl)))
        refine RD.nil ⟨Nat.le_of_ble_eq_true rfl, ?_⟩
        repeat' (first | refine RT.nil ?_ | refine sq_n ?_ | refine Tr.seq ?_ | refine Tr.region ?_ | refine Tr.cond_t rfl ?_ | refine Tr.ret ?_ | refine sq_r ?_ | (refine RT.goK rfl rfl rfl rfl ?_; apply Nx.of; (first | exact S.neq_t (by decide))) | (refine RT.goK rfl rfl rfl rfl ?_; apply Nx.of; (first | exact S.move | exact S.assign | exact S.build rfl rfl rfl)) | (refine RT.goK0 rfl rfl rfl ?_; apply Nx.of; (first | exact S.store rfl rfl rfl rfl rfl rfl)))
        (first | refine rt_go rfl ?_)
        exact (ansV_err (ansE_false hB hq ((gW_nil hB).1 hW)) (by decide)).symm
      · have hlp : 0 < (gW B).length := List.length_pos_iff.2 hW
        have hlen : (gW B).length ≤ 59049 := gWk_len hB 3
        have pc : CalmC 0 Try.prog (alts [pinX 59 [bk B a1 a2, .int .i64 n] [(3, some (.cells [.int .i64 0, .int .i64 0])), (2, some (.cells (bk B a1 a2).cells)), (0, some (oSt B)), (1, some (oCk B))] 4 (.bool true) [(3, some (.cells [.int .i64 0, .int .i64 0])), (2, some (.cells (bk B a1 a2).cells)), (0, some (oSt B)), (1, some (oCk B))] 4, pinX 58 [bk B a1 a2, .bool true] [(3, some (.cells [.int .i64 0, .int .i64 0])), (2, some (.cells (bk B a1 a2).cells)), (0, some (oSt B)), (1, some (oCk B))] 4 (.tup [.gs 5 (gW B).length, .int .i64 0]) (goM B 5 (gW B) ++ [(3, some (.cells [.int .i64 0, .int .i64 0])), (2, some (.cells (bk B a1 a2).cells)), (0, some (oSt B)), (1, some (oCk B))]) 200005]) := alts_calm fun g hg => by
          simp only [List.mem_cons, List.not_mem_nil, or_false] at hg
          rcases hg with rfl | rfl
          · exact pinX_calm (fun fl => (dB_tt hq) ▸ isStage6_at ⟨h1, h2, rfl, rfl, by decide⟩ hn n fl) (fun fl => Good.refl fl 4 (ofM [(3, some (.cells [.int .i64 0, .int .i64 0])), (2, some (.cells (bk B a1 a2).cells)), (0, some (oSt B)), (1, some (oCk B))]))
          · exact pinX_calm (fun fl => asked_yes_at (c := 4) h1 h2 hn hB hW m4_low rfl rfl fl) (fun fl => good_app (by decide) fun e he => by have := goM_keys e he; omega)
        refine Tr.openK un14_1 (by kernel_rfl) (by kernel_rfl) _ pc ?_
        repeat' (first | (refine RD.free rfl rfl rfl rfl rfl rfl ?_; apply Nx.of; (first | exact S.move)) | (refine RD.load rfl rfl rfl rfl rfl rfl rfl rfl ?_; apply Nx.of; (first | exact S.loadNc rfl rfl rfl rfl)))
        (refine RD.callX rfl rfl rfl rfl rfl rfl rfl rfl (by simp) (fun fl' => alts_hd (pinX_at _ _ _ _ _ _ _ fl')) (fun _ => by refine srOkX_all ?_; simp only [srOkX]; (repeat' (first | exact trivial | refine And.intro ?_ ?_)); all_goals (first | (refine ⟨_, rfl, rfl, ?_⟩; (first | (simp [bk, AV.cells, pbC, rfO, rfVs, rfV, h1.rf, h2.rf]; done))))) ?_)
        (refine RD.callX rfl rfl rfl rfl rfl rfl rfl rfl (by simp) (fun fl' => (alts_tl (pinX_nf (by decide))).trans (alts_hd (pinX_at _ _ _ _ _ _ _ fl'))) (fun _ => by refine srOkX_all ?_; simp only [srOkX]; (repeat' (first | exact trivial | refine And.intro ?_ ?_)); all_goals (first | exact trivial | (refine ⟨_, rfl, rfl, ?_⟩; (first | rfl | (simp [rfO, rfVs, rfV, rfVs_flat]; done) | (simp [bk, AV.cells, pbC, rfO, rfVs, rfV, h1.rf, h2.rf]; done))))) ?_)
        repeat' (first | (refine RD.free rfl rfl rfl rfl rfl rfl ?_; apply Nx.of; (first | exact S.move | exact S.assign | exact S.extract rfl)))
        refine RD.nil ⟨Nat.le_of_ble_eq_true rfl, ?_⟩
        repeat' (first | refine RT.nil ?_ | refine sq_n ?_ | refine Tr.seq ?_ | refine Tr.region ?_ | refine Tr.cond_f rfl ?_ | refine Tr.skip ?_ | refine Tr.block ?_ | (refine RT.goK rfl rfl rfl rfl ?_; apply Nx.of; (first | exact S.neq_f (by decide))) | (refine RT.goK rfl rfl rfl rfl ?_; apply Nx.of; (first | exact S.move | exact S.assign | exact S.buildSlice0 rfl rfl rfl)))
        refine Tr.loop (fun k : Nat => stL Try.f14.ntmps [] [(8, tEx 300000 k), (1, .int .i64 n), (2, .ptr 2 0), (4, .ptr 3 0), (6, .gs 5 (gW B).length), (9, .int .i64 (k : Int))] ((300000, some (tO (fun i => (gT B i).c n.toNat) k)) :: (goM B 5 (gW B) ++ [(3, some (.cells [.int .i64 0, .int .i64 0])), (2, some (.cells (bk B a1 a2).cells)), (0, some (oSt B)), (1, some (oCk B))])) 300001) (fun k => k ≤ (gW B).length) (fun k => (gW B).length - k) 0 (Nat.zero_le _) ?_ (fun k hk => ?_)
        · exact num_wk h1 h2 hB (x := 200005) (k := 0) (by decide) (by decide) ⟨rfl, rfl, rfl, rfl, rfl, trivial⟩ rfl rfl (fun y o hy h => (lookM_tl (by omega)).trans h)
        have x5 : lookM ((300000, some (tO (fun i => (gT B i).c n.toNat) k)) :: (goM B 5 (gW B) ++ [(3, some (.cells [.int .i64 0, .int .i64 0])), (2, some (.cells (bk B a1 a2).cells)), (0, some (oSt B)), (1, some (oCk B))])) 5 = some (.grown (tcsF (fC 5) (gC 5) B.ns 0 (gW B)) 3) := (lookM_tl (by decide)).trans (look_app (goM_list hW))
        by_cases hlt : k < (gW B).length
        · have hlt' : (k : Int) < (gW B).length := by omega
          have hn1 : n < B.ns := by have := hq.2; omega
          have x6 := (n5_at hB hlt).2
          have xt := goM_tr (B := B) (c := 5) (gT_at hlt)
          have xg : lookM ((300000, some (tO (fun i => (gT B i).c n.toNat) k)) :: (goM B 5 (gW B) ++ [(3, some (.cells [.int .i64 0, .int .i64 0])), (2, some (.cells (bk B a1 a2).cells)), (0, some (oSt B)), (1, some (oCk B))])) (gC 5 k) = some (.grown (fE (gT B k).c B.ns) 1) := (lookM_tl (by unfold gC; omega)).trans (look_app xt.2)
          have xv := fE_at (gT B k).c (show n.toNat < B.ns by have := hq.1; omega)
          have hs5 : IsSl (AV.gs 5 (gW B).length) (gW B).length 5 := IsSl.gs 5 _
          repeat' (first | refine RT.nil ?_ | refine sq_n ?_ | refine Tr.seq ?_ | refine Tr.region ?_ | refine Tr.cond_t rfl ?_ | refine Tr.skip ?_ | refine Tr.block ?_ | (refine RT.goK rfl rfl rfl rfl ?_; first | refine Nx.of (S.lss_t hlt') ?_ | refine Nx.of (S.idx_sl rfl rfl rfl hs5 hlt) ?_ | refine Nx.of (S.load1g rfl rfl x5 x6) ?_ | refine Nx.of (S.idx_slI rfl rfl rfl (IsSl.gs _ _) hq.1 hn1) ?_ | refine Nx.of (S.load1g rfl rfl xg xv) ?_) | (refine RT.goK rfl rfl rfl rfl ?_; apply Nx.of; (first | exact S.move | exact S.fieldAddr rfl rfl rfl | exact S.buildSlice rfl rfl rfl rfl rfl rfl rfl)) | (refine RT.goK rfl rfl rfl rfl ?_; apply Nx.of; (first | exact S.len_sl rfl rfl rfl (by assumption))))
          cases k with
          | zero =>
            repeat' (first | (refine RT.goK rfl rfl rfl rfl ?_; refine Nx.of (S.append_e1I rfl rfl rfl rfl rfl rfl rfl rfl rfl rfl rfl rfl) ?_) | refine RT.nil ?_ | refine sq_n ?_ | refine Tr.region ?_ | refine blk_n ?_ | (refine RT.goK rfl rfl rfl rfl ?_; apply Nx.of; (first | exact S.move | exact S.assign | exact S.add_one (by omega))))
            refine lp_n 1 (by omega) (by omega) ?_
            exact num_wk h1 h2 hB (x := 300002) (k := 1) (by decide) (by decide) ⟨rfl, rfl, rfl, rfl, rfl, trivial⟩ rfl rfl (fun y o hy h => (lookM_tl (by omega)).trans ((lookM_tl (by omega)).trans ((lookM_tl (by omega)).trans h)))
          | succ j =>
            repeat' (first | (refine RT.goK rfl rfl rfl rfl ?_; refine Nx.of (S.append_gsI rfl rfl rfl rfl rfl rfl rfl rfl rfl rfl rfl rfl rfl (cut_all (by rw [fE_len, Nat.mul_one])) (by omega) rfl) ?_) | refine RT.nil ?_ | refine sq_n ?_ | refine Tr.region ?_ | refine blk_n ?_ | (refine RT.goK rfl rfl rfl rfl ?_; apply Nx.of; (first | exact S.move | exact S.assign | exact S.add_one (by omega))))
            refine lp_n (j + 2) (by omega) (by omega) ?_
            exact num_wk h1 h2 hB (x := 300002) (k := j + 2) (by decide) (by decide) ⟨rfl, rfl, rfl, rfl, rfl, trivial⟩ rfl (by show _ = some (AObj.grown (fE _ (j + 1 + 1)) 1); rw [fE_succ _ (j + 1)]; rfl) (fun y o hy h => (lookM_tl (by omega)).trans ((lookM_tl (by omega)).trans ((lookM_tl (by omega)).trans ((lookM_tl (by omega)).trans h))))
        · obtain hkN : k = (gW B).length := by have : k ≤ (gW B).length := hk; omega
          have hlt' : ¬ (k : Int) < (gW B).length := by omega
          have hs5 : IsSl (AV.gs 5 (gW B).length) (gW B).length 5 := IsSl.gs 5 _
          obtain ⟨N, hN⟩ : ∃ N, (gW B).length = N + 1 := ⟨(gW B).length - 1, by omega⟩
          refine Tr.wk (Wk.drop (l2 := [(8, tEx 300000 k), (1, .int .i64 n), (2, .ptr 2 0), (4, .ptr 3 0), (6, .gs 5 (gW B).length), (9, .int .i64 (k : Int))]) (m2 := (300000, some (tO (fun i => (gT B i).c n.toNat) k)) :: [(3, some (.cells [.int .i64 0, .int .i64 0])), (2, some (.cells (bk B a1 a2).cells)), (0, some (oSt B)), (1, some (oCk B))]) (by decide) (by decide) (by decide) ⟨rfl, rfl, rfl, rfl, rfl, rfl, trivial⟩ fun x o hx => ?_) ?_
          · by_cases e : x = 300000
            · subst e; exact hx
            · rw [lookM_tl e] at hx ⊢
              have := m4_low x o hx
              exact (look_skip fun e he => by have := goM_keys e he; omega).trans hx
          have hli : Li ((300000, some (tO (fun i => (gT B i).c n.toNat) k)) :: [(3, some (.cells [.int .i64 0, .int .i64 0])), (2, some (.cells (bk B a1 a2).cells)), (0, some (oSt B)), (1, some (oCk B))]) (tEx 300000 k) (fun i => (gT B i).c n.toNat) (gW B).length := by
            rw [hkN, hN]
            exact Li.sl (x := 300000) (IsSl.gs 300000 (N + 1)) lookM_hd rfl
          repeat' (first | refine RT.nil ?_ | refine sq_n ?_ | refine Tr.seq ?_ | refine Tr.region ?_ | refine Tr.cond_f rfl ?_ | refine Tr.ret ?_ | refine Tr.exit ?_ | refine sq_x ?_ | refine blk_hit rfl ?_ | refine lp_x ?_ | (refine RT.goK rfl rfl rfl rfl ?_; first | refine Nx.of (S.lss_f hlt') ?_) | (refine RT.call rfl rfl rfl (ends_at hli hlp (by omega) _) rfl rfl (Nat.le_refl _) ?_) | (refine RT.goK rfl rfl rfl rfl ?_; apply Nx.of; (first | exact S.move | exact S.assign)) | (refine RT.goK0 rfl rfl rfl ?_; apply Nx.of; (first | exact S.store rfl rfl rfl rfl rfl rfl)) | (refine RT.goK rfl rfl rfl rfl ?_; apply Nx.of; (first | exact S.len_sl rfl rfl rfl (by assumption))))
          (first | refine rt_go rfl ?_)
          exact ans_gW hB hq hW (fun t => t.c n.toNat)
    · refine Tr.openK un14_1 (by kernel_rfl) (by kernel_rfl) _ (err false 61 (dB_ff hq) fun fl => asked_ask_at ⟨h1, h2, rfl, rfl, by decide⟩ hn hB fl) ?_
      repeat' (first | (refine RD.free rfl rfl rfl rfl rfl rfl ?_; apply Nx.of; (first | exact S.move)) | (refine RD.load rfl rfl rfl rfl rfl rfl rfl rfl ?_; apply Nx.of; (first | exact S.loadNc rfl rfl rfl rfl)))
      (refine RD.callX rfl rfl rfl rfl rfl rfl rfl rfl (by simp) (fun fl' => alts_hd (pinX_at _ _ _ _ _ _ _ fl')) (fun _ => by refine srOkX_all ?_; simp only [srOkX]; (repeat' (first | exact trivial | refine And.intro ?_ ?_)); all_goals (first | (refine ⟨_, rfl, rfl, ?_⟩; (first | (simp [bk, AV.cells, pbC, rfO, rfVs, rfV, h1.rf, h2.rf]; done))))) ?_)
      (refine RD.callX rfl rfl rfl rfl rfl rfl rfl rfl (by simp) (fun fl' => (alts_tl (pinX_nf (by decide))).trans (alts_hd (pinX_at _ _ _ _ _ _ _ fl'))) (fun _ => by refine srOkX_all ?_; simp only [srOkX]; (repeat' (first | exact trivial | refine And.intro ?_ ?_)); all_goals (first | exact trivial | (refine ⟨_, rfl, rfl, ?_⟩; (first | rfl | (simp [rfO, rfVs, rfV, rfVs_flat]; done) | (simp [bk, AV.cells, pbC, rfO, rfVs, rfV, h1.rf, h2.rf]; done))))) ?_)
      repeat' (first | (refine RD.free rfl rfl rfl rfl rfl rfl ?_; apply Nx.of; (first | exact S.move | exact S.assign | exact S.extract rfl)))
      refine RD.nil ⟨Nat.le_of_ble_eq_true rfl, ?_⟩
      repeat' (first | refine RT.nil ?_ | refine sq_n ?_ | refine Tr.seq ?_ | refine Tr.region ?_ | refine Tr.cond_t rfl ?_ | refine Tr.ret ?_ | refine sq_r ?_ | (refine RT.goK rfl rfl rfl rfl ?_; apply Nx.of; (first | exact S.neq_t (by decide))) | (refine RT.goK rfl rfl rfl rfl ?_; apply Nx.of; (first | exact S.move | exact S.assign | exact S.build rfl rfl rfl)) | (refine RT.goK0 rfl rfl rfl ?_; apply Nx.of; (first | exact S.store rfl rfl rfl rfl rfl rfl)))
      (first | refine rt_go rfl ?_)
      exact (ansV_err (ansE_ask hB hq) (by decide)).symm
  · refine Tr.openK un14_1 (by kernel_rfl) (by kernel_rfl) _ (err _ 60 rfl fun fl => asked_no_at ⟨h1, h2, rfl, rfl, by decide⟩ hn hB _ fl) ?_
    repeat' (first | (refine RD.free rfl rfl rfl rfl rfl rfl ?_; apply Nx.of; (first | exact S.move)) | (refine RD.load rfl rfl rfl rfl rfl rfl rfl rfl ?_; apply Nx.of; (first | exact S.loadNc rfl rfl rfl rfl)))
    (refine RD.callX rfl rfl rfl rfl rfl rfl rfl rfl (by simp) (fun fl' => alts_hd (pinX_at _ _ _ _ _ _ _ fl')) (fun _ => by refine srOkX_all ?_; simp only [srOkX]; (repeat' (first | exact trivial | refine And.intro ?_ ?_)); all_goals (first | (refine ⟨_, rfl, rfl, ?_⟩; (first | (simp [bk, AV.cells, pbC, rfO, rfVs, rfV, h1.rf, h2.rf]; done))))) ?_)
    (refine RD.callX rfl rfl rfl rfl rfl rfl rfl rfl (by simp) (fun fl' => (alts_tl (pinX_nf (by decide))).trans (alts_hd (pinX_at _ _ _ _ _ _ _ fl'))) (fun _ => by refine srOkX_all ?_; simp only [srOkX]; (repeat' (first | exact trivial | refine And.intro ?_ ?_)); all_goals (first | exact trivial | (refine ⟨_, rfl, rfl, ?_⟩; (first | rfl | (simp [rfO, rfVs, rfV, rfVs_flat]; done) | (simp [bk, AV.cells, pbC, rfO, rfVs, rfV, h1.rf, h2.rf]; done))))) ?_)
    repeat' (first | (refine RD.free rfl rfl rfl rfl rfl rfl ?_; apply Nx.of; (first | exact S.move | exact S.assign | exact S.extract rfl)))
    refine RD.nil ⟨Nat.le_of_ble_eq_true rfl, ?_⟩
    repeat' (first | refine RT.nil ?_ | refine sq_n ?_ | refine Tr.seq ?_ | refine Tr.region ?_ | refine Tr.cond_t rfl ?_ | refine Tr.ret ?_ | refine sq_r ?_ | (refine RT.goK rfl rfl rfl rfl ?_; apply Nx.of; (first | exact S.neq_t (by decide))) | (refine RT.goK rfl rfl rfl rfl ?_; apply Nx.of; (first | exact S.move | exact S.assign | exact S.build rfl rfl rfl)) | (refine RT.goK0 rfl rfl rfl ?_; apply Nx.of; (first | exact S.store rfl rfl rfl rfl rfl rfl)))
    (first | refine rt_go rfl ?_)
    exact (ansV_err (ansE_no hB) (by decide)).symm
set_option maxRecDepth 100000 in
set_option maxHeartbeats 4000000 in
theorem Rough6_can (B : CBook) (a1 a2 : AV) (h1 : IsSl a1 B.ns 0) (h2 : IsSl a2 B.nc 1) (hn : B.ns ≤ 9223372036854775807) (n : Int) : CanS 0 Try.prog 18 2 [bk B a1 a2, .int .i64 n] [(0, some (oSt B)), (1, some (oCk B))] 2 fun v _ _ => v = ansV B (stQ B n) (fun t => t.r n.toNat) := by
  refine CanS.mk Try.func18 rfl rfl rfl ?_
  repeat' (first | refine RT.nil ?_ | refine sq_n ?_ | refine Tr.seq ?_ | refine Tr.region ?_ | (refine RT.goK rfl rfl rfl rfl ?_; apply Nx.of; (first | exact S.assign | exact S.box | exact S.alloc rfl)))
  have err : ∀ (qb : Bool) (e : Int), dB (stQ B n) = qb → (∀ fl, OkAt 0 Try.prog fl 58 [bk B a1 a2, .bool qb] (ofM [(3, some (.cells [.int .i64 0, .int .i64 0])), (2, some (.cells (bk B a1 a2).cells)), (0, some (oSt B)), (1, some (oCk B))]) 4 (.tup [.nils, .int .i64 e]) (ofM [(3, some (.cells [.int .i64 0, .int .i64 0])), (2, some (.cells (bk B a1 a2).cells)), (0, some (oSt B)), (1, some (oCk B))]) 4) → CalmC 0 Try.prog (alts [pinX 59 [bk B a1 a2, .int .i64 n] [(3, some (.cells [.int .i64 0, .int .i64 0])), (2, some (.cells (bk B a1 a2).cells)), (0, some (oSt B)), (1, some (oCk B))] 4 (.bool qb) [(3, some (.cells [.int .i64 0, .int .i64 0])), (2, some (.cells (bk B a1 a2).cells)), (0, some (oSt B)), (1, some (oCk B))] 4, pinX 58 [bk B a1 a2, .bool qb] [(3, some (.cells [.int .i64 0, .int .i64 0])), (2, some (.cells (bk B a1 a2).cells)), (0, some (oSt B)), (1, some (oCk B))] 4 (.tup [.nils, .int .i64 e]) [(3, some (.cells [.int .i64 0, .int .i64 0])), (2, some (.cells (bk B a1 a2).cells)), (0, some (oSt B)), (1, some (oCk B))] 4]) := fun qb e hq ha => alts_calm fun g hg => by
    simp only [List.mem_cons, List.not_mem_nil, or_false] at hg
    rcases hg with rfl | rfl
    · exact pinX_calm (fun fl => hq ▸ isStage6_at ⟨h1, h2, rfl, rfl, by decide⟩ hn n fl) (fun fl => Good.refl fl 4 (ofM [(3, some (.cells [.int .i64 0, .int .i64 0])), (2, some (.cells (bk B a1 a2).cells)), (0, some (oSt B)), (1, some (oCk B))]))
    · exact pinX_calm ha (fun fl => Good.refl fl 4 (ofM [(3, some (.cells [.int .i64 0, .int .i64 0])), (2, some (.cells (bk B a1 a2).cells)), (0, some (oSt B)), (1, some (oCk B))]))
  by_cases hB : bkOk B
  · by_cases hq : stQ B n
    · by_cases hW : gW B = []
      · refine Tr.openK un18_1 (by kernel_rfl) (by kernel_rfl) _ (err true 62 (dB_tt hq) fun fl => asked_false_at ⟨h1, h2, rfl, rfl, by decide⟩ hn hB hW fl) ?_
        repeat' (first | (refine RD.free rfl rfl rfl rfl rfl rfl ?_; apply Nx.of; (first | exact S.move)) | (refine RD.load rfl rfl rfl rfl rfl rfl rfl rfl ?_; apply Nx.of; (first | exact S.loadNc rfl rfl rfl rfl)))
        (refine RD.callX rfl rfl rfl rfl rfl rfl rfl rfl (by simp) (fun fl' => alts_hd (pinX_at _ _ _ _ _ _ _ fl')) (fun _ => by refine srOkX_all ?_; simp only [srOkX]; (repeat' (first | exact trivial | refine And.intro ?_ ?_)); all_goals (first | (refine ⟨_, rfl, rfl, ?_⟩; (first | (simp [bk, AV.cells, pbC, rfO, rfVs, rfV, h1.rf, h2.rf]; done))))) ?_)
        (refine RD.callX rfl rfl rfl rfl rfl rfl rfl rfl (by simp) (fun fl' => (alts_tl (pinX_nf (by decide))).trans (alts_hd (pinX_at _ _ _ _ _ _ _ fl'))) (fun _ => by refine srOkX_all ?_; simp only [srOkX]; (repeat' (first | exact trivial | refine And.intro ?_ ?_)); all_goals (first | exact trivial | (refine ⟨_, rfl, rfl, ?_⟩; (first | rfl | (simp [rfO, rfVs, rfV, rfVs_flat]; done) | (simp [bk, AV.cells, pbC, rfO, rfVs, rfV, h1.rf, h2.rf]; done))))) ?_)
        repeat' (first | (refine RD.free rfl rfl rfl rfl rfl rfl ?_; apply Nx.of; (first | exact S.move | exact S.assign | exact S.extract rfl)))
        refine RD.nil ⟨Nat.le_of_ble_eq_true rfl, ?_⟩
        repeat' (first | refine RT.nil ?_ | refine sq_n ?_ | refine Tr.seq ?_ | refine Tr.region ?_ | refine Tr.cond_t rfl ?_ | refine Tr.ret ?_ | refine sq_r ?_ | (refine RT.goK rfl rfl rfl rfl ?_; apply Nx.of; (first | exact S.neq_t (by decide))) | (refine RT.goK rfl rfl rfl rfl ?_; apply Nx.of; (first | exact S.move | exact S.assign | exact S.build rfl rfl rfl)) | (refine RT.goK0 rfl rfl rfl ?_; apply Nx.of; (first | exact S.store rfl rfl rfl rfl rfl rfl)))
        (first | refine rt_go rfl ?_)
        exact (ansV_err (ansE_false hB hq ((gW_nil hB).1 hW)) (by decide)).symm
      · have hlp : 0 < (gW B).length := List.length_pos_iff.2 hW
        have hlen : (gW B).length ≤ 59049 := gWk_len hB 3
        have pc : CalmC 0 Try.prog (alts [pinX 59 [bk B a1 a2, .int .i64 n] [(3, some (.cells [.int .i64 0, .int .i64 0])), (2, some (.cells (bk B a1 a2).cells)), (0, some (oSt B)), (1, some (oCk B))] 4 (.bool true) [(3, some (.cells [.int .i64 0, .int .i64 0])), (2, some (.cells (bk B a1 a2).cells)), (0, some (oSt B)), (1, some (oCk B))] 4, pinX 58 [bk B a1 a2, .bool true] [(3, some (.cells [.int .i64 0, .int .i64 0])), (2, some (.cells (bk B a1 a2).cells)), (0, some (oSt B)), (1, some (oCk B))] 4 (.tup [.gs 5 (gW B).length, .int .i64 0]) (goM B 5 (gW B) ++ [(3, some (.cells [.int .i64 0, .int .i64 0])), (2, some (.cells (bk B a1 a2).cells)), (0, some (oSt B)), (1, some (oCk B))]) 200005]) := alts_calm fun g hg => by
          simp only [List.mem_cons, List.not_mem_nil, or_false] at hg
          rcases hg with rfl | rfl
          · exact pinX_calm (fun fl => (dB_tt hq) ▸ isStage6_at ⟨h1, h2, rfl, rfl, by decide⟩ hn n fl) (fun fl => Good.refl fl 4 (ofM [(3, some (.cells [.int .i64 0, .int .i64 0])), (2, some (.cells (bk B a1 a2).cells)), (0, some (oSt B)), (1, some (oCk B))]))
          · exact pinX_calm (fun fl => asked_yes_at (c := 4) h1 h2 hn hB hW m4_low rfl rfl fl) (fun fl => good_app (by decide) fun e he => by have := goM_keys e he; omega)
        refine Tr.openK un18_1 (by kernel_rfl) (by kernel_rfl) _ pc ?_
        repeat' (first | (refine RD.free rfl rfl rfl rfl rfl rfl ?_; apply Nx.of; (first | exact S.move)) | (refine RD.load rfl rfl rfl rfl rfl rfl rfl rfl ?_; apply Nx.of; (first | exact S.loadNc rfl rfl rfl rfl)))
        (refine RD.callX rfl rfl rfl rfl rfl rfl rfl rfl (by simp) (fun fl' => alts_hd (pinX_at _ _ _ _ _ _ _ fl')) (fun _ => by refine srOkX_all ?_; simp only [srOkX]; (repeat' (first | exact trivial | refine And.intro ?_ ?_)); all_goals (first | (refine ⟨_, rfl, rfl, ?_⟩; (first | (simp [bk, AV.cells, pbC, rfO, rfVs, rfV, h1.rf, h2.rf]; done))))) ?_)
        (refine RD.callX rfl rfl rfl rfl rfl rfl rfl rfl (by simp) (fun fl' => (alts_tl (pinX_nf (by decide))).trans (alts_hd (pinX_at _ _ _ _ _ _ _ fl'))) (fun _ => by refine srOkX_all ?_; simp only [srOkX]; (repeat' (first | exact trivial | refine And.intro ?_ ?_)); all_goals (first | exact trivial | (refine ⟨_, rfl, rfl, ?_⟩; (first | rfl | (simp [rfO, rfVs, rfV, rfVs_flat]; done) | (simp [bk, AV.cells, pbC, rfO, rfVs, rfV, h1.rf, h2.rf]; done))))) ?_)
        repeat' (first | (refine RD.free rfl rfl rfl rfl rfl rfl ?_; apply Nx.of; (first | exact S.move | exact S.assign | exact S.extract rfl)))
        refine RD.nil ⟨Nat.le_of_ble_eq_true rfl, ?_⟩
        repeat' (first | refine RT.nil ?_ | refine sq_n ?_ | refine Tr.seq ?_ | refine Tr.region ?_ | refine Tr.cond_f rfl ?_ | refine Tr.skip ?_ | refine Tr.block ?_ | (refine RT.goK rfl rfl rfl rfl ?_; apply Nx.of; (first | exact S.neq_f (by decide))) | (refine RT.goK rfl rfl rfl rfl ?_; apply Nx.of; (first | exact S.move | exact S.assign | exact S.buildSlice0 rfl rfl rfl)))
        refine Tr.loop (fun k : Nat => stL Try.f18.ntmps [] [(8, tEx 300000 k), (1, .int .i64 n), (2, .ptr 2 0), (4, .ptr 3 0), (6, .gs 5 (gW B).length), (9, .int .i64 (k : Int))] ((300000, some (tO (fun i => (gT B i).r n.toNat) k)) :: (goM B 5 (gW B) ++ [(3, some (.cells [.int .i64 0, .int .i64 0])), (2, some (.cells (bk B a1 a2).cells)), (0, some (oSt B)), (1, some (oCk B))])) 300001) (fun k => k ≤ (gW B).length) (fun k => (gW B).length - k) 0 (Nat.zero_le _) ?_ (fun k hk => ?_)
        · exact num_wk h1 h2 hB (x := 200005) (k := 0) (by decide) (by decide) ⟨rfl, rfl, rfl, rfl, rfl, trivial⟩ rfl rfl (fun y o hy h => (lookM_tl (by omega)).trans h)
        have x5 : lookM ((300000, some (tO (fun i => (gT B i).r n.toNat) k)) :: (goM B 5 (gW B) ++ [(3, some (.cells [.int .i64 0, .int .i64 0])), (2, some (.cells (bk B a1 a2).cells)), (0, some (oSt B)), (1, some (oCk B))])) 5 = some (.grown (tcsF (fC 5) (gC 5) B.ns 0 (gW B)) 3) := (lookM_tl (by decide)).trans (look_app (goM_list hW))
        by_cases hlt : k < (gW B).length
        · have hlt' : (k : Int) < (gW B).length := by omega
          have hn1 : n < B.ns := by have := hq.2; omega
          have x6 := (n5_at hB hlt).1
          have xt := goM_tr (B := B) (c := 5) (gT_at hlt)
          have xg : lookM ((300000, some (tO (fun i => (gT B i).r n.toNat) k)) :: (goM B 5 (gW B) ++ [(3, some (.cells [.int .i64 0, .int .i64 0])), (2, some (.cells (bk B a1 a2).cells)), (0, some (oSt B)), (1, some (oCk B))])) (fC 5 k) = some (.grown (fE (gT B k).r B.ns) 1) := (lookM_tl (by unfold fC; omega)).trans (look_app xt.1)
          have xv := fE_at (gT B k).r (show n.toNat < B.ns by have := hq.1; omega)
          have hs5 : IsSl (AV.gs 5 (gW B).length) (gW B).length 5 := IsSl.gs 5 _
          repeat' (first | refine RT.nil ?_ | refine sq_n ?_ | refine Tr.seq ?_ | refine Tr.region ?_ | refine Tr.cond_t rfl ?_ | refine Tr.skip ?_ | refine Tr.block ?_ | (refine RT.goK rfl rfl rfl rfl ?_; first | refine Nx.of (S.lss_t hlt') ?_ | refine Nx.of (S.idx_sl rfl rfl rfl hs5 hlt) ?_ | refine Nx.of (S.load1g rfl rfl x5 x6) ?_ | refine Nx.of (S.idx_slI rfl rfl rfl (IsSl.gs _ _) hq.1 hn1) ?_ | refine Nx.of (S.load1g rfl rfl xg xv) ?_) | (refine RT.goK rfl rfl rfl rfl ?_; apply Nx.of; (first | exact S.move | exact S.fieldAddr rfl rfl rfl | exact S.buildSlice rfl rfl rfl rfl rfl rfl rfl)) | (refine RT.goK rfl rfl rfl rfl ?_; apply Nx.of; (first | exact S.len_sl rfl rfl rfl (by assumption))))
          cases k with
          | zero =>
            repeat' (first | (refine RT.goK rfl rfl rfl rfl ?_; refine Nx.of (S.append_e1I rfl rfl rfl rfl rfl rfl rfl rfl rfl rfl rfl rfl) ?_) | refine RT.nil ?_ | refine sq_n ?_ | refine Tr.region ?_ | refine blk_n ?_ | (refine RT.goK rfl rfl rfl rfl ?_; apply Nx.of; (first | exact S.move | exact S.assign | exact S.add_one (by omega))))
            refine lp_n 1 (by omega) (by omega) ?_
            exact num_wk h1 h2 hB (x := 300002) (k := 1) (by decide) (by decide) ⟨rfl, rfl, rfl, rfl, rfl, trivial⟩ rfl rfl (fun y o hy h => (lookM_tl (by omega)).trans ((lookM_tl (by omega)).trans ((lookM_tl (by omega)).trans h)))
          | succ j =>
            repeat' (first | (refine RT.goK rfl rfl rfl rfl ?_; refine Nx.of (S.append_gsI rfl rfl rfl rfl rfl rfl rfl rfl rfl rfl rfl rfl rfl (cut_all (by rw [fE_len, Nat.mul_one])) (by omega) rfl) ?_) | refine RT.nil ?_ | refine sq_n ?_ | refine Tr.region ?_ | refine blk_n ?_ | (refine RT.goK rfl rfl rfl rfl ?_; apply Nx.of; (first | exact S.move | exact S.assign | exact S.add_one (by omega))))
            refine lp_n (j + 2) (by omega) (by omega) ?_
            exact num_wk h1 h2 hB (x := 300002) (k := j + 2) (by decide) (by decide) ⟨rfl, rfl, rfl, rfl, rfl, trivial⟩ rfl (by show _ = some (AObj.grown (fE _ (j + 1 + 1)) 1); rw [fE_succ _ (j + 1)]; rfl) (fun y o hy h => (lookM_tl (by omega)).trans ((lookM_tl (by omega)).trans ((lookM_tl (by omega)).trans ((lookM_tl (by omega)).trans h))))
        · obtain hkN : k = (gW B).length := by have : k ≤ (gW B).length := hk; omega
          have hlt' : ¬ (k : Int) < (gW B).length := by omega
          have hs5 : IsSl (AV.gs 5 (gW B).length) (gW B).length 5 := IsSl.gs 5 _
          obtain ⟨N, hN⟩ : ∃ N, (gW B).length = N + 1 := ⟨(gW B).length - 1, by omega⟩
          refine Tr.wk (Wk.drop (l2 := [(8, tEx 300000 k), (1, .int .i64 n), (2, .ptr 2 0), (4, .ptr 3 0), (6, .gs 5 (gW B).length), (9, .int .i64 (k : Int))]) (m2 := (300000, some (tO (fun i => (gT B i).r n.toNat) k)) :: [(3, some (.cells [.int .i64 0, .int .i64 0])), (2, some (.cells (bk B a1 a2).cells)), (0, some (oSt B)), (1, some (oCk B))]) (by decide) (by decide) (by decide) ⟨rfl, rfl, rfl, rfl, rfl, rfl, trivial⟩ fun x o hx => ?_) ?_
          · by_cases e : x = 300000
            · subst e; exact hx
            · rw [lookM_tl e] at hx ⊢
              have := m4_low x o hx
              exact (look_skip fun e he => by have := goM_keys e he; omega).trans hx
          have hli : Li ((300000, some (tO (fun i => (gT B i).r n.toNat) k)) :: [(3, some (.cells [.int .i64 0, .int .i64 0])), (2, some (.cells (bk B a1 a2).cells)), (0, some (oSt B)), (1, some (oCk B))]) (tEx 300000 k) (fun i => (gT B i).r n.toNat) (gW B).length := by
            rw [hkN, hN]
            exact Li.sl (x := 300000) (IsSl.gs 300000 (N + 1)) lookM_hd rfl
          repeat' (first | refine RT.nil ?_ | refine sq_n ?_ | refine Tr.seq ?_ | refine Tr.region ?_ | refine Tr.cond_f rfl ?_ | refine Tr.ret ?_ | refine Tr.exit ?_ | refine sq_x ?_ | refine blk_hit rfl ?_ | refine lp_x ?_ | (refine RT.goK rfl rfl rfl rfl ?_; first | refine Nx.of (S.lss_f hlt') ?_) | (refine RT.call rfl rfl rfl (ends_at hli hlp (by omega) _) rfl rfl (Nat.le_refl _) ?_) | (refine RT.goK rfl rfl rfl rfl ?_; apply Nx.of; (first | exact S.move | exact S.assign)) | (refine RT.goK0 rfl rfl rfl ?_; apply Nx.of; (first | exact S.store rfl rfl rfl rfl rfl rfl)) | (refine RT.goK rfl rfl rfl rfl ?_; apply Nx.of; (first | exact S.len_sl rfl rfl rfl (by assumption))))
          (first | refine rt_go rfl ?_)
          exact ans_gW hB hq hW (fun t => t.r n.toNat)
    · refine Tr.openK un18_1 (by kernel_rfl) (by kernel_rfl) _ (err false 61 (dB_ff hq) fun fl => asked_ask_at ⟨h1, h2, rfl, rfl, by decide⟩ hn hB fl) ?_
      repeat' (first | (refine RD.free rfl rfl rfl rfl rfl rfl ?_; apply Nx.of; (first | exact S.move)) | (refine RD.load rfl rfl rfl rfl rfl rfl rfl rfl ?_; apply Nx.of; (first | exact S.loadNc rfl rfl rfl rfl)))
      (refine RD.callX rfl rfl rfl rfl rfl rfl rfl rfl (by simp) (fun fl' => alts_hd (pinX_at _ _ _ _ _ _ _ fl')) (fun _ => by refine srOkX_all ?_; simp only [srOkX]; (repeat' (first | exact trivial | refine And.intro ?_ ?_)); all_goals (first | (refine ⟨_, rfl, rfl, ?_⟩; (first | (simp [bk, AV.cells, pbC, rfO, rfVs, rfV, h1.rf, h2.rf]; done))))) ?_)
      (refine RD.callX rfl rfl rfl rfl rfl rfl rfl rfl (by simp) (fun fl' => (alts_tl (pinX_nf (by decide))).trans (alts_hd (pinX_at _ _ _ _ _ _ _ fl'))) (fun _ => by refine srOkX_all ?_; simp only [srOkX]; (repeat' (first | exact trivial | refine And.intro ?_ ?_)); all_goals (first | exact trivial | (refine ⟨_, rfl, rfl, ?_⟩; (first | rfl | (simp [rfO, rfVs, rfV, rfVs_flat]; done) | (simp [bk, AV.cells, pbC, rfO, rfVs, rfV, h1.rf, h2.rf]; done))))) ?_)
      repeat' (first | (refine RD.free rfl rfl rfl rfl rfl rfl ?_; apply Nx.of; (first | exact S.move | exact S.assign | exact S.extract rfl)))
      refine RD.nil ⟨Nat.le_of_ble_eq_true rfl, ?_⟩
      repeat' (first | refine RT.nil ?_ | refine sq_n ?_ | refine Tr.seq ?_ | refine Tr.region ?_ | refine Tr.cond_t rfl ?_ | refine Tr.ret ?_ | refine sq_r ?_ | (refine RT.goK rfl rfl rfl rfl ?_; apply Nx.of; (first | exact S.neq_t (by decide))) | (refine RT.goK rfl rfl rfl rfl ?_; apply Nx.of; (first | exact S.move | exact S.assign | exact S.build rfl rfl rfl)) | (refine RT.goK0 rfl rfl rfl ?_; apply Nx.of; (first | exact S.store rfl rfl rfl rfl rfl rfl)))
      (first | refine rt_go rfl ?_)
      exact (ansV_err (ansE_ask hB hq) (by decide)).symm
  · refine Tr.openK un18_1 (by kernel_rfl) (by kernel_rfl) _ (err _ 60 rfl fun fl => asked_no_at ⟨h1, h2, rfl, rfl, by decide⟩ hn hB _ fl) ?_
    repeat' (first | (refine RD.free rfl rfl rfl rfl rfl rfl ?_; apply Nx.of; (first | exact S.move)) | (refine RD.load rfl rfl rfl rfl rfl rfl rfl rfl ?_; apply Nx.of; (first | exact S.loadNc rfl rfl rfl rfl)))
    (refine RD.callX rfl rfl rfl rfl rfl rfl rfl rfl (by simp) (fun fl' => alts_hd (pinX_at _ _ _ _ _ _ _ fl')) (fun _ => by refine srOkX_all ?_; simp only [srOkX]; (repeat' (first | exact trivial | refine And.intro ?_ ?_)); all_goals (first | (refine ⟨_, rfl, rfl, ?_⟩; (first | (simp [bk, AV.cells, pbC, rfO, rfVs, rfV, h1.rf, h2.rf]; done))))) ?_)
    (refine RD.callX rfl rfl rfl rfl rfl rfl rfl rfl (by simp) (fun fl' => (alts_tl (pinX_nf (by decide))).trans (alts_hd (pinX_at _ _ _ _ _ _ _ fl'))) (fun _ => by refine srOkX_all ?_; simp only [srOkX]; (repeat' (first | exact trivial | refine And.intro ?_ ?_)); all_goals (first | exact trivial | (refine ⟨_, rfl, rfl, ?_⟩; (first | rfl | (simp [rfO, rfVs, rfV, rfVs_flat]; done) | (simp [bk, AV.cells, pbC, rfO, rfVs, rfV, h1.rf, h2.rf]; done))))) ?_)
    repeat' (first | (refine RD.free rfl rfl rfl rfl rfl rfl ?_; apply Nx.of; (first | exact S.move | exact S.assign | exact S.extract rfl)))
    refine RD.nil ⟨Nat.le_of_ble_eq_true rfl, ?_⟩
    repeat' (first | refine RT.nil ?_ | refine sq_n ?_ | refine Tr.seq ?_ | refine Tr.region ?_ | refine Tr.cond_t rfl ?_ | refine Tr.ret ?_ | refine sq_r ?_ | (refine RT.goK rfl rfl rfl rfl ?_; apply Nx.of; (first | exact S.neq_t (by decide))) | (refine RT.goK rfl rfl rfl rfl ?_; apply Nx.of; (first | exact S.move | exact S.assign | exact S.build rfl rfl rfl)) | (refine RT.goK0 rfl rfl rfl ?_; apply Nx.of; (first | exact S.store rfl rfl rfl rfl rfl rfl)))
    (first | refine rt_go rfl ?_)
    exact (ansV_err (ansE_no hB) (by decide)).symm
end Go.Proofs.Ytjncfddnphhofaa

/- The reference of layer 6: late, Late, Right. -/
namespace Go.Proofs.Ytjncfddnphhofaa
open Go Go.Ev

theorem tcsF_cut {f g : Nat → Nat} {k : Nat} {L : List Tru} {j : Nat} {t : Tru} (h : L[j]? = some t) : cut (tcsF f g k 0 L) (j * 3) 3 = some [.int .i64 t.w, grI (f j) k, grI (g j) k] := by
  have hj : j < L.length := Classical.byContradiction fun q => by rw [List.getElem?_eq_none (by omega)] at h; cases h
  obtain ⟨x0, x1, x2⟩ := tcsF_at (f := f) (g := g) (k := k) L 0 j t h
  have hl := tcsF_len (f := f) (g := g) (k := k) L 0
  rw [Nat.zero_add] at x1 x2
  have e : ((tcsF f g k 0 L).drop (j * 3)).take 3 = [.int .i64 t.w, grI (f j) k, grI (g j) k] := by
    refine List.ext_getElem? fun i => ?_
    rw [List.getElem?_take]
    by_cases h3 : i < 3
    · rw [if_pos h3, List.getElem?_drop]
      obtain rfl | rfl | rfl : i = 0 ∨ i = 1 ∨ i = 2 := by omega
      · exact x0
      · exact x1
      · exact x2
    · rw [if_neg h3, List.getElem?_eq_none (by simp; omega)]
  unfold cut
  rw [e]
  rfl
set_option maxRecDepth 100000 in
set_option maxHeartbeats 4000000 in
theorem late6_can (B : CBook) (a1 a2 : AV) (h1 : IsSl a1 B.ns 0) (h2 : IsSl a2 B.nc 1) (hB : bkOk B) (t : Tru) (w n : Int) (hq : stQ B n) (hcb : 0 ≤ t.c n.toNat ∧ t.c n.toNat ≤ 600) : CanS 0 Try.prog 63 4 [bk B a1 a2, .agg [.int .i64 w, .gs 2 B.ns, .gs 3 B.ns], .int .i64 n] [(0, some (oSt B)), (1, some (oCk B)), (2, some (.ro (fE t.r B.ns))), (3, some (.ro (fE t.c B.ns)))] 4 fun v _ _ => v = .int .i64 (ltV B n.toNat t) := by
  have hn1 : n < B.ns := by have := hq.2; omega
  have hnn : n.toNat < B.ns := by have := hq.1; omega
  have xv := fE_at t.c hnn
  have hs := hB.1.2 n.toNat hnn
  unfold stOk at hs
  have hbf := before_bd B n.toNat fun i hi => hB.1.2 i (by omega)
  refine CanS.mk Try.func63 rfl rfl rfl ?_
  repeat' (first | refine RT.nil ?_ | refine sq_n ?_ | refine Tr.seq ?_ | refine Tr.region ?_ | (refine RT.goK rfl rfl rfl rfl ?_; apply Nx.of; (first | exact S.assign | exact S.box)))
  refine Tr.openK un63_1 (by kernel_rfl) (by kernel_rfl) noCall noCall_calm ?_
  repeat' (first | (refine RD.free rfl rfl rfl rfl rfl rfl ?_; apply Nx.of; (first | exact S.idx_slI rfl rfl rfl (IsSl.gs 3 B.ns) hq.1 hn1 | exact S.idx_slI rfl rfl rfl h1 hq.1 hn1)) | (refine RD.load rfl rfl rfl rfl rfl rfl rfl (by refine us_all ?_; simp only [usOk, cond_true, cond_false]; (repeat' (first | exact trivial | refine And.intro ?_ ?_)); all_goals (first | rfl | exact .inl trivial)) ?_; apply Nx.of; (first | exact S.load1r rfl rfl rfl xv)) | (refine RD.free rfl rfl rfl rfl rfl rfl ?_; apply Nx.of; (first | exact S.move | exact S.assign | exact S.fieldAddr rfl rfl rfl | exact S.sub (by unfold In64; omega) | exact S.max2)) | (refine RD.load rfl rfl rfl rfl rfl rfl rfl rfl ?_; apply Nx.of; (first | exact S.load1c rfl rfl rfl rfl | exact S.row0 rfl rfl rfl (fun _ => rfl) (range_at (by omega)) rfl)) | refine RD.nil ⟨Nat.le_of_ble_eq_true rfl, ?_⟩)
  repeat' (first | refine sq_n ?_ | refine Tr.ret ?_)
  (first | refine rt_go rfl ?_)
  rfl
theorem late6_at {B : CBook} {a1 a2 : AV} {m : List (Nat × Option AObj)} {c y z : Nat} {t : Tru} {n : Int} (h1 : IsSl a1 B.ns 0) (h2 : IsSl a2 B.nc 1) (hB : bkOk B) (hq : stQ B n) (hcb : 0 ≤ t.c n.toNat ∧ t.c n.toNat ≤ 600) (m0 : lookM m 0 = some (oSt B)) (m1 : lookM m 1 = some (oCk B)) (my : lookM m y = some (.grown (fE t.r B.ns) 1)) (mz : lookM m z = some (.grown (fE t.c B.ns) 1)) (fl : Nat) :
    OkAt 0 Try.prog fl 63 [bk B a1 a2, .agg [.int .i64 t.w, .gs y B.ns, .gs z B.ns], .int .i64 n] (ofM m) c (.int .i64 (ltV B n.toNat t)) (ofM m) c :=
  (late6_can B a1 a2 h1 h2 hB t t.w n hq hcb).pure (.int _ _)
    (Entry.win (H := ofM m) (c := c) (W := [(0, 0, none), (1, 0, none), (y, 0, none), (z, 0, none)]) (CS := [flat (stE B) (List.range B.ns), flat (ckE B) (List.range B.nc), fE t.r B.ns, fE t.c B.ns]) rfl
      ⟨⟨_, getM m0, .inr ⟨_, rfl, cut_all rfl⟩⟩, pls_flat _ _, ⟨_, getM m1, .inr ⟨_, rfl, cut_all rfl⟩⟩, pls_flat _ _, ⟨_, getM my, .inr ⟨_, rfl, cut_all rfl⟩⟩, fE_pls _ _, ⟨_, getM mz, .inr ⟨_, rfl, cut_all rfl⟩⟩, fE_pls _ _, trivial⟩
      (args := [bk B a1 a2, .agg [.int .i64 t.w, .gs y B.ns, .gs z B.ns], .int .i64 n]) (args0 := [bk B a1 a2, .agg [.int .i64 t.w, .gs 2 B.ns, .gs 3 B.ns], .int .i64 n])
      ⟨bk_arg h1 h2 rfl rfl, ArgW.agg (show ArgsW _ [.int .i64 t.w, .gs y B.ns, .gs z B.ns] [.int .i64 t.w, .gs 2 B.ns, .gs 3 B.ns] from ⟨.pl (fun _ => rfl), ArgW.gs rfl, ArgW.gs rfl, trivial⟩), .pl (fun _ => rfl), trivial⟩) fl
set_option maxRecDepth 100000 in
set_option maxHeartbeats 4000000 in
theorem Late6_can (B : CBook) (a1 a2 : AV) (h1 : IsSl a1 B.ns 0) (h2 : IsSl a2 B.nc 1) (hn : B.ns ≤ 9223372036854775807) (n : Int) : CanS 0 Try.prog 16 2 [bk B a1 a2, .int .i64 n] [(0, some (oSt B)), (1, some (oCk B))] 2 fun v _ _ => v = ansV B (stQ B n) (ltV B n.toNat) := by
  refine CanS.mk Try.func16 rfl rfl rfl ?_
  repeat' (first | refine RT.nil ?_ | refine sq_n ?_ | refine Tr.seq ?_ | refine Tr.region ?_ | (refine RT.goK rfl rfl rfl rfl ?_; apply Nx.of; (first | exact S.assign | exact S.box | exact S.alloc rfl)))
  have err : ∀ (qb : Bool) (e : Int), dB (stQ B n) = qb → (∀ fl, OkAt 0 Try.prog fl 58 [bk B a1 a2, .bool qb] (ofM [(3, some (.cells [.int .i64 0, .int .i64 0])), (2, some (.cells (bk B a1 a2).cells)), (0, some (oSt B)), (1, some (oCk B))]) 4 (.tup [.nils, .int .i64 e]) (ofM [(3, some (.cells [.int .i64 0, .int .i64 0])), (2, some (.cells (bk B a1 a2).cells)), (0, some (oSt B)), (1, some (oCk B))]) 4) → CalmC 0 Try.prog (alts [pinX 59 [bk B a1 a2, .int .i64 n] [(3, some (.cells [.int .i64 0, .int .i64 0])), (2, some (.cells (bk B a1 a2).cells)), (0, some (oSt B)), (1, some (oCk B))] 4 (.bool qb) [(3, some (.cells [.int .i64 0, .int .i64 0])), (2, some (.cells (bk B a1 a2).cells)), (0, some (oSt B)), (1, some (oCk B))] 4, pinX 58 [bk B a1 a2, .bool qb] [(3, some (.cells [.int .i64 0, .int .i64 0])), (2, some (.cells (bk B a1 a2).cells)), (0, some (oSt B)), (1, some (oCk B))] 4 (.tup [.nils, .int .i64 e]) [(3, some (.cells [.int .i64 0, .int .i64 0])), (2, some (.cells (bk B a1 a2).cells)), (0, some (oSt B)), (1, some (oCk B))] 4]) := fun qb e hq ha => alts_calm fun g hg => by
    simp only [List.mem_cons, List.not_mem_nil, or_false] at hg
    rcases hg with rfl | rfl
    · exact pinX_calm (fun fl => hq ▸ isStage6_at ⟨h1, h2, rfl, rfl, by decide⟩ hn n fl) (fun fl => Good.refl fl 4 (ofM [(3, some (.cells [.int .i64 0, .int .i64 0])), (2, some (.cells (bk B a1 a2).cells)), (0, some (oSt B)), (1, some (oCk B))]))
    · exact pinX_calm ha (fun fl => Good.refl fl 4 (ofM [(3, some (.cells [.int .i64 0, .int .i64 0])), (2, some (.cells (bk B a1 a2).cells)), (0, some (oSt B)), (1, some (oCk B))]))
  by_cases hB : bkOk B
  · by_cases hq : stQ B n
    · by_cases hW : gW B = []
      · refine Tr.openK un16_1 (by kernel_rfl) (by kernel_rfl) _ (err true 62 (dB_tt hq) fun fl => asked_false_at ⟨h1, h2, rfl, rfl, by decide⟩ hn hB hW fl) ?_
        repeat' (first | (refine RD.free rfl rfl rfl rfl rfl rfl ?_; apply Nx.of; (first | exact S.move)) | (refine RD.load rfl rfl rfl rfl rfl rfl rfl rfl ?_; apply Nx.of; (first | exact S.loadNc rfl rfl rfl rfl)))
        (refine RD.callX rfl rfl rfl rfl rfl rfl rfl rfl (by simp) (fun fl' => alts_hd (pinX_at _ _ _ _ _ _ _ fl')) (fun _ => by refine srOkX_all ?_; simp only [srOkX]; (repeat' (first | exact trivial | refine And.intro ?_ ?_)); all_goals (first | (refine ⟨_, rfl, rfl, ?_⟩; (first | (simp [bk, AV.cells, pbC, rfO, rfVs, rfV, h1.rf, h2.rf]; done))))) ?_)
        (refine RD.callX rfl rfl rfl rfl rfl rfl rfl rfl (by simp) (fun fl' => (alts_tl (pinX_nf (by decide))).trans (alts_hd (pinX_at _ _ _ _ _ _ _ fl'))) (fun _ => by refine srOkX_all ?_; simp only [srOkX]; (repeat' (first | exact trivial | refine And.intro ?_ ?_)); all_goals (first | exact trivial | (refine ⟨_, rfl, rfl, ?_⟩; (first | rfl | (simp [rfO, rfVs, rfV, rfVs_flat]; done) | (simp [bk, AV.cells, pbC, rfO, rfVs, rfV, h1.rf, h2.rf]; done))))) ?_)
        repeat' (first | (refine RD.free rfl rfl rfl rfl rfl rfl ?_; apply Nx.of; (first | exact S.move | exact S.assign | exact S.extract rfl)))
        refine RD.nil ⟨Nat.le_of_ble_eq_true rfl, ?_⟩
        repeat' (first | refine RT.nil ?_ | refine sq_n ?_ | refine Tr.seq ?_ | refine Tr.region ?_ | refine Tr.cond_t rfl ?_ | refine Tr.ret ?_ | refine sq_r ?_ | (refine RT.goK rfl rfl rfl rfl ?_; apply Nx.of; (first | exact S.neq_t (by decide))) | (refine RT.goK rfl rfl rfl rfl ?_; apply Nx.of; (first | exact S.move | exact S.assign | exact S.build rfl rfl rfl)) | (refine RT.goK0 rfl rfl rfl ?_; apply Nx.of; (first | exact S.store rfl rfl rfl rfl rfl rfl)))
        (first | refine rt_go rfl ?_)
        exact (ansV_err (ansE_false hB hq ((gW_nil hB).1 hW)) (by decide)).symm
      · have hlp : 0 < (gW B).length := List.length_pos_iff.2 hW
        have hlen : (gW B).length ≤ 59049 := gWk_len hB 3
        have pc : CalmC 0 Try.prog (alts [pinX 59 [bk B a1 a2, .int .i64 n] [(3, some (.cells [.int .i64 0, .int .i64 0])), (2, some (.cells (bk B a1 a2).cells)), (0, some (oSt B)), (1, some (oCk B))] 4 (.bool true) [(3, some (.cells [.int .i64 0, .int .i64 0])), (2, some (.cells (bk B a1 a2).cells)), (0, some (oSt B)), (1, some (oCk B))] 4, pinX 58 [bk B a1 a2, .bool true] [(3, some (.cells [.int .i64 0, .int .i64 0])), (2, some (.cells (bk B a1 a2).cells)), (0, some (oSt B)), (1, some (oCk B))] 4 (.tup [.gs 5 (gW B).length, .int .i64 0]) (goM B 5 (gW B) ++ [(3, some (.cells [.int .i64 0, .int .i64 0])), (2, some (.cells (bk B a1 a2).cells)), (0, some (oSt B)), (1, some (oCk B))]) 200005]) := alts_calm fun g hg => by
          simp only [List.mem_cons, List.not_mem_nil, or_false] at hg
          rcases hg with rfl | rfl
          · exact pinX_calm (fun fl => (dB_tt hq) ▸ isStage6_at ⟨h1, h2, rfl, rfl, by decide⟩ hn n fl) (fun fl => Good.refl fl 4 (ofM [(3, some (.cells [.int .i64 0, .int .i64 0])), (2, some (.cells (bk B a1 a2).cells)), (0, some (oSt B)), (1, some (oCk B))]))
          · exact pinX_calm (fun fl => asked_yes_at (c := 4) h1 h2 hn hB hW m4_low rfl rfl fl) (fun fl => good_app (by decide) fun e he => by have := goM_keys e he; omega)
        refine Tr.openK un16_1 (by kernel_rfl) (by kernel_rfl) _ pc ?_
        repeat' (first | (refine RD.free rfl rfl rfl rfl rfl rfl ?_; apply Nx.of; (first | exact S.move)) | (refine RD.load rfl rfl rfl rfl rfl rfl rfl rfl ?_; apply Nx.of; (first | exact S.loadNc rfl rfl rfl rfl)))
        (refine RD.callX rfl rfl rfl rfl rfl rfl rfl rfl (by simp) (fun fl' => alts_hd (pinX_at _ _ _ _ _ _ _ fl')) (fun _ => by refine srOkX_all ?_; simp only [srOkX]; (repeat' (first | exact trivial | refine And.intro ?_ ?_)); all_goals (first | (refine ⟨_, rfl, rfl, ?_⟩; (first | (simp [bk, AV.cells, pbC, rfO, rfVs, rfV, h1.rf, h2.rf]; done))))) ?_)
        (refine RD.callX rfl rfl rfl rfl rfl rfl rfl rfl (by simp) (fun fl' => (alts_tl (pinX_nf (by decide))).trans (alts_hd (pinX_at _ _ _ _ _ _ _ fl'))) (fun _ => by refine srOkX_all ?_; simp only [srOkX]; (repeat' (first | exact trivial | refine And.intro ?_ ?_)); all_goals (first | exact trivial | (refine ⟨_, rfl, rfl, ?_⟩; (first | rfl | (simp [rfO, rfVs, rfV, rfVs_flat]; done) | (simp [bk, AV.cells, pbC, rfO, rfVs, rfV, h1.rf, h2.rf]; done))))) ?_)
        repeat' (first | (refine RD.free rfl rfl rfl rfl rfl rfl ?_; apply Nx.of; (first | exact S.move | exact S.assign | exact S.extract rfl)))
        refine RD.nil ⟨Nat.le_of_ble_eq_true rfl, ?_⟩
        repeat' (first | refine RT.nil ?_ | refine sq_n ?_ | refine Tr.seq ?_ | refine Tr.region ?_ | refine Tr.cond_f rfl ?_ | refine Tr.skip ?_ | refine Tr.block ?_ | (refine RT.goK rfl rfl rfl rfl ?_; apply Nx.of; (first | exact S.neq_f (by decide))) | (refine RT.goK rfl rfl rfl rfl ?_; apply Nx.of; (first | exact S.move | exact S.assign | exact S.buildSlice0 rfl rfl rfl)))
        refine Tr.loop (fun k : Nat => stL Try.f16.ntmps [] [(8, tEx 300000 k), (1, .int .i64 n), (2, .ptr 2 0), (4, .ptr 3 0), (6, .gs 5 (gW B).length), (9, .int .i64 (k : Int))] ((300000, some (tO (fun i => ltV B n.toNat (gT B i)) k)) :: (goM B 5 (gW B) ++ [(3, some (.cells [.int .i64 0, .int .i64 0])), (2, some (.cells (bk B a1 a2).cells)), (0, some (oSt B)), (1, some (oCk B))])) 300001) (fun k => k ≤ (gW B).length) (fun k => (gW B).length - k) 0 (Nat.zero_le _) ?_ (fun k hk => ?_)
        · exact num_wk h1 h2 hB (x := 200005) (k := 0) (by decide) (by decide) ⟨rfl, rfl, rfl, rfl, rfl, trivial⟩ rfl rfl (fun y o hy h => (lookM_tl (by omega)).trans h)
        have x5 : lookM ((300000, some (tO (fun i => ltV B n.toNat (gT B i)) k)) :: (goM B 5 (gW B) ++ [(3, some (.cells [.int .i64 0, .int .i64 0])), (2, some (.cells (bk B a1 a2).cells)), (0, some (oSt B)), (1, some (oCk B))])) 5 = some (.grown (tcsF (fC 5) (gC 5) B.ns 0 (gW B)) 3) := (lookM_tl (by decide)).trans (look_app (goM_list hW))
        by_cases hlt : k < (gW B).length
        · have hlt' : (k : Int) < (gW B).length := by omega
          have hn1 : n < B.ns := by have := hq.2; omega
          have hnn : n.toNat < 3 := by have := hB.1.1; have := hq.1; omega
          have hcb := (IsT.bd0 hB.1 hB.2.1 ((mem_gW hB.1).1 (List.mem_of_getElem? (gT_at hlt))) hnn).1
          have xt := goM_tr (B := B) (c := 5) (gT_at hlt)
          have hns := hB.1.1
          have eg : ∀ x, grI x B.ns = .gs x B.ns := fun x => by
            cases hq : B.ns with
            | zero => omega
            | succ n => rfl
          have x6 := tcsF_cut (f := fC 5) (g := gC 5) (k := B.ns) (gT_at hlt)
          rw [eg, eg] at x6
          have hs5 : IsSl (AV.gs 5 (gW B).length) (gW B).length 5 := IsSl.gs 5 _
          have sk : ∀ {y : Nat} {o : AObj}, y ≠ 300000 → lookM (goM B 5 (gW B) ++ [(3, some (.cells [.int .i64 0, .int .i64 0])), (2, some (.cells (bk B a1 a2).cells)), (0, some (oSt B)), (1, some (oCk B))]) y = some o → lookM ((300000, some (tO (fun i => ltV B n.toNat (gT B i)) k)) :: (goM B 5 (gW B) ++ [(3, some (.cells [.int .i64 0, .int .i64 0])), (2, some (.cells (bk B a1 a2).cells)), (0, some (oSt B)), (1, some (oCk B))])) y = some o := fun {y o} hy h => (lookM_tl hy).trans h
          have s4 : ∀ {y : Nat} {o : AObj}, y < 5 → lookM [(3, some (.cells [.int .i64 0, .int .i64 0])), (2, some (.cells (bk B a1 a2).cells)), (0, some (oSt B)), (1, some (oCk B))] y = some o → lookM (goM B 5 (gW B) ++ [(3, some (.cells [.int .i64 0, .int .i64 0])), (2, some (.cells (bk B a1 a2).cells)), (0, some (oSt B)), (1, some (oCk B))]) y = some o := fun {y o} hy h => (look_skip fun e he => by have := goM_keys e he; omega).trans h
          have x2 := sk (by decide) (s4 (by decide) rfl : lookM (goM B 5 (gW B) ++ [(3, some (.cells [.int .i64 0, .int .i64 0])), (2, some (.cells (bk B a1 a2).cells)), (0, some (oSt B)), (1, some (oCk B))]) 2 = some (.cells (bk B a1 a2).cells))
          repeat' (first | refine RT.nil ?_ | refine sq_n ?_ | refine Tr.seq ?_ | refine Tr.region ?_ | refine Tr.cond_t rfl ?_ | refine Tr.skip ?_ | refine Tr.block ?_ | (refine RT.goK rfl rfl rfl rfl ?_; first | refine Nx.of (S.lss_t hlt') ?_) | (refine RT.goK rfl rfl rfl rfl ?_; apply Nx.of; (first | exact S.move)) | (refine RT.goK rfl rfl rfl rfl ?_; apply Nx.of; (first | exact S.len_sl rfl rfl rfl (by assumption))))
          have pc : CalmC 0 Try.prog (pinX 63 [bk B a1 a2, .agg [.int .i64 (gT B k).w, .gs (fC 5 k) B.ns, .gs (gC 5 k) B.ns], .int .i64 n] ((300000, some (tO (fun i => ltV B n.toNat (gT B i)) k)) :: (goM B 5 (gW B) ++ [(3, some (.cells [.int .i64 0, .int .i64 0])), (2, some (.cells (bk B a1 a2).cells)), (0, some (oSt B)), (1, some (oCk B))])) 300001 (.int .i64 (ltV B n.toNat (gT B k))) ((300000, some (tO (fun i => ltV B n.toNat (gT B i)) k)) :: (goM B 5 (gW B) ++ [(3, some (.cells [.int .i64 0, .int .i64 0])), (2, some (.cells (bk B a1 a2).cells)), (0, some (oSt B)), (1, some (oCk B))])) 300001) :=
            pinX_calm (fun fl => late6_at h1 h2 hB hq hcb (sk (by decide) (s4 (by decide) rfl)) (sk (by decide) (s4 (by decide) rfl)) (sk (by unfold fC; omega) (look_app xt.1)) (sk (by unfold gC; omega) (look_app xt.2)) fl) (fun fl => Good.refl fl 300001 _)
          refine Tr.openK un16_8 (by kernel_rfl) (by kernel_rfl) _ pc ?_
          repeat' (first | (refine RD.load rfl rfl rfl rfl rfl rfl rfl (by refine us_all ?_; simp only [usOk, cond_true, cond_false]; (repeat' (first | exact trivial | refine And.intro ?_ ?_)); all_goals (first | rfl | exact .inl trivial)) ?_; apply Nx.of; (first | exact S.loadN rfl rfl x2 rfl rfl | exact S.loadN rfl rfl x5 rfl x6)) | (refine RD.free rfl rfl rfl rfl rfl rfl ?_; refine Nx.of (S.idx_sl rfl rfl rfl hs5 hlt) ?_) | (refine RD.free rfl rfl rfl rfl rfl rfl ?_; apply Nx.of; (first | exact S.move)))
          (refine RD.callX rfl rfl rfl rfl rfl rfl rfl rfl (by simp) (fun fl' => pinX_at _ _ _ _ _ _ _ fl') (fun _ => by refine srOkX_all ?_; simp only [srOkX]; (repeat' (first | exact trivial | refine And.intro ?_ ?_)); all_goals (first | exact trivial | (refine ⟨_, rfl, rfl, ?_⟩; (first | rfl | (simp [rfO, rfVs, rfV, rfVs_flat]; done) | (simp [bk, AV.cells, pbC, rfO, rfVs, rfV, h1.rf, h2.rf]; done))))) ?_)
          repeat' (first | (refine RD.new rfl rfl rfl rfl rfl rfl ?_; apply Nx.of; (first | exact S.buildSlice rfl rfl rfl rfl rfl rfl rfl)))
          cases k with
          | zero =>
            (refine RD.wide rfl rfl rfl rfl rfl rfl rfl (by simp) ?_; refine Nx.of (S.append_e1I rfl rfl rfl rfl rfl rfl rfl rfl rfl rfl rfl rfl) ⟨rfl, ?_⟩)
            repeat' (first | (refine RD.free rfl rfl rfl rfl rfl rfl ?_; apply Nx.of; (first | exact S.assign)) | refine RD.nil ⟨Nat.le_of_ble_eq_true rfl, ?_⟩)
            repeat' (first | refine RT.nil ?_ | refine sq_n ?_ | refine Tr.region ?_ | refine blk_n ?_ | (refine RT.goK rfl rfl rfl rfl ?_; apply Nx.of; (first | exact S.move | exact S.assign | exact S.add_one (by omega))))
            refine lp_n 1 (by omega) (by omega) ?_
            exact num_wk h1 h2 hB (x := 300002) (k := 1) (by decide) (by decide) ⟨rfl, rfl, rfl, rfl, rfl, trivial⟩ rfl rfl (fun y o hy h => (lookM_tl (by omega)).trans ((lookM_tl (by omega)).trans ((lookM_tl (by omega)).trans h)))
          | succ j =>
            (refine RD.wide rfl rfl rfl rfl rfl rfl rfl (by simp) ?_; refine Nx.of (S.append_gsI rfl rfl rfl rfl rfl rfl rfl rfl rfl rfl rfl rfl rfl (cut_all (by rw [fE_len, Nat.mul_one])) (by omega) rfl) ⟨rfl, ?_⟩)
            repeat' (first | (refine RD.free rfl rfl rfl rfl rfl rfl ?_; apply Nx.of; (first | exact S.assign)) | refine RD.nil ⟨Nat.le_of_ble_eq_true rfl, ?_⟩)
            repeat' (first | refine RT.nil ?_ | refine sq_n ?_ | refine Tr.region ?_ | refine blk_n ?_ | (refine RT.goK rfl rfl rfl rfl ?_; apply Nx.of; (first | exact S.move | exact S.assign | exact S.add_one (by omega))))
            refine lp_n (j + 2) (by omega) (by omega) ?_
            exact num_wk h1 h2 hB (x := 300002) (k := j + 2) (by decide) (by decide) ⟨rfl, rfl, rfl, rfl, rfl, trivial⟩ rfl (by show _ = some (AObj.grown (fE _ (j + 1 + 1)) 1); rw [fE_succ _ (j + 1)]; rfl) (fun y o hy h => (lookM_tl (by omega)).trans ((lookM_tl (by omega)).trans ((lookM_tl (by omega)).trans ((lookM_tl (by omega)).trans h))))
        · obtain hkN : k = (gW B).length := by have : k ≤ (gW B).length := hk; omega
          have hlt' : ¬ (k : Int) < (gW B).length := by omega
          have hs5 : IsSl (AV.gs 5 (gW B).length) (gW B).length 5 := IsSl.gs 5 _
          obtain ⟨N, hN⟩ : ∃ N, (gW B).length = N + 1 := ⟨(gW B).length - 1, by omega⟩
          refine Tr.wk (Wk.drop (l2 := [(8, tEx 300000 k), (1, .int .i64 n), (2, .ptr 2 0), (4, .ptr 3 0), (6, .gs 5 (gW B).length), (9, .int .i64 (k : Int))]) (m2 := (300000, some (tO (fun i => ltV B n.toNat (gT B i)) k)) :: [(3, some (.cells [.int .i64 0, .int .i64 0])), (2, some (.cells (bk B a1 a2).cells)), (0, some (oSt B)), (1, some (oCk B))]) (by decide) (by decide) (by decide) ⟨rfl, rfl, rfl, rfl, rfl, rfl, trivial⟩ fun x o hx => ?_) ?_
          · by_cases e : x = 300000
            · subst e; exact hx
            · rw [lookM_tl e] at hx ⊢
              have := m4_low x o hx
              exact (look_skip fun e he => by have := goM_keys e he; omega).trans hx
          have hli : Li ((300000, some (tO (fun i => ltV B n.toNat (gT B i)) k)) :: [(3, some (.cells [.int .i64 0, .int .i64 0])), (2, some (.cells (bk B a1 a2).cells)), (0, some (oSt B)), (1, some (oCk B))]) (tEx 300000 k) (fun i => ltV B n.toNat (gT B i)) (gW B).length := by
            rw [hkN, hN]
            exact Li.sl (x := 300000) (IsSl.gs 300000 (N + 1)) lookM_hd rfl
          repeat' (first | refine RT.nil ?_ | refine sq_n ?_ | refine Tr.seq ?_ | refine Tr.region ?_ | refine Tr.cond_f rfl ?_ | refine Tr.ret ?_ | refine Tr.exit ?_ | refine sq_x ?_ | refine blk_hit rfl ?_ | refine lp_x ?_ | (refine RT.goK rfl rfl rfl rfl ?_; first | refine Nx.of (S.lss_f hlt') ?_) | (refine RT.call rfl rfl rfl (ends_at hli hlp (by omega) _) rfl rfl (Nat.le_refl _) ?_) | (refine RT.goK rfl rfl rfl rfl ?_; apply Nx.of; (first | exact S.move | exact S.assign)) | (refine RT.goK0 rfl rfl rfl ?_; apply Nx.of; (first | exact S.store rfl rfl rfl rfl rfl rfl)) | (refine RT.goK rfl rfl rfl rfl ?_; apply Nx.of; (first | exact S.len_sl rfl rfl rfl (by assumption))))
          (first | refine rt_go rfl ?_)
          exact ans_gW hB hq hW (ltV B n.toNat)
    · refine Tr.openK un16_1 (by kernel_rfl) (by kernel_rfl) _ (err false 61 (dB_ff hq) fun fl => asked_ask_at ⟨h1, h2, rfl, rfl, by decide⟩ hn hB fl) ?_
      repeat' (first | (refine RD.free rfl rfl rfl rfl rfl rfl ?_; apply Nx.of; (first | exact S.move)) | (refine RD.load rfl rfl rfl rfl rfl rfl rfl rfl ?_; apply Nx.of; (first | exact S.loadNc rfl rfl rfl rfl)))
      (refine RD.callX rfl rfl rfl rfl rfl rfl rfl rfl (by simp) (fun fl' => alts_hd (pinX_at _ _ _ _ _ _ _ fl')) (fun _ => by refine srOkX_all ?_; simp only [srOkX]; (repeat' (first | exact trivial | refine And.intro ?_ ?_)); all_goals (first | (refine ⟨_, rfl, rfl, ?_⟩; (first | (simp [bk, AV.cells, pbC, rfO, rfVs, rfV, h1.rf, h2.rf]; done))))) ?_)
      (refine RD.callX rfl rfl rfl rfl rfl rfl rfl rfl (by simp) (fun fl' => (alts_tl (pinX_nf (by decide))).trans (alts_hd (pinX_at _ _ _ _ _ _ _ fl'))) (fun _ => by refine srOkX_all ?_; simp only [srOkX]; (repeat' (first | exact trivial | refine And.intro ?_ ?_)); all_goals (first | exact trivial | (refine ⟨_, rfl, rfl, ?_⟩; (first | rfl | (simp [rfO, rfVs, rfV, rfVs_flat]; done) | (simp [bk, AV.cells, pbC, rfO, rfVs, rfV, h1.rf, h2.rf]; done))))) ?_)
      repeat' (first | (refine RD.free rfl rfl rfl rfl rfl rfl ?_; apply Nx.of; (first | exact S.move | exact S.assign | exact S.extract rfl)))
      refine RD.nil ⟨Nat.le_of_ble_eq_true rfl, ?_⟩
      repeat' (first | refine RT.nil ?_ | refine sq_n ?_ | refine Tr.seq ?_ | refine Tr.region ?_ | refine Tr.cond_t rfl ?_ | refine Tr.ret ?_ | refine sq_r ?_ | (refine RT.goK rfl rfl rfl rfl ?_; apply Nx.of; (first | exact S.neq_t (by decide))) | (refine RT.goK rfl rfl rfl rfl ?_; apply Nx.of; (first | exact S.move | exact S.assign | exact S.build rfl rfl rfl)) | (refine RT.goK0 rfl rfl rfl ?_; apply Nx.of; (first | exact S.store rfl rfl rfl rfl rfl rfl)))
      (first | refine rt_go rfl ?_)
      exact (ansV_err (ansE_ask hB hq) (by decide)).symm
  · refine Tr.openK un16_1 (by kernel_rfl) (by kernel_rfl) _ (err _ 60 rfl fun fl => asked_no_at ⟨h1, h2, rfl, rfl, by decide⟩ hn hB _ fl) ?_
    repeat' (first | (refine RD.free rfl rfl rfl rfl rfl rfl ?_; apply Nx.of; (first | exact S.move)) | (refine RD.load rfl rfl rfl rfl rfl rfl rfl rfl ?_; apply Nx.of; (first | exact S.loadNc rfl rfl rfl rfl)))
    (refine RD.callX rfl rfl rfl rfl rfl rfl rfl rfl (by simp) (fun fl' => alts_hd (pinX_at _ _ _ _ _ _ _ fl')) (fun _ => by refine srOkX_all ?_; simp only [srOkX]; (repeat' (first | exact trivial | refine And.intro ?_ ?_)); all_goals (first | (refine ⟨_, rfl, rfl, ?_⟩; (first | (simp [bk, AV.cells, pbC, rfO, rfVs, rfV, h1.rf, h2.rf]; done))))) ?_)
    (refine RD.callX rfl rfl rfl rfl rfl rfl rfl rfl (by simp) (fun fl' => (alts_tl (pinX_nf (by decide))).trans (alts_hd (pinX_at _ _ _ _ _ _ _ fl'))) (fun _ => by refine srOkX_all ?_; simp only [srOkX]; (repeat' (first | exact trivial | refine And.intro ?_ ?_)); all_goals (first | exact trivial | (refine ⟨_, rfl, rfl, ?_⟩; (first | rfl | (simp [rfO, rfVs, rfV, rfVs_flat]; done) | (simp [bk, AV.cells, pbC, rfO, rfVs, rfV, h1.rf, h2.rf]; done))))) ?_)
    repeat' (first | (refine RD.free rfl rfl rfl rfl rfl rfl ?_; apply Nx.of; (first | exact S.move | exact S.assign | exact S.extract rfl)))
    refine RD.nil ⟨Nat.le_of_ble_eq_true rfl, ?_⟩
    repeat' (first | refine RT.nil ?_ | refine sq_n ?_ | refine Tr.seq ?_ | refine Tr.region ?_ | refine Tr.cond_t rfl ?_ | refine Tr.ret ?_ | refine sq_r ?_ | (refine RT.goK rfl rfl rfl rfl ?_; apply Nx.of; (first | exact S.neq_t (by decide))) | (refine RT.goK rfl rfl rfl rfl ?_; apply Nx.of; (first | exact S.move | exact S.assign | exact S.build rfl rfl rfl)) | (refine RT.goK0 rfl rfl rfl ?_; apply Nx.of; (first | exact S.store rfl rfl rfl rfl rfl rfl)))
    (first | refine rt_go rfl ?_)
    exact (ansV_err (ansE_no hB) (by decide)).symm
end Go.Proofs.Ytjncfddnphhofaa

/- The reference of layer 6: Right; its answers at any memory. -/
namespace Go.Proofs.Ytjncfddnphhofaa
open Go Go.Ev

set_option maxRecDepth 100000 in
theorem Right6_can (B : CBook) (a1 a2 : AV) (h1 : IsSl a1 B.ns 0) (h2 : IsSl a2 B.nc 1) (hn : B.ns ≤ 9223372036854775807) : CanS 0 Try.prog 10 2 [bk B a1 a2] [(0, some (oSt B)), (1, some (oCk B))] 2 fun v _ _ => v = rtV B := by
  refine CanS.mk Try.func10 rfl rfl rfl ?_
  by_cases hB : bkOk B
  · have hk : AV.int .i64 (ckV B) = .int .i64 0 := (ck0 hB).symm
    have htr : ∀ fl, OkAt 0 Try.prog fl 51 [bk B a1 a2] (ofM [(2, some (.cells (bk B a1 a2).cells)), (0, some (oSt B)), (1, some (oCk B))]) 3 (grI 3 (gW B).length) (ofM (goM B 3 (gW B) ++ [(2, some (.cells (bk B a1 a2).cells)), (0, some (oSt B)), (1, some (oCk B))])) 200003 := fun fl => rtruths_at h1 h2 hB (m3_low (B := B) (a1 := a1) (a2 := a2)) rfl rfl fl
    have hsl : IsSl (grI 3 (gW B).length) (gW B).length 3 := grI_is
    repeat' (first | refine RT.nil ?_ | refine sq_n ?_ | refine Tr.seq ?_ | refine Tr.region ?_ | refine Tr.cond_f rfl ?_ | refine Tr.skip ?_ | refine Tr.ret ?_ | (refine RT.call rfl rfl rfl (val_is hk (Check6_at ⟨h1, h2, rfl, rfl, by decide⟩ hn _)) rfl rfl (Nat.le_refl _) ?_) | (refine RT.call rfl rfl rfl (htr _) rfl rfl (by decide) ?_) | (refine RT.goK rfl rfl rfl rfl ?_; first | refine Nx.of (S.len_sl rfl rfl rfl hsl) ?_) | (refine RT.goK rfl rfl rfl rfl ?_; apply Nx.of; (first | exact S.neq_f (by decide))) | (refine RT.goK rfl rfl rfl rfl ?_; apply Nx.of; (first | exact S.move | exact S.assign | exact S.loadNc rfl rfl rfl rfl | exact S.gtr | exact S.box)))
    (first | refine rt_go rfl ?_)
    by_cases hW : gW B = []
    · rw [rtV_f hB ((gW_nil hB).1 hW), hW]; rfl
    · rw [rtV_t hB (fun h => hW ((gW_nil hB).2 h))]
      have : (0 : Int) < (gW B).length := by have := List.length_pos_iff.2 hW; omega
      show AV.tup [.bool (decide _), _] = _
      rw [decide_eq_true (by exact this)]
  · have hk : AV.int .i64 (ckV B) = .int .i64 60 := (ck60 hB).symm
    repeat' (first | refine RT.nil ?_ | refine sq_n ?_ | refine Tr.seq ?_ | refine Tr.region ?_ | refine Tr.cond_t rfl ?_ | refine Tr.ret ?_ | refine sq_r ?_ | (refine RT.call rfl rfl rfl (val_is hk (Check6_at ⟨h1, h2, rfl, rfl, by decide⟩ hn _)) rfl rfl (Nat.le_refl _) ?_) | (refine RT.goK rfl rfl rfl rfl ?_; apply Nx.of; (first | exact S.neq_t (by decide))) | (refine RT.goK rfl rfl rfl rfl ?_; apply Nx.of; (first | exact S.move | exact S.assign | exact S.loadNc rfl rfl rfl rfl | exact S.box)))
    (first | refine rt_go rfl ?_)
    rw [rtV_no hB]
    rfl
section
variable {B : CBook} {a1 a2 : AV} {m : List (Nat × Option AObj)} {c : Nat}
theorem Right6_at (h : BkIn B a1 a2 m c) (hn : B.ns ≤ 9223372036854775807) (fl : Nat) : OkAt 0 Try.prog fl 10 [bk B a1 a2] (ofM m) c (rtV B) (ofM m) c := (Right6_can B a1 a2 h.h1 h.h2 hn).pure (rtV_pl B) (h.entry _ fun _ => rfl) fl
theorem Comes6_at (h : BkIn B a1 a2 m c) (hn : B.ns ≤ 9223372036854775807) (n : Int) (fl : Nat) : OkAt 0 Try.prog fl 14 [bk B a1 a2, .int .i64 n] (ofM m) c (ansV B (stQ B n) (fun t => t.c n.toNat)) (ofM m) c := (Comes6_can B a1 a2 h.h1 h.h2 hn n).pure (fun _ => rfl) (h.entry _ fun _ => rfl) fl
theorem Late6_at (h : BkIn B a1 a2 m c) (hn : B.ns ≤ 9223372036854775807) (n : Int) (fl : Nat) : OkAt 0 Try.prog fl 16 [bk B a1 a2, .int .i64 n] (ofM m) c (ansV B (stQ B n) (ltV B n.toNat)) (ofM m) c := (Late6_can B a1 a2 h.h1 h.h2 hn n).pure (fun _ => rfl) (h.entry _ fun _ => rfl) fl
theorem Rough6_at (h : BkIn B a1 a2 m c) (hn : B.ns ≤ 9223372036854775807) (n : Int) (fl : Nat) : OkAt 0 Try.prog fl 18 [bk B a1 a2, .int .i64 n] (ofM m) c (ansV B (stQ B n) (fun t => t.r n.toNat)) (ofM m) c := (Rough6_can B a1 a2 h.h1 h.h2 hn n).pure (fun _ => rfl) (h.entry _ fun _ => rfl) fl
theorem Check6_x (h : BkIn B a1 a2 m c) (hn : B.ns ≤ 9223372036854775807) (fl : Nat) : OkAt 0 Try.prog fl 11 [bk B a1 a2] (ofM m) c (.int .i64 (ckV B)) (ofM m) c := (Check_can B a1 a2 h.h1 h.h2 hn).pure (.int _ _) (h.entry _ fun _ => rfl) fl
theorem Right5_at (h : BkIn B a1 a2 m c) (hn : B.ns ≤ 9223372036854775807) (fl : Nat) : OkAt 0 Try.prog fl 9 [bk B a1 a2] (ofM m) c (rtV B) (ofM m) c := (Right_can B a1 a2 h.h1 h.h2 hn).pure (rtV_pl B) (h.entry _ fun _ => rfl) fl
end
end Go.Proofs.Ytjncfddnphhofaa

/- ClaimTimes: the law, for every book and every number. -/
namespace Go.Proofs.Ytjncfddnphhofaa
open Go Go.Ev

set_option maxRecDepth 100000 in
set_option maxHeartbeats 8000000 in
theorem times_law (hb : BillOK) (B : CBook) (a1 a2 : AV) (h1 : IsSl a1 B.ns 0) (h2 : IsSl a2 B.nc 1) (hn : B.ns ≤ 9223372036854775807) (n : Int) : CanS 0 Try.prog 3 2 [bk B a1 a2, .int .i64 n] [(0, some (oSt B)), (1, some (oCk B))] 2 fun v _ _ => v = .bool true := by
  have hrf : rfVs (bk B a1 a2).cells = true := by simp [bk, AV.cells, rfVs, rfV, h1.rf, h2.rf]
  have hR : ∃ b e, rtV B = .tup [.bool b, .int .i64 e] := by unfold rtV; split <;> exact ⟨_, _, rfl⟩
  obtain ⟨rb, re, hR⟩ := hR
  obtain ⟨cl, cu, ce, hC⟩ : ∃ l u e, ansV B (stQ B n) (fun t => t.c n.toNat) = .tup [.agg [.int .i64 l, .int .i64 u], .int .i64 e] := ⟨_, _, _, rfl⟩
  obtain ⟨ll, lu, le, hL⟩ : ∃ l u e, ansV B (stQ B n) (ltV B n.toNat) = .tup [.agg [.int .i64 l, .int .i64 u], .int .i64 e] := ⟨_, _, _, rfl⟩
  obtain ⟨ol, ou, oe, hO⟩ : ∃ l u e, ansV B (stQ B n) (fun t => t.r n.toNat) = .tup [.agg [.int .i64 l, .int .i64 u], .int .i64 e] := ⟨_, _, _, rfl⟩
  refine CanS.mk Try.func3 rfl rfl rfl ?_
  repeat' (first | refine RT.nil ?_ | refine sq_n ?_ | refine Tr.seq ?_ | refine Tr.region ?_ | (refine RT.call rfl rfl rfl (val_is hR (Right5_at ⟨h1, h2, rfl, rfl, by decide⟩ hn _)) rfl rfl (Nat.le_refl _) ?_) | (refine RT.call rfl rfl rfl (val_is hR (Right6_at ⟨h1, h2, rfl, rfl, by decide⟩ hn _)) rfl rfl (Nat.le_refl _) ?_) | (refine RT.goK rfl rfl rfl rfl ?_; apply Nx.of; (first | exact S.move | exact S.assign | exact S.loadNc rfl rfl rfl rfl | exact S.box | exact S.extract rfl)))
  refine Tr.openK un3_3 (by kernel_rfl) (by kernel_rfl) (alts [pinX 11 [bk B a1 a2] [(2, some (.cells (bk B a1 a2).cells)), (0, some (oSt B)), (1, some (oCk B))] 3 (.int .i64 (ckV B)) [(2, some (.cells (bk B a1 a2).cells)), (0, some (oSt B)), (1, some (oCk B))] 3, pinX 12 [bk B a1 a2] [(2, some (.cells (bk B a1 a2).cells)), (0, some (oSt B)), (1, some (oCk B))] 3 (.int .i64 (ckV B)) [(2, some (.cells (bk B a1 a2).cells)), (0, some (oSt B)), (1, some (oCk B))] 3]) (alts_calm fun g hg => by
    simp only [List.mem_cons, List.not_mem_nil, or_false] at hg
    rcases hg with rfl | rfl
    · exact pinX_calm (fun fl => Check6_x ⟨h1, h2, rfl, rfl, by decide⟩ hn fl) (fun fl => Good.refl fl 3 (ofM [(2, some (.cells (bk B a1 a2).cells)), (0, some (oSt B)), (1, some (oCk B))]))
    · exact pinX_calm (fun fl => Check6_at ⟨h1, h2, rfl, rfl, by decide⟩ hn fl) (fun fl => Good.refl fl 3 (ofM [(2, some (.cells (bk B a1 a2).cells)), (0, some (oSt B)), (1, some (oCk B))]))) ?_
  repeat' (first | (refine RD.free rfl rfl rfl rfl rfl rfl ?_; first | refine Nx.of (S.neqB_f (eqBt _)) ?_ | refine Nx.of (S.neq_f rfl) ?_) | (refine RD.free rfl rfl rfl rfl rfl rfl ?_; apply Nx.of; (first | exact S.move | exact S.pick_ff)) | (refine RD.load rfl rfl rfl rfl rfl rfl rfl rfl ?_; apply Nx.of; (first | exact S.loadNc rfl rfl rfl rfl)))
  (refine RD.callX rfl rfl rfl rfl rfl rfl rfl rfl (by simp) (fun fl' => alts_hd (pinX_at _ _ _ _ _ _ _ fl')) (fun _ => by refine srOkX_all ?_; simp only [srOkX]; (repeat' (first | exact trivial | refine And.intro ?_ ?_)); all_goals (first | exact trivial | (refine ⟨_, rfl, rfl, ?_⟩; (first | exact hrf | rfl | (simp [rfO, rfVs, rfV, rfVs_flat]; done))))) ?_)
  repeat' (first | (refine RD.load rfl rfl rfl rfl rfl rfl rfl (by refine us_all ?_; simp only [usOk, cond_true, cond_false]; (repeat' (first | exact trivial | refine And.intro ?_ ?_)); all_goals (first | rfl | exact .inl trivial | (refine Or.inr ⟨_, _, _, rfl, getM rfl, getM rfl, ?_⟩; (first | exact hrf)))) ?_; apply Nx.of; (first | exact S.loadNc rfl rfl rfl rfl)))
  (refine RD.callX rfl rfl rfl rfl rfl rfl rfl rfl (by simp) (fun fl' => (alts_tl (pinX_nf (by decide))).trans (alts_hd (pinX_at _ _ _ _ _ _ _ fl'))) (fun _ => by refine srOkX_all ?_; simp only [srOkX]; (repeat' (first | exact trivial | refine And.intro ?_ ?_)); all_goals (first | exact trivial | (refine ⟨_, rfl, rfl, ?_⟩; (first | exact hrf | rfl | (simp [rfO, rfVs, rfV, rfVs_flat]; done))))) ?_)
  repeat' (first | (refine RD.free rfl rfl rfl rfl rfl rfl ?_; first | refine Nx.of (S.neq_f rfl) ?_) | (refine RD.free rfl rfl rfl rfl rfl rfl ?_; apply Nx.of; (first | exact S.pick_ff)))
  refine RD.nil ⟨Nat.le_of_ble_eq_true rfl, ?_⟩
  repeat' (first | refine RT.nil ?_ | refine sq_n ?_ | refine Tr.seq ?_ | refine Tr.region ?_ | refine Tr.cond_f rfl ?_ | refine Tr.skip ?_ | refine Tr.ret ?_ | (refine RT.call rfl rfl rfl (val_is hC (Comes_at ⟨h1, h2, rfl, rfl, by decide⟩ hn n _)) rfl rfl (Nat.le_refl _) ?_) | (refine RT.call rfl rfl rfl (val_is hC (Comes6_at ⟨h1, h2, rfl, rfl, by decide⟩ hn n _)) rfl rfl (Nat.le_refl _) ?_) | (refine RT.call rfl rfl rfl (val_is hL (Late_at ⟨h1, h2, rfl, rfl, by decide⟩ hn n _)) rfl rfl (Nat.le_refl _) ?_) | (refine RT.call rfl rfl rfl (val_is hL (Late6_at ⟨h1, h2, rfl, rfl, by decide⟩ hn n _)) rfl rfl (Nat.le_refl _) ?_) | (refine RT.call rfl rfl rfl (val_is hO (Rough_at ⟨h1, h2, rfl, rfl, by decide⟩ hn n _)) rfl rfl (Nat.le_refl _) ?_) | (refine RT.call rfl rfl rfl (val_is hO (Rough6_at ⟨h1, h2, rfl, rfl, by decide⟩ hn n _)) rfl rfl (Nat.le_refl _) ?_) | (refine RT.call rfl rfl rfl (hb.root_at _ _ _) rfl rfl (Nat.le_refl _) ?_) | (refine RT.goK rfl rfl rfl rfl ?_; first | refine Nx.of (S.neqA_f (eqSp _ _ _ _) ⟨rfl, rfl⟩) ?_ | refine Nx.of (S.eqlA_t (eqSp _ _ _ _) ⟨rfl, rfl⟩) ?_ | refine Nx.of (S.neq_f rfl) ?_ | refine Nx.of (S.eql_t rfl) ?_) | (refine RT.goK rfl rfl rfl rfl ?_; apply Nx.of; (first | exact S.move | exact S.assign | exact S.loadNc rfl rfl rfl rfl | exact S.pick_tt | exact S.pick_ff | exact S.alloc rfl | exact S.extract rfl)) | (refine RT.goK0 rfl rfl rfl ?_; apply Nx.of; (first | exact S.store rfl rfl rfl rfl rfl rfl)))
  (first | refine rt_go rfl ?_)
  rfl
end Go.Proofs.Ytjncfddnphhofaa
