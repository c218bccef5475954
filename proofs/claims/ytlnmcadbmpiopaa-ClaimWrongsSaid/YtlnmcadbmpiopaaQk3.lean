/- Texts of one kind, one behind the other: Cf, Cg, SyM, SyN, Ch, SyO, Ci, Cj, SyP, SyQ, SyR, SyS, Ck, Cl, SyU, Cm, Cn, Co, Cp, SyV, Cq. -/
import Derived.Test.YtlnmcadbmpiopaaQk2
import Derived.Below
import Derived.Deep.Slices
import Derived.Deep.Strs
import Derived.ChangeSame
import Derived.OpenShut
import Derived.Handed
set_option linter.unusedVariables false
set_option linter.unusedSimpArgs false
/- The truths of package claim: the drive. -/
namespace Go.Proofs.Ytlnmcadbmpiopaa
open Go Go.Ev
set_option maxRecDepth 100000 in
set_option maxHeartbeats 4000000 in
theorem drive0_can (B : CBook) (a1 a2 : AV) (h1 : IsSl a1 B.ns 0) (h2 : IsSl a2 B.nc 1) (C : Cons) (hY : YldOK Try.prog C) (hC : ∀ k s t, C.lv (k + 1) s → C.ok s [trV t]) (t : Tru) (L : List (Int × Int)) (s : C.γ) (r : Nat) (hl : C.lv (r + 1) s) : CanJ 0 Try.prog C 7 2 108 [.int .i64 (B.ns : Int), trV t, .ptr 4 0, .ptr 5 0, .ptr 6 0] [(0, some (oSt B)), (1, some (oCk B)), (3, some (.cells (pbC B a1 a2 7))), (4, some (.cells [.ptr 3 0])), (5, some (.cells [.yld 2])), (6, some (.cells [.fn 108 [] [.ptr 4 0, .ptr 5 0, .ptr 6 0]])), (7, some (oMap B L))] 8 s fun v H1 s' => ∃ ob, drvR B C s [t] v ob s' ∧ H1.get 7 = some ob := by
  refine CanJ.mk' Try.func108 rfl rfl rfl (by decide) (by decide) ?_
  repeat' (first | refine RTJ.nil ?_ | refine sqJ_n ?_ | refine TrJ.seq ?_ | refine TrJ.region ?_ | refine TrJ.cond_d rfl (fun _ => ?_) (fun _ => ?_) | refine TrJ.skip ?_ | refine TrJ.ret ?_ | refine sqJ_r ?_ | (refine RTJ.yield hY rfl rfl rfl (fun _ => rfl) (hC r _ t hl) rfl rfl rfl ?_) | (refine RTJ.goK rfl rfl rfl rfl ?_; apply Nx.of; (first | exact S.move | exact S.assign | exact S.load1c rfl rfl rfl rfl | exact S.loadNc rfl rfl rfl rfl | exact S.fieldAddr rfl rfl rfl | exact S.eql | exact S.box | exact S.nilCheck)) | (refine RTJ.goK rfl rfl rfl rfl ?_; apply Nx.of; (first | exact S.len_sl rfl rfl rfl (by assumption))))
  · (first | refine ⟨rt_go rfl ?_⟩)
    refine ⟨_, ⟨L, ?_, ?_, rfl⟩, getM rfl⟩
    · show AV.bool (C.step s [trV t]).2 = _
      unfold foldC
      cases hq : (C.step s [trV t]).2
      · rfl
      · rfl
    · show (C.step s [trV t]).1 = _
      unfold foldC
      cases hq : (C.step s [trV t]).2
      · rfl
      · rfl
  · exact absurd rfl (by assumption)
noncomputable def smF (B : CBook) (a1 a2 : AV) (p q : Nat) (t : Tru) (i : Nat) : CallFn := one1 109 [.ptr p 0, .int .i64 (i : Int), trV t] (.agg [.int .i64 (smL B t i), .int .i64 (smH B t i)]) fun H c => ∃ m, H = ofM m ∧ PbIn B a1 a2 p q m c
theorem smF_calm {B : CBook} {a1 a2 : AV} {p q : Nat} (hok : stsOk B) (hw : weaOk B) (t : Tru) (i : Nat) (hi : i < B.ns) (ht : truOk t i) (hwt : 0 ≤ t.w ∧ t.w < 3) : CalmC 0 Try.prog (smF B a1 a2 p q t i) :=
  one1_calm fun fl H c ⟨m, hm, h⟩ => by subst hm; exact smooth_at h hok hw t i hi ht hwt fl
theorem sm_bd {B : CBook} (hok : stsOk B) (hw : weaOk B) {t : Tru} {i : Nat} (hi : i < B.ns) (ht : drvOk t i) (hwt : 0 ≤ t.w ∧ t.w < 3) : 1 ≤ smL B t i ∧ smL B t i ≤ smH B t i ∧ smH B t i ≤ 170 * i + 140 := by
  obtain ⟨hn, hst⟩ := hok
  have hs := hst (i - 1) (by omega)
  have hs' := hst i hi
  unfold stOk at hs hs'
  unfold weaOk at hw
  have hc : 0 ≤ B.cost t.w.toNat ∧ B.cost t.w.toNat ≤ 30 := by
    obtain h | h | h : t.w.toNat = 0 ∨ t.w.toNat = 1 ∨ t.w.toNat = 2 := by omega
    all_goals (rw [h]; omega)
  unfold drvOk at ht
  unfold smL smH depL depH
  rcases ht with ⟨h1, h2⟩ | ht
  · rw [if_pos h2, if_pos h2]; omega
  · split <;> omega
noncomputable def innR (B : CBook) (k i : Nat) (t : Tru) (r mi : Int) : List Tru := (ints mi (smH B t i + r)).flatMap fun mi => if wrV B (i, mi) = 0 then trs B k (i + 1) (tru2 t i r mi) else []
noncomputable def outR (B : CBook) (k i : Nat) (t : Tru) (n : Int) : List Tru := (ints n (B.rh i)).flatMap fun r => innR B k i t r (smL B t i + r)
theorem outR_cons {B : CBook} {k i : Nat} {t : Tru} {n : Int} (h : n ≤ B.rh i) : outR B k i t n = innR B k i t n (smL B t i + n) ++ outR B k i t (n + 1) := by unfold outR; rw [ints_cons h, List.flatMap_cons]
theorem outR_nil {B : CBook} {k i : Nat} {t : Tru} {n : Int} (h : B.rh i < n) : outR B k i t n = [] := by unfold outR; rw [ints_nil h]; rfl
theorem innR_cons {B : CBook} {k i : Nat} {t : Tru} {r n : Int} (h : n ≤ smH B t i + r) : innR B k i t r n = (if wrV B (i, n) = 0 then trs B k (i + 1) (tru2 t i r n) else []) ++ innR B k i t r (n + 1) := by unfold innR; rw [ints_cons h, List.flatMap_cons]
theorem innR_nil {B : CBook} {k i : Nat} {t : Tru} {r n : Int} (h : smH B t i + r < n) : innR B k i t r n = [] := by unfold innR; rw [ints_nil h]; rfl
set_option maxRecDepth 100000 in
set_option maxHeartbeats 8000000 in
theorem drive1_can (B : CBook) (a1 a2 : AV) (h1 : IsSl a1 B.ns 0) (h2 : IsSl a2 B.nc 1) (hok : stsOk B) (hw : weaOk B) (hck : cksOk B) (C : Cons) (k i : Nat) (hi : i < B.ns) (t : Tru) (ht : drvOk t i) (hwt : 0 ≤ t.w ∧ t.w < 3) (L : List (Int × Int)) (s : C.γ) (r : Nat) (hl : C.lv (r + (trs B (k + 1) i t).length) s)
    (ih : ∀ (t : Tru) (L : List (Int × Int)) (s : C.γ) (r : Nat), C.lv (r + (trs B k (i + 1) t).length) s → drvOk t (i + 1) → 0 ≤ t.w ∧ t.w < 3 → CanJ 0 Try.prog C 7 2 108 [.int .i64 ((i + 1 : Nat) : Int), trV t, .ptr 4 0, .ptr 5 0, .ptr 6 0] [(0, some (oSt B)), (1, some (oCk B)), (3, some (.cells (pbC B a1 a2 7))), (4, some (.cells [.ptr 3 0])), (5, some (.cells [.yld 2])), (6, some (.cells [.fn 108 [] [.ptr 4 0, .ptr 5 0, .ptr 6 0]])), (7, some (oMap B L))] 8 s fun v H1 s' => ∃ ob, drvR B C s (trs B k (i + 1) t) v ob s' ∧ H1.get 7 = some ob) :
    CanJ 0 Try.prog C 7 2 108 [.int .i64 (i : Int), trV t, .ptr 4 0, .ptr 5 0, .ptr 6 0] [(0, some (oSt B)), (1, some (oCk B)), (3, some (.cells (pbC B a1 a2 7))), (4, some (.cells [.ptr 3 0])), (5, some (.cells [.yld 2])), (6, some (.cells [.fn 108 [] [.ptr 4 0, .ptr 5 0, .ptr 6 0]])), (7, some (oMap B L))] 8 s fun v H1 s' => ∃ ob, drvR B C s (trs B (k + 1) i t) v ob s' ∧ H1.get 7 = some ob := by
  obtain ⟨hsm1, hsm3, hsm2⟩ := sm_bd hok hw hi ht hwt
  have hi3 : i < 3 := by have := hok.1; omega
  have hs := hok.2 i hi
  unfold stOk at hs
  have htr := ht.tru (by omega)
  refine CanJ.mk' Try.func108 rfl rfl rfl (by decide) (by decide) ?_
  repeat' (first | refine RTJ.nil ?_ | refine sqJ_n ?_ | refine TrJ.seq ?_ | refine TrJ.region ?_ | refine TrJ.cond_d rfl (fun _ => ?_) (fun _ => ?_) | refine TrJ.skip ?_ | (refine RTJ.goK rfl rfl rfl rfl ?_; apply Nx.of; (first | exact S.move | exact S.assign | exact S.load1c rfl rfl rfl rfl | exact S.loadNc rfl rfl rfl rfl | exact S.fieldAddr rfl rfl rfl | exact S.eql | exact S.box | exact S.nilCheck)) | (refine RTJ.goK rfl rfl rfl rfl ?_; apply Nx.of; (first | exact S.len_sl rfl rfl rfl (by assumption))))
  · exfalso; omega
  refine TrJ.lift (Tr.openK un108_3 (by kernel_rfl) (by kernel_rfl) (smF B a1 a2 3 7 t i) (smF_calm hok hw t i hi htr hwt) ?_)
  repeat' (first | (refine RD.free rfl rfl rfl rfl rfl rfl ?_; apply Nx.of; (first | exact S.move | exact S.fieldAddr rfl rfl rfl | exact S.nilCheck | exact S.idx_sl rfl rfl rfl (by assumption) (by omega))) | (refine RD.new rfl rfl rfl rfl rfl rfl ?_; apply Nx.of; (first | exact S.alloc rfl)) | (refine RD.load rfl rfl rfl rfl rfl rfl rfl rfl ?_; apply Nx.of; (first | exact S.load1c rfl rfl rfl rfl | exact S.loadNc rfl rfl rfl rfl | exact S.rowN rfl rfl rfl (fun _ => rfl) (range_at (by omega)) rfl)) | (refine RD.store rfl rfl rfl rfl rfl rfl rfl ?_; apply Nx.of; (first | exact S.store rfl rfl rfl rfl rfl rfl)) | (refine RD.callN rfl rfl rfl rfl rfl rfl rfl rfl rfl (one1_at ⟨_, rfl, h1, h2, rfl, rfl, rfl, by decide, by decide, by decide⟩) (fun _ => rfl) ?_) | refine RD.nil ⟨Nat.le_of_ble_eq_true rfl, ?_⟩)
  repeat' (first | refine RTJ.nil ?_ | refine sqJ_n ?_ | refine TrJ.seq ?_ | refine TrJ.region ?_ | refine TrJ.block ?_ | (refine RTJ.goK rfl rfl rfl rfl ?_; apply Nx.of; (first | exact S.assign | exact S.load1c rfl rfl rfl rfl | exact S.fieldAddr rfl rfl rfl)))
  refine TrJ.loop (fun j : Int × Int × Int × List (Int × Int) => stL Try.f108.ntmps [] [(0, .int .i64 (i : Int)), (2, .ptr 4 0), (3, .ptr 5 0), (4, .ptr 6 0), (6, .ptr 8 0), (8, .ptr 9 0), (9, .ptr 10 0), (10, .int .i64 j.1)] [(10, some (.cells [.int .i64 (B.rl i), .int .i64 (B.rh i)])), (9, some (.cells [.int .i64 (smL B t i), .int .i64 (smH B t i)])), (8, some (.cells (trV (tru2 t i j.2.1 j.2.2.1)).cells)), (0, some (oSt B)), (1, some (oCk B)), (3, some (.cells (pbC B a1 a2 7))), (4, some (.cells [.ptr 3 0])), (5, some (.cells [.yld 2])), (6, some (.cells [.fn 108 [] [.ptr 4 0, .ptr 5 0, .ptr 6 0]])), (7, some (oMap B j.2.2.2))] 11)
    (fun j s' => (B.rl i ≤ j.1 ∧ j.1 ≤ B.rh i + 1) ∧ foldC C s' (outR B k i t j.1) = foldC C s (trs B (k + 1) i t) ∧ C.lv (r + (outR B k i t j.1).length) s') (fun j => (B.rh i + 1 - j.1).toNat) (B.rl i, t.r i, t.c i, L) ⟨⟨by omega, by omega⟩, rfl, hl⟩ (by (refine Wk.same (by decide) (by decide) (by decide) (by decide) ?_ ?_ rfl; all_goals ((try simp only [allL, allM]); (repeat' (first | exact trivial | refine And.intro ?_ ?_)); all_goals (first | rfl | exact ren_ro _ _ _ | exact congrArg (fun t => some (AObj.cells (trV t).cells)) (tru2_self hi3).symm | exact ren_mapA _ _ _ | exact pbc_ren h1 h2 (nm_lt (by decide)) (nm_lt (by decide)) (nm_lt (by decide)) | decide)))) ?_
  rintro ⟨n, a, b, L1⟩ s1 ⟨hn, hf, hl1⟩
  simp only at hn hf ⊢
  repeat' (first | refine RTJ.nil ?_ | refine sqJ_n ?_ | refine TrJ.seq ?_ | refine TrJ.region ?_ | refine TrJ.cond_d rfl (fun _ => ?_) (fun _ => ?_) | refine TrJ.skip ?_ | refine TrJ.ret ?_ | refine TrJ.exit ?_ | refine sqJ_x ?_ | refine TrJ.block ?_ | refine blkJ_hit rfl ?_ | refine TrJ.label ?_ | refine TrJ.scope ?_ | refine lpJ_x ?_ | (refine RTJ.goK rfl rfl rfl rfl ?_; (refine Nx.of (S.idx_arr rfl rfl rfl (show _ < 3 by omega)) ?_)) | (refine RTJ.goK0 rfl rfl rfl ?_; apply Nx.of; (first | exact S.store rfl rfl rfl rfl rfl (trV_setr hi3))) | (refine RTJ.goK rfl rfl rfl rfl ?_; apply Nx.of; (first | exact S.move | exact S.assign | exact S.load1c rfl rfl rfl rfl | exact S.fieldAddr rfl rfl rfl | exact S.leq | exact S.add (by unfold In64; omega))))
  · have hnb : n ≤ B.rh i := by assumption
    refine TrJ.loop (fun j : Int × Int × List (Int × Int) => stL Try.f108.ntmps [] [(0, .int .i64 (i : Int)), (2, .ptr 4 0), (3, .ptr 5 0), (4, .ptr 6 0), (6, .ptr 8 0), (8, .ptr 9 0), (9, .ptr 10 0), (10, .int .i64 n), (11, .int .i64 j.1)] [(10, some (.cells [.int .i64 (B.rl i), .int .i64 (B.rh i)])), (9, some (.cells [.int .i64 (smL B t i), .int .i64 (smH B t i)])), (8, some (.cells (trV (tru2 t i n j.2.1)).cells)), (0, some (oSt B)), (1, some (oCk B)), (3, some (.cells (pbC B a1 a2 7))), (4, some (.cells [.ptr 3 0])), (5, some (.cells [.yld 2])), (6, some (.cells [.fn 108 [] [.ptr 4 0, .ptr 5 0, .ptr 6 0]])), (7, some (oMap B j.2.2))] 11)
      (fun j s' => (smL B t i + n ≤ j.1 ∧ j.1 ≤ smH B t i + n + 1) ∧ foldC C s' (innR B k i t n j.1 ++ outR B k i t (n + 1)) = foldC C s (trs B (k + 1) i t) ∧ C.lv (r + (innR B k i t n j.1 ++ outR B k i t (n + 1)).length) s') (fun j => (smH B t i + n + 1 - j.1).toNat) (smL B t i + n, b, L1) ⟨⟨by omega, by omega⟩, by rw [← outR_cons hnb]; exact hf, by rw [← outR_cons hnb]; exact hl1⟩ (by (refine Wk.same (by decide) (by decide) (by decide) (by decide) ?_ ?_ rfl; all_goals ((try simp only [allL, allM]); (repeat' (first | exact trivial | refine And.intro ?_ ?_)); all_goals (first | rfl | exact ren_ro _ _ _ | exact congrArg (fun t => some (AObj.cells (trV t).cells)) (tru2_r hi3) | exact ren_mapA _ _ _ | exact pbc_ren h1 h2 (nm_lt (by decide)) (nm_lt (by decide)) (nm_lt (by decide)) | decide)))) ?_
    rintro ⟨mi, b2, L2⟩ s2 ⟨hmi, hf2, hl2⟩
    simp only at hmi hf2 ⊢
    repeat' (first | refine RTJ.nil ?_ | refine sqJ_n ?_ | refine TrJ.seq ?_ | refine TrJ.region ?_ | refine TrJ.cond_d rfl (fun _ => ?_) (fun _ => ?_) | refine TrJ.skip ?_ | refine TrJ.exit ?_ | refine sqJ_x ?_ | refine TrJ.block ?_ | refine blkJ_n ?_ | refine blkJ_hit rfl ?_ | refine scpJ_n ?_ | refine lpJ_x ?_ | (refine RTJ.goK rfl rfl rfl rfl ?_; (refine Nx.of (S.idx_arr rfl rfl rfl (show _ < 3 by omega)) ?_)) | (refine RTJ.goK0 rfl rfl rfl ?_; apply Nx.of; (first | exact S.store rfl rfl rfl rfl rfl (trV_setc hi3))) | (refine RTJ.call rfl rfl rfl (wrongAt_at (L := L2) ⟨h1, h2, rfl, rfl, rfl, by decide, by decide, by decide⟩ rfl hck ((tru2 t i n b2).setC i mi) i hi3 7 (Nat.le_refl _)) rfl rfl (Nat.le_refl _) ?_) | (refine RTJ.goK rfl rfl rfl rfl ?_; apply Nx.of; (first | exact S.move | exact S.assign | exact S.load1c rfl rfl rfl rfl | exact S.loadNc rfl rfl rfl rfl | exact S.fieldAddr rfl rfl rfl | exact S.leq | exact S.neq | exact S.add_one (by omega) | exact S.add (by unfold In64; omega))))
    · have hT : ((tru2 t i n b2).setC i mi).c i = mi := by rw [tru2_c hi3, tru2_at hi3]
      have hne : wrV B ((i : Int), ((tru2 t i n b2).setC i mi).c i) ≠ 0 := by assumption
      rw [hT] at hne
      refine lpJ_n (mi + 1, mi, insL L2 ((i : Int), ((tru2 t i n b2).setC i mi).c i)) ⟨⟨by show _ ≤ mi + 1; omega, by show mi + 1 ≤ _; omega⟩, ?_, ?_⟩ (by show (smH B t i + n + 1 - (mi + 1)).toNat < (smH B t i + n + 1 - mi).toNat; omega) (by (refine Wk.same (by decide) (by decide) (by decide) (by decide) ?_ ?_ rfl; all_goals ((try simp only [allL, allM]); (repeat' (first | exact trivial | refine And.intro ?_ ?_)); all_goals (first | rfl | exact ren_ro _ _ _ | exact congrArg (fun t => some (AObj.cells (trV t).cells)) (tru2_c hi3) | exact ren_mapA _ _ _ | exact pbc_ren h1 h2 (nm_lt (by decide)) (nm_lt (by decide)) (nm_lt (by decide)) | decide))))
      · rw [innR_cons (by assumption), if_neg hne] at hf2
        exact hf2
      · rw [innR_cons (by assumption), if_neg hne] at hl2
        exact hl2
    · have hT : ((tru2 t i n b2).setC i mi).c i = mi := by rw [tru2_c hi3, tru2_at hi3]
      have hne : ¬ wrV B ((i : Int), ((tru2 t i n b2).setC i mi).c i) ≠ 0 := by assumption
      rw [hT] at hne
      have hle : mi ≤ smH B t i + n := by assumption
      rw [innR_cons hle, if_pos (Classical.not_not.1 hne), ← tru2_c (b := b2) hi3, List.append_assoc, foldC_append] at hf2
      have hl2' : C.lv ((r + (innR B k i t n (mi + 1) ++ outR B k i t (n + 1)).length) + (trs B k (i + 1) ((tru2 t i n b2).setC i mi)).length) s2 := by
        rw [innR_cons hle, if_pos (Classical.not_not.1 hne), ← tru2_c (b := b2) hi3, List.append_assoc, List.length_append] at hl2
        rw [show ∀ a b c : Nat, a + b + c = a + (c + b) by intros; omega]
        exact hl2
      have hdrv : drvOk ((tru2 t i n b2).setC i mi) (i + 1) := by
        refine .inr ⟨by omega, ?_⟩
        rw [Nat.add_sub_cancel, hT]
        omega
      have hwt' : 0 ≤ ((tru2 t i n b2).setC i mi).w ∧ ((tru2 t i n b2).setC i mi).w < 3 := by rw [tru2_c hi3, tru2_w hi3]; exact hwt
      refine RTJ.callJ rfl rfl rfl (drive_ok (B := B) (L := insL L2 ((i : Int), ((tru2 t i n b2).setC i mi).c i)) (t := (tru2 t i n b2).setC i mi) (i := i + 1) ⟨⟨h1, h2, rfl, rfl, rfl, by decide, by decide, by decide⟩, rfl, rfl, rfl, rfl, rfl⟩ (ih _ _ _ _ hl2' hdrv hwt') 7 (Nat.le_refl _)) rfl rfl ?_
      rintro v m' s3 ⟨ob, ⟨L3, hv, hs3, hob⟩, hm'⟩
      subst hm' hob
      cases hb : (foldC C s2 (trs B k (i + 1) ((tru2 t i n b2).setC i mi))).2
      · rw [hb] at hv hf2
        subst hv
        repeat' (first | refine RTJ.nil ?_ | refine sqJ_n ?_ | refine TrJ.seq ?_ | refine TrJ.region ?_ | refine TrJ.cond_t rfl ?_ | refine TrJ.ret ?_ | refine sqJ_r ?_ | refine blkJ_r ?_ | refine scpJ_r ?_ | refine lpJ_r ?_ | (refine RTJ.goK rfl rfl rfl rfl ?_; apply Nx.of; (first | exact S.assign | exact S.not_f)))
        (first | refine ⟨rt_go rfl ?_⟩)
        refine ⟨_, ⟨L3, ?_, ?_, rfl⟩, getM rfl⟩
        · rw [← hf2]; rfl
        · rw [← hf2]; exact hs3
      · rw [hb] at hv hf2
        subst hv
        repeat' (first | refine RTJ.nil ?_ | refine sqJ_n ?_ | refine TrJ.region ?_ | refine TrJ.cond_f rfl ?_ | refine TrJ.skip ?_ | refine blkJ_n ?_ | (refine RTJ.goK rfl rfl rfl rfl ?_; apply Nx.of; (first | exact S.move | exact S.assign | exact S.not_t | exact S.add (by unfold In64; omega))))
        refine lpJ_n (mi + 1, mi, L3) ⟨⟨by show _ ≤ mi + 1; omega, by show mi + 1 ≤ _; omega⟩, ?_, ?_⟩ (by show (smH B t i + n + 1 - (mi + 1)).toNat < (smH B t i + n + 1 - mi).toNat; omega) (by (refine Wk.same (by decide) (by decide) (by decide) (by decide) ?_ ?_ rfl; all_goals ((try simp only [allL, allM]); (repeat' (first | exact trivial | refine And.intro ?_ ?_)); all_goals (first | rfl | exact ren_ro _ _ _ | exact congrArg (fun t => some (AObj.cells (trV t).cells)) (tru2_c hi3) | exact ren_mapA _ _ _ | exact pbc_ren h1 h2 (nm_lt (by decide)) (nm_lt (by decide)) (nm_lt (by decide)) | decide))))
        · rw [hs3]
          exact hf2
        · rw [hs3]
          exact foldC_live C _ _ _ hl2' hb
    · refine lpJ_n (n + 1, n, b2, L2) ⟨⟨by show _ ≤ n + 1; omega, by show n + 1 ≤ _; omega⟩, ?_, by rw [innR_nil (by omega)] at hl2; exact hl2⟩ (by show (B.rh i + 1 - (n + 1)).toNat < (B.rh i + 1 - n).toNat; omega) (by (refine Wk.same (by decide) (by decide) (by decide) (by decide) ?_ ?_ rfl; all_goals ((try simp only [allL, allM]); (repeat' (first | exact trivial | refine And.intro ?_ ?_)); all_goals (first | rfl | exact ren_ro _ _ _ | exact ren_mapA _ _ _ | exact pbc_ren h1 h2 (nm_lt (by decide)) (nm_lt (by decide)) (nm_lt (by decide)) | decide))))
      rw [innR_nil (by omega)] at hf2
      exact hf2
  · (first | refine ⟨rt_go rfl ?_⟩)
    rw [outR_nil (by omega)] at hf
    refine ⟨_, ⟨L1, ?_, ?_, rfl⟩, getM rfl⟩
    · rw [← hf]; rfl
    · rw [← hf]; rfl
end Go.Proofs.Ytlnmcadbmpiopaa
/- The truths of package claim: all of them. -/
namespace Go.Proofs.Ytlnmcadbmpiopaa
open Go Go.Ev
theorem drive_can (B : CBook) (a1 a2 : AV) (h1 : IsSl a1 B.ns 0) (h2 : IsSl a2 B.nc 1) (hok : stsOk B) (hw : weaOk B) (hck : cksOk B) (C : Cons) (hY : YldOK Try.prog C) (hC : ∀ k s t, C.lv (k + 1) s → C.ok s [trV t]) : ∀ (k i : Nat), i + k = B.ns → ∀ (t : Tru) (L : List (Int × Int)) (s : C.γ) (r : Nat), C.lv (r + (trs B k i t).length) s → drvOk t i → 0 ≤ t.w ∧ t.w < 3 →
    CanJ 0 Try.prog C 7 2 108 [.int .i64 (i : Int), trV t, .ptr 4 0, .ptr 5 0, .ptr 6 0] [(0, some (oSt B)), (1, some (oCk B)), (3, some (.cells (pbC B a1 a2 7))), (4, some (.cells [.ptr 3 0])), (5, some (.cells [.yld 2])), (6, some (.cells [.fn 108 [] [.ptr 4 0, .ptr 5 0, .ptr 6 0]])), (7, some (oMap B L))] 8 s fun v H1 s' => ∃ ob, drvR B C s (trs B k i t) v ob s' ∧ H1.get 7 = some ob
  | 0, i, e, t, L, s, r, hl, _, _ => by
    obtain rfl : i = B.ns := by omega
    exact drive0_can B a1 a2 h1 h2 C hY hC t L s r hl
  | k + 1, i, e, t, L, s, r, hl, ht, hwt => drive1_can B a1 a2 h1 h2 hok hw hck C k i (by omega) t ht hwt L s r hl fun t L s r hl ht hwt => drive_can B a1 a2 h1 h2 hok hw hck C hY hC k (i + 1) (by omega) t L s r hl ht hwt
abbrev tru0 (k : Nat) : Tru := ⟨k, 0, 0, 0, 0, 0, 0⟩
noncomputable def wth (B : CBook) (k : Nat) : List Tru := bif dB (hasP B.wea k) then trs B B.ns 0 (tru0 k) else []
noncomputable def wths (B : CBook) (k : Nat) : List Tru := ((List.range 3).drop k).flatMap (wth B)
theorem wths_cons {B : CBook} {k : Nat} (h : k < 3) : wths B k = wth B k ++ wths B (k + 1) := by
  obtain rfl | rfl | rfl : k = 0 ∨ k = 1 ∨ k = 2 := by omega
  all_goals rfl
def truR (B : CBook) (C : Cons) (s : C.γ) (v : AV) (ob : AObj) (s' : C.γ) : Prop := ∃ L, v = .tup [] ∧ s' = (foldC C s (wths B 0)).1 ∧ ob = oMap B L
set_option maxRecDepth 100000 in
set_option maxHeartbeats 8000000 in
theorem truths_can (B : CBook) (a1 a2 : AV) (h1 : IsSl a1 B.ns 0) (h2 : IsSl a2 B.nc 1) (hok : stsOk B) (hw : weaOk B) (hck : cksOk B) (C : Cons) (hY : YldOK Try.prog C) (hC : ∀ k s t, C.lv (k + 1) s → C.ok s [trV t]) (L : List (Int × Int)) (s : C.γ) (hl : C.lv (wths B 0).length s) :
    CanJ 0 Try.prog C 4 2 88 [.ptr 3 0, .yld 2] [(0, some (oSt B)), (1, some (oCk B)), (3, some (.cells (pbC B a1 a2 4))), (4, some (oMap B L))] 5 s fun v H1 s' => ∃ ob, truR B C s v ob s' ∧ H1.get 4 = some ob := by
  refine CanJ.mk' Try.func88 rfl rfl rfl (by decide) (by decide) ?_
  repeat' (first | refine RTJ.nil ?_ | refine sqJ_n ?_ | refine TrJ.seq ?_ | refine TrJ.region ?_ | refine TrJ.block ?_ | (refine RTJ.goK rfl rfl rfl rfl ?_; apply Nx.of; (first | exact S.move | exact S.box | exact S.alloc rfl | exact S.makeFunc)) | (refine RTJ.goK0 rfl rfl rfl ?_; apply Nx.of; (first | exact S.store rfl rfl rfl rfl rfl rfl)))
  refine TrJ.loop (fun j : Nat × List (Int × Int) => stL Try.f88.ntmps [] [(2, .ptr 5 0), (3, .ptr 6 0), (4, .ptr 7 0), (7, .int .i64 (j.1 : Int))] [(5, some (.cells [.ptr 3 0])), (6, some (.cells [.yld 2])), (7, some (.cells [.fn 108 [] [.ptr 5 0, .ptr 6 0, .ptr 7 0]])), (0, some (oSt B)), (1, some (oCk B)), (3, some (.cells (pbC B a1 a2 4))), (4, some (oMap B j.2))] 8)
    (fun j s' => j.1 ≤ 3 ∧ foldC C s' (wths B j.1) = foldC C s (wths B 0) ∧ C.lv (wths B j.1).length s') (fun j => 3 - j.1) (0, L) ⟨Nat.zero_le _, rfl, hl⟩ (by (refine Wk.same (by decide) (by decide) (by decide) (by decide) ?_ ?_ rfl; all_goals ((try simp only [allL, allM]); (repeat' (first | exact trivial | refine And.intro ?_ ?_)); all_goals (first | rfl | exact ren_ro _ _ _ | exact ren_mapA _ _ _ | exact pbc_ren h1 h2 (nm_lt (by decide)) (nm_lt (by decide)) (nm_lt (by decide)) | decide)))) ?_
  rintro ⟨k, L1⟩ s1 ⟨hk, hf, hl1⟩
  simp only at hk hf ⊢
  repeat' (first | refine RTJ.nil ?_ | refine sqJ_n ?_ | refine TrJ.seq ?_ | refine TrJ.region ?_ | refine TrJ.cond_f rfl ?_ | refine TrJ.cond_d rfl (fun _ => ?_) (fun _ => ?_) | refine TrJ.skip ?_ | refine TrJ.exit ?_ | refine sqJ_x ?_ | refine TrJ.block ?_ | refine blkJ_n ?_ | refine blkJ_hit rfl ?_ | refine lpJ_x ?_ | (refine RTJ.call rfl rfl rfl (has_at _ _ (by omega) _ _ _) rfl rfl (Nat.le_refl _) ?_) | (refine RTJ.splitd rfl rfl (fun _ => ?_) (fun _ => ?_)) | (refine RTJ.goK rfl rfl rfl rfl ?_; apply Nx.of; (first | exact S.move | exact S.assign | exact S.load1c rfl rfl rfl rfl | exact S.fieldAddr rfl rfl rfl | exact S.lss | exact S.pick_ff | exact S.add_one (by omega) | exact S.build rfl rfl rfl | exact S.nilCheck)) | (refine RTJ.no rfl rfl rfl ?_))
  · have hh : hasP B.wea k := by assumption
    have hk3 : k < 3 := by omega
    have hl2 : C.lv ((wths B (k + 1)).length + (trs B B.ns 0 (tru0 k)).length) s1 := by
      rw [wths_cons hk3, List.length_append, show wth B k = trs B B.ns 0 (tru0 k) by unfold wth; rw [dB_tt hh]; rfl, Nat.add_comm] at hl1
      exact hl1
    rw [wths_cons hk3, foldC_append, show wth B k = trs B B.ns 0 (tru0 k) by unfold wth; rw [dB_tt hh]; rfl] at hf
    refine RTJ.callJ rfl rfl rfl (drive_ok (B := B) (L := L1) (t := tru0 k) (i := 0) ⟨⟨h1, h2, rfl, rfl, rfl, by decide, by decide, by decide⟩, rfl, rfl, rfl, rfl, rfl⟩ (drive_can B a1 a2 h1 h2 hok hw hck C hY hC B.ns 0 (by omega) (tru0 k) L1 s1 _ hl2 (.inl ⟨rfl, rfl, rfl, rfl⟩) ⟨by show (0 : Int) ≤ (k : Int); omega, by show (k : Int) < 3; omega⟩) 4 (Nat.le_refl _)) rfl rfl ?_
    rintro v m' s3 ⟨ob, ⟨L3, hv, hs3, hob⟩, hm'⟩
    subst hm' hob
    cases hb : (foldC C s1 (trs B B.ns 0 (tru0 k))).2
    · rw [hb] at hv hf
      subst hv
      repeat' (first | refine RTJ.nil ?_ | refine sqJ_n ?_ | refine TrJ.cond_t rfl ?_ | refine TrJ.ret ?_ | refine sqJ_r ?_ | refine blkJ_r ?_ | refine lpJ_r ?_ | (refine RTJ.goK rfl rfl rfl rfl ?_; apply Nx.of; (first | exact S.not_f | exact S.pick_tt)))
      (first | refine ⟨rt_go rfl ?_⟩)
      refine ⟨_, ⟨L3, rfl, ?_, rfl⟩, getM rfl⟩
      rw [← hf]; exact hs3
    · rw [hb] at hv hf
      subst hv
      repeat' (first | refine RTJ.nil ?_ | refine sqJ_n ?_ | refine TrJ.region ?_ | refine TrJ.cond_f rfl ?_ | refine TrJ.skip ?_ | refine blkJ_n ?_ | (refine RTJ.goK rfl rfl rfl rfl ?_; apply Nx.of; (first | exact S.move | exact S.not_t | exact S.pick_tt | exact S.add_one (by omega))))
      refine lpJ_n (k + 1, L3) ⟨by show k + 1 ≤ 3; omega, ?_, ?_⟩ (by show 3 - (k + 1) < 3 - k; omega) (by (refine Wk.same (by decide) (by decide) (by decide) (by decide) ?_ ?_ rfl; all_goals ((try simp only [allL, allM]); (repeat' (first | exact trivial | refine And.intro ?_ ?_)); all_goals (first | rfl | exact ren_ro _ _ _ | exact ren_mapA _ _ _ | exact pbc_ren h1 h2 (nm_lt (by decide)) (nm_lt (by decide)) (nm_lt (by decide)) | decide))))
      · rw [hs3]
        exact hf
      · rw [hs3]
        exact foldC_live C _ _ _ hl2 hb
  · have hk3 : k < 3 := by omega
    rw [wths_cons hk3, show wth B k = [] by unfold wth; rw [dB_ff (by assumption)]; rfl] at hf hl1
    exact lpJ_n (k + 1, L1) ⟨by show k + 1 ≤ 3; omega, hf, hl1⟩ (by show 3 - (k + 1) < 3 - k; omega) (by (refine Wk.same (by decide) (by decide) (by decide) (by decide) ?_ ?_ rfl; all_goals ((try simp only [allL, allM]); (repeat' (first | exact trivial | refine And.intro ?_ ?_)); all_goals (first | rfl | exact ren_ro _ _ _ | exact ren_mapA _ _ _ | exact pbc_ren h1 h2 (nm_lt (by decide)) (nm_lt (by decide)) (nm_lt (by decide)) | decide))))
  · refine ⟨rt_gon rfl ?_⟩
    obtain rfl : k = 3 := by omega
    refine ⟨_, ⟨L1, rfl, ?_, rfl⟩, getM rfl⟩
    rw [← hf]; rfl
end Go.Proofs.Ytlnmcadbmpiopaa
/- A range over a function: its rounds are a consumer. -/
namespace Go.Ev
open Go
section
variable {G : Nat} {P : Program} {ρ ρ1 ρ2 : Rho} {fl cb c cc lo dn n p : Nat} {w w1 w2 : World} {F F1 F2 : Nat → Prop} {l : List (Nat × AV)} {ags bd : Code}
variable {σ : Type} {M : σ → List (Nat × Option AObj)} {stp : σ → List AV → σ × Option Code}
noncomputable def lpO (n p dn : Nat) (l : List (Nat × AV)) (ags bd : Code) (st : LoopState) (j : Option Code) : AObj := .loop st j (ofL l) n [p] ags bd dn
def lpS (j : Option Code) : LoopState := bif j.isNone then .ready else .done
structure RndOK (G : Nat) (P : Program) (fl cb cc lo dn n p : Nat) (l : List (Nat × AV)) (ags bd : Code) (M : σ → List (Nat × Option AObj)) (ok : σ → List AV → Prop) (stp : σ → List AV → σ × Option Code) : Prop where
  one : ∀ s args, ok s args → ∃ v, args = [v] ∧ Pl v
  run : ∀ s v, ok s [v] → Tr G P fl cb (some lo) ags (stL n [] ((p, v) :: l) ((lo, some (lpO n p dn l ags bd .ready none)) :: M s) cc) fun e st => e = .normal ∧ ∃ l1 m1 c1, st = stL n [] l1 m1 c1 ∧ lookM m1 lo = some (lpO n p dn l ags bd .ready none) ∧
    Tr G P fl cb (some lo) bd (stL n [] l1 ((lo, some (lpO n p dn l ags bd .busy none)) :: m1) c1) fun e2 st2 => jumpOf e2 = (stp s [v]).2 ∧ Wk G fl cb st2 (stL n [] [] ((lo, some (lpO n p dn l ags bd .busy none)) :: M (stp s [v]).1) cc)
structure RJ (G : Nat) (ρ0 : Rho) (fl cb cc lo dn n p : Nat) (l : List (Nat × AV)) (ags bd : Code) (M : σ → List (Nat × Option AObj)) (s : σ × Option Code) (F : Nat → Prop) (w : World) : Prop where
  ex : ∃ ρ', (∀ x, x < cb → ρ' x = ρ0 x) ∧ Holds G ρ' (ofM ((lo, some (lpO n p dn l ags bd (lpS s.2) s.2)) :: M s.1)) cc w ∧ ∀ x q, fl ≤ x → ρ' x = some q → F q.b
  lt : ∀ b, F b ∨ (∃ x q, x < fl ∧ ρ0 x = some q ∧ q.b = b) → b < w.heap.size
noncomputable def rndC (G : Nat) (ρ0 : Rho) (lb fl cb cc lo dn n p : Nat) (l : List (Nat × AV)) (ags bd : Code) (M : σ → List (Nat × Option AObj)) (ok : σ → List AV → Prop) (stp : σ → List AV → σ × Option Code) (cap : Nat → σ → Prop) (hcap : ∀ k s args, cap (k + 1) s → (stp s args).2 = none → cap k (stp s args).1) (hfl : fl ≤ cb) : Cons where
  γ := σ × Option Code
  J := RJ G ρ0 fl cb cc lo dn n p l ags bd M
  Rd := fun b => ∃ x q, x < fl ∧ ρ0 x = some q ∧ q.b = b
  keep := fun s F w w' ⟨⟨ρ', h1, h2, h3⟩, h4⟩ hs hk => ⟨⟨ρ', h1, ⟨fun x o hx => by
    obtain ⟨q, g1, g2⟩ := h2.obj x o hx
    refine ⟨q, g1, g2.world (hk q.b ?_)⟩
    rcases Nat.lt_or_ge x fl with h | h
    · exact .inr ⟨x, q, h, by rw [← h1 x (by omega)]; exact g1, rfl⟩
    · exact .inl (h3 x q h g1), h2.sep, h2.fresh, fun x q hq => Nat.lt_of_lt_of_le (h2.lt x q hq) hs, h2.glob⟩, h3⟩, fun b hb => Nat.lt_of_lt_of_le (h4 b hb) hs⟩
  lt := fun s F w b h hb => h.lt b hb
  lb := lb
  ok := fun s args => s.2 = none ∧ ok s.1 args
  step := fun s args => (stp s.1 args, (stp s.1 args).2.isNone)
  lv := fun k s => s.2 = none ∧ cap k s.1
  live := fun k s args h h2 => by have h2' : (stp s.1 args).2 = none := by simpa using h2
                                  exact ⟨h2', hcap k s.1 args h.2 h2'⟩
theorem rnd_yld {cap : Nat → σ → Prop} {hcap : ∀ k s args, cap (k + 1) s → (stp s args).2 = none → cap k (stp s args).1} {ρ0 : Rho} {lb : Nat} {ok : σ → List AV → Prop} (hfl : fl ≤ cb) (hG : G ≤ cb) (hlo : lo < cb) (hlf : fl ≤ lo) (hlb : ∃ q, ρ0 lo = some q ∧ q.b = lb) (hp : Nat.blt p n = true) (h : RndOK G P fl cb cc lo dn n p l ags bd M ok stp) (hcc : cb ≤ cc) :
    YldOK P (rndC G ρ0 lb fl cb cc lo dn n p l ags bd M ok stp cap hcap hfl) := by
  rintro ⟨s, j⟩ F w us args ⟨⟨ρ', h1, h2, h3⟩, h4⟩ ⟨hj, hok⟩ hv
  replace hj : j = none := hj
  subst hj
  obtain ⟨v, rfl, hpl⟩ := h.one s args hok
  obtain ⟨q, hq1, hq2⟩ := hlb
  have hq : ρ' lo = some q := by rw [h1 lo hlo]; exact hq1
  have hl : (ofM ((lo, some (lpO n p dn l ags bd .ready none)) :: M s)).get lo = some (lpO n p dn l ags bd .ready none) := by rw [ofM_get, lookM]; simp
  obtain ⟨q', hq', fn, tmps, d, hh, henv, hdn⟩ := h2.obj lo _ hl
  rw [hq] at hq'
  cases hq'
  obtain ⟨u, us', rfl, hvu, hnil⟩ := hv.cons_inv
  have := hnil.nil_inv
  subst this
  have hvu' : VR ρ' v u := hpl.vr ⟨0, rfl⟩ hvu
  have hy := run_yield (P := P) (args := [u].toArray) hh (by simp)
  subst hq2
  refine ⟨_, _, _, _, hy, fun r k => ?_⟩
  have hset : setParams (ofL l) n [p] [v] = some (ofL ((p, v) :: l)) := by
    simp only [setParams, putA, hp, cond_true]
    rfl
  obtain ⟨hlen, henv1⟩ := setParams_sound henv (.cons hvu' .nil) hset
  have main : RoundIn FW k P q.b fn (([p].toArray.zip [u].toArray).foldl (fun tmps (t, a) => tmps.setIfInBounds t a) tmps) ags bd w fun e w' => ∃ F', e = .returned (.bool (stp s [v]).2.isNone) ∧ RJ G ρ0 fl cb cc lo dn n p l ags bd M (stp s [v]) F' w' ∧ w'.os = w.os ∧ w'.tape = w.tape ∧ w'.output = w.output ∧ w.heap.size ≤ w'.heap.size ∧
      (∀ b, b < w.heap.size → ¬ F b → w'.heap[b]? = w.heap[b]?) ∧ ∀ b, F' b → F b ∨ w.heap.size ≤ b := by
    refine roundIn_of_wpIn trivial ?_
    have htm : ([p].toArray.zip [u].toArray).foldl (fun tmps (t, a) => tmps.setIfInBounds t a) tmps = ([p].zip [u]).foldl (fun tmps (t, x) => tmps.setIfInBounds t x) tmps := by
      rw [← Array.foldl_toList]
      simp
    rw [htm]
    refine wpIn_mono ((h.run s v hok).run ρ' { tmps := ([p].zip [u]).foldl (fun tmps (t, x) => tmps.setIfInBounds t x) tmps, defers := [] } w (some q.b) k ⟨henv1, h2, rfl⟩ hcc (fun l0 hl0 => by cases hl0; exact hlo) ⟨q, hq, rfl⟩) fun e1 a1 w1 hpx => ?_
    obtain ⟨e, st1, ρ1, rfl, ⟨rfl, l1, m1, c1, rfl, hl1, hbd⟩, hs1, hc1, he1, hf1⟩ := hpx
    show ∃ w₂, _
    have hq1' : ρ1 lo = some q := by rw [he1.1 lo hlo]; exact hq
    obtain ⟨q2, hq2, fn1, tmps1, d1, hh1, henv2, hdn1⟩ := hs1.mem.obj lo _ (by show (ofM m1).get lo = _; rw [ofM_get]; exact hl1)
    rw [hq1'] at hq2
    cases hq2
    have hbusy := put_write (fl := fl) (ob := .loop { state := .busy, pending := none, fn := fn1, tmps := tmps1, params := [p].toArray, assign := ags, body := bd, defers := d1 }) (o' := lpO n p dn l ags bd .busy none)
      hs1.mem (x := lo) (o := lpO n p dn l ags bd .ready none) (by show (ofM m1).get lo = _; rw [ofM_get]; exact hl1) rfl hq1' hlf ⟨fn1, tmps1, d1, World.putObj_heap_same (obj_lt hh1), henv2, hdn1⟩
    obtain ⟨hb1, hb2⟩ := hbusy
    refine ⟨_, run_beginRound hh1 rfl, ?_⟩
    refine wpIn_mono (hbd.run ρ1 a1 _ (some q.b) k ⟨hs1.env, hb1, hs1.dfs⟩ hc1 (fun l0 hl0 => by cases hl0; exact hlo) ⟨q, hq1', rfl⟩) fun e3 a3 w3 hpx => ?_
    obtain ⟨e2, st3, ρ3, rfl, ⟨hj2, hwk⟩, hs3, hc3, he3, hf3⟩ := hpx
    obtain ⟨ρ4, hs4, he4⟩ := hwk.sr hs3
    have hq4 : ρ4 lo = some q := by rw [he4.1 lo hlo, he3.1 lo hlo]; exact hq1'
    have hl4 : (ofM ((lo, some (lpO n p dn l ags bd .busy none)) :: M (stp s [v]).1)).get lo = some (lpO n p dn l ags bd .busy none) := by rw [ofM_get, lookM]; simp
    obtain ⟨q3, hq3, fn3, tmps3, d3, hh3, henv3, hdn3⟩ := hs4.mem.obj lo _ hl4
    rw [hq4] at hq3
    cases hq3
    have fin : ∀ (jj : Option Code), jj = (stp s [v]).2 → ∃ uu w', (Instr.endRound q.b jj).run P w3 = .ok uu w' ∧ ∃ F', Ending.returned uu = .returned (.bool (stp s [v]).2.isNone) ∧ RJ G ρ0 fl cb cc lo dn n p l ags bd M (stp s [v]) F' w' ∧ w'.os = w.os ∧ w'.tape = w.tape ∧ w'.output = w.output ∧ w.heap.size ≤ w'.heap.size ∧
        (∀ b, b < w.heap.size → ¬ F b → w'.heap[b]? = w.heap[b]?) ∧ ∀ b, F' b → F b ∨ w.heap.size ≤ b := by
      intro jj hjj
      subst hjj
      have hst : (if (stp s [v]).2.isNone then LoopState.ready else .done) = lpS (stp s [v]).2 := by unfold lpS; rw [Bool.cond_eq_ite]
      have hend := put_write (fl := fl) (ob := .loop { state := (if (stp s [v]).2.isNone then .ready else .done), pending := (stp s [v]).2, fn := fn3, tmps := tmps3, params := [p].toArray, assign := ags, body := bd, defers := d3 })
        (o' := lpO n p dn l ags bd (lpS (stp s [v]).2) (stp s [v]).2) hs4.mem hl4 rfl hq4 hlf ⟨fn3, tmps3, d3, by rw [World.putObj_heap_same (obj_lt hh3), hst], henv3, hdn3⟩
      obtain ⟨g1, g2⟩ := hend
      have hF := hf1.transB he1 (hb2.transB (.refl ρ1 fl cb _) (hf3.transB (he3.trans hf3.size he4) g2))
      have hE : ExtB ρ' ρ4 fl cb w := he1.trans hf1.size ((ExtB.refl ρ1 fl cb w1).trans (by simp) (he3.trans hf3.size he4))
      have hget : ∀ x o, (ofM ((lo, some (lpO n p dn l ags bd (lpS (stp s [v]).2) (stp s [v]).2)) :: M (stp s [v]).1)).get x = some o → ((ofM ((lo, some (lpO n p dn l ags bd .busy none)) :: M (stp s [v]).1)).set lo (lpO n p dn l ags bd (lpS (stp s [v]).2) (stp s [v]).2)).get x = some o := fun x o hx => by
        replace hx : ((ofM (M (stp s [v]).1)).set lo (lpO n p dn l ags bd (lpS (stp s [v]).2) (stp s [v]).2)).get x = some o := hx
        rw [T.get_set] at hx ⊢
        split
        · rename_i e; rw [if_pos e] at hx; exact hx
        · rename_i e
          rw [if_neg e] at hx
          show ((ofM (M (stp s [v]).1)).set lo (lpO n p dn l ags bd .busy none)).get x = some o
          rw [T.get_set, if_neg e]; exact hx
      refine ⟨_, _, run_endRound (stp s [v]).2 hh3, fun b => F b ∨ (w.heap.size ≤ b ∧ b < w3.heap.size), rfl, ⟨⟨ρ4, fun x hx => (hE.1 x hx).trans (h1 x hx), ⟨fun x o hx => g1.obj x o (hget x o hx), fun x y o o' q q' hxy hx hy => g1.sep x y o o' q q' hxy (hget x o hx) (hget y o' hy), g1.fresh, g1.lt, g1.glob⟩, fun x t hx ht => ?_⟩, fun b hb => ?_⟩, hF.os, hF.tape, hF.output, hF.size, fun b hb hnF => hF.keep b hb fun x t hx ht e => hnF (e ▸ h3 x t hx ht), fun b hb => hb.elim .inl fun h => .inr h.1⟩
      · rcases hE.2 x t hx ht with h5 | ⟨y, t', hy, ht', hb⟩
        · exact .inr ⟨h5, by simpa using g1.lt x t ht⟩
        · exact .inl (hb ▸ h3 y t' hy ht')
      · rcases hb with (hb | hb) | hb
        · exact Nat.lt_of_lt_of_le (h4 b (.inl hb)) hF.size
        · simpa using hb.2
        · exact Nat.lt_of_lt_of_le (h4 b (.inr hb)) hF.size
    cases e2
    · obtain ⟨u, w', g1, g2⟩ := fin none hj2
      exact ⟨u, w', g1, g2⟩
    · obtain ⟨u, w', g1, g2⟩ := fin _ hj2
      exact ⟨u, w', g1, g2⟩
    · obtain ⟨u, w', g1, g2⟩ := fin _ hj2
      exact ⟨u, w', g1, g2⟩
    · obtain ⟨u, w', g1, g2⟩ := fin _ hj2
      exact ⟨u, w', g1, g2⟩
  cases r with
  | none => exact main
  | some l => exact main
end
end Go.Ev
/- A range over a function, in code over explicit states. -/
namespace Go.Ev
open Go
theorem TT.ren_setF (σ : Nat → Nat) (v : Option AV) : ∀ (f : Nat) (t : TT AV) (n : Nat), (TT.setF v f t n).ren σ = TT.setF (v.map (AV.ren σ)) f (t.ren σ) n
  | 0, t, n => rfl
  | f + 1, t, n => by
    rcases odd_even n with rfl | ⟨k, rfl⟩ | ⟨k, rfl⟩
    · cases t <;> rfl
    · rw [TT.setF1, TT.setF1, TT.ren, TT.ren_setF σ v f]; cases t <;> rfl
    · rw [TT.setF2, TT.setF2, TT.ren, TT.ren_setF σ v f]; cases t <;> rfl
theorem ofL_ren {σ : Nat → Nat} : ∀ {l : List (Nat × AV)}, allL (fun _ v => v.ren σ = v) l → (ofL l).ren σ = ofL l
  | [], _ => rfl
  | (d, v) :: l, h => by
    show (TT.setF (some v) (d + 1) (ofL l) d).ren σ = TT.setF (some v) (d + 1) (ofL l) d
    rw [TT.ren_setF, ofL_ren h.2, Option.map_some, h.1]
theorem lpO_ren {σ : Nat → Nat} {n p dn : Nat} {l : List (Nat × AV)} {ags bd : Code} {st : LoopState} {j : Option Code} (h : allL (fun _ v => v.ren σ = v) l) (hd : σ dn = dn) : (lpO n p dn l ags bd st j).ren σ = lpO n p dn l ags bd st j := by
  unfold lpO
  rw [AObj.ren, ofL_ren h, hd]
theorem lookM_mem {x : Nat} {o : AObj} : ∀ {l : List (Nat × Option AObj)}, lookM l x = some o → x ∈ l.map (·.1)
  | [], h => by cases h
  | (d, v) :: l, h => by
    rw [lookM, Bool.cond_eq_ite] at h
    split at h
    · rename_i e
      have e' : x = d := by simpa using e
      simp [e']
    · exact List.mem_cons_of_mem _ (lookM_mem h)
theorem rt_goD {P : Program} [Tab P] {fl d n c : Nat} {l : List (Nat × AV)} {m : List (Nat × Option AObj)} {rs : List ResultVar} {vs : List AV} {Qf : AV → T AObj → Nat → Prop} (hd : lookM m d = some .dfr) (hf : Nat.ble fl d = true) (h : ressL P l ((d, some .dfrDone) :: m) rs = some vs) (hq : Qf (retV vs) (ofM ((d, some .dfrDone) :: m)) c) : rtQ P fl rs Qf .ret (stL n [d] l m c) := by
  have h0 := (rt_go (P := P) (fl := fl) (n := n) (c := c) (Qf := Qf) h hq).go
  obtain ⟨H', v, h1, h2, h3⟩ := h0
  cases h1
  refine ⟨⟨ofM ((d, some .dfrDone) :: m), v, ?_, h2, h3⟩⟩
  show leaveA fl (ofM m) [d] = _
  simp only [leaveA, ofM_get, hd, hf, cond_true]
  rfl
theorem lookM_append {x : Nat} {o : AObj} : ∀ {a b : List (Nat × Option AObj)}, lookM (a ++ b) x = some o → lookM a x = some o ∨ lookM b x = some o
  | [], b, h => .inr h
  | (d, v) :: a, b, h => by
    rw [List.cons_append, lookM, Bool.cond_eq_ite] at h
    rw [lookM, Bool.cond_eq_ite]
    split
    · rename_i e; rw [if_pos e] at h; exact .inl h
    · rename_i e; rw [if_neg e] at h; exact lookM_append h
def keepN (T : List Nat) (c x : Nat) : Nat := if x ∈ T ∨ x = c + 1 then x else c + 2 + x
section
variable {P : Program} {ρ : Rho} {fl cb c cc n p : Nat} {w : World} {l lC : List (Nat × AV)} {ags bd : Code} {m memT : List (Nat × Option AObj)}
variable {σ : Type} {M : σ → List (Nat × Option AObj)} {ok : σ → List AV → Prop} {stp : σ → List AV → σ × Option Code}
theorem Tr.range [hP : PG P 0] {room : Nat → σ → Prop} {hroom : ∀ k s args, room (k + 1) s → (stp s args).2 = none → room k (stp s args).1} {g : Operand} {gf flT flC : Nat} {first cap : List AV} {T NC : List Nat} {s0 : σ} {R : AV → List (Nat × Option AObj) → σ × Option Code → Prop} {Q : AExit → St → Prop}
    (hg : operandL 0 l g = some (.fn gf first cap)) (hpn : Nat.blt p n = true) (hflcb : fl ≤ cb) (hcbc : cb ≤ flC) (hflC : flC ≤ c) (hflT : fl ≤ flT) (hcc : c + 2 ≤ cc)
    (hT : allM (fun x o => x ∈ T ∧ lookM m x = some o ∧ o.ren (keepN T c) = o) memT) (hTo : ∀ x ∈ T, x < c ∧ ∃ o, lookM m x = some o ∧ (flT ≤ x → o.share = none)) (ha : AV.rens (keepN T c) (first ++ [.yld (c + 1)] ++ cap) = first ++ [.yld (c + 1)] ++ cap)
    (hl : allL (fun t v => look l t = some v ∧ v.ren (keepN NC c) = v) lC)
    (hM : allM (fun y o => y ∈ NC ∧ (y = c ∧ o = .dfr ∨ lookM m y = some o ∧ y < c) ∧ o.ren (keepN NC c) = o) (M s0)) (hN : ∀ y ∈ NC, y = c ∨ (flC ≤ y ∧ y < c ∧ y ∉ T ∧ ∃ o, lookM m y = some o ∧ o.share = none) ∨ (y < flC ∧ y < flT ∧ ∃ o, lookM m y = some o)) (hNc : c ∈ NC)
    (hMg : ∀ s y o, lookM (M s) y = some o → flC ≤ y ∧ y ≠ c + 1)
    (hrnd : RndOK 0 P flC (c + 2) cc (c + 1) c n p lC ags bd M ok stp)
    (hcall : ∀ (ρ0 : Rho) (lb : Nat) (h : flC ≤ c + 2), YldOK P (rndC 0 ρ0 lb flC (c + 2) cc (c + 1) c n p lC ags bd M ok stp room hroom h) → OkJ 0 P (rndC 0 ρ0 lb flC (c + 2) cc (c + 1) c n p lC ags bd M ok stp room hroom h) flT (c + 1) gf (first ++ [.yld (c + 1)] ++ cap) memT (c + 2) (s0, none) R)
    (hRl : ∀ v m' s', R v m' s' → lookM m' (c + 1) = none)
    (hQ : ∀ v m' s' j, R v m' (s', j) → match j with | none => Q .normal (stL n [c] l (m' ++ M s') cc) | some jc => Tr 0 P fl cb none jc (stL n [c] l (m' ++ M s') cc) Q) :
    Tr 0 P fl cb none (.rangeFunc g #[p] ags bd) (stL n [] l m c) Q := by
  refine ⟨fun ρ a w b k hs hc hr hb => ?_⟩
  cases b with
  | some _ => exact hb.elim
  | none =>
  have hgv := operand_sound (G := 0) hs.mem hs.env (x := g) (v := .fn gf first cap) (by rw [← hg]; exact operandL_eq _ _ _)
  simp only [VR] at hgv
  obtain ⟨fs, cs, hfs, hcs, hgv⟩ := hgv
  refine wpIn_rangeFunc fun fn _ => ?_
  rw [FR_round]
  have hmem : Holds 0 ρ (ofM m) c w := hs.mem
  have hent : ∃ (q : Win) (mark : List Deferred) (w1 : World) (ρ1 : Rho), (Instr.enterLoop fn a.tmps #[p] ags bd none).run P w = .ok (q.b, mark) w1 ∧ ρ1 (c + 1) = some q ∧ Holds 0 ρ1 (ofM ((c + 1, some (lpO n p c lC ags bd .ready none)) :: (c, some .dfr) :: m)) (c + 2) w1 ∧ Ext ρ ρ1 fl w c (c + 2) ∧ Fr ρ fl w w1 ∧
      DefR ρ1 [c] (mark ++ a.defers) ∧ w.heap.size ≤ q.b := by
    have hc0 := hmem.fresh c (Nat.le_refl _)
    have A1 := hmem.alloc 0 (.deferred (some [])) .dfr alloc_new
    have e1 : Ext ρ (upd ρ c ⟨w.heap.size, 0, 0⟩) fl w c (c + 1) := .upd hc0
    have hsz : (w.alloc (.deferred (some []))).heap.size = w.heap.size + 1 := by simp
    have hc1 := A1.fresh (c + 1) (Nat.le_refl _)
    have henv : EnvR ρ (ofL lC) n a.tmps := ⟨hs.env.1, fun t v ht => hs.env.2 t v (by
      show (ofL l).get t = _
      rw [ofL_get]
      exact (allL_look hl t v (by rw [← ofL_get]; exact ht)).1)⟩
    have A2 := A1.alloc 0 (.loop { state := .ready, pending := none, fn := fn, tmps := a.tmps, params := #[p], assign := ags, body := bd, defers := w.heap.size }) (lpO n p c lC ags bd .ready none)
      ⟨fn, a.tmps, w.heap.size, by rw [alloc_new], (henv.mono e1.le).mono (upd_le hc1), ⟨w.heap.size, 0, 0⟩, upd_le hc1 _ _ (upd_same _ _ _), rfl⟩
    have e2 : Ext (upd ρ c ⟨w.heap.size, 0, 0⟩) (upd (upd ρ c ⟨w.heap.size, 0, 0⟩) (c + 1) ⟨(w.alloc (.deferred (some []))).heap.size, 0, 0⟩) fl (w.alloc (.deferred (some []))) (c + 1) (c + 1 + 1) := .upd hc1
    refine ⟨⟨w.heap.size + 1, 0, 0⟩, _, _, _, run_enterLoop_outer _ _ _ _ _, by rw [← hsz]; exact upd_same _ _ _, A2, e1.trans (by simp) e2, (Fr.alloc ρ fl w _).trans e1 (Fr.alloc _ fl _ _), ?_, by show w.heap.size ≤ w.heap.size + 1; omega⟩
    exact ⟨⟨w.heap.size, 0, 0⟩, a.defers, upd_le hc1 _ _ (upd_same _ _ _), rfl, (hs.dfs.mono e1.le).mono (upd_le hc1)⟩
  obtain ⟨q, mark, w1, ρ1, hrun, hql, hH1, he1, hf1, hd1, hqn⟩ := hent
  have hlow : ∀ x, x < c → ρ1 x = ρ x := fun x hx => by
    cases h : ρ x with
    | some t => exact he1.le x t h
    | none =>
      cases h1 : ρ1 x with
      | none => rfl
      | some t => have := he1.low x t h h1; omega
  have hnone : ∀ x, c + 2 ≤ x → ρ1 x = none := hH1.fresh
  have hget : ∀ x o, x < c → lookM m x = some o → (ofM ((c + 1, some (lpO n p c lC ags bd .ready none)) :: (c, some .dfr) :: m)).get x = some o := fun x o hx ho => by
    rw [ofM_get, lookM, lookM, Bool.cond_eq_ite, if_neg (by simp; omega), Bool.cond_eq_ite, if_neg (by simp; omega)]
    exact ho
  have hgetc : (ofM ((c + 1, some (lpO n p c lC ags bd .ready none)) :: (c, some .dfr) :: m)).get c = some .dfr := by
    rw [ofM_get, lookM, lookM, Bool.cond_eq_ite, if_neg (by simp), Bool.cond_eq_ite, if_pos (by simp)]
  have hgetl : (ofM ((c + 1, some (lpO n p c lC ags bd .ready none)) :: (c, some .dfr) :: m)).get (c + 1) = some (lpO n p c lC ags bd .ready none) := by
    rw [ofM_get, lookM, Bool.cond_eq_ite, if_pos (by simp)]
  -- what the iterator finds
  have kT : ∀ x t, ρ1 (keepN T c x) = some t → (x ∈ T ∨ x = c + 1) ∧ ρ1 x = some t := fun x t h => by
    unfold keepN at h
    split at h
    · exact ⟨by assumption, h⟩
    · rw [hnone _ (by omega)] at h; cases h
  have kC : ∀ x t, ρ1 (keepN NC c x) = some t → (x ∈ NC ∨ x = c + 1) ∧ ρ1 x = some t := fun x t h => by
    unfold keepN at h
    split at h
    · exact ⟨by assumption, h⟩
    · rw [hnone _ (by omega)] at h; cases h
  have hHT : Holds 0 (fun x => ρ1 (keepN T c x)) (ofM memT) (c + 2) w1 := by
    refine hH1.ren (keepN T c) (fun x o hx => ?_) (fun x y o o' hx hy hxy => ?_) (fun x hx => ?_) (fun g hg => by omega)
    · obtain ⟨h1, h2, h3⟩ := allM_look hT x o (by rw [← ofM_get]; exact hx)
      rw [h3, show keepN T c x = x from if_pos (.inl h1)]
      exact hget x o (hTo x h1).1 h2
    · have h1 := (allM_look hT x o (by rw [← ofM_get]; exact hx)).1
      have h2 := (allM_look hT y o' (by rw [← ofM_get]; exact hy)).1
      rw [show keepN T c x = x from if_pos (.inl h1), show keepN T c y = y from if_pos (.inl h2)]
      exact .inl hxy
    · unfold keepN
      split
      · exact hx
      · omega
  -- what the rounds find
  have hobjC : ∀ x o, (ofM ((c + 1, some (lpO n p c lC ags bd .ready none)) :: M s0)).get x = some o → (x ∈ NC ∨ x = c + 1) ∧ (ofM ((c + 1, some (lpO n p c lC ags bd .ready none)) :: (c, some .dfr) :: m)).get x = some o ∧ (x ≠ c + 1 → o.ren (keepN NC c) = o) := fun x o hx => by
    rw [ofM_get, lookM, Bool.cond_eq_ite] at hx
    split at hx
    · rename_i e
      have e' : x = c + 1 := by simpa using e
      subst e'
      cases hx
      exact ⟨.inr rfl, hgetl, fun h => absurd rfl h⟩
    · obtain ⟨h1, h2, h3⟩ := allM_look hM x o hx
      refine ⟨.inl h1, ?_, fun _ => h3⟩
      rcases h2 with ⟨rfl, rfl⟩ | ⟨h2, h4⟩
      · exact hgetc
      · exact hget x o h4 h2
  have hHC : Holds 0 (fun x => ρ1 (keepN NC c x)) (ofM ((c + 1, some (lpO n p c lC ags bd .ready none)) :: M s0)) cc w1 := by
    have kk : ∀ x, x ∈ NC ∨ x = c + 1 → keepN NC c x = x := fun x h => if_pos h
    refine ⟨fun x o hx => ?_, fun x y o o' t t' hxy hx hy ht ht' => ?_, fun x hx => ?_, fun x t ht => hH1.lt _ t ht, fun g hg => by omega⟩
    · obtain ⟨h1, h2, h3⟩ := hobjC x o hx
      obtain ⟨t, h4, h5⟩ := hH1.obj x o h2
      refine ⟨t, by show ρ1 (keepN NC c x) = _; rw [kk x h1]; exact h4, ?_⟩
      by_cases e : x = c + 1
      · subst e
        rw [hgetl] at h2
        cases h2
        obtain ⟨f0, t0, d0, g1, g2, ⟨q0, g3, g4⟩⟩ := h5
        refine ⟨f0, t0, d0, g1, ⟨g2.1, fun tt vv hv => ⟨(g2.2 tt vv hv).1, ?_⟩⟩, ⟨q0, by show ρ1 (keepN NC c c) = _; rw [kk c (.inl hNc)]; exact g3, g4⟩⟩
        have := (g2.2 tt vv hv).2
        rw [← (allL_look hl tt vv (by rw [← ofL_get]; exact hv)).2] at this
        exact (VR_ren ρ1 (keepN NC c) vv _).1 this
      · rw [← h3 e] at h5
        exact (ObjR_ren ρ1 (keepN NC c) w1 t o).1 h5
    · obtain ⟨h1, h2, _⟩ := hobjC x o hx
      obtain ⟨h3, h4, _⟩ := hobjC y o' hy
      exact hH1.sep x y o o' t t' hxy h2 h4 (kC x t ht).2 (kC y t' ht').2
    · show ρ1 (keepN NC c x) = none
      have hx' : cc ≤ x := hx
      unfold keepN
      split
      · exact hnone x (by omega)
      · exact hnone _ (by omega)
  have hcb2 : flC ≤ c + 2 := by omega
  have hNo : ∀ y, flC ≤ y → y ∈ NC ∨ y = c + 1 → y ∉ T ∧ ∃ o, (ofM ((c + 1, some (lpO n p c lC ags bd .ready none)) :: (c, some .dfr) :: m)).get y = some o ∧ o.share = none := fun y hfy hy => by
    rcases hy with hy | rfl
    · rcases hN y hy with rfl | ⟨h1, h2, h3, o, h4, h5⟩ | ⟨h1, _⟩
      · exact ⟨fun h => by have := (hTo _ h).1; omega, _, hgetc, rfl⟩
      · exact ⟨h3, o, hget y o h2 h4, h5⟩
      · omega
    · exact ⟨fun h => by have := (hTo _ h).1; omega, _, hgetl, rfl⟩
  have hbes : Beside (rndC 0 (fun x => ρ1 (keepN NC c x)) q.b flC (c + 2) cc (c + 1) c n p lC ags bd M ok stp room hroom hcb2) (fun x => ρ1 (keepN T c x)) (c + 1) flT (fun b => ∃ x t, flC ≤ x ∧ ρ1 (keepN NC c x) = some t ∧ t.b = b) (s0, none) w1 := by
    refine ⟨⟨⟨fun x => ρ1 (keepN NC c x), fun _ _ => rfl, hHC, fun x t hx ht => ⟨x, t, hx, ht, rfl⟩⟩, fun b hb => ?_⟩, fun x t hx ht hf => ?_, fun x t hx ht hf => ?_, ⟨q, by show ρ1 (keepN T c (c + 1)) = _; rw [show keepN T c (c + 1) = c + 1 from if_pos (.inr rfl)]; exact hql, rfl⟩⟩
    · rcases hb with ⟨x, t, _, ht, rfl⟩ | ⟨x, t, _, ht, rfl⟩
      · exact hH1.lt _ t ht
      · exact hH1.lt _ t ht
    · obtain ⟨y, t', hy, ht', hb'⟩ := hf
      obtain ⟨h1, h2⟩ := kT x t ht
      obtain ⟨h3, h4⟩ := kC y t' ht'
      have hxT : x ∈ T := h1.resolve_right hx
      obtain ⟨g2, oy, g3, g4⟩ := hNo y hy h3
      obtain ⟨hxc, ox, hox, _⟩ := hTo x hxT
      have hxy : x ≠ y := fun e => g2 (e ▸ hxT)
      have := (hH1.sep x y ox oy t t' hxy (hget x ox hxc hox) g3 h2 h4 hb'.symm).ro.2
      unfold AObj.isRo at this
      rw [g4] at this
      simp at this
    · obtain ⟨y, t', hy, ht', hb'⟩ := hf
      obtain ⟨h1, h2⟩ := kT x t ht
      obtain ⟨h3, h4⟩ := kC y t' ht'
      have hyN : y ∈ NC := h3.resolve_right (by omega)
      rcases hN y hyN with rfl | ⟨g1, _⟩ | ⟨g1, g2, oy, g3⟩
      · omega
      · omega
      · have hyo := hget y oy (by omega) g3
        have hxo : ∃ ox, (ofM ((c + 1, some (lpO n p c lC ags bd .ready none)) :: (c, some .dfr) :: m)).get x = some ox ∧ ox.share = none := by
          rcases h1 with h1 | rfl
          · obtain ⟨hxc, ox, hox, hs⟩ := hTo x h1
            exact ⟨ox, hget x ox hxc hox, hs hx⟩
          · exact ⟨_, hgetl, rfl⟩
        obtain ⟨ox, hox, hxs⟩ := hxo
        have := (hH1.sep x y ox oy t t' (by omega) hox hyo h2 h4 hb'.symm).ro.1
        unfold AObj.isRo at this
        rw [hxs] at this
        simp at this
  have hY := rnd_yld (cap := room) (hcap := hroom) (P := P) (G := 0) (ρ0 := fun x => ρ1 (keepN NC c x)) (lb := q.b) hcb2 (Nat.zero_le _) (by omega) (by omega) ⟨q, by show ρ1 (keepN NC c (c + 1)) = _; rw [show keepN NC c (c + 1) = c + 1 from if_pos (.inr rfl)]; exact hql, rfl⟩ hpn hrnd hcc
  have hok := hcall _ _ hcb2 hY
  have hres : (resolve a.eval (rangeCall g q.b) 0).run P w1 = .ok { target := .fn (.func gf) cs.toArray, args := fs.toArray ++ #[.func (.yield q.b) #[] #[]] } w1 := by
    have hm : Array.map a.eval #[Operand.const (Value.func (.yield q.b) #[] #[])] = #[Value.func (.yield q.b) #[] #[]] := by simp [Act.eval]
    simp only [resolve, hgv, Deferred.ofValue, hm]
    rfl
  have hargs : VRs ρ1 (first ++ [.yld (c + 1)] ++ cap) (fs ++ [.func (.yield q.b) #[] #[]] ++ cs) :=
    ((hfs.mono he1.le).append (.cons (by simp only [VR]; exact ⟨q, hql, rfl⟩) .nil)).append (hcs.mono he1.le)
  have hargsT := (VRs_ren ρ1 (keepN T c) (first ++ [.yld (c + 1)] ++ cap) _).1 (by rw [ha]; exact hargs)
  refine ⟨q.b, mark, w1, _, w1, gf, (fs ++ [Value.func (.yield q.b) #[] #[]] ++ cs).toArray, w1, hrun, hres, (fun f' _ => FR_fn none f'), ?_, (fun h => by rw [FR_depth] at h; cases h), ?_⟩
  · simp only [invoke]
    rw [show (fs ++ [Value.func (.yield q.b) #[] #[]] ++ cs).toArray = fs.toArray ++ #[.func (.yield q.b) #[] #[]] ++ cs.toArray by simp]
    exact hok.enter _ _
  · refine (hok.run _ w1 _ _ hHT hargsT hbes none (k - 1)).mono fun e2 w2 h2 => ?_
    obtain ⟨u, v, m', ⟨s', j⟩, F', rfl, hR, hvu, hH', hfr, hb', hFF⟩ := h2
    obtain ⟨⟨ρ', r1, r2, r3⟩, r4⟩ := hb'.j
    have hl4 : (ofM ((c + 1, some (lpO n p c lC ags bd (lpS j) j)) :: M s')).get (c + 1) = some (lpO n p c lC ags bd (lpS j) j) := by rw [ofM_get, lookM]; simp
    have hq' : ρ' (c + 1) = some q := by
      rw [r1 (c + 1) (by omega)]
      show ρ1 (keepN NC c (c + 1)) = _
      rw [show keepN NC c (c + 1) = c + 1 from if_pos (.inr rfl)]; exact hql
    obtain ⟨q3, hq3, fn3, tmps3, d3, hh3, henv3, hdn3⟩ := r2.obj (c + 1) _ hl4
    rw [hq'] at hq3
    cases hq3
    have hne : lpS j ≠ .busy := by cases j <;> simp [lpS]
    obtain ⟨g1, g2⟩ := put_write (fl := flC) (ob := .loop { state := .exhausted, pending := j, fn := fn3, tmps := tmps3, params := [p].toArray, assign := ags, body := bd, defers := d3 })
      (o' := lpO n p c lC ags bd .exhausted j) r2 hl4 rfl hq' (by omega) ⟨fn3, tmps3, d3, World.putObj_heap_same (obj_lt hh3), henv3, hdn3⟩
    refine ⟨j, _, run_endLoop hh3 hne, ?_⟩
    -- all names again
    have hT1 : ∀ x t, ρ1 (keepN T c x) = some t → x < c + 2 ∧ ρ1 x = some t := fun x t h => by
      obtain ⟨h1, h2⟩ := kT x t h
      refine ⟨?_, h2⟩
      rcases h1 with h1 | rfl
      · have := (hTo x h1).1; omega
      · omega
    have hC1 : ∀ x t, x < c + 2 → ρ' x = some t → ρ1 x = some t := fun x t hx h => by
      rw [r1 x hx] at h
      exact (kC x t h).2
    have hgen : ∀ x t, fl ≤ x → ρ1 x = some t → w.heap.size ≤ t.b ∨ ∃ y t', fl ≤ y ∧ ρ y = some t' ∧ t'.b = t.b := fun x t hx ht => by
      cases h : ρ x with
      | some t0 =>
        have := he1.le x t0 h
        rw [ht] at this
        cases this
        exact .inr ⟨x, t, hx, h, rfl⟩
      | none => exact he1.new x t h ht
    have hsz : ∀ (o : Obj), (w2.putObj q.b o).heap.size = w2.heap.size := fun o => by simp
    have hg : ∀ x o, x ≠ c + 1 → lookM (M s') x = some o → ((ofM ((c + 1, some (lpO n p c lC ags bd (lpS j) j)) :: M s')).set (c + 1) (lpO n p c lC ags bd .exhausted j)).get x = some o := fun x o hx ho => by
      rw [Go.Ev.T.get_set, if_neg hx, ofM_get, lookM, Bool.cond_eq_ite, if_neg (by simpa using hx)]
      exact ho
    have hnew : Holds 0 (fun x => if x < c + 2 then ρ1 x else ρ' x) (ofM (m' ++ M s')) cc (w2.putObj q.b (.loop { state := .exhausted, pending := j, fn := fn3, tmps := tmps3, params := [p].toArray, assign := ags, body := bd, defers := d3 })) := by
      have leT : RLe (fun x => ρ1 (keepN T c x)) (fun x => if x < c + 2 then ρ1 x else ρ' x) := fun x t h => by
        obtain ⟨h1, h2⟩ := hT1 x t h
        show (if x < c + 2 then ρ1 x else ρ' x) = _
        rw [if_pos h1]; exact h2
      have leC : RLe ρ' (fun x => if x < c + 2 then ρ1 x else ρ' x) := fun x t h => by
        show (if x < c + 2 then ρ1 x else ρ' x) = _
        split
        · exact hC1 x t (by assumption) h
        · exact h
      have hT2 : ∀ x o, lookM m' x = some o → ∃ t, ρ1 (keepN T c x) = some t ∧ ObjR (fun x => ρ1 (keepN T c x)) w2 t o ∧ x ≠ c + 1 ∧ ¬ F' t.b := fun x o ho => by
        obtain ⟨t, h1, h2⟩ := hH'.obj x o (by rw [ofM_get]; exact ho)
        have hx : x ≠ c + 1 := fun e => by rw [e, hRl v m' _ hR] at ho; cases ho
        exact ⟨t, h1, h2, hx, hb'.d x t hx h1⟩
      have hC2 : ∀ x o, lookM (M s') x = some o → ∃ t, ρ' x = some t ∧ ObjR ρ' (w2.putObj q.b (.loop { state := .exhausted, pending := j, fn := fn3, tmps := tmps3, params := [p].toArray, assign := ags, body := bd, defers := d3 })) t o ∧ x ≠ c + 1 ∧ F' t.b := fun x o ho => by
        obtain ⟨h3, h4⟩ := hMg s' x o ho
        obtain ⟨t, h1, h2⟩ := g1.obj x o (hg x o h4 ho)
        exact ⟨t, h1, h2, h4, r3 x t h3 h1⟩
      refine ⟨fun x o hx => ?_, fun x y o o' t t' hxy hx hy ht ht' hb => ?_, fun x hx => ?_, fun x t ht => ?_, fun g hg => by omega⟩
      · rw [ofM_get] at hx
        rcases lookM_append hx with hx | hx
        · obtain ⟨t, h1, h2, h3, h4⟩ := hT2 x o hx
          have : t.b ≠ q.b := fun e => h4 (e ▸ r3 (c + 1) q (by omega) hq')
          exact ⟨t, leT x t h1, (h2.mono leT).world (World.putObj_heap_other this)⟩
        · obtain ⟨t, h1, h2, _⟩ := hC2 x o hx
          exact ⟨t, leC x t h1, h2.mono leC⟩
      · rw [ofM_get] at hx hy
        rcases lookM_append hx with hx | hx <;> rcases lookM_append hy with hy | hy
        · obtain ⟨t1, h1, _⟩ := hT2 x o hx
          obtain ⟨t2, h2, _⟩ := hT2 y o' hy
          obtain rfl : t = t1 := Option.some.inj (ht.symm.trans (leT x t1 h1))
          obtain rfl : t' = t2 := Option.some.inj (ht'.symm.trans (leT y t2 h2))
          exact hH'.sep x y o o' t t' hxy (by rw [ofM_get]; exact hx) (by rw [ofM_get]; exact hy) h1 h2 hb
        · obtain ⟨t1, h1, _, _, h3⟩ := hT2 x o hx
          obtain ⟨t2, h2, _, _, h4⟩ := hC2 y o' hy
          obtain rfl : t = t1 := Option.some.inj (ht.symm.trans (leT x t1 h1))
          obtain rfl : t' = t2 := Option.some.inj (ht'.symm.trans (leC y t2 h2))
          exact absurd (hb ▸ h4) h3
        · obtain ⟨t1, h1, _, _, h3⟩ := hC2 x o hx
          obtain ⟨t2, h2, _, _, h4⟩ := hT2 y o' hy
          obtain rfl : t = t1 := Option.some.inj (ht.symm.trans (leC x t1 h1))
          obtain rfl : t' = t2 := Option.some.inj (ht'.symm.trans (leT y t2 h2))
          exact absurd (hb ▸ h3) h4
        · obtain ⟨t1, h1, _, n1, _⟩ := hC2 x o hx
          obtain ⟨t2, h2, _, n2, _⟩ := hC2 y o' hy
          obtain rfl : t = t1 := Option.some.inj (ht.symm.trans (leC x t1 h1))
          obtain rfl : t' = t2 := Option.some.inj (ht'.symm.trans (leC y t2 h2))
          exact g1.sep x y o o' t t' hxy (hg x o n1 hx) (hg y o' n2 hy) h1 h2 hb
      · have hx' : cc ≤ x := hx
        show (if x < c + 2 then ρ1 x else ρ' x) = none
        rw [if_neg (by omega)]
        exact r2.fresh x hx
      · replace ht : (if x < c + 2 then ρ1 x else ρ' x) = some t := ht
        split at ht
        · exact Nat.lt_of_lt_of_le (hH1.lt x t ht) (by rw [hsz]; exact hfr.size)
        · exact g1.lt x t ht
    have hE : ExtB ρ (fun x => if x < c + 2 then ρ1 x else ρ' x) fl cb w := by
      have hc' : cb ≤ c := by omega
      refine ⟨fun x hx => ?_, fun x t hx ht => ?_⟩
      · show (if x < c + 2 then ρ1 x else ρ' x) = _
        rw [if_pos (by omega)]
        exact hlow x (by omega)
      · replace ht : (if x < c + 2 then ρ1 x else ρ' x) = some t := ht
        split at ht
        · exact hgen x t hx ht
        · rcases hFF t.b (r3 x t (by omega) ht) with ⟨y, t', hy, ht', hb⟩ | h
          · rw [← hb]; exact hgen y t' (by omega) (kC y t' ht').2
          · exact .inl (Nat.le_trans hf1.size h)
    have hF : Fr ρ fl w (w2.putObj q.b (.loop { state := .exhausted, pending := j, fn := fn3, tmps := tmps3, params := [p].toArray, assign := ags, body := bd, defers := d3 })) := by
      refine ⟨hfr.os.trans hf1.os, hfr.tape.trans hf1.tape, hfr.output.trans hf1.output, by rw [hsz]; exact Nat.le_trans hf1.size hfr.size, fun b hb hn => ?_⟩
      have hno : ∀ x t, fl ≤ x → ρ1 x = some t → t.b ≠ b := fun x t hx ht e => by
        rcases hgen x t hx ht with h | ⟨y, t', hy, ht', hbb⟩
        · omega
        · exact hn y t' hy ht' (hbb.trans e)
      rw [World.putObj_heap_other (show b ≠ q.b by omega), hfr.keep b (Nat.lt_of_lt_of_le hb hf1.size) (fun x t hx ht => hno x t (by omega) (kT x t ht).2) fun ⟨y, t', hy, ht', hbb⟩ => hno y t' (by omega) (kC y t' ht').2 hbb]
      exact hf1.keep b hb hn
    have le1 : RLe ρ1 (fun x => if x < c + 2 then ρ1 x else ρ' x) := fun x t h => by
      show (if x < c + 2 then ρ1 x else ρ' x) = _
      have : x < c + 2 := by
        rcases Nat.lt_or_ge x (c + 2) with h1 | h1
        · exact h1
        · rw [hnone x h1] at h; cases h
      rw [if_pos this]; exact h
    have hsr : SR 0 (fun x => if x < c + 2 then ρ1 x else ρ' x) (stL n [c] l (m' ++ M s') cc) { a with defers := mark ++ a.defers } (w2.putObj q.b (.loop { state := .exhausted, pending := j, fn := fn3, tmps := tmps3, params := [p].toArray, assign := ags, body := bd, defers := d3 })) :=
      ⟨(hs.env.mono he1.le).mono le1, hnew, hd1.mono le1⟩
    have hcc' : cb ≤ (stL n [c] l (m' ++ M s') cc).c := by show cb ≤ cc; omega
    have hq2 := hQ v m' s' j hR
    cases j with
    | none => exact ⟨.normal, _, _, rfl, hq2, hsr, hcc', hE, hF⟩
    | some jc => exact wpIn_mono (Tr.run hq2 _ _ _ none k hsr hcc' hr trivial) fun _ _ _ hp => hp.trans hE hF
theorem OkJ.mono {G : Nat} {C : Cons} {fl lo f : Nat} {args : List AV} {m : List (Nat × Option AObj)} {c : Nat} {s : C.γ} {R R' : AV → List (Nat × Option AObj) → C.γ → Prop} (h : OkJ G P C fl lo f args m c s R) (hr : ∀ v m' s', R v m' s' → R' v m' s') : OkJ G P C fl lo f args m c s R' :=
  ⟨h.enter, fun ρ w F us h1 h2 h3 r n => (h.run ρ w F us h1 h2 h3 r n).mono fun e w' ⟨u, v, m', s', F', g1, g2, g3⟩ => ⟨u, v, m', s', F', g1, hr _ _ _ g2, g3⟩⟩
end
end Go.Ev
/- Package claim: right. -/
namespace Go.Proofs.Ytlnmcadbmpiopaa
open Go Go.Ev
def foldS {σ : Type} (stp : σ → List AV → σ × Option Code) : σ × Option Code → List Tru → σ × Option Code
  | s, [] => s
  | s, t :: ts => if (stp s.1 [trV t]).2.isNone then foldS stp (stp s.1 [trV t]) ts else stp s.1 [trV t]
theorem foldC_cons (C : Cons) (s : C.γ) (t : Tru) (ts : List Tru) : foldC C s (t :: ts) = if (C.step s [trV t]).2 = true then foldC C (C.step s [trV t]).1 ts else ((C.step s [trV t]).1, false) := rfl
theorem foldC_rnd {σ : Type} {M : σ → List (Nat × Option AObj)} {ok : σ → List AV → Prop} {stp : σ → List AV → σ × Option Code} {ρ0 : Rho} {lb fl cb cc lo dn n p : Nat} {l : List (Nat × AV)} {ac bd : Code} {cap : Nat → σ → Prop} {hcap : ∀ k s args, cap (k + 1) s → (stp s args).2 = none → cap k (stp s args).1} {h : fl ≤ cb} : ∀ (ts : List Tru) (s : σ × Option Code),
    (foldC (rndC 0 ρ0 lb fl cb cc lo dn n p l ac bd M ok stp cap hcap h) s ts).1 = foldS stp s ts
  | [], s => rfl
  | t :: ts, s => by
    rw [show foldC (rndC 0 ρ0 lb fl cb cc lo dn n p l ac bd M ok stp cap hcap h) s (t :: ts) = _ from foldC_cons _ _ _ _, foldS]
    by_cases hh : (stp s.1 [trV t]).2.isNone = true
    · have h2 : ((rndC 0 ρ0 lb fl cb cc lo dn n p l ac bd M ok stp cap hcap h).step s [trV t]).2 = true := hh
      rw [if_pos h2, if_pos hh]
      exact foldC_rnd ts _
    · have h2 : ¬ ((rndC 0 ρ0 lb fl cb cc lo dn n p l ac bd M ok stp cap hcap h).step s [trV t]).2 = true := hh
      rw [if_neg h2, if_neg hh]
      rfl
theorem truths_ok {B : CBook} {C : Cons} {a1 a2 : AV} {lo p q : Nat} {L : List (Int × Int)} {m : List (Nat × Option AObj)} {c : Nat} {s : C.γ} (h : PbIn B a1 a2 p q m c) (hq : lookM m q = some (oMap B L)) (hlo : lookM m lo = none) (hok : stsOk B) (hw : weaOk B) (hck : cksOk B) (hY : YldOK Try.prog C) (hC : ∀ k s t, C.lv (k + 1) s → C.ok s [trV t]) (hl : C.lv (wths B 0).length s) (fl : Nat) (hfl : fl ≤ q) :
    OkJ 0 Try.prog C fl lo 88 [.ptr p 0, .yld lo] m c s fun v m' s' => ∃ ob, truR B C s v ob s' ∧ m' = (q, some ob) :: m := by
  have e0 : tau [0, 1, lo, p, q] c 0 = 0 := rfl
  have e1 : tau [0, 1, lo, p, q] c 1 = 1 := rfl
  have e2 : tau [0, 1, lo, p, q] c 2 = lo := rfl
  have e3 : tau [0, 1, lo, p, q] c 3 = p := rfl
  have e4 : tau [0, 1, lo, p, q] c 4 = q := rfl
  have ha : AV.rens (tau [0, 1, lo, p, q] c) [.ptr 3 0, .yld 2] = [.ptr p 0, .yld lo] := rfl
  rw [← ha]
  have low : ∀ {u : Nat} {ob : AObj}, lookM [(0, some (oSt B)), (1, some (oCk B)), (3, some (.cells (pbC B a1 a2 4))), (4, some (oMap B L))] u = some ob → u = 0 ∨ u = 1 ∨ u = 3 ∨ u = 4 := fun {u ob} hz => by
    simp only [lookM, Bool.cond_eq_ite, Nat.beq_eq] at hz
    by_cases g : u = 0 ∨ u = 1 ∨ u = 3 ∨ u = 4
    · exact g
    · exfalso
      rw [if_neg (by omega), if_neg (by omega), if_neg (by omega), if_neg (by omega)] at hz
      cases hz
  have hobj : ∀ u o, lookM [(0, some (oSt B)), (1, some (oCk B)), (3, some (.cells (pbC B a1 a2 4))), (4, some (oMap B L))] u = some o → lookM m (tau [0, 1, lo, p, q] c u) = some (o.ren (tau [0, 1, lo, p, q] c)) := fun u o hu => by
    rcases low hu with rfl | rfl | rfl | rfl
    · cases hu; rw [e0, ren_ro]; exact h.m1
    · cases hu; rw [e1, ren_ro]; exact h.m2
    · cases hu
      have : (AObj.cells (pbC B a1 a2 4)).ren (tau [0, 1, lo, p, q] c) = .cells (pbC B a1 a2 q) := by simp only [pbC, AObj.ren, AV.ren, AV.rens, h.h1.ren e0, h.h2.ren e1, e4]
      rw [e3, this]; exact h.m3
    · cases hu; rw [e4, ren_mapA]; exact hq
  refine CanJ.write (o0 := oMap B L) (R := truR B C s) (truths_can B a1 a2 h.h1 h.h2 hok hw hck C hY hC L s hl) (fun v ob s' ⟨L', h1, _, h3⟩ => by subst h1 h3; exact ⟨fun _ => rfl, ren_mapA _ _, rfl⟩) (tau [0, 1, lo, p, q] c) (Nat.zero_le _) (fun g hg => by omega) (fun u hu => by rw [tau_ge hu]; omega) hobj (fun u u' o o' hu hu' hne => .inl fun e => ?_) rfl hfl rfl rfl (by decide) rfl (fun u hu e => ?_) hlo
  · have g1 := hobj u o hu
    have g2 := hobj u' o' hu'
    rw [e] at g1
    rw [g1] at g2
    rcases low hu with rfl | rfl | rfl | rfl <;> rcases low hu' with rfl | rfl | rfl | rfl <;> first | exact absurd rfl hne | exact absurd (show (0 : Nat) = 1 from e) (by decide) | exact absurd (show (1 : Nat) = 0 from e) (by decide) | (cases hu; cases hu'; simp [AObj.ren, AV.rens, AV.ren, pbC, oSt, oCk] at g2)
  · rcases (by omega : u = 0 ∨ u = 1 ∨ u = 2 ∨ u = 3 ∨ u = 4) with rfl | rfl | rfl | rfl | rfl
    · have := hobj 0 _ rfl; rw [e, hlo] at this; cases this
    · have := hobj 1 _ rfl; rw [e, hlo] at this; cases this
    · rfl
    · have := hobj 3 _ rfl; rw [e, hlo] at this; cases this
    · have := hobj 4 _ rfl; rw [e, hlo] at this; cases this
def rgM (s : Bool) : List (Nat × Option AObj) := [(4, some (.cells [.bool s])), (5, some .dfr)]
def rgS (_ : Bool) (_ : List AV) : Bool × Option Code := (true, some .ret)
def anyT {σ : Type} (_ : σ) (args : List AV) : Prop := ∃ t : Tru, args = [trV t]
end Go.Proofs.Ytlnmcadbmpiopaa
/- Lists that grow. -/
namespace Go.Ev
open Go
section
variable {P : Program} {fl c : Nat} {m : List (Nat × Option AObj)} {y y' z : Ty} {t t' : Nat} {x1 x2 : Operand}
theorem keptF [Tab P] {e : Nat} (h : ty P e = some z) (hk : z.kind = 3) : keptA P e = false := by
  obtain ⟨fs, h1, _⟩ := ty_struct h hk
  unfold keptA
  rw [h1]
theorem rowT [Tab P] {e : Nat} (h : ty P e = some z) (hz : (Nat.beq z.zero.cells.length z.size && Nat.ble 1 z.size) = true) : rowA P e 1 = some (zerosA z.zero.cells 1) := by
  simp only [rowA, ty_zero h, ty_size h, hz, cond_true]
theorem info_sz [Tab P] {e : Nat} (h : ty P e = some z) : ∃ i, P.info? e = some i ∧ i.bytes = z.bytes ∧ i.size = z.size := by
  obtain ⟨i, h1, h2⟩ := ty_bytes h
  have h3 := ty_size h
  unfold szOf at h3
  rw [h1] at h3
  exact ⟨i, h1, h2, by simpa using h3⟩
theorem S.append_nil [Tab P] {ats : Array Nat} {x : Nat} {news : List AV} (hat : ats.toList = [t, t']) (ht : ty P t = some y) (hk : y.kind = 5) (ht' : ty P t' = some y') (hk' : y'.kind = 5) (hz : ty P y.elem = some z) (hzk : z.kind = 3) (hzz : (Nat.beq z.zero.cells.length z.size && Nat.ble 1 z.size) = true)
    (hb : Nat.ble z.bytes 10000 = true) (ho : lookM m x = some (.cells news)) (hc : cut news 0 (1 * z.size) = some news) : OpE P fl (.call ⟨.builtin .append, #[x1, x2], ats⟩) [.nils, .sl x 0 1 1] m c (.gs c 1) ((c, some (.grown news z.size)) :: m) (c + 1) := by
  obtain ⟨i, h1, h2, h3⟩ := info_sz hz
  have hb' : z.bytes ≤ 10000 := Nat.le_of_ble_eq_true hb
  have hbb : (Nat.ble ((2 * (0 + 1) + 1000) * i.bytes) (2 ^ 48) && Nat.ble (0 + 1) (2 ^ 62)) = true := by
    rw [h2]
    simp only [Bool.and_eq_true, Nat.ble_eq]
    omega
  refine ⟨rfl, Nat.le_succ _, ?_⟩
  show opA P (ofM m) c fl _ _ = _
  simp only [opA, oCall, builtinA, hat, appendA, ty_slice ht hk, ty_slice ht' hk', h1, rowT hz hzz, sliceCells, getCells, ofM_get, ho, cellsOf, Option.bind_some, h3, hc, Option.map_some, show Nat.beq 1 0 = false from rfl, cond_false, hbb, cond_true, keptF hz hzk, growA]
  rfl
theorem S.append_gs [Tab P] {ats : Array Nat} {x a n : Nat} {olds news : List AV} (hat : ats.toList = [t, t']) (ht : ty P t = some y) (hk : y.kind = 5) (ht' : ty P t' = some y') (hk' : y'.kind = 5) (hz : ty P y.elem = some z) (hzk : z.kind = 3) (hzz : (Nat.beq z.zero.cells.length z.size && Nat.ble 1 z.size) = true)
    (hb : Nat.ble z.bytes 10000 = true) (ho : lookM m x = some (.cells news)) (hc : cut news 0 (1 * z.size) = some news) (ha : lookM m a = some (.grown olds z.size)) (hf : Nat.ble fl a = true) (hca : cut olds 0 (n * z.size) = some olds) (hn : n ≤ 1000000) (hone : news.all AV.one = true) :
    OpE P fl (.call ⟨.builtin .append, #[x1, x2], ats⟩) [.gs a n, .sl x 0 1 1] m c (.gs c (n + 1)) ((c, some (.grown (olds ++ news) z.size)) :: (a, none) :: m) (c + 1) := by
  obtain ⟨i, h1, h2, h3⟩ := info_sz hz
  have hb' : z.bytes ≤ 10000 := Nat.le_of_ble_eq_true hb
  have hbb : (Nat.ble ((2 * (n + 1) + 1000) * i.bytes) (2 ^ 48) && Nat.ble (n + 1) (2 ^ 62)) = true := by
    rw [h2]
    simp only [Bool.and_eq_true, Nat.ble_eq]
    refine ⟨?_, by omega⟩
    calc (2 * (n + 1) + 1000) * z.bytes ≤ 3000000 * 10000 := Nat.mul_le_mul (by omega) hb'
      _ ≤ 2 ^ 48 := by decide
  refine ⟨rfl, Nat.le_succ _, ?_⟩
  show opA P (ofM m) c fl _ _ = _
  simp only [opA, oCall, builtinA, hat, appendA, ty_slice ht hk, ty_slice ht' hk', h1, rowT hz hzz, sliceCells, getCells, ofM_get, ho, ha, cellsOf, Option.bind_some, h3, hc, hca, Option.map_some, show Nat.beq 1 0 = false from rfl, cond_false, hbb, cond_true, hf, hone, Nat.beq_refl, Bool.and_self]
  rfl
end
section
variable {G fl cb c n : Nat} {dfs : List Nat} {l : List (Nat × AV)} {m : List (Nat × Option AObj)}
theorem Wk.by {l2 : List (Nat × AV)} {m2 : List (Nat × Option AObj)} {c2 : Nat} (σ : Nat → Nat) (hcb : cb ≤ c2) (hG : G ≤ cb) (hf : fl ≤ cb)
    (hl : allL (fun t v => look l t = some (v.ren σ)) l2) (hm : allM (fun x o => lookM m (σ x) = some (o.ren σ)) m2) (hd : dfs = dfs.map σ)
    (hinj : ∀ x ∈ m2.map (·.1), ∀ y ∈ m2.map (·.1), x ≠ y → σ x ≠ σ y) (h1 : ∀ x, c2 ≤ x → c ≤ σ x) (h2 : ∀ x, x < cb → σ x = x) (h3 : ∀ x, cb ≤ x → cb ≤ σ x) : Wk G fl cb (stL n dfs l m c) (stL n dfs l2 m2 c2) := by
  refine ⟨⟨σ, fun t v ht => ?_, rfl, hd, fun x o hx => ?_, fun x y o o' hx hy hxy => ?_, h1, h2, h3⟩, hcb, hG, hf⟩
  · show (ofL l).get t = _
    rw [ofL_get]
    exact allL_look hl t v (by rw [← ofL_get]; exact ht)
  · show (ofM m).get _ = _
    rw [ofM_get]
    exact allM_look hm x o (by rw [← ofM_get]; exact hx)
  · exact .inl (hinj x (lookM_mem (by rw [← ofM_get]; exact hx)) y (lookM_mem (by rw [← ofM_get]; exact hy)) hxy)
end
end Go.Ev
/- Package claim: how many truths there are; prepare. -/
namespace Go.Proofs.Ytlnmcadbmpiopaa
open Go Go.Ev
theorem len_flatMap {α β : Type} {f : α → List β} {b : Nat} : ∀ {l : List α}, (∀ x ∈ l, (f x).length ≤ b) → (l.flatMap f).length ≤ l.length * b
  | [], _ => by simp
  | x :: l, h => by
    rw [List.flatMap_cons, List.length_append, List.length_cons, Nat.add_mul, Nat.one_mul, Nat.add_comm]
    exact Nat.add_le_add (len_flatMap fun y hy => h y (List.mem_cons_of_mem _ hy)) (h x List.mem_cons_self)
theorem ints_mem {a b x : Int} (h : x ∈ ints a b) : a ≤ x ∧ x ≤ b := by
  unfold ints at h
  obtain ⟨k, h1, rfl⟩ := List.mem_map.1 h
  have := List.mem_range.1 h1
  omega
theorem ints_len {a b : Int} : (ints a b).length = (b - a + 1).toNat := by simp [ints]
theorem sm_gap {B : CBook} (hok : stsOk B) {t : Tru} {i : Nat} (hi : i < B.ns) : smH B t i - smL B t i ≤ 3 := by
  obtain ⟨hn, hst⟩ := hok
  have hs := hst (i - 1) (by omega)
  have hs' := hst i hi
  unfold stOk at hs hs'
  unfold smL smH depL depH
  split <;> omega
theorem trs_len {B : CBook} (hok : stsOk B) : ∀ (k i : Nat) (t : Tru), i + k = B.ns → (trs B k i t).length ≤ 12 ^ k
  | 0, i, t, _ => by simp [trs]
  | k + 1, i, t, e => by
    have hs := hok.2 i (by omega)
    unfold stOk at hs
    have hg := sm_gap hok (t := t) (i := i) (by omega)
    have h1 : ∀ r, (innR B k i t r (smL B t i + r)).length ≤ 4 * 12 ^ k := fun r => by
      refine Nat.le_trans (len_flatMap (b := 12 ^ k) fun mi _ => ?_) (Nat.mul_le_mul_right _ ?_)
      · split
        · exact trs_len hok k (i + 1) _ (by omega)
        · exact Nat.zero_le _
      · rw [ints_len]; omega
    have h2 : (trs B (k + 1) i t).length ≤ 3 * (4 * 12 ^ k) := by
      refine Nat.le_trans (len_flatMap (b := 4 * 12 ^ k) fun r _ => h1 r) (Nat.mul_le_mul_right _ ?_)
      rw [ints_len]; omega
    rw [Nat.pow_succ]
    omega
theorem wths_len {B : CBook} (hok : stsOk B) : (wths B 0).length ≤ 5184 := by
  have h : ∀ k, (wth B k).length ≤ 1728 := fun k => by
    unfold wth
    cases dB (hasP B.wea k)
    · exact Nat.zero_le _
    · refine Nat.le_trans (trs_len hok B.ns 0 (tru0 k) (by omega)) ?_
      have hn := hok.1
      obtain h | h | h : B.ns = 1 ∨ B.ns = 2 ∨ B.ns = 3 := by omega
      all_goals (rw [h]; decide)
  have := len_flatMap (l := (List.range 3).drop 0) (f := wth B) (b := 1728) fun k _ => h k
  exact Nat.le_trans this (by decide)
theorem Check_ok {B : CBook} {a1 a2 : AV} {m : List (Nat × Option AObj)} {c : Nat} (h : BkIn B a1 a2 m c) (hn : B.ns ≤ 9223372036854775807) (hB : bkOk B) (fl : Nat) : OkAt 0 Try.prog fl 11 [bk B a1 a2] (ofM m) c (.int .i64 0) (ofM m) c := by
  have := Check_at h hn fl
  rwa [show ckV B = 0 by unfold ckV; rw [dB_tt hB]; rfl] at this
theorem Check_no {B : CBook} {a1 a2 : AV} {m : List (Nat × Option AObj)} {c : Nat} (h : BkIn B a1 a2 m c) (hn : B.ns ≤ 9223372036854775807) (hB : ¬ bkOk B) (fl : Nat) : OkAt 0 Try.prog fl 11 [bk B a1 a2] (ofM m) c (.int .i64 60) (ofM m) c := by
  have := Check_at h hn fl
  rwa [show ckV B = 60 by unfold ckV; rw [dB_ff hB]; rfl] at this
set_option maxRecDepth 100000 in
theorem prepare_can (B : CBook) (a1 a2 : AV) (h1 : IsSl a1 B.ns 0) (h2 : IsSl a2 B.nc 1) : CanS 0 Try.prog 49 2 [bk B a1 a2] [(0, some (oSt B)), (1, some (oCk B))] 2 fun v H1 c1 => v = .ptr 4 0 ∧ c1 = 5 ∧ H1.get 4 = some (.cells (pbC B a1 a2 3)) ∧ H1.get 3 = some (oMap B []) := by
  refine CanS.mk Try.func49 rfl rfl rfl ?_
  repeat' (first | refine RT.nil ?_ | refine sq_n ?_ | refine Tr.seq ?_ | refine Tr.region ?_ | refine Tr.ret ?_ | (refine RT.goK rfl rfl rfl rfl ?_; apply Nx.of; (first | exact S.assign | exact S.loadNc rfl rfl rfl rfl | exact S.box | exact S.build rfl rfl rfl | exact S.makeMap)))
  (first | refine rt_go rfl ?_)
  exact ⟨rfl, rfl, getM rfl, getM rfl⟩
theorem prepare_at {B : CBook} {a1 a2 : AV} {m : List (Nat × Option AObj)} {c : Nat} (h : BkIn B a1 a2 m c) (hm : ∀ x o, lookM m x = some o → x < c) (fl : Nat) : OkAt 0 Try.prog fl 49 [bk B a1 a2] (ofM m) c (.ptr (c + 2) 0) (ofM ((c + 2, some (.cells (pbC B a1 a2 (c + 1)))) :: (c + 1, some (oMap B [])) :: m)) (c + 3) := by
  let τ : Nat → Nat := fun y => if y < 2 then y else c + (y - 2)
  have hc := h.hc
  have t0 : τ 0 = 0 := rfl
  have t1 : τ 1 = 1 := rfl
  have t3 : τ 3 = c + 1 := rfl
  have t4 : τ 4 = c + 2 := rfl
  have ha : AV.rens τ [bk B a1 a2] = [bk B a1 a2] := by simp only [bk, AV.ren, AV.rens, h.h1.ren t0, h.h2.ren t1]
  rw [← ha]
  have low : ∀ {u : Nat} {ob : AObj}, lookM [(0, some (oSt B)), (1, some (oCk B))] u = some ob → u = 0 ∨ u = 1 := fun {u ob} hz => by
    have := lookM_mem hz
    simpa using this
  refine CanS.inst (prepare_can B a1 a2 h.h1 h.h2) (Nat.zero_le _) (Nat.le_refl _) τ (fun g hg => by omega) (fun y hy => by show (if y < 2 then y else _) < c; rw [if_pos hy]; omega) (fun y hy => by show (if y < 2 then y else _) = _; rw [if_neg (by omega)]) (fun y o hy => ?_) (fun x y o o' hx hy hxy => ?_) (fun y hy hy' => by omega) (fun v1 H1 c1 ⟨g1, g2, g3, g4⟩ _ => ?_)
  · rcases low hy with rfl | rfl
    · cases hy; rw [t0, ren_ro]; exact getM h.m1
    · cases hy; rw [t1, ren_ro]; exact getM h.m2
  · refine .inl ?_
    rcases low hx with rfl | rfl <;> rcases low hy with rfl | rfl <;> simp only [t0, t1] <;> omega
  · subst g1 g2
    refine ⟨by show AV.ptr (τ 4) 0 = _; rw [t4], rfl, fun x o hx => ?_⟩
    rw [ofM_get, lookM, Bool.cond_eq_ite] at hx
    split at hx
    · rename_i e
      have e' : x = c + 2 := by simpa using e
      cases hx
      refine .inr ⟨4, _, by omega, g3, by rw [t4, e'], ?_⟩
      simp only [pbC, AObj.ren, AV.ren, AV.rens, h.h1.ren t0, h.h2.ren t1, t3]
    · rw [lookM, Bool.cond_eq_ite] at hx
      split at hx
      · rename_i e
        have e' : x = c + 1 := by simpa using e
        cases hx
        exact .inr ⟨3, _, by omega, g4, by rw [t3, e'], (ren_mapA _ _ _).symm⟩
      · exact .inl ⟨hm x o hx, fun y hy hy' => by omega, getM hx⟩
end Go.Proofs.Ytlnmcadbmpiopaa
/- Package claim: learn. -/
namespace Go.Proofs.Ytlnmcadbmpiopaa
open Go Go.Ev
def decT : List AV → Tru
  | [.agg [.int _ w, .int _ r0, .int _ r1, .int _ r2, .int _ c0, .int _ c1, .int _ c2]] => ⟨w, r0, r1, r2, c0, c1, c2⟩
  | _ => ⟨0, 0, 0, 0, 0, 0, 0⟩
noncomputable def lnM : List Tru → List (Nat × Option AObj)
  | [] => [(7, some (.cells [.ptr 5 0, .nils])), (8, some .dfr)]
  | t :: ts => [(7, some (.cells [.ptr 5 0, .gs 10 (ts.length + 1)])), (10, some (.grown (flat truE (t :: ts)) 7)), (8, some .dfr)]
def lnS (s : List Tru) (args : List AV) : List Tru × Option Code := (s ++ [decT args], none)
def lnRoom (k : Nat) (s : List Tru) : Prop := s.length + k ≤ 10000
theorem lnRoom_ok : ∀ (k : Nat) (s : List Tru) (args : List AV), lnRoom (k + 1) s → (lnS s args).2 = none → lnRoom k (lnS s args).1 := fun k s args h _ => by
  unfold lnRoom at h ⊢
  show (s ++ [decT args]).length + k ≤ 10000
  rw [List.length_append, List.length_singleton]; omega
def lnOk (s : List Tru) (args : List AV) : Prop := (∃ t : Tru, args = [trV t]) ∧ lnRoom 1 s
theorem foldS_ln : ∀ (ts s : List Tru), foldS lnS (s, none) ts = (s ++ ts, none)
  | [], s => by simp [foldS]
  | t :: ts, s => by
    show foldS lnS (lnS s [trV t]) ts = _
    rw [show lnS s [trV t] = (s ++ [t], none) from rfl, foldS_ln ts]
    simp
set_option maxRecDepth 100000 in
set_option maxHeartbeats 4000000 in
theorem learn_no (B : CBook) (a1 a2 : AV) (h1 : IsSl a1 B.ns 0) (h2 : IsSl a2 B.nc 1) (hn : B.ns ≤ 9223372036854775807) (hB : ¬ bkOk B) (q : Bool) : CanS 0 Try.prog 71 2 [bk B a1 a2, .bool q] [(0, some (oSt B)), (1, some (oCk B))] 2 fun v _ _ => v = .tup [.agg [.nilp, .nils], .int .i64 60] := by
  refine CanS.mk Try.func71 rfl rfl rfl ?_
  repeat' (first | refine RT.nil ?_ | refine sq_n ?_ | refine Tr.seq ?_ | refine Tr.region ?_ | refine Tr.cond_t rfl ?_ | refine Tr.ret ?_ | refine sq_r ?_ | (refine RT.call rfl rfl rfl (Check_no ⟨h1, h2, rfl, rfl, by decide⟩ hn hB _) rfl rfl (Nat.le_refl _) ?_) | (refine RT.goK rfl rfl rfl rfl ?_; apply Nx.of; (first | exact S.move | exact S.assign | exact S.loadNc rfl rfl rfl rfl | exact S.neq | exact S.box | exact S.alloc rfl | exact S.build rfl rfl rfl)) | (refine RT.goK0 rfl rfl rfl ?_; apply Nx.of; (first | exact S.store rfl rfl rfl rfl rfl rfl)))
  (first | refine rt_go rfl ?_)
  rfl
set_option maxRecDepth 100000 in
set_option maxHeartbeats 4000000 in
theorem learn_ask (B : CBook) (a1 a2 : AV) (h1 : IsSl a1 B.ns 0) (h2 : IsSl a2 B.nc 1) (hn : B.ns ≤ 9223372036854775807) (hB : bkOk B) : CanS 0 Try.prog 71 2 [bk B a1 a2, .bool false] [(0, some (oSt B)), (1, some (oCk B))] 2 fun v _ _ => v = .tup [.agg [.nilp, .nils], .int .i64 61] := by
  refine CanS.mk Try.func71 rfl rfl rfl ?_
  repeat' (first | refine RT.nil ?_ | refine sq_n ?_ | refine Tr.seq ?_ | refine Tr.region ?_ | refine Tr.cond_t rfl ?_ | refine Tr.cond_f rfl ?_ | refine Tr.skip ?_ | refine Tr.ret ?_ | refine sq_r ?_ | (refine RT.call rfl rfl rfl (Check_ok ⟨h1, h2, rfl, rfl, by decide⟩ hn hB _) rfl rfl (Nat.le_refl _) ?_) | (refine RT.goK rfl rfl rfl rfl ?_; apply Nx.of; (first | exact S.move | exact S.assign | exact S.loadNc rfl rfl rfl rfl | exact S.neq | exact S.not_f | exact S.box | exact S.alloc rfl | exact S.build rfl rfl rfl)) | (refine RT.goK0 rfl rfl rfl ?_; apply Nx.of; (first | exact S.store rfl rfl rfl rfl rfl rfl)))
  (first | refine rt_go rfl ?_)
  rfl
set_option maxRecDepth 100000 in
set_option maxHeartbeats 4000000 in
theorem learn_yes (B : CBook) (a1 a2 : AV) (h1 : IsSl a1 B.ns 0) (h2 : IsSl a2 B.nc 1) (hn : B.ns ≤ 9223372036854775807) (hB : bkOk B) : CanS 0 Try.prog 71 2 [bk B a1 a2, .bool true] [(0, some (oSt B)), (1, some (oCk B))] 2 fun v H1 c1 => (wths B 0 = [] ∧ v = .tup [.agg [.nilp, .nils], .int .i64 62]) ∨
    (∃ L, c1 = 11 ∧ wths B 0 ≠ [] ∧ v = .tup [.agg [.ptr 5 0, .gs 10 (wths B 0).length], .int .i64 0] ∧ H1.get 5 = some (.cells (pbC B a1 a2 6)) ∧ H1.get 6 = some (oMap B L) ∧ H1.get 10 = some (.grown (flat truE (wths B 0)) 7)) := by
  refine CanS.mk Try.func71 rfl rfl rfl ?_
  repeat' (first | refine RT.nil ?_ | refine sq_n ?_ | refine Tr.seq ?_ | refine Tr.region ?_ | refine Tr.cond_f rfl ?_ | refine Tr.skip ?_ | refine Tr.block ?_ | (refine RT.call rfl rfl rfl (Check_ok ⟨h1, h2, rfl, rfl, by decide⟩ hn hB _) rfl rfl (Nat.le_refl _) ?_) | (refine RT.call rfl rfl rfl (prepare_at ⟨h1, h2, rfl, rfl, by decide⟩ (fun x o hx => by have := lookM_mem hx; simp at this; omega) _) rfl rfl (by decide) ?_) | (refine RT.goK rfl rfl rfl rfl ?_; apply Nx.of; (first | exact S.move | exact S.assign | exact S.load1c rfl rfl rfl rfl | exact S.loadNc rfl rfl rfl rfl | exact S.fieldAddr rfl rfl rfl | exact S.neq | exact S.not_t | exact S.box | exact S.alloc rfl | exact S.build rfl rfl rfl | exact S.makeFunc)) | (refine RT.goK0 rfl rfl rfl ?_; apply Nx.of; (first | exact S.store rfl rfl rfl rfl rfl rfl)))
  refine Tr.wk (Wk.by (l2 := [(4, .ptr 3 0), (5, .int .i64 0), (7, .ptr 7 0), (23, .fn 88 [.ptr 5 0] [])]) (m2 := [(7, some (.cells [.ptr 5 0, .nils])), (5, some (.cells (pbC B a1 a2 6))), (6, some (oMap B [])), (3, some (.cells [.nilp, .nils])), (0, some (oSt B)), (1, some (oCk B))]) (c2 := 8) (fun y => if y = 5 then 6 else if y = 6 then 5 else y) (by decide) (by decide) (by decide) ⟨rfl, rfl, rfl, rfl, trivial⟩ ⟨rfl, ?_, ?_, rfl, ?_, ?_, trivial⟩ rfl (fun x _ y _ hxy e => ?_) (fun x hx => ?_) (fun x hx => ?_) (fun x hx => ?_)) ?_
  · show _ = some ((AObj.cells (pbC B a1 a2 6)).ren _)
    simp only [pbC, AObj.ren, AV.ren, AV.rens, h1.ren (σ := fun y => if y = 5 then 6 else if y = 6 then 5 else y) rfl, h2.ren (σ := fun y => if y = 5 then 6 else if y = 6 then 5 else y) rfl]
    rfl
  · show _ = some ((oMap B []).ren _)
    rw [ren_mapA]; rfl
  · show _ = some ((oSt B).ren _)
    rw [ren_ro]; rfl
  · show _ = some ((oCk B).ren _)
    rw [ren_ro]; rfl
  · (repeat' split at e) <;> omega
  · (repeat' split) <;> omega
  · (repeat' split) <;> omega
  · (repeat' split) <;> omega
  refine Tr.range (T := [0, 1, 3, 5, 6]) (NC := [7, 8, 5]) (s0 := []) (M := lnM) (ok := lnOk) (stp := lnS) (room := lnRoom) (hroom := lnRoom_ok) (lC := [(7, .ptr 7 0)]) (memT := [(0, some (oSt B)), (1, some (oCk B)), (3, some (.cells [.nilp, .nils])), (5, some (.cells (pbC B a1 a2 6))), (6, some (oMap B []))]) (flT := 6) (flC := 7) (cc := 11) (R := fun v m' s' => (∃ L', m' = (6, some (oMap B L')) :: [(0, some (oSt B)), (1, some (oCk B)), (3, some (.cells [.nilp, .nils])), (5, some (.cells (pbC B a1 a2 6))), (6, some (oMap B []))]) ∧ s' = (wths B 0, none)) rfl rfl (by decide) (by decide) (by decide) (by decide) (by decide) ?_ ?_ rfl ?_ ?_ ?_ (by decide) ?_ ?_ ?_ ?_ ?_
  · exact ⟨⟨by decide, rfl, ren_ro _ _ _⟩, ⟨by decide, rfl, ren_ro _ _ _⟩, ⟨by decide, rfl, rfl⟩, ⟨by decide, rfl, pbc_ren h1 h2 (by decide) (by decide) (by decide)⟩, ⟨by decide, rfl, ren_mapA _ _ _⟩, trivial⟩
  · intro x hx
    simp only [List.mem_cons, List.not_mem_nil, or_false] at hx
    rcases hx with rfl | rfl | rfl | rfl | rfl
    all_goals exact ⟨by omega, _, rfl, fun h => by first | rfl | (exfalso; omega)⟩
  · exact ⟨⟨rfl, rfl⟩, trivial⟩
  · exact ⟨⟨by decide, .inr ⟨rfl, by omega⟩, rfl⟩, ⟨by decide, .inl ⟨rfl, rfl⟩, rfl⟩, trivial⟩
  · intro y hy
    simp only [List.mem_cons, List.not_mem_nil, or_false] at hy
    rcases hy with rfl | rfl | rfl
    · exact .inr (.inl ⟨by omega, by omega, by decide, _, rfl, rfl⟩)
    · exact .inl rfl
    · exact .inr (.inr ⟨by omega, by omega, _, rfl⟩)
  · intro s y o h
    have := lookM_mem h
    cases s <;> simp [lnM] at this <;> omega
  · refine ⟨fun s args ⟨⟨t, h⟩, _⟩ => ⟨trV t, h, fun _ => rfl⟩, fun s v ⟨⟨t, h⟩, hr⟩ => ?_⟩
    cases h
    cases s with
    | nil =>
      repeat' (first | refine RT.nil ?_ | refine Tr.region ?_ | (refine RT.goK rfl rfl rfl rfl ?_; apply Nx.of; (first | exact S.alloc rfl)) | (refine RT.goK0 rfl rfl rfl ?_; apply Nx.of; (first | exact S.store rfl rfl rfl rfl rfl rfl)))
      refine ⟨rfl, _, _, _, rfl, rfl, ?_⟩
      repeat' (first | refine RT.nil ?_ | refine Tr.region ?_ | refine Tr.block ?_ | refine blk_n ?_ | (refine RT.goK rfl rfl rfl rfl ?_; apply Nx.of; (first | exact S.append_nil rfl rfl rfl rfl rfl rfl rfl rfl rfl rfl rfl)) | (refine RT.goK rfl rfl rfl rfl ?_; apply Nx.of; (first | exact S.load1c rfl rfl rfl rfl | exact S.loadNc rfl rfl rfl rfl | exact S.fieldAddr rfl rfl rfl | exact S.buildSlice rfl rfl rfl rfl rfl rfl rfl)) | (refine RT.goK0 rfl rfl rfl ?_; apply Nx.of; (first | exact S.store rfl rfl rfl rfl rfl rfl)))
      refine ⟨rfl, Wk.by (fun y => if y < 10 then y else if y = 10 then 13 else 14 + y) (by decide) (by decide) (by decide) trivial ⟨?_, rfl, rfl, rfl, trivial⟩ rfl (fun x hx y hy hxy e => ?_) (fun x hx => ?_) (fun x hx => ?_) (fun x hx => ?_)⟩
      · exact congrArg some (lpO_ren (l := [(7, .ptr 7 0)]) ⟨rfl, trivial⟩ rfl).symm
      · have hx' : x = 9 ∨ x = 7 ∨ x = 10 ∨ x = 8 := by simpa [lnM, lnS] using hx
        have hy' : y = 9 ∨ y = 7 ∨ y = 10 ∨ y = 8 := by simpa [lnM, lnS] using hy
        (repeat' split at e) <;> omega
      all_goals ((repeat' split) <;> omega)
    | cons t0 ts =>
      unfold lnRoom at hr
      simp only [List.length_cons] at hr
      have hcut : cut (flat truE (t0 :: ts)) 0 ((ts.length + 1) * 7) = some (flat truE (t0 :: ts)) := by
        have hlen : (flat truE (t0 :: ts)).length = (ts.length + 1) * 7 := flat_len (s := 7) (fun _ => rfl) _
        unfold cut
        simp only [List.drop_zero, List.take_of_length_le (Nat.le_of_eq hlen), hlen, Nat.beq_refl, cond_true]
      repeat' (first | refine RT.nil ?_ | refine Tr.region ?_ | (refine RT.goK rfl rfl rfl rfl ?_; apply Nx.of; (first | exact S.alloc rfl)) | (refine RT.goK0 rfl rfl rfl ?_; apply Nx.of; (first | exact S.store rfl rfl rfl rfl rfl rfl)))
      refine ⟨rfl, _, _, _, rfl, rfl, ?_⟩
      repeat' (first | refine RT.nil ?_ | refine Tr.region ?_ | refine Tr.block ?_ | refine blk_n ?_ | (refine RT.goK rfl rfl rfl rfl ?_; apply Nx.of; (first | exact S.append_gs rfl rfl rfl rfl rfl rfl rfl rfl rfl rfl rfl rfl rfl hcut (by omega) rfl)) | (refine RT.goK rfl rfl rfl rfl ?_; apply Nx.of; (first | exact S.load1c rfl rfl rfl rfl | exact S.loadNc rfl rfl rfl rfl | exact S.fieldAddr rfl rfl rfl | exact S.buildSlice rfl rfl rfl rfl rfl rfl rfl)) | (refine RT.goK0 rfl rfl rfl ?_; apply Nx.of; (first | exact S.store rfl rfl rfl rfl rfl rfl)))
      refine ⟨rfl, Wk.by (fun y => if y < 10 then y else if y = 10 then 13 else 14 + y) (by decide) (by decide) (by decide) trivial ⟨?_, ?_, ?_, rfl, trivial⟩ rfl (fun x hx y hy hxy e => ?_) (fun x hx => ?_) (fun x hx => ?_) (fun x hx => ?_)⟩
      · exact congrArg some (lpO_ren (l := [(7, .ptr 7 0)]) ⟨rfl, trivial⟩ rfl).symm
      · show _ = some (AObj.cells [.ptr 5 0, .gs 13 ((ts ++ [t]).length + 1)])
        rw [List.length_append]; rfl
      · show _ = some ((AObj.grown (flat truE ((t0 :: ts) ++ [t])) 7).ren _)
        rw [ren_grown, flat_append]; rfl
      · have hx' : x = 9 ∨ x = 7 ∨ x = 10 ∨ x = 8 := by simpa [lnM, lnS] using hx
        have hy' : y = 9 ∨ y = 7 ∨ y = 10 ∨ y = 8 := by simpa [lnM, lnS] using hy
        (repeat' split at e) <;> omega
      all_goals ((repeat' split) <;> omega)
  · intro ρ0 lb h hY
    refine OkJ.mono (truths_ok ⟨h1, h2, rfl, rfl, rfl, by decide, by decide, by decide⟩ rfl rfl hB.1 hB.2.1 hB.2.2.1 hY (fun k s t hl => ⟨hl.1, ⟨t, rfl⟩, ?_⟩) ?_ 6 (Nat.le_refl _)) ?_
    · have := hl.2
      unfold lnRoom at this ⊢
      omega
    · refine ⟨rfl, ?_⟩
      have := wths_len hB.1
      show 0 + _ ≤ 10000
      omega
    rintro v m' s' ⟨ob, ⟨L', hv, hs, hob⟩, hm⟩
    subst hob hm
    exact ⟨⟨L', rfl⟩, by rw [hs, foldC_rnd, foldS_ln]; rfl⟩
  · rintro v m' s' ⟨⟨L', rfl⟩, _⟩
    rfl
  · rintro v m' s' j ⟨⟨L', rfl⟩, hs⟩
    cases hs
    cases hq : wths B 0 with
    | nil =>
      have hs0 : IsSl .nils 0 10 := .nils _
      show blk _ _ _ _
      repeat' (first | refine RT.nil ?_ | refine sq_n ?_ | refine Tr.seq ?_ | refine Tr.region ?_ | refine Tr.cond_t rfl ?_ | refine Tr.ret ?_ | refine sq_r ?_ | refine blk_n ?_ | (refine RT.goK rfl rfl rfl rfl ?_; apply Nx.of; (first | exact S.assign | exact S.load1c rfl rfl rfl rfl | exact S.fieldAddr rfl rfl rfl | exact S.eql | exact S.build rfl rfl rfl)) | (refine RT.goK0 rfl rfl rfl ?_; apply Nx.of; (first | exact S.store rfl rfl rfl rfl rfl rfl)) | (refine RT.goK rfl rfl rfl rfl ?_; apply Nx.of; (first | exact S.len_sl rfl rfl rfl (by assumption))))
      · refine rt_goD rfl rfl rfl ?_
        exact .inl ⟨rfl, rfl⟩
    | cons t ts =>
      have hs0 : IsSl (.gs 10 (ts.length + 1)) (ts.length + 1) 10 := .gs _ _
      show blk _ _ _ _
      repeat' (first | refine RT.nil ?_ | refine sq_n ?_ | refine Tr.seq ?_ | refine Tr.region ?_ | refine Tr.cond_f rfl ?_ | refine Tr.skip ?_ | refine Tr.ret ?_ | refine blk_n ?_ | (refine RT.goK rfl rfl rfl rfl ?_; apply Nx.of; (first | exact S.assign | exact S.load1c rfl rfl rfl rfl | exact S.loadNc rfl rfl rfl rfl | exact S.fieldAddr rfl rfl rfl | exact S.eql)) | (refine RT.goK0 rfl rfl rfl ?_; apply Nx.of; (first | exact S.store rfl rfl rfl rfl rfl rfl)) | (refine RT.goK rfl rfl rfl rfl ?_; apply Nx.of; (first | exact S.len_sl rfl rfl rfl (by assumption))))
      · refine rt_goD rfl rfl rfl ?_
        exact .inr ⟨L', rfl, by simp, rfl, getM rfl, getM rfl, getM rfl⟩
end Go.Proofs.Ytlnmcadbmpiopaa
/- From calls over explicit states to calls in any world: rows of integers that lie in a world, a law's call, and a function without arguments that the evaluator has carried out. -/
namespace Go.Ev
open Go Go.RowKit
def RowsW (w : World) (v : Value) (n k : Nat) (g : Nat → Nat → Int) : Prop :=
  (v = .slice none 0 0 ∧ n = 0) ∨ ∃ b o cap, v = .slice (some ⟨b, o, none⟩) n cap ∧ n ≤ cap ∧ cap ≤ 9223372036854775807 ∧ b < w.heap.size ∧ ∀ i, i < n → ∀ j, j < k → w.cell? ⟨b, o + i * k + j, none⟩ = some (.int .i64 (g i j))
def winV : Value → Win
  | .slice (some a) _ cap => ⟨a.block, a.off, cap⟩
  | _ => ⟨0, 0, 0⟩
def slA (v : Value) (x : Nat) : AV := match v with
  | .slice (some _) n _ => .gs x n
  | _ => .nils
theorem RowsW.is {w : World} {v : Value} {n k : Nat} {g : Nat → Nat → Int} (h : RowsW w v n k g) (x : Nat) : IsSl (slA v x) n x := by
  rcases h with ⟨rfl, rfl⟩ | ⟨b, o, cap, rfl, _⟩
  · exact .nils x
  · exact .gs x n
theorem RowsW.vr {w : World} {v : Value} {n k : Nat} {g : Nat → Nat → Int} (h : RowsW w v n k g) {ρ : Rho} {x : Nat} (hx : ρ x = some (winV v)) : VR ρ (slA v x) v := by
  rcases h with ⟨rfl, rfl⟩ | ⟨b, o, cap, rfl, h1, _⟩
  · simp only [slA, VR]
  · simp only [slA, VR]
    exact ⟨_, hx, rfl, h1⟩
theorem RowsW.le {w : World} {v : Value} {n k : Nat} {g : Nat → Nat → Int} (h : RowsW w v n k g) : n ≤ 9223372036854775807 := by
  rcases h with ⟨rfl, rfl⟩ | ⟨b, o, cap, rfl, h1, h2, _⟩ <;> omega
theorem VRs_ints {ρ : Rho} : ∀ l : List Int, VRs ρ (l.map (AV.int .i64)) (l.map (Value.int .i64))
  | [] => .nil
  | _ :: l => .cons (by simp only [VR]) (VRs_ints l)
theorem flat_ints {τ : Type} {enc : τ → List Int} : ∀ L : List τ, flat enc L = ((L.map enc).flatten).map (AV.int .i64)
  | [] => rfl
  | e :: L => by
    have h : flat enc (e :: L) = (enc e).map (AV.int .i64) ++ flat enc L := by simp [flat]
    rw [h, flat_ints L]; simp
theorem flatten_at {enc : Nat → List Int} {k : Nat} (hk : ∀ e, (enc e).length = k) (n : Nat) {q : Nat} {a : Int} (h : (((List.range n).map enc).flatten)[q]? = some a) : ∃ i j, q = i * k + j ∧ i < n ∧ j < k ∧ (enc i)[j]? = some a := by
  have hlen : ∀ L : List Nat, ((L.map enc).flatten).length = L.length * k := fun L => by
    induction L with
    | nil => simp
    | cons e L ih => simp only [List.map_cons, List.flatten_cons, List.length_append, hk, ih, List.length_cons, Nat.succ_mul]; omega
  have hq : q < n * k := by
    have := (List.getElem?_eq_some_iff.1 h).1
    rw [hlen, List.length_range] at this; exact this
  have hk0 : 0 < k := by
    rcases Nat.eq_zero_or_pos k with h | h
    · subst h; simp at hq
    · exact h
  refine ⟨q / k, q % k, by rw [Nat.mul_comm]; exact (Nat.div_add_mod q k).symm, (Nat.div_lt_iff_lt_mul hk0).2 hq, Nat.mod_lt _ hk0, ?_⟩
  have hi : q / k < n := (Nat.div_lt_iff_lt_mul hk0).2 hq
  have e : List.range n = List.range (q / k) ++ (q / k) :: (List.range n).drop (q / k + 1) := by
    conv => lhs; rw [← List.take_append_drop (q / k) (List.range n)]
    rw [List.take_range, Nat.min_eq_left (by omega)]
    congr 1
    rw [List.drop_eq_getElem_cons (by simpa using hi)]
    simp
  rw [e, List.map_append, List.flatten_append, List.getElem?_append_right (by rw [hlen, List.length_range]; exact Nat.div_mul_le_self q k), hlen, List.length_range, List.map_cons, List.flatten_cons] at h
  have hm : q - q / k * k = q % k := by
    have := Nat.div_add_mod q k
    rw [Nat.mul_comm] at this; omega
  rw [hm, List.getElem?_append_left (by rw [hk]; exact Nat.mod_lt _ hk0)] at h
  exact h
section
variable {P : Program} {ρ : Rho} {w : World}
structure SlD (w : World) where
  v : Value
  n : Nat
  k : Nat
  g : Nat → Nat → Int
  enc : Nat → List Int
  ok : RowsW w v n k g
  len : ∀ e, (enc e).length = k
  at' : ∀ i j a, i < n → j < k → (enc i)[j]? = some a → g i j = a
theorem Holds.rows (S : List (SlD w)) (h0 : 0 < w.heap.size) : Holds 0 (fun x => (S[x]?).map fun s : SlD w => winV s.v) (ofM (winM (S.map fun s : SlD w => flat s.enc (List.range s.n)) 0)) S.length w := by
  have lt : ∀ (x : Nat) (p : Win), (S[x]?).map (fun s : SlD w => winV s.v) = some p → p.b < w.heap.size := fun x p hp => by
    rw [Option.map_eq_some_iff] at hp
    obtain ⟨s, _, rfl⟩ := hp
    rcases s.ok with ⟨e, _⟩ | ⟨b, o, cap, e, _, _, h3, _⟩
    · rw [e]; exact h0
    · rw [e]; exact h3
  refine ⟨fun y o hy => ?_, fun x y o o' p q hxy hx hy hp hq hb => ?_, fun x hx => ?_, lt, fun g hg => by omega⟩
  · rw [ofM_get] at hy
    obtain ⟨j, cs, rfl, hj, rfl⟩ := winM_look hy
    rw [List.getElem?_map, Option.map_eq_some_iff] at hj
    obtain ⟨s, hs, rfl⟩ := hj
    rw [Nat.zero_add]
    refine ⟨winV s.v, by simp only [hs, Option.map_some], (((List.range s.n).map s.enc).flatten).map (Value.int .i64), by rw [flat_ints]; exact VRs_ints _, fun q u hq => ?_⟩
    rw [List.getElem?_map, Option.map_eq_some_iff] at hq
    obtain ⟨a, ha, rfl⟩ := hq
    obtain ⟨i, j, rfl, hi, hj, hij⟩ := flatten_at s.len s.n ha
    rcases s.ok with ⟨_, e0⟩ | ⟨b, o, cap, e, _, _, _, h4⟩
    · omega
    · rw [e]
      show w.cell? ⟨b, o + (i * s.k + j), none⟩ = _
      rw [← Nat.add_assoc, h4 i hi j hj, s.at' i j a hi hj hij]
  · rw [ofM_get] at hx hy
    obtain ⟨_, _, _, _, rfl⟩ := winM_look hx
    obtain ⟨_, _, _, _, rfl⟩ := winM_look hy
    simp [Apart, AObj.share]
  · rw [List.getElem?_eq_none_iff.2 hx]; rfl
theorem CanS.law {f : Nat} {args : List AV} {us : List Value} {S : List (SlD w)} (h : CanS 0 P f S.length args (winM (S.map fun s : SlD w => flat s.enc (List.range s.n)) 0) S.length fun v _ _ => v = .bool true) (h0 : 0 < w.heap.size)
    (hv : VRs (fun x => (S[x]?).map fun s : SlD w => winV s.v) args us) : Calls P f us.toArray w fun e W' => e = .returned (.bool true) ∧ Below w.heap.size w W' := by
  refine (callsIn_wide.1 (h.2 _ w us (.rows S h0) hv none 0)).mono ?_
  rintro e w' ⟨u, v, H', c', ρ', rfl, rfl, h3, _, _, _, h7⟩
  simp only [VR] at h3
  subst h3
  exact ⟨rfl, ⟨h7.os, h7.tape, h7.output, h7.size, fun b hb => h7.keep b hb fun x p hx hp => by rw [List.getElem?_eq_none_iff.2 hx] at hp; cases hp⟩⟩
theorem CanS.root_at {f : Nat} (h : CanS 0 P f 0 [] [] 0 fun v _ _ => v = .bool true) (fl : Nat) (H : T AObj) (c : Nat) : OkAt 0 P fl f [] H c (.bool true) H c := h.pure (.bool _) (.plain fun _ => rfl) fl
end
end Go.Ev
/- What several numbers are at least and at most; the first of some. No program. -/
namespace Go.Ev
section
variable {τ : Type}
def loF (f : τ → Int) (a : Int) (L : List τ) : Int := L.foldl (fun m t => min m (f t)) a
def hiF (f : τ → Int) (a : Int) (L : List τ) : Int := L.foldl (fun m t => max m (f t)) a
def spL (f : τ → Int) (L : List τ) : Int := match L with | [] => 0 | t :: ts => loF f (f t) (t :: ts)
def spH (f : τ → Int) (L : List τ) : Int := match L with | [] => 0 | t :: ts => hiF f (f t) (t :: ts)
structure IsSp (f : τ → Int) (L : List τ) (lo hi : Int) : Prop where
  all : ∀ t ∈ L, lo ≤ f t ∧ f t ≤ hi
  exL : ∃ t ∈ L, f t = lo
  exH : ∃ t ∈ L, f t = hi
noncomputable def fstN (p : Nat → Prop) (n : Nat) : Nat → Nat
  | 0 => n
  | k + 1 => bif dB (p (n - (k + 1))) then n - (k + 1) else fstN p n k
theorem fstN_spec (p : Nat → Prop) (n : Nat) : ∀ k, k ≤ n → (n - k ≤ fstN p n k ∧ fstN p n k ≤ n) ∧ (∀ i, n - k ≤ i → i < fstN p n k → ¬ p i) ∧ (fstN p n k < n → p (fstN p n k))
  | 0, _ => ⟨⟨by simp [fstN], by simp [fstN]⟩, fun i h1 h2 => by simp [fstN] at h2; omega, fun h => by simp [fstN] at h⟩
  | k + 1, hk => by
    have ih := fstN_spec p n k (by omega)
    by_cases h : p (n - (k + 1))
    · have e : fstN p n (k + 1) = n - (k + 1) := by rw [fstN, dB_tt h]; rfl
      rw [e]
      exact ⟨⟨Nat.le_refl _, Nat.sub_le _ _⟩, fun i h1 h2 => by omega, fun _ => h⟩
    · have e : fstN p n (k + 1) = fstN p n k := by rw [fstN, dB_ff h]; rfl
      rw [e]
      refine ⟨⟨by omega, ih.1.2⟩, fun i h1 h2 => ?_, ih.2.2⟩
      rcases Nat.lt_or_ge i (n - k) with h3 | h3
      · have : i = n - (k + 1) := by omega
        rw [this]; exact h
      · exact ih.2.1 i h3 h2
end
end Go.Ev
/- Arguments of a law, opened to their cells: integers and slices of rows of integers; over any program. -/
namespace Go.Ev
open Go Go.RowKit Go.ChangeShapes Go.WideShapes Go.Deep
def Leaves (P : Program) (t : Nat) (us : List Nat) : Prop := ∀ {H : Type} {enc : TypeId × Value → H} {w : World} {base : Nat} {spare : Nat → Bool} {held : Bool} {n : Nat} {cs : List Value} {y : DataW H × List MemPlace},
  DataW.trod enc P w base spare held n t cs = some y → cs.length = us.length ∧ ∀ (i u : Nat), us[i]? = some u → ∃ v m y', cs[i]? = some v ∧ DataW.trod enc P w base spare held m u [v] = some y'
section
variable {P : Program}
theorem Leaves.int {t : Nat} (h : P.underlying t = some (.int .i64)) : Leaves P t [t] := fun hd => by
  obtain ⟨a, rfl, _⟩ := DataW.trod_int h hd
  refine ⟨rfl, fun i u hu => ?_⟩
  cases i with
  | zero => simp at hu; subst hu; exact ⟨_, _, _, rfl, hd⟩
  | succ i => simp at hu
theorem Leaves.slice {t e : Nat} (h : P.underlying t = some (.slice e)) : Leaves P t [t] := fun {H enc w base spare held n cs y} hd => by
  have h1 : ∃ v, cs = [v] := by
    rcases open_slice h hd with ⟨rfl, _⟩ | ⟨a, len, cap, m, n, D, Pl, rfl, _⟩
    · exact ⟨_, rfl⟩
    · exact ⟨_, rfl⟩
  obtain ⟨v, rfl⟩ := h1
  refine ⟨rfl, fun i u hu => ?_⟩
  cases i with
  | zero => simp at hu; subst hu; exact ⟨_, _, _, rfl, hd⟩
  | succ i => simp at hu
theorem flatten_get : ∀ {uss : List (List Nat)} {i u : Nat}, uss.flatten[i]? = some u → ∃ a b us, uss[a]? = some us ∧ us[b]? = some u ∧ i = (uss.take a).flatten.length + b
  | [], i, u, h => by simp at h
  | us :: uss, i, u, h => by
    rw [List.flatten_cons] at h
    by_cases hi : i < us.length
    · rw [List.getElem?_append_left hi] at h
      exact ⟨0, i, us, rfl, h, by simp⟩
    · rw [List.getElem?_append_right (by omega)] at h
      obtain ⟨a, b, us', h1, h2, h3⟩ := flatten_get h
      refine ⟨a + 1, b, us', by simpa using h1, h2, ?_⟩
      rw [List.take_succ_cons, List.flatten_cons, List.length_append]
      omega
def fieldsOk (P : Program) : List Field → List (List Nat) → Nat → Prop
  | [], [], _ => True
  | f :: fs, us :: uss, off => (Leaves P f.type us ∧ f.offset = off ∧ P.cellsOf f.type = us.length) ∧ fieldsOk P fs uss (off + us.length)
  | _, _, _ => False
theorem fieldsOk_at {P : Program} : ∀ {fs : List Field} {uss : List (List Nat)} {off a : Nat} {us : List Nat}, fieldsOk P fs uss off → uss[a]? = some us → ∃ f, fs[a]? = some f ∧ Leaves P f.type us ∧ f.offset = off + (uss.take a).flatten.length ∧ P.cellsOf f.type = us.length
  | [], [], _, _, _, _, h => by simp at h
  | [], _ :: _, _, _, _, h, _ => h.elim
  | _ :: _, [], _, _, _, h, _ => h.elim
  | f :: fs, us0 :: uss, off, 0, us, h, e => by
    simp only [List.getElem?_cons_zero, Option.some.injEq] at e
    subst e
    exact ⟨f, rfl, h.1.1, by simpa using h.1.2.1, h.1.2.2⟩
  | f :: fs, us0 :: uss, off, a + 1, us, h, e => by
    obtain ⟨f', h1, h2, h3, h4⟩ := fieldsOk_at h.2 (show uss[a]? = some us by simpa using e)
    refine ⟨f', by simpa using h1, h2, ?_, h4⟩
    rw [h3, List.take_succ_cons, List.flatten_cons, List.length_append]
    omega
theorem Leaves.struct {t : Nat} {fs : Array Field} {uss : List (List Nat)} (h : P.underlying t = some (.struct fs)) (hf : fieldsOk P fs.toList uss 0) (hc : P.cellsOf t = uss.flatten.length) : Leaves P t uss.flatten := fun hd => by
  obtain ⟨xs, m, _, _, hl, hlen, hx⟩ := DataW.trod_struct h hd
  refine ⟨hl.trans hc, fun i u hu => ?_⟩
  obtain ⟨a, b, us, h1, h2, rfl⟩ := flatten_get hu
  obtain ⟨f, g1, g2, g3, g4⟩ := fieldsOk_at hf h1
  have ha : a < fs.size := by have := (List.getElem?_eq_some_iff.1 g1).1; simpa using this
  have g5 := hx a f (by simpa using g1)
  rw [List.getElem?_eq_getElem (by omega)] at g5
  obtain ⟨_, g6⟩ := g2 g5
  obtain ⟨v, m', y', q1, q2⟩ := g6 b u h2
  refine ⟨v, m', y', ?_, q2⟩
  rw [List.getElem?_take] at q1
  split at q1
  · rw [List.getElem?_drop, g3, Nat.zero_add] at q1
    exact q1
  · cases q1
theorem Leaves.array {t e n : Nat} {us : List Nat} (h : P.underlying t = some (.array n e)) (he : Leaves P e us) (hc : P.cellsOf e = us.length) (hk : P.cellsOf t = n * us.length) (h0 : 0 < us.length) : Leaves P t ((List.replicate n us).flatten) := fun hd => by
  obtain ⟨xs, m1, _, _, hl, hlen, hel⟩ := DataW.trod_array h hd
  have hfl : ∀ n : Nat, ((List.replicate n us).flatten).length = n * us.length := fun n => by simp
  refine ⟨by rw [hl, hk, hfl], fun i u hu => ?_⟩
  obtain ⟨a, b, us', h1, h2, rfl⟩ := flatten_get hu
  have ha : a < n := by have := (List.getElem?_eq_some_iff.1 h1).1; simpa using this
  rw [List.getElem?_replicate, if_pos ha] at h1
  cases h1
  have g5 := hel a (by omega)
  rw [List.getElem?_eq_getElem (by omega)] at g5
  obtain ⟨_, g6⟩ := he g5
  obtain ⟨v, m', y', q1, q2⟩ := g6 b u h2
  refine ⟨v, m', y', ?_, q2⟩
  rw [List.getElem?_take] at q1
  split at q1
  · rw [List.getElem?_drop, hc] at q1
    rw [← q1, List.take_replicate, Nat.min_eq_left (by omega), hfl]
  · cases q1
theorem open_rowsW {H : Type} {enc : TypeId × Value → H} {w : World} {base b0 : Nat} {held : Bool} {t e k fuel : Nat} {us : List Nat} {v : Value} {x : DataW H × List MemPlace} (ht : P.underlying t = some (.slice e)) (he : Leaves P e us) (hi : ∀ u ∈ us, P.underlying u = some (.int .i64)) (hu : us.length = k) (hk : P.cellsOf e = k)
    (hc : Cell.okWide P w .any b0 t v) (h : DataW.trod enc P w base (fun _ => true) held fuel t [v] = some x) : ∃ n g, RowsW w v n k g := by
  rcases open_slice ht h with ⟨hcs, _⟩ | ⟨a, len, cap, m, n, D, Pl, hcs, _, hl, hm, hmm, _, hx⟩
  · exact ⟨0, fun _ _ => 0, .inl ⟨by simpa using hcs, rfl⟩⟩
  · have hv : v = .slice (some a) len cap := by simpa using hcs
    subst hv
    simp only [Cell.okWide, ht, Cell.ok, World.has] at hc
    obtain ⟨_, hcm, _, hsp, row, cells, hsh, _⟩ := hc
    obtain ⟨b, o, s⟩ := a
    replace hsp : s = none := hsp
    subst hsp
    have hlt : b < w.heap.size := by
      simp only [World.shape?] at hsh
      split at hsh
      · rename_i hh; exact (Array.getElem?_eq_some_iff.1 hh).1
      · cases hsh
    have hmm' : m = cap := by simpa using hmm
    refine ⟨len, fun i j => match w.cell? ⟨b, o + i * k + j, none⟩ with | some (.int .i64 a) => a | _ => 0, .inr ⟨b, o, cap, rfl, hl, (show cap ≤ 9223372036854775807 by have := hm; unfold maxLen at this; omega), hlt, fun i hil j hj => ?_⟩⟩
    obtain ⟨cs', h1, h2⟩ := hx i (by omega)
    rw [hk] at h1
    obtain ⟨_, _, hat⟩ := World.cells?_some h1
    obtain ⟨g1, g2⟩ := he h2
    have hj' : us[j]? = some (us[j]'(by omega)) := List.getElem?_eq_getElem (by omega)
    obtain ⟨v', m', y', q1, q2⟩ := g2 j _ hj'
    obtain ⟨a, q3, _⟩ := DataW.trod_int (hi _ (List.getElem_mem _)) q2
    have q4 : v' = .int .i64 a := by simpa using q3
    subst q4
    have q5 := (hat j hj).trans q1
    have ad : ((⟨b, o, none⟩ : Addr).add (i * k)).add j = ⟨b, o + i * k + j, none⟩ := by
      unfold Addr.add; split <;> split <;> simp_all
    rw [ad] at q5
    show _ = some (Value.int .i64 (match w.cell? ⟨b, o + i * k + j, none⟩ with | some (.int .i64 a) => a | _ => 0))
    rw [q5]
theorem open_num {w : World} {b0 t : Nat} {v : Value} (ht : P.underlying t = some (.int .i64)) (hc : Cell.okWide P w .any b0 t v) : ∃ a, v = .int .i64 a ∧ In64 a := by
  simp only [Cell.okWide, ht] at hc
  cases v <;> simp only [Cell.ok, ht] at hc
  obtain ⟨rfl, h1, h2⟩ := hc
  exact ⟨_, rfl, h1, h2⟩
theorem open_cells {H : Type} {enc : TypeId × Value → H} {w : World} {base b0 : Nat} {t : Nat} {us : List Nat} {v : Value} {d : DataW H} {p : List MemPlace} (ha : aggB P t = some true) (hL : Leaves P t us) (hus : P.cellTypes P.depth t = some us) (hv : Value.okWide P w .any b0 t v) (h : DataW.Trod enc P w base (fun _ => true) true t v d p) :
    ∃ cs : List Value, v = .agg cs.toArray ∧ cs.length = us.length ∧ ∀ (i u : Nat), us[i]? = some u → ∃ v m y', cs[i]? = some v ∧ Cell.okWide P w .any b0 u v ∧ DataW.trod enc P w base (fun _ => true) true m u [v] = some y' := by
  have h1 : ∃ cs, v = .agg cs ∧ Row.okWide P w .any b0 t cs := by
    unfold Value.okWide at hv
    unfold aggB at ha
    split at hv
    · obtain ⟨cs, h1, _, h2⟩ := hv; exact ⟨cs, h1, h2⟩
    · obtain ⟨cs, h1, _, h2⟩ := hv; exact ⟨cs, h1, h2⟩
    · rename_i q1 q2
      exfalso
      rw [Option.map_eq_some_iff] at ha
      obtain ⟨x, h1, h2⟩ := ha
      cases x <;> first | exact q1 _ h1 | exact q2 _ _ h1 | cases h2
  obtain ⟨cs, rfl, ts, hts, _, hcell⟩ := h1
  obtain ⟨fuel, hf⟩ := h
  obtain ⟨g1, g2⟩ := hL hf
  have e : ts = us := by rw [hus] at hts; exact (Option.some.inj hts).symm
  subst e
  have hsz : cs.toList.length = ts.length := g1
  refine ⟨cs.toList, by simp, hsz, fun i u hu => ?_⟩
  obtain ⟨v, m, y', q1, q2⟩ := g2 i u hu
  have hi : i < ts.length := (List.getElem?_eq_some_iff.1 hu).1
  have q1' : cs[i]? = some v := by simpa [Value.cells] using q1
  obtain ⟨u', r1, r2⟩ := hcell i v q1'
  rw [Nat.mod_eq_of_lt hi, hu] at r1
  cases r1
  exact ⟨v, m, y', by simpa using q1', r2, q2⟩
end
end Go.Ev
/- More operations over explicit states: slices of arrays, fields of what is at hand, names at the top of any memory. -/
namespace Go.Ev
open Go
section
variable {G : Nat} {P : Program} {fl cb c c' : Nat} {m m' : List (Nat × Option AObj)} {l : List (Nat × AV)} {n : Nat} {dfs : List Nat} {y z : Ty} {t yt : Nat} {x1 x2 x3 : Operand} {a b : Int} {v : AV}
theorem lookM_hd {x : Nat} {o : Option AObj} : lookM ((x, o) :: m) x = o := by rw [lookM]; simp
theorem lookM_tl {x d : Nat} {o : Option AObj} (h : x ≠ d) : lookM ((d, o) :: m) x = lookM m x := by
  rw [lookM, Bool.cond_eq_ite, if_neg (by simpa using h)]
structure Sub (m : List (Nat × Option AObj)) (c : Nat) (m' : List (Nat × Option AObj)) (c' : Nat) : Prop where
  le : c ≤ c'
  eq : ∀ x, x < c → lookM m' x = lookM m x
theorem Sub.refl : Sub m c m c := ⟨Nat.le_refl _, fun _ _ => rfl⟩
theorem Sub.trans {m2 : List (Nat × Option AObj)} {c2 : Nat} (h : Sub m c m' c') (k : Sub m' c' m2 c2) : Sub m c m2 c2 := ⟨Nat.le_trans h.le k.le, fun x hx => (k.eq x (Nat.lt_of_lt_of_le hx h.le)).trans (h.eq x hx)⟩
theorem Sub.cons {d : Nat} {o : Option AObj} {c2 : Nat} (h : Sub m c m' c') (hd : c ≤ d) (hc : c' ≤ c2) : Sub m c ((d, o) :: m') c2 := ⟨Nat.le_trans h.le hc, fun x hx => (lookM_tl (by omega)).trans (h.eq x hx)⟩
theorem CanS.here {f : Nat} {args : List AV} {v0 : AV} (h : CanS G P f c args m c fun v _ _ => v = v0) (hv : Pl v0) (fl : Nat) : OkAt G P fl f args (ofM m) c v0 (ofM m) c := h.pure hv (fun ρ w us h k => ⟨ρ, h, k⟩) fl
theorem AV_ren_id : ∀ v : AV, v.ren (fun x => x) = v := by
  have main : (∀ v : AV, v.ren (fun x => x) = v) ∧ ∀ l : List AV, AV.rens (fun x => x) l = l := by
    suffices h : ∀ n : Nat, (∀ v : AV, SizeOf.sizeOf v ≤ n → v.ren (fun x => x) = v) ∧ ∀ l : List AV, SizeOf.sizeOf l ≤ n → AV.rens (fun x => x) l = l from ⟨fun v => (h _).1 v (Nat.le_refl _), fun l => (h _).2 l (Nat.le_refl _)⟩
    intro n
    induction n with
    | zero => exact ⟨fun v hv => by cases v <;> simp at hv, fun l hl => by cases l <;> simp at hl⟩
    | succ n ih =>
      refine ⟨fun v hv => ?_, fun l hl => ?_⟩
      · cases v <;> simp only [AV.ren] <;> simp only [AV.fn.sizeOf_spec, AV.agg.sizeOf_spec, AV.tup.sizeOf_spec] at hv
        · rw [ih.2 _ (by omega), ih.2 _ (by omega)]
        · rw [ih.2 _ (by omega)]
        · rw [ih.2 _ (by omega)]
      · cases l with
        | nil => rfl
        | cons v l =>
          simp only [List.cons.sizeOf_spec] at hl
          rw [AV.rens, ih.1 _ (by omega), ih.2 _ (by omega)]
  exact main.1
theorem AV_rens_id : ∀ l : List AV, AV.rens (fun x => x) l = l
  | [] => rfl
  | v :: l => by rw [AV.rens, AV_ren_id, AV_rens_id l]
theorem Wk.forget {l2 : List (Nat × AV)} {m2 : List (Nat × Option AObj)} (hcb : cb ≤ c) (hG : G ≤ cb) (hf : fl ≤ cb) (hl : allL (fun t v => look l t = some v) l2) (hm : ∀ x o, lookM m2 x = some o → lookM m x = some o ∧ o.ren (fun x => x) = o) (hd : dfs.map (fun x => x) = dfs) : Wk G fl cb (stL n dfs l m c) (stL n dfs l2 m2 c) := by
  refine ⟨⟨fun x => x, fun t v ht => ?_, rfl, hd.symm, fun x o hx => ?_, fun x y o o' _ _ h => .inl h, fun x hx => hx, fun _ _ => rfl, fun _ h => h⟩, hcb, hG, hf⟩
  · show (ofL l).get t = _
    rw [ofL_get, AV_ren_id]
    exact allL_look hl t v (by rw [← ofL_get]; exact ht)
  · obtain ⟨h1, h2⟩ := hm x o (by rw [← ofM_get]; exact hx)
    show (ofM m).get _ = _
    rw [ofM_get, h1, h2]
theorem renE_id : ∀ l : List (AV × AV), renE (fun x => x) l = l
  | [] => rfl
  | (a, b) :: l => by rw [renE, AV_ren_id, AV_ren_id, renE_id l]
theorem AObj_ren_id (o : AObj) : o.ren (fun x => x) = o := by
  have tt : ∀ t : TT AV, t.ren (fun x => x) = t := fun t => by
    induction t with
    | leaf => rfl
    | node a v b h1 h2 =>
      rw [TT.ren, h1, h2]
      cases v with
      | none => rfl
      | some v => rw [Option.map_some, AV_ren_id]
  cases o <;> simp only [AObj.ren, AV_rens_id, renE_id, tt]
theorem Wk.temps {l2 : List (Nat × AV)} (hcb : cb ≤ c) (hG : G ≤ cb) (hf : fl ≤ cb) (hl : allL (fun t v => look l t = some v) l2) : Wk G fl cb (stL n [] l m c) (stL n [] l2 m c) := .forget hcb hG hf hl (fun x o h => ⟨h, AObj_ren_id o⟩) rfl
theorem S.rowG [Tab P] {τ : Type} {enc : τ → List Int} {L : List τ} {s i x : Nat} {e : τ} {vs : List AV} (hy : ty P t = some y) (hg : y.agg = true) (ho : lookM m x = some (.grown (flat enc L) s)) (hs : ∀ e, (enc e).length = s) (hi : L[i]? = some e) (hz : y.size = s) (hv : (enc e).map (AV.int .i64) = vs) :
    OpE P fl (.load t x1) [.ptr x (i * s)] m c (.agg vs) m c := by
  have h1 := flat_cut (enc := enc) hs (j := 0) (k := s) hi (by omega)
  rw [List.drop_zero, List.take_of_length_le (Nat.le_of_eq (hs e)), hv, Nat.add_zero] at h1
  exact S.loadN hy hg ho rfl (by rw [hz]; exact h1)
theorem IsSl.rf {v : AV} {n x : Nat} (h : IsSl v n x) : rfV v = true := by
  rcases h with rfl | ⟨rfl, _⟩ <;> rfl
def srOk (m : List (Nat × Option AObj)) : List Rec → Prop
  | [] => True
  | r :: us => (match r.reads with | none => True | some x => ∃ ob, lookM m x = some ob ∧ rfO ob = true) ∧ srOk m us
theorem srOk_all : ∀ {us : List Rec}, srOk m us → us.all (sameR P (ofM m) (ofM m)) = true
  | [], _ => rfl
  | r :: us, h => by
    obtain ⟨h1, h2⟩ := h
    have h3 : sameR P (ofM m) (ofM m) r = true := by
      unfold sameR
      split at h1
      · rename_i e; rw [e]
      · rename_i x e
        obtain ⟨ob, h4, h5⟩ := h1
        rw [e]
        simp only [same_get (getM h4) (getM h4) h5, Bool.true_or]
    rw [List.all_cons, h3, srOk_all h2]
    rfl
end
end Go.Ev
/- Package claim: how late the coach is, what a rough road cost, whether it is to blame, what it owes. -/
namespace Go.Proofs.Ytlnmcadbmpiopaa
open Go Go.Ev
def TruB (t : Tru) : Prop := (∀ i, 0 ≤ t.c i ∧ t.c i ≤ 1000) ∧ (∀ i, 0 ≤ t.r i ∧ t.r i ≤ 30) ∧ 0 ≤ t.w ∧ t.w < 3
def ltV (B : CBook) (i : Nat) (t : Tru) : Int := max 0 (t.c i - B.due i)
def rgV (t : Tru) : Int := t.r0 + t.r1 + t.r2
def blP (B : CBook) (t : Tru) : Prop := 1 ≤ ltV B (B.ns - 1) t ∧ ltV B (B.ns - 1) t ≤ rgV t
def owV (B : CBook) (t : Tru) : Int := B.rate * min (ltV B (B.ns - 1) t) (rgV t)
noncomputable def lateF (B : CBook) (a1 a2 : AV) (t : Tru) (i : Nat) : CallFn := one1 62 [.ptr 2 0, .int .i64 (i : Int), trV t] (.int .i64 (ltV B i t)) fun H c => ∃ m, H = ofM m ∧ PbIn B a1 a2 2 3 m c
noncomputable def lastF (B : CBook) (a1 a2 : AV) (t : Tru) : CallFn := one1 100 [.ptr 2 0, trV t] (.int .i64 (ltV B (B.ns - 1) t)) fun H c => ∃ m, H = ofM m ∧ PbIn B a1 a2 2 3 m c
noncomputable def roughF (t : Tru) : CallFn := one1 101 [trV t] (.int .i64 (rgV t)) fun _ _ => True
noncomputable def withinF : CallFn := famA (α := Int × Int × Int) 93 (fun a => [.int .i64 a.1, .int .i64 a.2.1, .int .i64 a.2.2]) (fun a => .bool (decide (a.2.1 ≤ a.1 ∧ a.1 ≤ a.2.2))) fun _ _ _ => True
noncomputable def blF (B : CBook) (a1 a2 : AV) (t : Tru) : CallFn := alts [lastF B a1 a2 t, roughF t, withinF]
end Go.Proofs.Ytlnmcadbmpiopaa
/- Package claim: what is known of a book, as its callers see it; spans. -/
namespace Go.Proofs.Ytlnmcadbmpiopaa
open Go Go.Ev
noncomputable abbrev Ws (B : CBook) : List Tru := wths B 0
noncomputable abbrev oWs (B : CBook) : AObj := .grown (flat truE (Ws B)) 7
theorem m2_low {B : CBook} {u : Nat} {ob : AObj} (hz : lookM [(0, some (oSt B)), (1, some (oCk B))] u = some ob) : u = 0 ∨ u = 1 := by
  have := lookM_mem hz
  simpa using this
theorem learn_no_at {B : CBook} {a1 a2 : AV} {m : List (Nat × Option AObj)} {c : Nat} (h : BkIn B a1 a2 m c) (hn : B.ns ≤ 9223372036854775807) (hB : ¬ bkOk B) (q : Bool) (fl : Nat) : OkAt 0 Try.prog fl 71 [bk B a1 a2, .bool q] (ofM m) c (.tup [.agg [.nilp, .nils], .int .i64 60]) (ofM m) c :=
  (learn_no B a1 a2 h.h1 h.h2 hn hB q).pure (fun _ => rfl) (h.entry _ fun _ => rfl) fl
theorem learn_ask_at {B : CBook} {a1 a2 : AV} {m : List (Nat × Option AObj)} {c : Nat} (h : BkIn B a1 a2 m c) (hn : B.ns ≤ 9223372036854775807) (hB : bkOk B) (fl : Nat) : OkAt 0 Try.prog fl 71 [bk B a1 a2, .bool false] (ofM m) c (.tup [.agg [.nilp, .nils], .int .i64 61]) (ofM m) c :=
  (learn_ask B a1 a2 h.h1 h.h2 hn hB).pure (fun _ => rfl) (h.entry _ fun _ => rfl) fl
theorem learn_false_at {B : CBook} {a1 a2 : AV} {m : List (Nat × Option AObj)} {c : Nat} (h : BkIn B a1 a2 m c) (hn : B.ns ≤ 9223372036854775807) (hB : bkOk B) (hW : Ws B = []) (fl : Nat) : OkAt 0 Try.prog fl 71 [bk B a1 a2, .bool true] (ofM m) c (.tup [.agg [.nilp, .nils], .int .i64 62]) (ofM m) c :=
  ((learn_yes B a1 a2 h.h1 h.h2 hn hB).mono (Qf' := fun v _ _ => v = .tup [.agg [.nilp, .nils], .int .i64 62]) fun v H1 c1 hq => by
    rcases hq with ⟨_, hq⟩ | ⟨L, _, hq, _⟩
    · exact hq
    · exact absurd hW hq).pure (fun _ => rfl) (h.entry _ fun _ => rfl) fl
noncomputable abbrev knV (B : CBook) (c : Nat) : AV := .agg [.ptr (c + 3) 0, .gs (c + 8) (wths B 0).length]
theorem learn_at {B : CBook} {a1 a2 : AV} {m : List (Nat × Option AObj)} {c : Nat} (h : BkIn B a1 a2 m c) (hm : ∀ x o, lookM m x = some o → x < c) (hn : B.ns ≤ 9223372036854775807) (hB : bkOk B) (hW : Ws B ≠ []) (fl : Nat) : OkAt 0 Try.prog fl 71 [bk B a1 a2, .bool true] (ofM m) c
    (.tup [knV B c, .int .i64 0]) (ofM ((c + 3, some (.cells (pbC B a1 a2 (c + 4)))) :: (c + 8, some (oWs B)) :: m)) (c + 9) := by
  let τ : Nat → Nat := fun y => if y < 2 then y else c + (y - 2)
  have hc := h.hc
  have t0 : τ 0 = 0 := rfl
  have t1 : τ 1 = 1 := rfl
  have t5 : τ 5 = c + 3 := rfl
  have t6 : τ 6 = c + 4 := rfl
  have t10 : τ 10 = c + 8 := rfl
  have ha : AV.rens τ [bk B a1 a2, .bool true] = [bk B a1 a2, .bool true] := by simp only [bk, AV.ren, AV.rens, h.h1.ren t0, h.h2.ren t1]
  rw [← ha]
  refine CanS.inst (learn_yes B a1 a2 h.h1 h.h2 hn hB) (Nat.zero_le _) (Nat.le_refl _) τ (fun g hg => by omega) (fun y hy => by show (if y < 2 then y else _) < c; rw [if_pos hy]; omega) (fun y hy => by show (if y < 2 then y else _) = _; rw [if_neg (by omega)]) (fun y o hy => ?_) (fun x y o o' hx hy hxy => ?_) (fun y hy hy' => by omega) (fun v1 H1 c1 hq _ => ?_)
  · rcases m2_low hy with rfl | rfl
    · cases hy; rw [t0, ren_ro]; exact getM h.m1
    · cases hy; rw [t1, ren_ro]; exact getM h.m2
  · refine .inl ?_
    rcases m2_low hx with rfl | rfl <;> rcases m2_low hy with rfl | rfl <;> simp only [t0, t1] <;> omega
  · rcases hq with ⟨hq, _⟩ | ⟨L, rfl, _, rfl, g1, g2, g3⟩
    · exact absurd hq hW
    refine ⟨by simp only [AV.ren, AV.rens, t5, t10, knV], rfl, fun x o hx => ?_⟩
    rw [ofM_get] at hx
    by_cases e1 : x = c + 3
    · subst e1
      rw [lookM_hd] at hx
      cases hx
      refine .inr ⟨5, _, by omega, g1, t5.symm, ?_⟩
      simp only [pbC, AObj.ren, AV.ren, AV.rens, h.h1.ren t0, h.h2.ren t1, t6]
    · rw [lookM_tl e1] at hx
      by_cases e2 : x = c + 8
      · subst e2
        rw [lookM_hd] at hx
        cases hx
        exact .inr ⟨10, _, by omega, g3, t10.symm, (ren_grown _ _ _ _).symm⟩
      · rw [lookM_tl e2] at hx
        exact .inl ⟨hm x o hx, fun y hy hy' => by omega, getM hx⟩
end Go.Proofs.Ytlnmcadbmpiopaa
/- Spans that grow along a list. -/
namespace Go.Ev
open Go
variable {τ : Type}
def loK (f : τ → Int) (L : List τ) (a : Int) (k : Nat) : Int := loF f a (L.take k)
def hiK (f : τ → Int) (L : List τ) (a : Int) (k : Nat) : Int := hiF f a (L.take k)
theorem at_some {L : List τ} {k : Nat} (h : k < L.length) : ∃ t, L[k]? = some t ∧ t ∈ L := ⟨_, List.getElem?_eq_getElem h, List.getElem_mem h⟩
theorem fst_eq {p : Nat → Prop} {n k : Nat} (hk : k < n) (h1 : ∀ i, i < k → ¬ p i) (h2 : p k) : fstN p n n = k := by
  have h := fstN_spec p n n (Nat.le_refl _)
  rcases Nat.lt_trichotomy (fstN p n n) k with h3 | h3 | h3
  · exact absurd (h.2.2 (by omega)) (h1 _ h3)
  · exact h3
  · exact absurd h2 (h.2.1 k (by omega) h3)
theorem fst_none {p : Nat → Prop} {n : Nat} (h1 : ∀ i, i < n → ¬ p i) : fstN p n n = n := by
  have h := fstN_spec p n n (Nat.le_refl _)
  rcases Nat.lt_or_ge (fstN p n n) n with h3 | h3
  · exact absurd (h.2.2 h3) (h1 _ h3)
  · have := h.1.2; omega
theorem fst_at {p : Nat → Prop} {n : Nat} (h : fstN p n n < n) : p (fstN p n n) := (fstN_spec p n n (Nat.le_refl _)).2.2 h
theorem fst_lt {p : Nat → Prop} {n i : Nat} (h : i < fstN p n n) : ¬ p i := (fstN_spec p n n (Nat.le_refl _)).2.1 i (by omega) h
noncomputable def fxN (pr : τ → Prop) (L : List τ) : Nat := fstN (fun i => ∃ t, L[i]? = some t ∧ pr t) L.length L.length
noncomputable def ixV (pr : τ → Prop) (L : List τ) : Int := if fxN pr L < L.length then (fxN pr L : Int) else -1
theorem ixV_at {pr : τ → Prop} {L : List τ} {k : Nat} {t : τ} (h1 : ∀ i u, i < k → L[i]? = some u → ¬ pr u) (ht : L[k]? = some t) (hp : pr t) : ixV pr L = k := by
  have hk : k < L.length := (List.getElem?_eq_some_iff.1 ht).1
  have : fxN pr L = k := fst_eq hk (fun i hi ⟨u, hu, hpu⟩ => h1 i u hi hu hpu) ⟨t, ht, hp⟩
  unfold ixV; rw [this, if_pos hk]
theorem ixV_none {pr : τ → Prop} {L : List τ} (h1 : ∀ i u, i < L.length → L[i]? = some u → ¬ pr u) : ixV pr L = -1 := by
  have : fxN pr L = L.length := fst_none fun i hi ⟨u, hu, hpu⟩ => h1 i u hi hu hpu
  unfold ixV; rw [this, if_neg (by omega)]
theorem ixV_nn {pr : τ → Prop} {L : List τ} : 0 ≤ ixV pr L ↔ ∃ t ∈ L, pr t := by
  by_cases h : fxN pr L < L.length
  · obtain ⟨t, ht, hp⟩ := fst_at (p := fun i => ∃ t, L[i]? = some t ∧ pr t) h
    exact ⟨fun _ => ⟨t, List.mem_of_getElem? ht, hp⟩, fun _ => by unfold ixV; rw [if_pos h]; omega⟩
  · refine ⟨fun h2 => by unfold ixV at h2; rw [if_neg h] at h2; omega, fun ⟨t, ht, hp⟩ => ?_⟩
    obtain ⟨i, hi, rfl⟩ := List.getElem_of_mem ht
    exact absurd ⟨_, List.getElem?_eq_getElem hi, hp⟩ (fst_lt (p := fun i => ∃ t, L[i]? = some t ∧ pr t) (n := L.length) (by unfold fxN at h; omega))
section
variable {G : Nat} {P : Program} {fl cb c c' : Nat} {m m' : List (Nat × Option AObj)} {y z : Ty} {t : Nat} {x1 x2 : Operand}
theorem S.indexN [Tab P] {i : Int} {cs vs : List AV} (hy : ty P t = some y) (hk : y.kind = 4) (hz : ty P y.elem = some z) (hg : z.agg = true) (h0 : 0 ≤ i) (hi : i < y.len) (hv : cut cs (i.toNat * z.size) z.size = some vs) : OpE P fl (.index t x1 x2) [.agg cs, .int .i64 i] m c (.agg vs) m c := by
  obtain ⟨j, rfl⟩ : ∃ j : Nat, i = j := ⟨i.toNat, by omega⟩
  refine ⟨rfl, Nat.le_refl _, ?_⟩
  have h1 : Nat.blt j y.len = true := by simpa using (by omega : j < y.len)
  have h2 : aggB P y.elem = some true := by rw [ty_agg hz, hg]
  rw [Int.toNat_natCast] at hv
  simp only [opA, oIndex, indexA, natOf_nat, ty_array hy hk, ty_size hz, h1, cond_true, Option.bind_some, partA, h2, hv, Option.map_some, opt1]
end
end Go.Ev
/- Package claim: span, answer. -/
namespace Go.Proofs.Ytlnmcadbmpiopaa
open Go Go.Ev
def NumOK (B : CBook) (a1 a2 : AV) (f : Nat) (cap : List AV) (xs : List AV) (num : Tru → Int) : Prop := ∀ t ∈ Ws B, ∀ m c, PbIn B a1 a2 2 3 m c → 6 ≤ c → lookM m 5 = some (.cells xs) → ∀ fl, OkAt 0 Try.prog fl f ([.ptr 2 0, trV t] ++ cap) (ofM m) c (.int .i64 (num t)) (ofM m) c
structure KnIn (B : CBook) (a1 a2 : AV) (p q x z : Nat) (ys : List AV) (m : List (Nat × Option AObj)) (c : Nat) : Prop where
  pb : PbIn B a1 a2 p q m c
  mx : lookM m x = some (oWs B)
  hx : x < c
  mz : lookM m z = some (.cells ys)
  hz : z < c
  pz : p ≠ z
end Go.Proofs.Ytlnmcadbmpiopaa
/- Package claim: what a truth is. -/
namespace Go.Proofs.Ytlnmcadbmpiopaa
open Go Go.Ev
theorem ints_iff {a b x : Int} : x ∈ ints a b ↔ a ≤ x ∧ x ≤ b := by
  refine ⟨ints_mem, fun h => ?_⟩
  unfold ints
  exact List.mem_map.2 ⟨(x - a).toNat, List.mem_range.2 (by omega), by omega⟩
theorem tru2_rj {t : Tru} {i j : Nat} {a b : Int} (hi : i < 3) (hj : j < 3) : (tru2 t i a b).r j = if j = i then a else t.r j := by
  obtain rfl | rfl | rfl : i = 0 ∨ i = 1 ∨ i = 2 := by omega
  all_goals (obtain rfl | rfl | rfl : j = 0 ∨ j = 1 ∨ j = 2 := by omega)
  all_goals rfl
theorem tru2_cj {t : Tru} {i j : Nat} {a b : Int} (hi : i < 3) (hj : j < 3) : (tru2 t i a b).c j = if j = i then b else t.c j := by
  obtain rfl | rfl | rfl : i = 0 ∨ i = 1 ∨ i = 2 := by omega
  all_goals (obtain rfl | rfl | rfl : j = 0 ∨ j = 1 ∨ j = 2 := by omega)
  all_goals rfl
theorem Tru.ext3 {t u : Tru} (hw : t.w = u.w) (h : ∀ j, j < 3 → t.r j = u.r j ∧ t.c j = u.c j) : t = u := by
  have h0 := h 0 (by omega)
  have h1 := h 1 (by omega)
  have h2 := h 2 (by omega)
  obtain ⟨w, r0, r1, r2, c0, c1, c2⟩ := t
  obtain ⟨w', r0', r1', r2', c0', c1', c2'⟩ := u
  simp only [Tru.r, Tru.c] at h0 h1 h2
  simp at h0 h1 h2 hw
  simp [hw, h0, h1, h2]
def dlo (B : CBook) (t : Tru) (i : Nat) : Int := (if i = 0 then 0 else t.c (i - 1) + B.sl (i - 1)) + B.dl i + B.cost t.w.toNat
def dhi (B : CBook) (t : Tru) (i : Nat) : Int := (if i = 0 then 0 else t.c (i - 1) + B.sh (i - 1)) + B.dh i + B.cost t.w.toNat
def StT (B : CBook) (t : Tru) (i : Nat) : Prop := (B.rl i ≤ t.r i ∧ t.r i ≤ B.rh i) ∧ (dlo B t i + t.r i ≤ t.c i ∧ t.c i ≤ dhi B t i + t.r i) ∧ wrV B (i, t.c i) = 0
structure IsT (B : CBook) (t : Tru) : Prop where
  w : 0 ≤ t.w ∧ t.w < 3 ∧ hasP B.wea t.w.toNat
  st : ∀ i, i < B.ns → StT B t i
  z : ∀ i, B.ns ≤ i → i < 3 → t.r i = 0 ∧ t.c i = 0
theorem sm_dlo {B : CBook} {t0 t : Tru} {i : Nat} (hi : i < 3) (hd : drvOk t0 i) (hw : t.w = t0.w) (hc : ∀ j, j < i → t.c j = t0.c j) : smL B t0 i = dlo B t i ∧ smH B t0 i = dhi B t i := by
  unfold smL smH dlo dhi depL depH
  unfold drvOk at hd
  rw [hw]
  rcases hd with ⟨rfl, h1, h2, h3⟩ | ⟨h1, h2, h3⟩
  · simp [h1, h2, h3]
  · have hne : ¬ (t0.c0 = 0 ∧ t0.c1 = 0 ∧ t0.c2 = 0) := fun ⟨e0, e1, e2⟩ => by
      have : t0.c (i - 1) = 0 := by unfold Tru.c; split <;> (try split) <;> assumption
      omega
    rw [if_neg hne, if_neg hne, if_neg (by omega), if_neg (by omega), hc (i - 1) (by omega)]
    exact ⟨rfl, rfl⟩
theorem mem_trs {B : CBook} (hok : stsOk B) (hw : weaOk B) {t : Tru} : ∀ (k i : Nat) (t0 : Tru), i + k = B.ns → drvOk t0 i → 0 ≤ t0.w ∧ t0.w < 3 → (∀ j, i ≤ j → j < 3 → t0.r j = 0 ∧ t0.c j = 0) →
    (t ∈ trs B k i t0 ↔ t.w = t0.w ∧ (∀ j, j < i → t.r j = t0.r j ∧ t.c j = t0.c j) ∧ (∀ j, i ≤ j → j < B.ns → StT B t j) ∧ ∀ j, B.ns ≤ j → j < 3 → t.r j = 0 ∧ t.c j = 0)
  | 0, i, t0, e, hd, hwt, hz => by
    have hi : i = B.ns := by omega
    show t ∈ [t0] ↔ _
    rw [List.mem_singleton]
    refine ⟨fun h => by subst h; exact ⟨rfl, fun j _ => ⟨rfl, rfl⟩, fun j h1 h2 => by omega, fun j h1 h2 => hz j (by omega) h2⟩, fun ⟨h1, h2, _, h4⟩ => Tru.ext3 h1 fun j hj => ?_⟩
    by_cases hji : j < i
    · exact h2 j hji
    · rw [(h4 j (by omega) hj).1, (h4 j (by omega) hj).2, (hz j (by omega) hj).1, (hz j (by omega) hj).2]; exact ⟨rfl, rfl⟩
  | k + 1, i, t0, e, hd, hwt, hz => by
    have hn := hok.1
    have hi : i < B.ns := by omega
    have hi3 : i < 3 := by omega
    have hst := hok.2 i hi
    unfold stOk at hst
    have hb := sm_bd hok hw hi hd hwt
    have step : ∀ r mi, B.rl i ≤ r → r ≤ B.rh i → smL B t0 i + r ≤ mi → mi ≤ smH B t0 i + r → (t ∈ trs B k (i + 1) (tru2 t0 i r mi) ↔ t.w = t0.w ∧ (∀ j, j < i + 1 → t.r j = (tru2 t0 i r mi).r j ∧ t.c j = (tru2 t0 i r mi).c j) ∧ (∀ j, i + 1 ≤ j → j < B.ns → StT B t j) ∧ ∀ j, B.ns ≤ j → j < 3 → t.r j = 0 ∧ t.c j = 0) := fun r mi h1 h2 h3 h4 => by
      have := mem_trs hok hw (t := t) k (i + 1) (tru2 t0 i r mi) (by omega) (.inr ⟨by omega, by rw [Nat.add_sub_cancel, tru2_cj hi3 hi3, if_pos rfl]; omega, by rw [Nat.add_sub_cancel, tru2_cj hi3 hi3, if_pos rfl]; omega⟩) (by rw [tru2_w hi3]; exact hwt) (fun j h5 h6 => by
        rw [tru2_rj hi3 h6, tru2_cj hi3 h6, if_neg (by omega), if_neg (by omega)]; exact hz j (by omega) h6)
      rw [tru2_w hi3] at this
      exact this
    show t ∈ (ints (B.rl i) (B.rh i)).flatMap _ ↔ _
    simp only [List.mem_flatMap, ints_iff]
    constructor
    · rintro ⟨r, ⟨h1, h2⟩, mi, ⟨h3, h4⟩, h5⟩
      split at h5
      · rename_i h6
        obtain ⟨g1, g2, g3, g4⟩ := (step r mi h1 h2 h3 h4).1 h5
        have gi := g2 i (by omega)
        rw [tru2_rj hi3 hi3, tru2_cj hi3 hi3, if_pos rfl, if_pos rfl] at gi
        have gl : ∀ j, j < i → t.r j = t0.r j ∧ t.c j = t0.c j := fun j hj => by
          have := g2 j (by omega)
          rw [tru2_rj hi3 (by omega), tru2_cj hi3 (by omega), if_neg (by omega), if_neg (by omega)] at this
          exact this
        have gd := sm_dlo (B := B) hi3 hd g1 fun j hj => (gl j hj).2
        refine ⟨g1, gl, fun j hj hjn => ?_, g4⟩
        by_cases hji : j = i
        · subst hji
          refine ⟨by omega, by omega, by rw [gi.2]; exact h6⟩
        · exact g3 j (by omega) hjn
      · cases h5
    · rintro ⟨g1, g2, g3, g4⟩
      have gi := g3 i (Nat.le_refl _) hi
      have gd := sm_dlo (B := B) hi3 hd g1 fun j hj => (g2 j hj).2
      refine ⟨t.r i, gi.1, t.c i, by have := gi.2.1; omega, ?_⟩
      rw [if_pos gi.2.2]
      refine (step (t.r i) (t.c i) gi.1.1 gi.1.2 (by have := gi.2.1; omega) (by have := gi.2.1; omega)).2 ⟨g1, fun j hj => ?_, fun j h1 h2 => g3 j (by omega) h2, g4⟩
      rw [tru2_rj hi3 (by omega), tru2_cj hi3 (by omega)]
      by_cases hji : j = i
      · subst hji; rw [if_pos rfl, if_pos rfl]; exact ⟨rfl, rfl⟩
      · rw [if_neg hji, if_neg hji]; exact g2 j (by omega)
theorem mem_Ws {B : CBook} (hok : stsOk B) (hw : weaOk B) {t : Tru} : t ∈ Ws B ↔ IsT B t := by
  have key : ∀ k, k < 3 → (t ∈ wth B k ↔ hasP B.wea k ∧ t.w = k ∧ (∀ j, j < B.ns → StT B t j) ∧ ∀ j, B.ns ≤ j → j < 3 → t.r j = 0 ∧ t.c j = 0) := fun k hk => by
    have hm := mem_trs hok hw (t := t) B.ns 0 (tru0 k) (by omega) (.inl ⟨rfl, rfl, rfl, rfl⟩) (by show 0 ≤ (k : Int) ∧ (k : Int) < 3; omega) (fun j _ hj => by
      obtain rfl | rfl | rfl : j = 0 ∨ j = 1 ∨ j = 2 := by omega
      all_goals exact ⟨rfl, rfl⟩)
    unfold wth
    by_cases h : hasP B.wea k
    · rw [dB_tt h]
      show t ∈ trs B B.ns 0 (tru0 k) ↔ _
      rw [hm]
      exact ⟨fun ⟨a, _, b, d⟩ => ⟨h, a, fun j hj => b j (Nat.zero_le _) hj, d⟩, fun ⟨_, a, b, d⟩ => ⟨a, fun j hj => by omega, fun j _ hj => b j hj, d⟩⟩
    · rw [dB_ff h]
      exact ⟨fun hh => (by cases hh), fun hh => absurd hh.1 h⟩
  have hall : t ∈ wths B 0 ↔ t ∈ wth B 0 ∨ t ∈ wth B 1 ∨ t ∈ wth B 2 := by
    rw [wths_cons (by omega), wths_cons (by omega), wths_cons (by omega), List.mem_append, List.mem_append, List.mem_append]
    have : wths B 3 = [] := rfl
    rw [show 0 + 1 + 1 + 1 = 3 from rfl, this]
    simp
  show t ∈ wths B 0 ↔ _
  rw [hall, key 0 (by omega), key 1 (by omega), key 2 (by omega)]
  constructor
  · rintro (⟨a, b, d, e⟩ | ⟨a, b, d, e⟩ | ⟨a, b, d, e⟩)
    all_goals exact ⟨⟨by omega, by omega, by rw [b]; exact a⟩, d, e⟩
  · rintro ⟨⟨a, b, d⟩, e, f⟩
    obtain h | h | h : t.w = 0 ∨ t.w = 1 ∨ t.w = 2 := by omega
    · rw [h] at d; exact .inl ⟨d, h, e, f⟩
    · rw [h] at d; exact .inr (.inl ⟨d, h, e, f⟩)
    · rw [h] at d; exact .inr (.inr ⟨d, h, e, f⟩)
end Go.Proofs.Ytlnmcadbmpiopaa
/- Package claim: what is answered of stages, and what the road owes. -/
namespace Go.Proofs.Ytlnmcadbmpiopaa
open Go Go.Ev
noncomputable def ansE (B : CBook) (q : Prop) : Int := if dB (bkOk B) = false then 60 else if dB q = false then 61 else if dB (Ws B = []) = true then 62 else 0
noncomputable def ansL (B : CBook) (q : Prop) (num : Tru → Int) : Int := if ansE B q = 0 then spL num (Ws B) else 0
noncomputable def ansH (B : CBook) (q : Prop) (num : Tru → Int) : Int := if ansE B q = 0 then spH num (Ws B) else 0
noncomputable def ansV (B : CBook) (q : Prop) (num : Tru → Int) : AV := .tup [.agg [.int .i64 (ansL B q num), .int .i64 (ansH B q num)], .int .i64 (ansE B q)]
theorem ansE_no {B : CBook} {q : Prop} (h : ¬ bkOk B) : ansE B q = 60 := by unfold ansE; rw [dB_ff h, if_pos rfl]
theorem ansE_ask {B : CBook} {q : Prop} (h : bkOk B) (hq : ¬ q) : ansE B q = 61 := by unfold ansE; rw [dB_tt h, if_neg (by decide), dB_ff hq, if_pos rfl]
theorem ansE_false {B : CBook} {q : Prop} (h : bkOk B) (hq : q) (hW : Ws B = []) : ansE B q = 62 := by unfold ansE; rw [dB_tt h, if_neg (by decide), dB_tt hq, if_neg (by decide), dB_tt hW, if_pos rfl]
theorem ansE_ok {B : CBook} {q : Prop} (h : bkOk B) (hq : q) (hW : Ws B ≠ []) : ansE B q = 0 := by unfold ansE; rw [dB_tt h, if_neg (by decide), dB_tt hq, if_neg (by decide), dB_ff hW, if_neg (by decide)]
end Go.Proofs.Ytlnmcadbmpiopaa
/- Package claim: Right, Comes, Late, Rough, Owes. -/
namespace Go.Proofs.Ytlnmcadbmpiopaa
open Go Go.Ev
def stQ (B : CBook) (n : Int) : Prop := 0 ≤ n ∧ n ≤ (B.ns : Int) - 1
noncomputable def stF (B : CBook) (a1 a2 : AV) (n : Int) : CallFn := one1 56 [bk B a1 a2, .int .i64 n] (.bool (decide (0 ≤ n ∧ n ≤ (B.ns : Int) - 1))) fun H c => ∃ m, H = ofM m ∧ BkIn B a1 a2 m c
noncomputable def anF (B : CBook) (a1 a2 : AV) (f : Nat) (n : Int) (num : Tru → Int) : CallFn := one1 55 [bk B a1 a2, .agg [.bool (decide (0 ≤ n ∧ n ≤ (B.ns : Int) - 1)), .fn f [] [.ptr 3 0]]] (ansV B (stQ B n) num) fun H c => ∃ m, H = ofM m ∧ BkIn B a1 a2 m c ∧ lookM m 3 = some (.cells [.int .i64 n]) ∧ 3 < c
end Go.Proofs.Ytlnmcadbmpiopaa
/- Loads and stores near the top of a memory whose names are not literal. -/
namespace Go.Ev
open Go
section
variable {P : Program} {fl c t x off : Nat} {m : List (Nat × Option AObj)} {y : Ty} {cs cs' vs : List AV} {v : AV} {a b : Operand}
theorem S.l1_0 [Tab P] (ht : ty P t = some y) (hg : y.agg = false) (hv : cs[off]? = some v) : OpE P fl (.load t a) [.ptr x off] ((x, some (.cells cs)) :: m) c v ((x, some (.cells cs)) :: m) c := S.load1c ht hg lookM_hd hv
theorem S.lN_0 [Tab P] (ht : ty P t = some y) (hg : y.agg = true) (hv : cut cs off y.size = some vs) : OpE P fl (.load t a) [.ptr x off] ((x, some (.cells cs)) :: m) c (.agg vs) ((x, some (.cells cs)) :: m) c := S.loadNc ht hg lookM_hd hv
theorem S.st_0 [Tab P] (ht : ty P t = some y) (h1 : (v.cells.all AV.one) = true) (hl : Nat.beq v.cells.length y.size = true) (hs : splice cs off v.cells = some cs') (hf : fl ≤ x) : OpE P fl (.store t a b) [.ptr x off, v] ((x, some (.cells cs)) :: m) c undefA ((x, some (.cells cs')) :: (x, some (.cells cs)) :: m) c := S.store ht (Nat.ble_eq_true_of_le hf) h1 hl lookM_hd hs
theorem S.lN_1 [Tab P] {d0 : Nat} {o0 : Option AObj} (ht : ty P t = some y) (hg : y.agg = true) (hv : cut cs off y.size = some vs) (n0 : x ≠ d0) : OpE P fl (.load t a) [.ptr x off] ((d0, o0) :: (x, some (.cells cs)) :: m) c (.agg vs) ((d0, o0) :: (x, some (.cells cs)) :: m) c := S.loadNc ht hg ((lookM_tl n0).trans lookM_hd) hv
theorem S.lN_2 [Tab P] {d0 d1 : Nat} {o0 o1 : Option AObj} (ht : ty P t = some y) (hg : y.agg = true) (hv : cut cs off y.size = some vs) (n0 : x ≠ d0) (n1 : x ≠ d1) : OpE P fl (.load t a) [.ptr x off] ((d0, o0) :: (d1, o1) :: (x, some (.cells cs)) :: m) c (.agg vs) ((d0, o0) :: (d1, o1) :: (x, some (.cells cs)) :: m) c := S.loadNc ht hg ((lookM_tl n0).trans ((lookM_tl n1).trans lookM_hd)) hv
theorem S.lN_4 [Tab P] {d0 d1 d2 d3 : Nat} {o0 o1 o2 o3 : Option AObj} (ht : ty P t = some y) (hg : y.agg = true) (hv : cut cs off y.size = some vs) (n0 : x ≠ d0) (n1 : x ≠ d1) (n2 : x ≠ d2) (n3 : x ≠ d3) : OpE P fl (.load t a) [.ptr x off] ((d0, o0) :: (d1, o1) :: (d2, o2) :: (d3, o3) :: (x, some (.cells cs)) :: m) c (.agg vs) ((d0, o0) :: (d1, o1) :: (d2, o2) :: (d3, o3) :: (x, some (.cells cs)) :: m) c := S.loadNc ht hg ((lookM_tl n0).trans ((lookM_tl n1).trans ((lookM_tl n2).trans ((lookM_tl n3).trans lookM_hd)))) hv
theorem S.lN_6 [Tab P] {d0 d1 d2 d3 d4 d5 : Nat} {o0 o1 o2 o3 o4 o5 : Option AObj} (ht : ty P t = some y) (hg : y.agg = true) (hv : cut cs off y.size = some vs) (n0 : x ≠ d0) (n1 : x ≠ d1) (n2 : x ≠ d2) (n3 : x ≠ d3) (n4 : x ≠ d4) (n5 : x ≠ d5) : OpE P fl (.load t a) [.ptr x off] ((d0, o0) :: (d1, o1) :: (d2, o2) :: (d3, o3) :: (d4, o4) :: (d5, o5) :: (x, some (.cells cs)) :: m) c (.agg vs) ((d0, o0) :: (d1, o1) :: (d2, o2) :: (d3, o3) :: (d4, o4) :: (d5, o5) :: (x, some (.cells cs)) :: m) c := S.loadNc ht hg ((lookM_tl n0).trans ((lookM_tl n1).trans ((lookM_tl n2).trans ((lookM_tl n3).trans ((lookM_tl n4).trans ((lookM_tl n5).trans lookM_hd)))))) hv
end
end Go.Ev
/- Package claim: in which truths something is so. -/
namespace Go.Proofs.Ytlnmcadbmpiopaa
open Go Go.Ev
def PrOK (B : CBook) (g : Nat) (first cap : List AV) (m : List (Nat × Option AObj)) (c : Nat) (pr : Tru → Prop) : Prop := ∀ t ∈ Ws B, ∀ m' c', Sub m c m' c' → ∀ fl, OkAt 0 Try.prog fl g (first ++ [trV t] ++ cap) (ofM m') c' (.bool (dB (pr t))) (ofM m') c'
theorem PrOK.sub {B : CBook} {g : Nat} {first cap : List AV} {m m2 : List (Nat × Option AObj)} {c c2 : Nat} {pr : Tru → Prop} (h : PrOK B g first cap m c pr) (k : Sub m c m2 c2) : PrOK B g first cap m2 c2 pr := fun t ht m' c' hs fl => h t ht m' c' (k.trans hs) fl
section
variable {B : CBook} {g x : Nat} {first cap : List AV} {m : List (Nat × Option AObj)} {c : Nat} {pr : Tru → Prop}
set_option maxRecDepth 100000 in
set_option maxHeartbeats 4000000 in
theorem index_at (hx : lookM m x = some (oWs B)) (hlen : (Ws B).length ≤ 5184) (hp : PrOK B g first cap m c pr) (fl : Nat) : OkAt 0 Try.prog fl 127 [.gs x (wths B 0).length, .fn g first cap] (ofM m) c (.int .i64 (ixV pr (Ws B))) (ofM m) c := by
  refine CanS.here (CanS.mk Try.func127 rfl rfl rfl ?_) (.int _ _) fl
  have hs := IsSl.gs x (wths B 0).length
  repeat' (first | refine RT.nil ?_ | refine sq_n ?_ | refine Tr.seq ?_ | refine Tr.region ?_ | refine Tr.block ?_ | (refine RT.goK rfl rfl rfl rfl ?_; apply Nx.of; (first | exact S.move | exact S.assign)) | (refine RT.goK rfl rfl rfl rfl ?_; apply Nx.of; (first | exact S.len_sl rfl rfl rfl (by assumption))))
  refine Tr.loop (fun k : Nat => stL Try.f127.ntmps [] [(0, .gs x (wths B 0).length), (1, .fn g first cap), (7, .int .i64 (wths B 0).length), (8, .int .i64 k)] m c) (fun k => k ≤ (Ws B).length ∧ ∀ i u, i < k → (Ws B)[i]? = some u → ¬ pr u) (fun k => (Ws B).length - k) 0 ⟨Nat.zero_le _, fun i u hi => by omega⟩ (Wk.temps (Nat.le_refl _) (Nat.zero_le _) (Nat.le_refl _) ⟨rfl, rfl, rfl, rfl, trivial⟩) (fun k hk => ?_)
  obtain ⟨hk, hno⟩ := hk
  by_cases hlt : k < (Ws B).length
  · obtain ⟨tk, htk, hmk⟩ := at_some hlt
    have hlt' : (k : Int) < (wths B 0).length := by have := hlt; have hw : (Ws B).length = (wths B 0).length := rfl; omega
    repeat' (first | refine RT.nil ?_ | refine sq_n ?_ | refine Tr.seq ?_ | refine Tr.region ?_ | refine Tr.cond_t rfl ?_ | refine Tr.cond_d rfl (fun _ => ?_) (fun _ => ?_) | refine Tr.skip ?_ | refine Tr.ret ?_ | refine sq_r ?_ | refine Tr.block ?_ | refine blk_n ?_ | refine blk_r ?_ | refine lp_r ?_ | (refine RT.goK rfl rfl rfl rfl ?_; (refine Nx.of (S.lss_t hlt') ?_)) | (refine RT.call rfl rfl rfl (hp tk hmk _ _ .refl _) rfl rfl (Nat.le_refl _) ?_) | (refine RT.goK rfl rfl rfl rfl ?_; refine Nx.of (S.rowG rfl rfl hx (fun _ => rfl) htk rfl rfl) ?_) | (refine RT.goK rfl rfl rfl rfl ?_; apply Nx.of; (first | exact S.move | exact S.assign | exact S.add_one (by omega))) | (refine RT.goK rfl rfl rfl rfl ?_; apply Nx.of; (first | exact S.idx_sl rfl rfl rfl (by assumption) (by omega))))
    · (first | refine rt_go rfl ?_)
      exact congrArg (AV.int .i64) (ixV_at hno htk (by assumption)).symm
    · refine lp_n (k + 1) ⟨hlt, fun i u hi hu => ?_⟩ (by omega) (Wk.temps (Nat.le_refl _) (Nat.zero_le _) (Nat.le_refl _) ⟨rfl, rfl, rfl, rfl, trivial⟩)
      rcases Nat.lt_succ_iff_lt_or_eq.1 hi with h | rfl
      · exact hno i u h hu
      · rw [htk] at hu; cases hu; assumption
  · have hlt' : ¬ (k : Int) < (wths B 0).length := by have := hlt; have hw : (Ws B).length = (wths B 0).length := rfl; omega
    repeat' (first | refine RT.nil ?_ | refine sq_n ?_ | refine Tr.seq ?_ | refine Tr.region ?_ | refine Tr.cond_f rfl ?_ | refine Tr.ret ?_ | refine Tr.exit ?_ | refine sq_x ?_ | refine blk_hit rfl ?_ | refine lp_x ?_ | (refine RT.goK rfl rfl rfl rfl ?_; (refine Nx.of (S.lss_f hlt') ?_)) | (refine RT.goK rfl rfl rfl rfl ?_; apply Nx.of; (first | exact S.assign)))
    (first | refine rt_go rfl ?_)
    exact congrArg (AV.int .i64) (ixV_none fun i u hi hu => hno i u (by omega) hu).symm
set_option maxRecDepth 100000 in
set_option maxHeartbeats 4000000 in
theorem contains_at (hx : lookM m x = some (oWs B)) (hlen : (Ws B).length ≤ 5184) (hp : PrOK B g first cap m c pr) (fl : Nat) : OkAt 0 Try.prog fl 125 [.gs x (wths B 0).length, .fn g first cap] (ofM m) c (.bool (dB (∃ t ∈ Ws B, pr t))) (ofM m) c := by
  refine CanS.here (CanS.mk Try.func125 rfl rfl rfl ?_) (.bool _) fl
  repeat' (first | refine RT.nil ?_ | refine sq_n ?_ | refine Tr.seq ?_ | refine Tr.region ?_ | refine Tr.ret ?_ | (refine RT.call rfl rfl rfl (index_at hx hlen hp _) rfl rfl (Nat.le_refl _) ?_) | (refine RT.goK rfl rfl rfl rfl ?_; apply Nx.of; (first | exact S.move | exact S.assign | exact S.geq)))
  (first | refine rt_go rfl ?_)
  exact dB_iff ixV_nn
set_option maxRecDepth 100000 in
set_option maxHeartbeats 4000000 in
theorem some_at {p : Nat} (hx : lookM m x = some (oWs B)) (hxc : x < c) (hlen : (Ws B).length ≤ 5184) (hp : PrOK B g first cap m c pr) (fl : Nat) : OkAt 0 Try.prog fl 117 [.agg [.ptr p 0, .gs x (wths B 0).length], .fn g first cap] (ofM m) c (.bool (dB (∃ t ∈ Ws B, pr t))) (ofM m) c := by
  refine CanS.here (CanS.mk Try.func117 rfl rfl rfl ?_) (.bool _) fl
  repeat' (first | refine RT.nil ?_ | refine sq_n ?_ | refine Tr.seq ?_ | refine Tr.region ?_ | refine Tr.ret ?_ | (refine RT.goK rfl rfl rfl rfl ?_; apply Nx.of; (first | exact S.l1_0 rfl rfl rfl)) | (refine RT.call rfl rfl rfl (contains_at ((lookM_tl (by omega)).trans hx) hlen (hp.sub (Sub.refl.cons (Nat.le_refl _) (by omega))) _) rfl rfl (Nat.le_refl _) ?_) | (refine RT.goK rfl rfl rfl rfl ?_; apply Nx.of; (first | exact S.move | exact S.assign | exact S.fieldAddr rfl rfl rfl | exact S.box)))
  (first | refine rt_go rfl ?_)
  rfl
set_option maxRecDepth 100000 in
set_option maxHeartbeats 4000000 in
theorem none_at {p : Nat} (hx : lookM m x = some (oWs B)) (hxc : x < c) (hlen : (Ws B).length ≤ 5184) (hp : PrOK B g first cap m c pr) (fl : Nat) : OkAt 0 Try.prog fl 118 [.agg [.ptr p 0, .gs x (wths B 0).length], .fn g first cap] (ofM m) c (.bool (dB (¬ ∃ t ∈ Ws B, pr t))) (ofM m) c := by
  refine CanS.here (CanS.mk Try.func118 rfl rfl rfl ?_) (.bool _) fl
  repeat' (first | refine RT.nil ?_ | refine sq_n ?_ | refine Tr.seq ?_ | refine Tr.region ?_ | refine Tr.ret ?_ | (refine RT.goK rfl rfl rfl rfl ?_; apply Nx.of; (first | exact S.lN_0 rfl rfl rfl)) | (refine RT.call rfl rfl rfl (some_at ((lookM_tl (by omega)).trans hx) (by omega) hlen (hp.sub (Sub.refl.cons (Nat.le_refl _) (by omega))) _) rfl rfl (Nat.le_refl _) ?_) | (refine RT.goK rfl rfl rfl rfl ?_; apply Nx.of; (first | exact S.move | exact S.assign | exact S.not_d | exact S.box)))
  (first | refine rt_go rfl ?_)
  first | exact dB_iff Iff.rfl
set_option maxRecDepth 100000 in
set_option maxHeartbeats 4000000 in
theorem each1_ok {y : Nat} (hy : lookM m y = some (.cells [.fn g first cap])) (hyc : y < c) (hp : PrOK B g first cap m c pr) : PrOK B 124 [] [.ptr y 0] m c (fun t => ¬ pr t) := fun t ht m' c' hs fl => by
  have hy' : lookM m' y = some (.cells [.fn g first cap]) := (hs.eq y hyc).trans hy
  have hle := hs.le
  refine CanS.here (CanS.mk Try.func124 rfl rfl rfl ?_) (.bool _) fl
  repeat' (first | refine RT.nil ?_ | refine sq_n ?_ | refine Tr.seq ?_ | refine Tr.region ?_ | refine Tr.ret ?_ | (refine RT.goK rfl rfl rfl rfl ?_; apply Nx.of; (first | exact S.lN_0 rfl rfl rfl)) | (refine RT.goK rfl rfl rfl rfl ?_; refine Nx.of (S.load1c rfl rfl ((lookM_tl (by omega)).trans hy') rfl) ?_) | (refine RT.call rfl rfl rfl (hp t ht _ _ (hs.cons (by omega) (by omega)) _) rfl rfl (Nat.le_refl _) ?_) | (refine RT.goK rfl rfl rfl rfl ?_; apply Nx.of; (first | exact S.assign | exact S.not_d | exact S.box)))
  (first | refine rt_go rfl ?_)
  first | exact dB_iff Iff.rfl
set_option maxRecDepth 100000 in
set_option maxHeartbeats 4000000 in
theorem each_at {p : Nat} (hx : lookM m x = some (oWs B)) (hxc : x < c) (hlen : (Ws B).length ≤ 5184) (hp : PrOK B g first cap m c pr) (fl : Nat) : OkAt 0 Try.prog fl 116 [.agg [.ptr p 0, .gs x (wths B 0).length], .fn g first cap] (ofM m) c (.bool (dB (∀ t ∈ Ws B, pr t))) (ofM m) c := by
  refine CanS.here (CanS.mk Try.func116 rfl rfl rfl ?_) (.bool _) fl
  repeat' (first | refine RT.nil ?_ | refine sq_n ?_ | refine Tr.seq ?_ | refine Tr.region ?_ | refine Tr.ret ?_ | (refine RT.goK rfl rfl rfl rfl ?_; apply Nx.of; (first | exact S.lN_1 rfl rfl rfl (by omega))) | (refine RT.call rfl rfl rfl (some_at (pr := fun t => ¬ pr t) ((lookM_tl (by omega)).trans ((lookM_tl (by omega)).trans hx)) (by omega) hlen (each1_ok lookM_hd (by omega) (hp.sub ((Sub.refl.cons (c2 := c + 1) (Nat.le_refl _) (by omega)).cons (by omega) (by omega)))) _) rfl rfl (Nat.le_refl _) ?_) | (refine RT.goK rfl rfl rfl rfl ?_; apply Nx.of; (first | exact S.assign | exact S.not_d | exact S.box | exact S.makeFunc)))
  (first | refine rt_go rfl ?_)
  refine dB_iff ?_
  simp
end
end Go.Proofs.Ytlnmcadbmpiopaa
