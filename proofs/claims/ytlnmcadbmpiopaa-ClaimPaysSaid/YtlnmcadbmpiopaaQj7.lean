/- Texts of one kind, one behind the other: Eu, Lj. -/
import Derived.Test.YtlnmcadbmpiopaaQj6
set_option linter.unusedVariables false
set_option linter.unusedSimpArgs false
/- The reference of layer 6: Owes, Pays, First. -/
namespace Go.Proofs.Ytlnmcadbmpiopaa
open Go Go.Ev

theorem tot6_bd {B : CBook} {t : Tru} (hB : bkOk B) (ht : IsT B t) : (∀ k, k ≤ B.ns → -1000000 ≤ totV t.r k ∧ totV t.r k ≤ 1000000) ∧ 0 ≤ rgV t ∧ rgV t ≤ 90 := by
  have hns := hB.1.1
  have hr0 := (IsT.bd0 hB.1 hB.2.1 ht (show 0 < 3 by decide)).2
  have hr1 := (IsT.bd0 hB.1 hB.2.1 ht (show 1 < 3 by decide)).2
  have hr2 := (IsT.bd0 hB.1 hB.2.1 ht (show 2 < 3 by decide)).2
  have e0 : t.r 0 = t.r0 := rfl
  have e1 : t.r 1 = t.r1 := rfl
  have e2 : t.r 2 = t.r2 := rfl
  refine ⟨fun k hk => ?_, ?_⟩
  · obtain rfl | rfl | rfl | rfl : k = 0 ∨ k = 1 ∨ k = 2 ∨ k = 3 := by omega
    all_goals (simp only [totV]; omega)
  · unfold rgV
    omega
theorem grI_rf (x n : Nat) : rfV (grI x n) = true := by cases n <;> rfl
theorem tcsF_rf {f g : Nat → Nat} {k : Nat} : ∀ (L : List Tru) (n : Nat), rfVs (tcsF f g k n L) = true
  | [], _ => rfl
  | t :: L, n => by
    show (rfV _ && (rfV (grI (f n) k) && (rfV (grI (g n) k) && rfVs (tcsF f g k (n + 1) L)))) = true
    rw [grI_rf, grI_rf, tcsF_rf L (n + 1)]
    rfl
theorem ow_in {B : CBook} {t : Tru} (hr : 0 ≤ B.rate ∧ B.rate ≤ 99) (h : 0 ≤ rgV t ∧ rgV t ≤ 90) : In64 (B.rate * min (ltV B (B.ns - 1) t) (rgV t)) := by
  have hx : 0 ≤ min (ltV B (B.ns - 1) t) (rgV t) ∧ min (ltV B (B.ns - 1) t) (rgV t) ≤ 90 := by
    unfold ltV
    omega
  obtain ⟨x, ex⟩ : ∃ x, min (ltV B (B.ns - 1) t) (rgV t) = x := ⟨_, rfl⟩
  rw [ex] at hx ⊢
  have h1 := Int.mul_le_mul hr.2 hx.2 hx.1 (by decide)
  have h2 := Int.mul_nonneg hr.1 hx.1
  unfold In64
  omega
set_option maxRecDepth 100000 in
set_option maxHeartbeats 4000000 in
theorem Owes6_can (B : CBook) (a1 a2 : AV) (h1 : IsSl a1 B.ns 0) (h2 : IsSl a2 B.nc 1) (hn : B.ns ≤ 9223372036854775807) : CanS 0 Try.prog 25 2 [bk B a1 a2] [(0, some (oSt B)), (1, some (oCk B))] 2 fun v _ _ => v = ansV B True (owV B) := by
  have hrf : rfVs (bk B a1 a2).cells = true := by simp [bk, AV.cells, rfVs, rfV, h1.rf, h2.rf]
  refine CanS.mk Try.func25 rfl rfl rfl ?_
  by_cases hB : bkOk B
  · by_cases hW : gW B = []
    · have hask := fun fl => asked_false_at (m := [(3, some (.cells [.int .i64 0, .int .i64 0])), (2, some (.cells (bk B a1 a2).cells)), (0, some (oSt B)), (1, some (oCk B))]) (c := 4) ⟨h1, h2, rfl, rfl, by decide⟩ hn hB hW fl
      repeat' (first | refine RT.nil ?_ | refine sq_n ?_ | refine Tr.seq ?_ | refine Tr.region ?_ | refine Tr.cond_t rfl ?_ | refine Tr.ret ?_ | refine sq_r ?_ | (refine RT.call rfl rfl rfl (hask _) rfl rfl (by decide) ?_) | (refine RT.goK rfl rfl rfl rfl ?_; apply Nx.of; (first | exact S.neq_t (by decide))) | (refine RT.goK rfl rfl rfl rfl ?_; apply Nx.of; (first | exact S.move | exact S.assign | exact S.loadNc rfl rfl rfl rfl | exact S.box | exact S.alloc rfl | exact S.build rfl rfl rfl | exact S.extract rfl)) | (refine RT.goK0 rfl rfl rfl ?_; apply Nx.of; (first | exact S.store rfl rfl rfl rfl rfl rfl)))
      (first | refine rt_go rfl ?_)
      exact (ansV_err (ansE_false hB trivial ((gW_nil hB).1 hW)) (by decide)).symm
    · have hlp : 0 < (gW B).length := List.length_pos_iff.2 hW
      have hlen : (gW B).length ≤ 59049 := gWk_len hB 3
      have hask : ∀ fl, OkAt 0 Try.prog fl 58 [bk B a1 a2, .bool true] (ofM [(3, some (.cells [.int .i64 0, .int .i64 0])), (2, some (.cells (bk B a1 a2).cells)), (0, some (oSt B)), (1, some (oCk B))]) 4 (.tup [.gs 5 (gW B).length, .int .i64 0]) (ofM (goM B 5 (gW B) ++ [(3, some (.cells [.int .i64 0, .int .i64 0])), (2, some (.cells (bk B a1 a2).cells)), (0, some (oSt B)), (1, some (oCk B))])) 200005 := fun fl => asked_yes_at h1 h2 hn hB hW m4_low rfl rfl fl
      repeat' (first | refine RT.nil ?_ | refine sq_n ?_ | refine Tr.seq ?_ | refine Tr.region ?_ | refine Tr.cond_f rfl ?_ | refine Tr.skip ?_ | refine Tr.block ?_ | (refine RT.call rfl rfl rfl (hask _) rfl rfl (by decide) ?_) | (refine RT.goK rfl rfl rfl rfl ?_; apply Nx.of; (first | exact S.neq_f (by decide))) | (refine RT.goK rfl rfl rfl rfl ?_; apply Nx.of; (first | exact S.move | exact S.assign | exact S.loadNc rfl rfl rfl rfl | exact S.box | exact S.alloc rfl | exact S.extract rfl | exact S.buildSlice0 rfl rfl rfl)))
      refine Tr.loop (fun k : Nat => stL Try.f25.ntmps [] [(6, tEx 300000 k), (1, .ptr 2 0), (2, .ptr 3 0), (4, .gs 5 (gW B).length), (7, .int .i64 (k : Int))] ((300000, some (tO (fun i => owV B (gT B i)) k)) :: (goM B 5 (gW B) ++ [(3, some (.cells [.int .i64 0, .int .i64 0])), (2, some (.cells (bk B a1 a2).cells)), (0, some (oSt B)), (1, some (oCk B))])) 300001) (fun k => k ≤ (gW B).length) (fun k => (gW B).length - k) 0 (Nat.zero_le _) ?_ (fun k hk => ?_)
      · exact num_wk h1 h2 hB (x := 200005) (k := 0) (by decide) (by decide) ⟨rfl, rfl, rfl, rfl, trivial⟩ rfl rfl (fun y o hy h => (lookM_tl (by omega)).trans h)
      have x5 : lookM ((300000, some (tO (fun i => owV B (gT B i)) k)) :: (goM B 5 (gW B) ++ [(3, some (.cells [.int .i64 0, .int .i64 0])), (2, some (.cells (bk B a1 a2).cells)), (0, some (oSt B)), (1, some (oCk B))])) 5 = some (.grown (tcsF (fC 5) (gC 5) B.ns 0 (gW B)) 3) := (lookM_tl (by decide)).trans (look_app (goM_list hW))
      by_cases hlt : k < (gW B).length
      · have hlt' : (k : Int) < (gW B).length := by omega
        have ht := (mem_gW hB.1).1 (List.mem_of_getElem? (gT_at hlt))
        have hns := hB.1.1
        have hnn : B.ns - 1 < 3 := by omega
        have hcb := (IsT.bd0 hB.1 hB.2.1 ht hnn).1
        have xt := goM_tr (B := B) (c := 5) (gT_at hlt)
        have eg : ∀ x, grI x B.ns = .gs x B.ns := fun x => by
          cases hq : B.ns with
          | zero => omega
          | succ n => rfl
        have x6 := tcsF_cut (f := fC 5) (g := gC 5) (k := B.ns) (gT_at hlt)
        rw [eg, eg] at x6
        have x7 := (n5_at hB hlt).1
        have x5r := tcsF_rf (f := fC 5) (g := gC 5) (k := B.ns) (gW B) 0
        have hs5 : IsSl (AV.gs 5 (gW B).length) (gW B).length 5 := IsSl.gs 5 _
        have sk : ∀ {y : Nat} {o : AObj}, y ≠ 300000 → lookM (goM B 5 (gW B) ++ [(3, some (.cells [.int .i64 0, .int .i64 0])), (2, some (.cells (bk B a1 a2).cells)), (0, some (oSt B)), (1, some (oCk B))]) y = some o → lookM ((300000, some (tO (fun i => owV B (gT B i)) k)) :: (goM B 5 (gW B) ++ [(3, some (.cells [.int .i64 0, .int .i64 0])), (2, some (.cells (bk B a1 a2).cells)), (0, some (oSt B)), (1, some (oCk B))])) y = some o := fun {y o} hy h => (lookM_tl hy).trans h
        have s4 : ∀ {y : Nat} {o : AObj}, y < 5 → lookM [(3, some (.cells [.int .i64 0, .int .i64 0])), (2, some (.cells (bk B a1 a2).cells)), (0, some (oSt B)), (1, some (oCk B))] y = some o → lookM (goM B 5 (gW B) ++ [(3, some (.cells [.int .i64 0, .int .i64 0])), (2, some (.cells (bk B a1 a2).cells)), (0, some (oSt B)), (1, some (oCk B))]) y = some o := fun {y o} hy h => (look_skip fun e he => by have := goM_keys e he; omega).trans h
        have x2 := sk (by decide) (s4 (by decide) rfl : lookM (goM B 5 (gW B) ++ [(3, some (.cells [.int .i64 0, .int .i64 0])), (2, some (.cells (bk B a1 a2).cells)), (0, some (oSt B)), (1, some (oCk B))]) 2 = some (.cells (bk B a1 a2).cells))
        have hq : stQ B ((B.ns - 1 : Nat) : Int) := ⟨by omega, by omega⟩
        have hla : ∀ fl, OkAt 0 Try.prog fl 63 [bk B a1 a2, .agg [.int .i64 (gT B k).w, .gs (fC 5 k) B.ns, .gs (gC 5 k) B.ns], .int .i64 ((B.ns - 1 : Nat) : Int)] (ofM ((300000, some (tO (fun i => owV B (gT B i)) k)) :: (goM B 5 (gW B) ++ [(3, some (.cells [.int .i64 0, .int .i64 0])), (2, some (.cells (bk B a1 a2).cells)), (0, some (oSt B)), (1, some (oCk B))]))) 300001 (.int .i64 (ltV B (B.ns - 1) (gT B k))) (ofM ((300000, some (tO (fun i => owV B (gT B i)) k)) :: (goM B 5 (gW B) ++ [(3, some (.cells [.int .i64 0, .int .i64 0])), (2, some (.cells (bk B a1 a2).cells)), (0, some (oSt B)), (1, some (oCk B))]))) 300001 := fun fl => late6_at h1 h2 hB hq hcb (sk (by decide) (s4 (by decide) rfl)) (sk (by decide) (s4 (by decide) rfl)) (sk (by unfold fC; omega) (look_app xt.1)) (sk (by unfold gC; omega) (look_app xt.2)) fl
        have htb := tot6_bd hB ht
        have htot : ∀ fl, OkAt 0 Try.prog fl 41 [.gs (fC 5 k) B.ns] (ofM ((300000, some (tO (fun i => owV B (gT B i)) k)) :: (goM B 5 (gW B) ++ [(3, some (.cells [.int .i64 0, .int .i64 0])), (2, some (.cells (bk B a1 a2).cells)), (0, some (oSt B)), (1, some (oCk B))]))) 300001 (.int .i64 (rgV (gT B k))) (ofM ((300000, some (tO (fun i => owV B (gT B i)) k)) :: (goM B 5 (gW B) ++ [(3, some (.cells [.int .i64 0, .int .i64 0])), (2, some (.cells (bk B a1 a2).cells)), (0, some (oSt B)), (1, some (oCk B))]))) 300001 := fun fl => by
          rw [← tot_rg hB ht.z]
          exact Total_at (Li.sl (IsSl.gs _ B.ns) (sk (by unfold fC; omega) (look_app xt.1)) rfl) (by omega) htb.1 fl
        have hmul := ow_in (B := B) (t := gT B k) hB.2.2.2 htb.2
        repeat' (first | refine RT.nil ?_ | refine sq_n ?_ | refine Tr.seq ?_ | refine Tr.region ?_ | refine Tr.cond_t rfl ?_ | refine Tr.skip ?_ | refine Tr.block ?_ | (refine RT.goK rfl rfl rfl rfl ?_; first | refine Nx.of (S.lss_t hlt') ?_) | (refine RT.goK rfl rfl rfl rfl ?_; apply Nx.of; (first | exact S.move)) | (refine RT.goK rfl rfl rfl rfl ?_; apply Nx.of; (first | exact S.len_sl rfl rfl rfl (by assumption))))
        refine Tr.openK un25_8 (by kernel_rfl) (by kernel_rfl) (alts [pinX 63 _ _ 300001 _ _ 300001, pinX 41 _ _ 300001 _ _ 300001]) (alts_calm fun g hg => by
          simp only [List.mem_cons, List.not_mem_nil, or_false] at hg
          rcases hg with rfl | rfl
          · exact pinX_calm hla (fun fl => Good.refl fl 300001 _)
          · exact pinX_calm htot (fun fl => Good.refl fl 300001 _)) ?_
        repeat' (first | (refine RD.free rfl rfl rfl rfl rfl rfl ?_; apply Nx.of; (first | exact S.idx_sl rfl rfl rfl hs5 hlt | exact S.len_sl rfl rfl rfl h1)) | (refine RD.load rfl rfl rfl rfl rfl rfl rfl (by refine us_all ?_; simp only [usOk, cond_true, cond_false]; (repeat' (first | exact trivial | refine And.intro ?_ ?_)); all_goals (first | rfl | exact .inl trivial)) ?_; apply Nx.of; (first | exact S.load1 rfl rfl x2 rfl rfl | exact S.loadN rfl rfl x2 rfl rfl | exact S.loadN rfl rfl x5 rfl x6)) | (refine RD.free rfl rfl rfl rfl rfl rfl ?_; apply Nx.of; (first | exact S.move | exact S.fieldAddr rfl rfl rfl | exact S.sub_one (by omega) (by omega))))
        (refine RD.callX rfl rfl rfl rfl rfl rfl rfl rfl (by simp) (fun fl' => alts_hd (pinX_at _ _ _ _ _ _ _ fl')) (fun _ => by refine srOkX_all ?_; simp only [srOkX]; (repeat' (first | exact trivial | refine And.intro ?_ ?_)); all_goals (first | (refine ⟨_, x2, x2, ?_⟩; (first | exact hrf)))) ?_)
        repeat' (first | (refine RD.free rfl rfl rfl rfl rfl rfl ?_; apply Nx.of; (first | exact S.idx_sl rfl rfl rfl hs5 hlt)) | (refine RD.load rfl rfl rfl rfl rfl rfl rfl (by refine us_all ?_; simp only [usOk, cond_true, cond_false]; (repeat' (first | exact trivial | refine And.intro ?_ ?_)); all_goals (first | rfl | exact .inl trivial | (refine Or.inr ⟨_, _, _, rfl, getM x5, getM x5, ?_⟩; (first | exact x5r)))) ?_; apply Nx.of; (first | exact S.load1g rfl rfl x5 x7)) | (refine RD.free rfl rfl rfl rfl rfl rfl ?_; apply Nx.of; (first | exact S.move | exact S.fieldAddr rfl rfl rfl)))
        (refine RD.callX rfl rfl rfl rfl rfl rfl rfl rfl (by simp) (fun fl' => (alts_tl (pinX_nf (by decide))).trans (alts_hd (pinX_at _ _ _ _ _ _ _ fl'))) (fun _ => by refine srOkX_all ?_; simp only [srOkX]; (repeat' (first | exact trivial | refine And.intro ?_ ?_)); all_goals (first | (refine ⟨_, x2, x2, ?_⟩; (first | exact hrf)))) ?_)
        repeat' (first | (refine RD.free rfl rfl rfl rfl rfl rfl ?_; apply Nx.of; (first | exact S.mul hmul)) | (refine RD.free rfl rfl rfl rfl rfl rfl ?_; apply Nx.of; (first | exact S.min2)) | (refine RD.new rfl rfl rfl rfl rfl rfl ?_; apply Nx.of; (first | exact S.buildSlice rfl rfl rfl rfl rfl rfl rfl)))
        cases k with
        | zero =>
          (refine RD.wide rfl rfl rfl rfl rfl rfl rfl (by simp) ?_; refine Nx.of (S.append_e1I rfl rfl rfl rfl rfl rfl rfl rfl rfl rfl rfl rfl) ⟨rfl, ?_⟩)
          repeat' (first | (refine RD.free rfl rfl rfl rfl rfl rfl ?_; apply Nx.of; (first | exact S.assign)) | refine RD.nil ⟨Nat.le_of_ble_eq_true rfl, ?_⟩)
          repeat' (first | refine RT.nil ?_ | refine sq_n ?_ | refine Tr.region ?_ | refine blk_n ?_ | (refine RT.goK rfl rfl rfl rfl ?_; apply Nx.of; (first | exact S.move | exact S.assign | exact S.add_one (by omega))))
          refine lp_n 1 (by omega) (by omega) ?_
          exact num_wk h1 h2 hB (x := 300002) (k := 1) (by decide) (by decide) ⟨rfl, rfl, rfl, rfl, trivial⟩ rfl rfl (fun y o hy h => (lookM_tl (by omega)).trans ((lookM_tl (by omega)).trans ((lookM_tl (by omega)).trans h)))
        | succ j =>
          (refine RD.wide rfl rfl rfl rfl rfl rfl rfl (by simp) ?_; refine Nx.of (S.append_gsI rfl rfl rfl rfl rfl rfl rfl rfl rfl rfl rfl rfl rfl (cut_all (by rw [fE_len, Nat.mul_one])) (by omega) rfl) ⟨rfl, ?_⟩)
          repeat' (first | (refine RD.free rfl rfl rfl rfl rfl rfl ?_; apply Nx.of; (first | exact S.assign)) | refine RD.nil ⟨Nat.le_of_ble_eq_true rfl, ?_⟩)
          repeat' (first | refine RT.nil ?_ | refine sq_n ?_ | refine Tr.region ?_ | refine blk_n ?_ | (refine RT.goK rfl rfl rfl rfl ?_; apply Nx.of; (first | exact S.move | exact S.assign | exact S.add_one (by omega))))
          refine lp_n (j + 2) (by omega) (by omega) ?_
          exact num_wk h1 h2 hB (x := 300002) (k := j + 2) (by decide) (by decide) ⟨rfl, rfl, rfl, rfl, trivial⟩ rfl (by show _ = some (AObj.grown (fE _ (j + 1 + 1)) 1); rw [fE_succ _ (j + 1)]; rfl) (fun y o hy h => (lookM_tl (by omega)).trans ((lookM_tl (by omega)).trans ((lookM_tl (by omega)).trans ((lookM_tl (by omega)).trans h))))
      · obtain hkN : k = (gW B).length := by have : k ≤ (gW B).length := hk; omega
        have hlt' : ¬ (k : Int) < (gW B).length := by omega
        have hs5 : IsSl (AV.gs 5 (gW B).length) (gW B).length 5 := IsSl.gs 5 _
        obtain ⟨N, hN⟩ : ∃ N, (gW B).length = N + 1 := ⟨(gW B).length - 1, by omega⟩
        refine Tr.wk (Wk.drop (l2 := [(6, tEx 300000 k), (1, .ptr 2 0), (2, .ptr 3 0), (4, .gs 5 (gW B).length), (7, .int .i64 (k : Int))]) (m2 := (300000, some (tO (fun i => owV B (gT B i)) k)) :: [(3, some (.cells [.int .i64 0, .int .i64 0])), (2, some (.cells (bk B a1 a2).cells)), (0, some (oSt B)), (1, some (oCk B))]) (by decide) (by decide) (by decide) ⟨rfl, rfl, rfl, rfl, rfl, trivial⟩ fun x o hx => ?_) ?_
        · by_cases e : x = 300000
          · subst e; exact hx
          · rw [lookM_tl e] at hx ⊢
            have := m4_low x o hx
            exact (look_skip fun e he => by have := goM_keys e he; omega).trans hx
        have hli : Li ((300000, some (tO (fun i => owV B (gT B i)) k)) :: [(3, some (.cells [.int .i64 0, .int .i64 0])), (2, some (.cells (bk B a1 a2).cells)), (0, some (oSt B)), (1, some (oCk B))]) (tEx 300000 k) (fun i => owV B (gT B i)) (gW B).length := by
          rw [hkN, hN]
          exact Li.sl (x := 300000) (IsSl.gs 300000 (N + 1)) lookM_hd rfl
        repeat' (first | refine RT.nil ?_ | refine sq_n ?_ | refine Tr.seq ?_ | refine Tr.region ?_ | refine Tr.cond_f rfl ?_ | refine Tr.ret ?_ | refine Tr.exit ?_ | refine sq_x ?_ | refine blk_hit rfl ?_ | refine lp_x ?_ | (refine RT.goK rfl rfl rfl rfl ?_; first | refine Nx.of (S.lss_f hlt') ?_) | (refine RT.call rfl rfl rfl (ends_at hli hlp (by omega) _) rfl rfl (Nat.le_refl _) ?_) | (refine RT.goK rfl rfl rfl rfl ?_; apply Nx.of; (first | exact S.move | exact S.assign)) | (refine RT.goK0 rfl rfl rfl ?_; apply Nx.of; (first | exact S.store rfl rfl rfl rfl rfl rfl)) | (refine RT.goK rfl rfl rfl rfl ?_; apply Nx.of; (first | exact S.len_sl rfl rfl rfl (by assumption))))
        (first | refine rt_go rfl ?_)
        exact ans_gW hB trivial hW (owV B)
  · have hask := fun fl => asked_no_at (m := [(3, some (.cells [.int .i64 0, .int .i64 0])), (2, some (.cells (bk B a1 a2).cells)), (0, some (oSt B)), (1, some (oCk B))]) (c := 4) ⟨h1, h2, rfl, rfl, by decide⟩ hn hB true fl
    repeat' (first | refine RT.nil ?_ | refine sq_n ?_ | refine Tr.seq ?_ | refine Tr.region ?_ | refine Tr.cond_t rfl ?_ | refine Tr.ret ?_ | refine sq_r ?_ | (refine RT.call rfl rfl rfl (hask _) rfl rfl (by decide) ?_) | (refine RT.goK rfl rfl rfl rfl ?_; apply Nx.of; (first | exact S.neq_t (by decide))) | (refine RT.goK rfl rfl rfl rfl ?_; apply Nx.of; (first | exact S.move | exact S.assign | exact S.loadNc rfl rfl rfl rfl | exact S.box | exact S.alloc rfl | exact S.build rfl rfl rfl | exact S.extract rfl)) | (refine RT.goK0 rfl rfl rfl ?_; apply Nx.of; (first | exact S.store rfl rfl rfl rfl rfl rfl)))
    (first | refine rt_go rfl ?_)
    exact (ansV_err (ansE_no hB) (by decide)).symm
theorem Owes6_at {B : CBook} {a1 a2 : AV} {m : List (Nat × Option AObj)} {c : Nat} (h : BkIn B a1 a2 m c) (hn : B.ns ≤ 9223372036854775807) (fl : Nat) : OkAt 0 Try.prog fl 25 [bk B a1 a2] (ofM m) c (ansV B True (owV B)) (ofM m) c :=
  (Owes6_can B a1 a2 h.h1 h.h2 hn).pure (fun _ => rfl) (h.entry [] .nil) fl
theorem Blame6_at {B : CBook} {a1 a2 : AV} {m : List (Nat × Option AObj)} {c : Nat} (h : BkIn B a1 a2 m c) (hn : B.ns ≤ 9223372036854775807) (fl : Nat) : OkAt 0 Try.prog fl 23 [bk B a1 a2] (ofM m) c (numA B (whV B (blP B))) (ofM m) c :=
  (Blame6_can B a1 a2 h.h1 h.h2 hn).pure (by unfold numA; split <;> exact fun _ => rfl) (h.entry [] .nil) fl
theorem Weather6_at {B : CBook} {a1 a2 : AV} {m : List (Nat × Option AObj)} {c : Nat} (h : BkIn B a1 a2 m c) (hn : B.ns ≤ 9223372036854775807) (fl : Nat) : OkAt 0 Try.prog fl 21 [bk B a1 a2] (ofM m) c (numA B (setV (weaP B) 3)) (ofM m) c :=
  (Weather6_can B a1 a2 h.h1 h.h2 hn).pure (by unfold numA; split <;> exact fun _ => rfl) (h.entry [] .nil) fl
set_option maxRecDepth 100000 in
set_option maxHeartbeats 4000000 in
theorem Pays6_can (B : CBook) (a1 a2 : AV) (h1 : IsSl a1 B.ns 0) (h2 : IsSl a2 B.nc 1) (hn : B.ns ≤ 9223372036854775807) : CanS 0 Try.prog 27 2 [bk B a1 a2] [(0, some (oSt B)), (1, some (oCk B))] 2 fun v _ _ => v = numA B (paV B) := by
  refine CanS.mk Try.func27 rfl rfl rfl ?_
  have how := fun fl => Owes6_at (m := [(2, some (.cells (bk B a1 a2).cells)), (0, some (oSt B)), (1, some (oCk B))]) (c := 3) ⟨h1, h2, rfl, rfl, by decide⟩ hn fl
  by_cases hE : ansE B True = 0
  · rw [ansV_ok hE] at how
    rw [numA_ok hE]
    have hbl := fun fl => Blame6_at (m := (3, some (.cells [.int .i64 (spL (owV B) (Ws B)), .int .i64 (spH (owV B) (Ws B))])) :: (3, some (.cells [.int .i64 0, .int .i64 0])) :: [(2, some (.cells (bk B a1 a2).cells)), (0, some (oSt B)), (1, some (oCk B))]) (c := 4) ⟨h1, h2, rfl, rfl, by decide⟩ hn fl
    rw [numA_ok hE] at hbl
    by_cases h2' : whV B (blP B) = 2
    · have hl : ¬ whV B (blP B) < 2 := by omega
      repeat' (first | refine RT.nil ?_ | refine sq_n ?_ | refine Tr.seq ?_ | refine Tr.region ?_ | refine Tr.cond_f rfl ?_ | refine Tr.skip ?_ | refine Tr.ret ?_ | (refine RT.call rfl rfl rfl (how _) rfl rfl (Nat.le_refl _) ?_) | (refine RT.call rfl rfl rfl (hbl _) rfl rfl (Nat.le_refl _) ?_) | (refine RT.goK rfl rfl rfl rfl ?_; refine Nx.of (S.lss_f hl) ?_) | (refine RT.goK rfl rfl rfl rfl ?_; apply Nx.of; (first | exact S.neq_f (by decide))) | (refine RT.goK rfl rfl rfl rfl ?_; apply Nx.of; (first | exact S.move | exact S.assign | exact S.load1c rfl rfl rfl rfl | exact S.loadNc rfl rfl rfl rfl | exact S.fieldAddr rfl rfl rfl | exact S.box | exact S.alloc rfl | exact S.extract rfl)) | (refine RT.goK0 rfl rfl rfl ?_; apply Nx.of; (first | exact S.store rfl rfl rfl rfl rfl rfl)))
      (first | refine rt_go rfl ?_)
      unfold paV
      rw [if_pos h2']
      rfl
    · have hl : whV B (blP B) < 2 := by
        unfold whV at h2' ⊢
        generalize dB (∀ t ∈ Ws B, blP B t) = x at h2' ⊢
        generalize dB (∃ t ∈ Ws B, blP B t) = y at h2' ⊢
        cases x <;> cases y <;> simp_all
      repeat' (first | refine RT.nil ?_ | refine sq_n ?_ | refine Tr.seq ?_ | refine Tr.region ?_ | refine Tr.cond_t rfl ?_ | refine Tr.cond_f rfl ?_ | refine Tr.skip ?_ | refine Tr.ret ?_ | refine sq_r ?_ | (refine RT.call rfl rfl rfl (how _) rfl rfl (Nat.le_refl _) ?_) | (refine RT.call rfl rfl rfl (hbl _) rfl rfl (Nat.le_refl _) ?_) | (refine RT.goK rfl rfl rfl rfl ?_; refine Nx.of (S.lss_t hl) ?_) | (refine RT.goK rfl rfl rfl rfl ?_; apply Nx.of; (first | exact S.neq_f (by decide))) | (refine RT.goK rfl rfl rfl rfl ?_; apply Nx.of; (first | exact S.move | exact S.assign | exact S.loadNc rfl rfl rfl rfl | exact S.box | exact S.alloc rfl | exact S.extract rfl)) | (refine RT.goK0 rfl rfl rfl ?_; apply Nx.of; (first | exact S.store rfl rfl rfl rfl rfl rfl)))
      (first | refine rt_go rfl ?_)
      unfold paV
      rw [if_neg h2']
      rfl
  · rw [ansV_err rfl hE] at how
    rw [numA_err rfl hE]
    repeat' (first | refine RT.nil ?_ | refine sq_n ?_ | refine Tr.seq ?_ | refine Tr.region ?_ | refine Tr.cond_t rfl ?_ | refine Tr.ret ?_ | refine sq_r ?_ | (refine RT.call rfl rfl rfl (how _) rfl rfl (Nat.le_refl _) ?_) | (refine RT.goK rfl rfl rfl rfl ?_; refine Nx.of (S.neq_t hE) ?_) | (refine RT.goK rfl rfl rfl rfl ?_; apply Nx.of; (first | exact S.move | exact S.assign | exact S.loadNc rfl rfl rfl rfl | exact S.box | exact S.alloc rfl | exact S.extract rfl)) | (refine RT.goK0 rfl rfl rfl ?_; apply Nx.of; (first | exact S.store rfl rfl rfl rfl rfl rfl)))
    (first | refine rt_go rfl ?_)
    rfl
theorem Pays6_at {B : CBook} {a1 a2 : AV} {m : List (Nat × Option AObj)} {c : Nat} (h : BkIn B a1 a2 m c) (hn : B.ns ≤ 9223372036854775807) (fl : Nat) : OkAt 0 Try.prog fl 27 [bk B a1 a2] (ofM m) c (numA B (paV B)) (ofM m) c :=
  (Pays6_can B a1 a2 h.h1 h.h2 hn).pure (by unfold numA; split <;> exact fun _ => rfl) (h.entry [] .nil) fl
set_option maxRecDepth 100000 in
set_option maxHeartbeats 4000000 in
theorem First6_can (B : CBook) (a1 a2 : AV) (h1 : IsSl a1 B.ns 0) (h2 : IsSl a2 B.nc 1) (hn : B.ns ≤ 9223372036854775807) : CanS 0 Try.prog 29 2 [bk B a1 a2] [(0, some (oSt B)), (1, some (oCk B))] 2 fun v _ _ => v = fsA B := by
  have hrf : rfVs (bk B a1 a2).cells = true := by simp [bk, AV.cells, rfVs, rfV, h1.rf, h2.rf]
  refine CanS.mk Try.func29 rfl rfl rfl ?_
  by_cases hB : bkOk B
  · by_cases hW : gW B = []
    · have hask := fun fl => asked_false_at (m := [(2, some (.cells (bk B a1 a2).cells)), (0, some (oSt B)), (1, some (oCk B))]) (c := 3) ⟨h1, h2, rfl, rfl, by decide⟩ hn hB hW fl
      rw [fsA_err (ansE_false hB trivial ((gW_nil hB).1 hW)) (by decide)]
      repeat' (first | refine RT.nil ?_ | refine sq_n ?_ | refine Tr.seq ?_ | refine Tr.region ?_ | refine Tr.cond_t rfl ?_ | refine Tr.ret ?_ | refine sq_r ?_ | (refine RT.call rfl rfl rfl (hask _) rfl rfl (by decide) ?_) | (refine RT.goK rfl rfl rfl rfl ?_; apply Nx.of; (first | exact S.neq_t (by decide))) | (refine RT.goK rfl rfl rfl rfl ?_; apply Nx.of; (first | exact S.move | exact S.assign | exact S.loadNc rfl rfl rfl rfl | exact S.box | exact S.extract rfl)))
      (first | refine rt_go rfl ?_)
      rfl
    · have hlp : 0 < (gW B).length := List.length_pos_iff.2 hW
      have hlen : (gW B).length ≤ 59049 := gWk_len hB 3
      have hask : ∀ fl, OkAt 0 Try.prog fl 58 [bk B a1 a2, .bool true] (ofM [(2, some (.cells (bk B a1 a2).cells)), (0, some (oSt B)), (1, some (oCk B))]) 3 (.tup [.gs 4 (gW B).length, .int .i64 0]) (ofM (goM B 4 (gW B) ++ [(2, some (.cells (bk B a1 a2).cells)), (0, some (oSt B)), (1, some (oCk B))])) 200004 := fun fl => asked_yes_at h1 h2 hn hB hW m3_low rfl rfl fl
      rw [fsA_ok (ansE_ok hB trivial fun h => hW ((gW_nil hB).2 h))]
      repeat' (first | refine RT.nil ?_ | refine sq_n ?_ | refine Tr.seq ?_ | refine Tr.region ?_ | refine Tr.cond_f rfl ?_ | refine Tr.skip ?_ | refine Tr.block ?_ | (refine RT.call rfl rfl rfl (hask _) rfl rfl (by decide) ?_) | (refine RT.goK rfl rfl rfl rfl ?_; apply Nx.of; (first | exact S.neq_f (by decide))) | (refine RT.goK rfl rfl rfl rfl ?_; apply Nx.of; (first | exact S.move | exact S.assign | exact S.loadNc rfl rfl rfl rfl | exact S.box | exact S.extract rfl)))
      have hns := hB.1.1
      have s4 : ∀ {y : Nat} {o : AObj}, y < 4 → lookM [(2, some (.cells (bk B a1 a2).cells)), (0, some (oSt B)), (1, some (oCk B))] y = some o → lookM (goM B 4 (gW B) ++ [(2, some (.cells (bk B a1 a2).cells)), (0, some (oSt B)), (1, some (oCk B))]) y = some o := fun {y o} hy h => (look_skip fun e he => by have := goM_keys e he; omega).trans h
      have x2 : lookM (goM B 4 (gW B) ++ [(2, some (.cells (bk B a1 a2).cells)), (0, some (oSt B)), (1, some (oCk B))]) 2 = some (.cells (bk B a1 a2).cells) := s4 (by decide) rfl
      have x5 : lookM (goM B 4 (gW B) ++ [(2, some (.cells (bk B a1 a2).cells)), (0, some (oSt B)), (1, some (oCk B))]) 4 = some (.grown (tcsF (fC 4) (gC 4) B.ns 0 (gW B)) 3) := look_app (goM_list hW)
      refine Tr.loop (fun k : Nat => stL Try.f29.ntmps [] [(1, .ptr 2 0), (4, .gs 4 (gW B).length), (6, .int .i64 (k : Int))] (goM B 4 (gW B) ++ [(2, some (.cells (bk B a1 a2).cells)), (0, some (oSt B)), (1, some (oCk B))]) 200004) (fun k => k ≤ B.ns ∧ ∀ i, i < k → ¬ fsP B i) (fun k => B.ns - k) 0 ⟨Nat.zero_le _, fun i hi => by omega⟩ (Wk.temps (by decide) (by decide) (by decide) ⟨rfl, rfl, rfl, trivial⟩) (fun k hk => ?_)
      obtain ⟨hk, hno⟩ := hk
      by_cases hkn : k < B.ns
      · have hkn' : (k : Int) < B.ns := by omega
        repeat' (first | refine RT.nil ?_ | refine sq_n ?_ | refine Tr.seq ?_ | refine Tr.region ?_ | refine Tr.cond_t rfl ?_ | refine Tr.skip ?_ | refine Tr.block ?_ | (refine RT.goK rfl rfl rfl rfl ?_; first | refine Nx.of (S.lss_t hkn') ?_ | refine Nx.of (S.load1 rfl rfl x2 rfl rfl) ?_ | refine Nx.of (S.len_sl rfl rfl rfl h1) ?_) | (refine RT.goK rfl rfl rfl rfl ?_; apply Nx.of; (first | exact S.move | exact S.assign | exact S.fieldAddr rfl rfl rfl)))
        refine Tr.loop (fun s : Nat × Bool => stL Try.f29.ntmps [] [(7, .bool s.2), (1, .ptr 2 0), (4, .gs 4 (gW B).length), (6, .int .i64 (k : Int)), (8, .int .i64 (s.1 : Int))] (goM B 4 (gW B) ++ [(2, some (.cells (bk B a1 a2).cells)), (0, some (oSt B)), (1, some (oCk B))]) 200004) (fun s => s.1 ≤ (gW B).length ∧ (s.2 = true ↔ ∀ i, i < s.1 → 0 < ltV B k (gT B i))) (fun s => (gW B).length - s.1) (0, true) ⟨Nat.zero_le _, fun _ i hi => by omega, fun _ => rfl⟩ (Wk.temps (by decide) (by decide) (by decide) ⟨rfl, rfl, rfl, rfl, rfl, trivial⟩) (fun s hs => ?_)
        obtain ⟨j, b⟩ := s
        obtain ⟨hj, hb⟩ := hs
        replace hj : j ≤ (gW B).length := hj
        replace hb : b = true ↔ ∀ i, i < j → 0 < ltV B k (gT B i) := hb
        have hs5 : IsSl (AV.gs 4 (gW B).length) (gW B).length 4 := IsSl.gs 4 _
        by_cases hlt : j < (gW B).length
        · have hlt' : (j : Int) < (gW B).length := by omega
          have ht := (mem_gW hB.1).1 (List.mem_of_getElem? (gT_at hlt))
          have eg : ∀ x, grI x B.ns = .gs x B.ns := fun x => by
            cases hq : B.ns with
            | zero => omega
            | succ n => rfl
          have x6 := tcsF_cut (f := fC 4) (g := gC 4) (k := B.ns) (gT_at hlt)
          rw [eg, eg] at x6
          have xt := goM_tr (B := B) (c := 4) (gT_at hlt)
          have hq : stQ B (k : Int) := ⟨by omega, by omega⟩
          have x5r := tcsF_rf (f := fC 4) (g := gC 4) (k := B.ns) (gW B) 0
          have hcb := (IsT.bd0 hB.1 hB.2.1 ht (show k < 3 by omega)).1
          have hla : ∀ fl, OkAt 0 Try.prog fl 63 [bk B a1 a2, .agg [.int .i64 (gT B j).w, .gs (fC 4 j) B.ns, .gs (gC 4 j) B.ns], .int .i64 (k : Int)] (ofM (goM B 4 (gW B) ++ [(2, some (.cells (bk B a1 a2).cells)), (0, some (oSt B)), (1, some (oCk B))])) 200004 (.int .i64 (ltV B k (gT B j))) (ofM (goM B 4 (gW B) ++ [(2, some (.cells (bk B a1 a2).cells)), (0, some (oSt B)), (1, some (oCk B))])) 200004 := fun fl => late6_at h1 h2 hB hq hcb (s4 (by decide) rfl) (s4 (by decide) rfl) (look_app xt.1) (look_app xt.2) fl
          have nx : ∀ {b2 : Bool}, (b2 = true ↔ (b = true ∧ 0 < ltV B k (gT B j))) → (b2 = true ↔ ∀ i, i < j + 1 → 0 < ltV B k (gT B i)) := fun {b2} q => by
            rw [q, hb]
            refine ⟨fun ⟨u, v⟩ i hi => ?_, fun u => ⟨fun i hi => u i (by omega), u j (by omega)⟩⟩
            by_cases e : i = j
            · subst e; exact v
            · exact u i (by omega)
          repeat' (first | refine RT.nil ?_ | refine sq_n ?_ | refine Tr.seq ?_ | refine Tr.region ?_ | refine Tr.cond_t rfl ?_ | refine Tr.skip ?_ | refine Tr.block ?_ | (refine RT.goK rfl rfl rfl rfl ?_; first | refine Nx.of (S.lss_t hlt') ?_) | (refine RT.goK rfl rfl rfl rfl ?_; apply Nx.of; (first | exact S.move)) | (refine RT.goK rfl rfl rfl rfl ?_; apply Nx.of; (first | exact S.len_sl rfl rfl rfl (by assumption))))
          refine Tr.openK un29_11 (by kernel_rfl) (by kernel_rfl) _ (pinX_calm (m := (goM B 4 (gW B) ++ [(2, some (.cells (bk B a1 a2).cells)), (0, some (oSt B)), (1, some (oCk B))])) (c := 200004) (m' := (goM B 4 (gW B) ++ [(2, some (.cells (bk B a1 a2).cells)), (0, some (oSt B)), (1, some (oCk B))])) (c' := 200004) hla (fun fl => Good.refl fl 200004 _)) ?_
          cases b with
          | true =>
            by_cases hp : 0 < ltV B k (gT B j)
            · repeat' (first | (refine RD.free rfl rfl rfl rfl rfl rfl ?_; apply Nx.of; (first | exact S.idx_sl rfl rfl rfl hs5 hlt)) | (refine RD.load rfl rfl rfl rfl rfl rfl rfl (by refine us_all ?_; simp only [usOk, cond_true, cond_false]; (repeat' (first | exact trivial | refine And.intro ?_ ?_)); all_goals (first | rfl | exact .inl trivial)) ?_; apply Nx.of; (first | exact S.loadN rfl rfl x2 rfl rfl | exact S.loadN rfl rfl x5 rfl x6)) | (refine RD.free rfl rfl rfl rfl rfl rfl ?_; apply Nx.of; (first | exact S.move)))
              (refine RD.callX rfl rfl rfl rfl rfl rfl rfl rfl (by simp) (fun fl' => pinX_at _ _ _ _ _ _ _ fl') (fun _ => by refine srOkX_all ?_; simp only [srOkX]; (repeat' (first | exact trivial | refine And.intro ?_ ?_)); all_goals (first | exact trivial | (refine ⟨_, x2, x2, ?_⟩; (first | exact hrf | rfl | (simp [rfO, rfVs, rfV, rfVs_flat]; done))) | (refine ⟨_, x5, x5, ?_⟩; (first | rfl | exact x5r | (simp [rfO, rfVs, rfV, rfVs_flat]; done))) | (refine ⟨_, rfl, rfl, ?_⟩; (first | exact hrf | rfl | (simp [rfO, rfVs, rfV, rfVs_flat]; done))))) ?_)
              repeat' (first | (refine RD.free rfl rfl rfl rfl rfl rfl ?_; apply Nx.of; (first | exact S.gtr_t hp)) | (refine RD.free rfl rfl rfl rfl rfl rfl ?_; apply Nx.of; (first | exact S.assign | exact S.pick_tt)) | refine RD.nil ⟨Nat.le_of_ble_eq_true rfl, ?_⟩)
              repeat' (first | refine RT.nil ?_ | refine sq_n ?_ | refine Tr.region ?_ | refine blk_n ?_ | (refine RT.goK rfl rfl rfl rfl ?_; apply Nx.of; (first | exact S.move | exact S.assign | exact S.add_one (by omega))))
              exact lp_n (j + 1, true) ⟨hlt, nx ⟨fun _ => ⟨rfl, hp⟩, fun _ => rfl⟩⟩ (show (gW B).length - (j + 1) < (gW B).length - j by omega) (Wk.temps (by decide) (by decide) (by decide) ⟨rfl, rfl, rfl, rfl, congrArg some (congrArg (AV.int .i64) rfl), trivial⟩)
            · repeat' (first | (refine RD.free rfl rfl rfl rfl rfl rfl ?_; apply Nx.of; (first | exact S.idx_sl rfl rfl rfl hs5 hlt)) | (refine RD.load rfl rfl rfl rfl rfl rfl rfl (by refine us_all ?_; simp only [usOk, cond_true, cond_false]; (repeat' (first | exact trivial | refine And.intro ?_ ?_)); all_goals (first | rfl | exact .inl trivial)) ?_; apply Nx.of; (first | exact S.loadN rfl rfl x2 rfl rfl | exact S.loadN rfl rfl x5 rfl x6)) | (refine RD.free rfl rfl rfl rfl rfl rfl ?_; apply Nx.of; (first | exact S.move)))
              (refine RD.callX rfl rfl rfl rfl rfl rfl rfl rfl (by simp) (fun fl' => pinX_at _ _ _ _ _ _ _ fl') (fun _ => by refine srOkX_all ?_; simp only [srOkX]; (repeat' (first | exact trivial | refine And.intro ?_ ?_)); all_goals (first | exact trivial | (refine ⟨_, x2, x2, ?_⟩; (first | exact hrf | rfl | (simp [rfO, rfVs, rfV, rfVs_flat]; done))) | (refine ⟨_, x5, x5, ?_⟩; (first | rfl | exact x5r | (simp [rfO, rfVs, rfV, rfVs_flat]; done))) | (refine ⟨_, rfl, rfl, ?_⟩; (first | exact hrf | rfl | (simp [rfO, rfVs, rfV, rfVs_flat]; done))))) ?_)
              repeat' (first | (refine RD.free rfl rfl rfl rfl rfl rfl ?_; apply Nx.of; (first | exact S.gtr_f hp)) | (refine RD.free rfl rfl rfl rfl rfl rfl ?_; apply Nx.of; (first | exact S.assign | exact S.pick_tt)) | refine RD.nil ⟨Nat.le_of_ble_eq_true rfl, ?_⟩)
              repeat' (first | refine RT.nil ?_ | refine sq_n ?_ | refine Tr.region ?_ | refine blk_n ?_ | (refine RT.goK rfl rfl rfl rfl ?_; apply Nx.of; (first | exact S.move | exact S.assign | exact S.add_one (by omega))))
              exact lp_n (j + 1, false) ⟨hlt, nx ⟨fun q => (by cases q), fun q => absurd q.2 hp⟩⟩ (show (gW B).length - (j + 1) < (gW B).length - j by omega) (Wk.temps (by decide) (by decide) (by decide) ⟨rfl, rfl, rfl, rfl, congrArg some (congrArg (AV.int .i64) rfl), trivial⟩)
          | false =>
            repeat' (first | (refine RD.free rfl rfl rfl rfl rfl rfl ?_; apply Nx.of; (first | exact S.move | exact S.assign | exact S.pick_ff)) | (refine RD.no rfl rfl rfl rfl ?_) | refine RD.nil ⟨Nat.le_of_ble_eq_true rfl, ?_⟩)
            repeat' (first | refine RT.nil ?_ | refine sq_n ?_ | refine Tr.region ?_ | refine blk_n ?_ | (refine RT.goK rfl rfl rfl rfl ?_; apply Nx.of; (first | exact S.move | exact S.assign | exact S.add_one (by omega))))
            exact lp_n (j + 1, false) ⟨hlt, nx ⟨fun q => (by cases q), fun q => (by cases q.1)⟩⟩ (show (gW B).length - (j + 1) < (gW B).length - j by omega) (Wk.temps (by decide) (by decide) (by decide) ⟨rfl, rfl, rfl, rfl, congrArg some (congrArg (AV.int .i64) rfl), trivial⟩)
        · have hlt' : ¬ (j : Int) < (gW B).length := by omega
          have hfs : b = true ↔ fsP B k := by
            rw [hb]
            refine ⟨fun q t ht => ?_, fun q i hi => q _ ((gT_mem hB).2 ⟨i, by omega, rfl⟩)⟩
            obtain ⟨i, hi, rfl⟩ := (gT_mem hB).1 ht
            exact q i (by omega)
          cases b with
          | true =>
            repeat' (first | refine RT.nil ?_ | refine sq_n ?_ | refine Tr.seq ?_ | refine Tr.region ?_ | refine Tr.cond_t rfl ?_ | refine Tr.cond_f rfl ?_ | refine Tr.ret ?_ | refine sq_r ?_ | refine Tr.exit ?_ | refine sq_x ?_ | refine blk_r ?_ | refine blk_hit rfl ?_ | refine lp_r ?_ | refine lp_x ?_ | (refine RT.goK rfl rfl rfl rfl ?_; first | refine Nx.of (S.lss_f hlt') ?_) | (refine RT.goK rfl rfl rfl rfl ?_; apply Nx.of; (first | exact S.move | exact S.assign)) | (refine RT.goK rfl rfl rfl rfl ?_; apply Nx.of; (first | exact S.len_sl rfl rfl rfl (by assumption))))
            (first | refine rt_go rfl ?_)
            have h4 : fsN B = k := fst_eq hkn hno (hfs.1 rfl)
            unfold fsV fsE
            rw [h4, if_pos hkn, if_pos hkn]
            rfl
          | false =>
            repeat' (first | refine RT.nil ?_ | refine sq_n ?_ | refine Tr.seq ?_ | refine Tr.region ?_ | refine Tr.cond_f rfl ?_ | refine Tr.skip ?_ | refine Tr.exit ?_ | refine sq_x ?_ | refine blk_n ?_ | refine blk_hit rfl ?_ | refine lp_x ?_ | (refine RT.goK rfl rfl rfl rfl ?_; first | refine Nx.of (S.lss_f hlt') ?_) | (refine RT.goK rfl rfl rfl rfl ?_; apply Nx.of; (first | exact S.move | exact S.assign | exact S.add_one (by omega))) | (refine RT.goK rfl rfl rfl rfl ?_; apply Nx.of; (first | exact S.len_sl rfl rfl rfl (by assumption))))
            refine lp_n (k + 1) ⟨hkn, fun i hi => ?_⟩ (by omega) (Wk.temps (by decide) (by decide) (by decide) ⟨rfl, rfl, congrArg some (congrArg (AV.int .i64) (by omega)), trivial⟩)
            rcases Nat.lt_succ_iff_lt_or_eq.1 hi with h | rfl
            · exact hno i h
            · exact fun q => nomatch hfs.2 q
      · have hkn' : ¬ (k : Int) < B.ns := by omega
        repeat' (first | refine RT.nil ?_ | refine sq_n ?_ | refine Tr.seq ?_ | refine Tr.region ?_ | refine Tr.cond_f rfl ?_ | refine Tr.ret ?_ | refine Tr.exit ?_ | refine sq_x ?_ | refine blk_hit rfl ?_ | refine lp_x ?_ | (refine RT.goK rfl rfl rfl rfl ?_; first | refine Nx.of (S.lss_f hkn') ?_ | refine Nx.of (S.load1 rfl rfl x2 rfl rfl) ?_ | refine Nx.of (S.len_sl rfl rfl rfl h1) ?_) | (refine RT.goK rfl rfl rfl rfl ?_; apply Nx.of; (first | exact S.move | exact S.assign | exact S.fieldAddr rfl rfl rfl)))
        (first | refine rt_go rfl ?_)
        have h4 : fsN B = B.ns := fst_none fun i hi => hno i (by omega)
        unfold fsV fsE
        rw [h4, if_neg (by omega), if_neg (by omega)]
        rfl
  · have hask := fun fl => asked_no_at (m := [(2, some (.cells (bk B a1 a2).cells)), (0, some (oSt B)), (1, some (oCk B))]) (c := 3) ⟨h1, h2, rfl, rfl, by decide⟩ hn hB true fl
    rw [fsA_err (ansE_no hB) (by decide)]
    repeat' (first | refine RT.nil ?_ | refine sq_n ?_ | refine Tr.seq ?_ | refine Tr.region ?_ | refine Tr.cond_t rfl ?_ | refine Tr.ret ?_ | refine sq_r ?_ | (refine RT.call rfl rfl rfl (hask _) rfl rfl (by decide) ?_) | (refine RT.goK rfl rfl rfl rfl ?_; apply Nx.of; (first | exact S.neq_t (by decide))) | (refine RT.goK rfl rfl rfl rfl ?_; apply Nx.of; (first | exact S.move | exact S.assign | exact S.loadNc rfl rfl rfl rfl | exact S.box | exact S.extract rfl)))
    (first | refine rt_go rfl ?_)
    rfl
theorem First6_at {B : CBook} {a1 a2 : AV} {m : List (Nat × Option AObj)} {c : Nat} (h : BkIn B a1 a2 m c) (hn : B.ns ≤ 9223372036854775807) (fl : Nat) : OkAt 0 Try.prog fl 29 [bk B a1 a2] (ofM m) c (fsA B) (ofM m) c :=
  (First6_can B a1 a2 h.h1 h.h2 hn).pure (by unfold fsA; split <;> exact fun _ => rfl) (h.entry [] .nil) fl
end Go.Proofs.Ytlnmcadbmpiopaa

/- ClaimPays: the law, for every book. -/
namespace Go.Proofs.Ytlnmcadbmpiopaa
open Go Go.Ev

theorem numA_is (B : CBook) (n : Int) : ∃ a e, numA B n = .tup [.int .i64 a, .int .i64 e] := by unfold numA; split <;> exact ⟨_, _, rfl⟩
theorem fsA_is (B : CBook) : ∃ a e, fsA B = .tup [.int .i64 a, .int .i64 e] := by unfold fsA; split <;> exact ⟨_, _, rfl⟩
set_option maxRecDepth 100000 in
set_option maxHeartbeats 8000000 in
theorem pays_law (hb : BillOK) (B : CBook) (a1 a2 : AV) (h1 : IsSl a1 B.ns 0) (h2 : IsSl a2 B.nc 1) (hn : B.ns ≤ 9223372036854775807) : CanS 0 Try.prog 4 2 [bk B a1 a2] [(0, some (oSt B)), (1, some (oCk B))] 2 fun v _ _ => v = .bool true := by
  obtain ⟨wa, we, hW⟩ := numA_is B (setV (weaP B) 3)
  obtain ⟨la, le, hL⟩ := numA_is B (whV B (blP B))
  obtain ⟨ol, ou, oe, hO⟩ : ∃ l u e, ansV B True (owV B) = .tup [.agg [.int .i64 l, .int .i64 u], .int .i64 e] := ⟨_, _, _, rfl⟩
  obtain ⟨pa, pe, hP⟩ := numA_is B (paV B)
  obtain ⟨fa, fe, hF⟩ := fsA_is B
  refine CanS.mk Try.func4 rfl rfl rfl ?_
  repeat' (first | refine RT.nil ?_ | refine sq_n ?_ | refine Tr.seq ?_ | refine Tr.region ?_ | refine Tr.cond_f rfl ?_ | refine Tr.skip ?_ | refine Tr.ret ?_ | (refine RT.call rfl rfl rfl (val_is hW (Weather_at ⟨h1, h2, rfl, rfl, by decide⟩ hn _)) rfl rfl (Nat.le_refl _) ?_) | (refine RT.call rfl rfl rfl (val_is hW (Weather6_at ⟨h1, h2, rfl, rfl, by decide⟩ hn _)) rfl rfl (Nat.le_refl _) ?_) | (refine RT.call rfl rfl rfl (val_is hL (Blame_at ⟨h1, h2, rfl, rfl, by decide⟩ hn _)) rfl rfl (Nat.le_refl _) ?_) | (refine RT.call rfl rfl rfl (val_is hL (Blame6_at ⟨h1, h2, rfl, rfl, by decide⟩ hn _)) rfl rfl (Nat.le_refl _) ?_) | (refine RT.call rfl rfl rfl (val_is hO (Owes_at ⟨h1, h2, rfl, rfl, by decide⟩ hn _)) rfl rfl (Nat.le_refl _) ?_) | (refine RT.call rfl rfl rfl (val_is hO (Owes6_at ⟨h1, h2, rfl, rfl, by decide⟩ hn _)) rfl rfl (Nat.le_refl _) ?_) | (refine RT.call rfl rfl rfl (val_is hP (Pays_at ⟨h1, h2, rfl, rfl, by decide⟩ hn _)) rfl rfl (Nat.le_refl _) ?_) | (refine RT.call rfl rfl rfl (val_is hP (Pays6_at ⟨h1, h2, rfl, rfl, by decide⟩ hn _)) rfl rfl (Nat.le_refl _) ?_) | (refine RT.call rfl rfl rfl (val_is hF (First_at ⟨h1, h2, rfl, rfl, by decide⟩ hn _)) rfl rfl (Nat.le_refl _) ?_) | (refine RT.call rfl rfl rfl (val_is hF (First6_at ⟨h1, h2, rfl, rfl, by decide⟩ hn _)) rfl rfl (Nat.le_refl _) ?_) | (refine RT.call rfl rfl rfl (hb.root_at _ _ _) rfl rfl (Nat.le_refl _) ?_) | (refine RT.goK rfl rfl rfl rfl ?_; first | refine Nx.of (S.neqA_f (eqSp _ _ _ _) ⟨rfl, rfl⟩) ?_ | refine Nx.of (S.neq_f rfl) ?_ | refine Nx.of (S.eql_t rfl) ?_) | (refine RT.goK rfl rfl rfl rfl ?_; apply Nx.of; (first | exact S.move | exact S.assign | exact S.loadNc rfl rfl rfl rfl | exact S.pick_tt | exact S.pick_ff | exact S.box | exact S.alloc rfl | exact S.extract rfl)) | (refine RT.goK0 rfl rfl rfl ?_; apply Nx.of; (first | exact S.store rfl rfl rfl rfl rfl rfl)))
  (first | refine rt_go rfl ?_)
  rfl
end Go.Proofs.Ytlnmcadbmpiopaa
