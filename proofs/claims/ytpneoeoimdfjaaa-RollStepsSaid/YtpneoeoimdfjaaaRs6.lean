/- Texts of one kind, one behind the other: Kt, Ku, Kv, Kw, Lm. -/
import Derived.Test.YtpneoeoimdfjaaaRs5
set_option linter.unusedVariables false
set_option linter.unusedSimpArgs false
/- Package roll: span. -/
namespace Go.Proofs.Ytpneoeoimdfjaaa
open Go Go.Ev

theorem mp_one (nd x i : Nat) : (mpV nd x i).one = true := by unfold mpV; split <;> rfl
theorem mp_ren (nd : Nat) {x y i : Nat} {σ : Nat → Nat} (h : σ (x + i) = y + i) : (mpV nd x i).ren σ = mpV nd y i := by
  unfold mpV
  split
  · show AV.map _ = _; rw [h]
  · rfl
theorem kn_one (n x g nd y : Nat) : ((AV.agg (.ptr x 0 :: .gs g n :: mpsV nd y)).cells.all AV.one) = true := by
  simp only [AV.cells, List.all_cons, List.all_nil, mp_one]
  rfl
theorem kn_ren {n nd : Nat} (σ : Nat → Nat) (h : ∀ y, y < 8 → σ y = y) : (AObj.cells (.ptr 2 0 :: .gs 0 n :: mpsV nd 3)).ren σ = .cells (.ptr 2 0 :: .gs 0 n :: mpsV nd 3) := by
  simp only [AObj.ren, AV.rens, AV.ren, h 2 (by omega), h 0 (by omega), mp_ren nd (x := 3) (y := 3) (i := 0) (h 3 (by omega)), mp_ren nd (x := 3) (y := 3) (i := 1) (h 4 (by omega)), mp_ren nd (x := 3) (y := 3) (i := 2) (h 5 (by omega)), mp_ren nd (x := 3) (y := 3) (i := 3) (h 6 (by omega)), mp_ren nd (x := 3) (y := 3) (i := 4) (h 7 (by omega))]

/-- A function's call that answers with a number of a truth. -/
def NumOK (W : List Tru) (f : Nat) (x0 : AV) (num : Tru → Int) : Prop := ∀ t ∈ W, ∀ m c, 2 ≤ c → lookM m 1 = some (.cells [x0]) → ∀ fl, OkAt 0 Try.prog fl f [trV t, .ptr 1 0] (ofM m) c (.int .i64 (num t)) (ofM m) c

set_option maxRecDepth 100000 in
set_option maxHeartbeats 4000000 in
theorem span_can (W : List Tru) (nd : Nat) (hW : W ≠ []) (hlen : W.length ≤ 20000) (f : Nat) (x0 : AV) (hx : ∀ σ : Nat → Nat, σ 0 = 0 → AV.rens σ [x0] = [x0]) (hr : rfVs [x0] = true)
    (num : Tru → Int) (hnum : NumOK W f x0 num) : CanS 0 Try.prog 42 8 [.agg (.ptr 2 0 :: .gs 0 W.length :: mpsV nd 3), .fn f [] [.ptr 1 0]] [(0, some (oWn W)), (1, some (.cells [x0]))] 8 fun v _ _ => v = .agg [.int .i64 (spL num W), .int .i64 (spH num W)] := by
  have hpos : 0 < W.length := List.length_pos_iff.2 hW
  obtain ⟨t0, ht0, hm0⟩ := at_some hpos
  have htk := ht0
  have hs := IsSl.gs 0 W.length
  refine CanS.mk Try.func42 rfl rfl rfl ?_
  repeat' (first | refine RT.nil ?_ | refine sq_n ?_ | refine Tr.seq ?_ | refine Tr.region ?_ | refine Tr.block ?_ | (refine RT.call rfl rfl rfl (hnum t0 hm0 _ _ (by decide) rfl _) rfl rfl (Nat.le_refl _) ?_) | (refine RT.goK rfl rfl rfl rfl ?_; apply Nx.of; (first | exact S.move | exact S.assign | exact S.load1c rfl rfl rfl rfl | exact S.fieldAddr rfl rfl rfl | exact S.box | exact S.alloc rfl | exact S.build rfl rfl rfl | exact S.rowG rfl rfl rfl (fun _ => rfl) ht0 rfl rfl)) | (refine RT.goK0 rfl rfl rfl ?_; apply Nx.of; (first | exact S.store rfl rfl rfl rfl rfl rfl)) | (refine RT.goK rfl rfl rfl rfl ?_; apply Nx.of; (first | exact S.idx_sl rfl rfl rfl (by assumption) (by omega) | exact S.len_sl rfl rfl rfl (by assumption))))
  refine Tr.loop (fun k : Nat => stL Try.f42.ntmps [] [(1, .fn f [] [.ptr 1 0]), (2, .ptr 8 0), (4, .ptr 9 0), (6, .ptr 10 0), (20, .gs 0 W.length), (21, .int .i64 W.length), (22, .int .i64 k)] ([(10, some (.cells [.int .i64 (loK num W (num t0) k), .int .i64 (hiK num W (num t0) k)])), (9, some (.cells [.int .i64 0, .int .i64 0])), (8, some (.cells (.ptr 2 0 :: .gs 0 W.length :: mpsV nd 3)))] ++ [(0, some (oWn W)), (1, some (.cells [x0]))]) 11) (fun k => k ≤ W.length) (fun k => W.length - k) 0 (Nat.zero_le _) (by (refine Wk.same (by decide) (by decide) (by decide) (by decide) ?_ ?_ rfl; all_goals ((try simp only [allL, allM]); (repeat' (first | exact trivial | refine And.intro ?_ ?_)); all_goals (first | rfl | exact ren_grown _ _ _ _ | exact congrArg AObj.cells (hx _ (nm_lt (by decide))) | exact kn_ren _ (fun y hy => nm_lt (by omega)) | decide)))) (fun k hk => ?_)
  by_cases hlt : k < W.length
  · obtain ⟨tk, htk, hmk⟩ := at_some hlt
    have e1 := loK_succ (f := num) (a := num t0) htk
    have e2 := hiK_succ (f := num) (a := num t0) htk
    have hlt' : (k : Int) < W.length := by omega
    repeat' (first | refine RT.nil ?_ | refine sq_n ?_ | refine Tr.seq ?_ | refine Tr.region ?_ | refine Tr.cond_t rfl ?_ | refine Tr.skip ?_ | refine Tr.block ?_ | refine blk_n ?_ | (refine RT.call rfl rfl rfl (hnum tk hmk _ _ (by decide) rfl _) rfl rfl (Nat.le_refl _) ?_) | (refine RT.goK rfl rfl rfl rfl ?_; (refine Nx.of (S.lss_t hlt') ?_)) | (refine RT.goK rfl rfl rfl rfl ?_; apply Nx.of; (first | exact S.move | exact S.assign | exact S.load1c rfl rfl rfl rfl | exact S.loadNc rfl rfl rfl rfl | exact S.fieldAddr rfl rfl rfl | exact S.alloc rfl | exact S.add_one (by omega) | exact S.min2 | exact S.max2 | exact S.build rfl rfl rfl | exact S.rowG rfl rfl rfl (fun _ => rfl) htk rfl rfl)) | (refine RT.goK0 rfl rfl rfl ?_; apply Nx.of; (first | exact S.store rfl rfl rfl rfl rfl rfl)) | (refine RT.goK rfl rfl rfl rfl ?_; apply Nx.of; (first | exact S.idx_sl rfl rfl rfl (by assumption) (by omega))))
    refine lp_n (k + 1) hlt (by omega) (by (refine Wk.same (by decide) (by decide) (by decide) (by decide) ?_ ?_ rfl; all_goals ((try simp only [allL, allM]); (repeat' (first | exact trivial | refine And.intro ?_ ?_)); all_goals (first | rfl | exact ren_grown _ _ _ _ | (rw [← e1, ← e2]; rfl) | exact congrArg AObj.cells (hx _ (nm_lt (by decide))) | exact kn_ren _ (fun y hy => nm_lt (by omega)) | decide))))
  · have hlt' : ¬ (k : Int) < W.length := by omega
    have hke : k = W.length := by omega
    have e3 := loK_end (f := num) ht0
    have e4 := hiK_end (f := num) ht0
    rw [← hke] at e3 e4
    repeat' (first | refine RT.nil ?_ | refine sq_n ?_ | refine Tr.seq ?_ | refine Tr.region ?_ | refine Tr.cond_f rfl ?_ | refine Tr.ret ?_ | refine Tr.exit ?_ | refine sq_x ?_ | refine blk_hit rfl ?_ | refine lp_x ?_ | (refine RT.goK rfl rfl rfl rfl ?_; (refine Nx.of (S.lss_f hlt') ?_)) | (refine RT.goK rfl rfl rfl rfl ?_; apply Nx.of; (first | exact S.loadNc rfl rfl rfl rfl)) | (refine RT.goK0 rfl rfl rfl ?_; apply Nx.of; (first | exact S.store rfl rfl rfl rfl rfl rfl)))
    (first | refine rt_go rfl ?_)
    rw [← e3, ← e4]
    rfl
end Go.Proofs.Ytpneoeoimdfjaaa

/- Package roll: span at any memory; Bound, Wagons. -/
namespace Go.Proofs.Ytpneoeoimdfjaaa
open Go Go.Ev

theorem span_at {W : List Tru} {nd : Nat} {x z p q : Nat} {d : Int} {m : List (Nat × Option AObj)} {c : Nat} (mx : lookM m x = some (oWn W)) (mz : lookM m z = some (.cells [.int .i64 d])) (hW : W ≠ []) (hlen : W.length ≤ 20000) (f : Nat) (num : Tru → Int) (hnum : NumOK W f (.int .i64 d) num) (fl : Nat) :
    OkAt 0 Try.prog fl 42 [.agg (.ptr p 0 :: .gs x W.length :: mpsV nd q), .fn f [] [.ptr z 0]] (ofM m) c (.agg [.int .i64 (spL num W), .int .i64 (spH num W)]) (ofM m) c := by
  let τ : Nat → Nat := tau [x, z, p, q, q + 1, q + 2, q + 3, q + 4] c
  have ha : AV.rens τ [.agg (.ptr 2 0 :: .gs 0 W.length :: mpsV nd 3), .fn f [] [.ptr 1 0]] = [.agg (.ptr p 0 :: .gs x W.length :: mpsV nd q), .fn f [] [.ptr z 0]] := by
    have e0 : τ (3 + 0) = q + 0 := rfl
    have e1 : τ (3 + 1) = q + 1 := rfl
    have e2 : τ (3 + 2) = q + 2 := rfl
    have e3 : τ (3 + 3) = q + 3 := rfl
    have e4 : τ (3 + 4) = q + 4 := rfl
    simp only [AV.ren, AV.rens, mp_ren nd e0, mp_ren nd e1, mp_ren nd e2, mp_ren nd e3, mp_ren nd e4]
    rfl
  have low : ∀ {u : Nat} {ob : AObj}, lookM [(0, some (oWn W)), (1, some (.cells [.int .i64 d]))] u = some ob → u = 0 ∨ u = 1 := fun {u ob} hz => by
    have := lookM_mem hz
    simpa using this
  have hxz : x ≠ z := fun e => by rw [e, mz] at mx; cases mx
  refine (span_can W nd hW hlen f (.int .i64 d) (fun σ _ => rfl) rfl num hnum).pure (fun _ => rfl) ?_ fl
  rw [← ha]
  refine Entry.ren τ (fun g hg => by omega) (fun y hy => by show c ≤ tau _ _ _; rw [tau_ge hy]; omega) ⟨getM (mx.trans (congrArg some (ren_grown _ _ _ _).symm)), getM mz, trivial⟩ (fun u u' o o' hu hu' hne => .inl fun e => ?_)
  rcases low hu with rfl | rfl <;> rcases low hu' with rfl | rfl
  · exact hne rfl
  · exact hxz e
  · exact hxz e.symm
  · exact hne rfl

/-- An answer as a span: whether the book is wrong, the question, the book false. -/
noncomputable def spV (B : RBook) (Q : Prop) (num : Tru → Int) : AV :=
  if dB (bkOk B) = false then .tup [.agg [.int .i64 0, .int .i64 0], .int .i64 70] else if dB Q = false then .tup [.agg [.int .i64 0, .int .i64 0], .int .i64 71] else if dB (Wn B = []) then .tup [.agg [.int .i64 0, .int .i64 0], .int .i64 72] else .tup [.agg [.int .i64 (spL num (Wn B)), .int .i64 (spH num (Wn B))], .int .i64 0]
theorem spV_no {B : RBook} {Q : Prop} {num : Tru → Int} (h : ¬ bkOk B) : spV B Q num = .tup [.agg [.int .i64 0, .int .i64 0], .int .i64 70] := by unfold spV; rw [dB_ff h, if_pos rfl]
theorem spV_ask {B : RBook} {Q : Prop} {num : Tru → Int} (h : bkOk B) (hq : ¬ Q) : spV B Q num = .tup [.agg [.int .i64 0, .int .i64 0], .int .i64 71] := by unfold spV; rw [dB_tt h, if_neg (by decide), dB_ff hq, if_pos rfl]
theorem spV_false {B : RBook} {Q : Prop} {num : Tru → Int} (h : bkOk B) (hq : Q) (hW : Wn B = []) : spV B Q num = .tup [.agg [.int .i64 0, .int .i64 0], .int .i64 72] := by unfold spV; rw [dB_tt h, if_neg (by decide), dB_tt hq, if_neg (by decide), dB_tt hW, if_pos rfl]
theorem spV_ok {B : RBook} {Q : Prop} {num : Tru → Int} (h : bkOk B) (hq : Q) (hW : Wn B ≠ []) : spV B Q num = .tup [.agg [.int .i64 (spL num (Wn B)), .int .i64 (spH num (Wn B))], .int .i64 0] := by unfold spV; rw [dB_tt h, if_neg (by decide), dB_tt hq, if_neg (by decide), dB_ff hW, if_neg (by decide)]
theorem spV_pl (B : RBook) (Q : Prop) (num : Tru → Int) : Pl (spV B Q num) := by unfold spV; (repeat' split) <;> exact fun _ => rfl
theorem Wn_len {B : RBook} (hB : bkOk B) : (Wn B).length ≤ 20000 := by
  have := allT_len hB.2.1
  unfold Wn
  rw [List.length_map]
  omega

set_option maxRecDepth 100000 in
set_option maxHeartbeats 4000000 in
theorem bound1_can (t : Tru) (d : Nat) (hd : d < 5) : CanS 0 Try.prog 43 2 [trV t, .ptr 1 0] [(1, some (.cells [.int .i64 (d : Int)]))] 2 fun v _ _ => v = .int .i64 (t.eb d) := by
  refine CanS.mk Try.func43 rfl rfl rfl ?_
  repeat' (first | refine RT.nil ?_ | refine sq_n ?_ | refine Tr.seq ?_ | refine Tr.region ?_ | refine Tr.ret ?_ | (refine RT.goK rfl rfl rfl rfl ?_; apply Nx.of; (first | exact S.idx_arr rfl rfl rfl hd | exact S.load1c rfl rfl rfl (truC_b hd))) | (refine RT.goK rfl rfl rfl rfl ?_; apply Nx.of; (first | exact S.assign | exact S.load1c rfl rfl rfl rfl | exact S.fieldAddr rfl rfl rfl | exact S.box)))
  (first | refine rt_go rfl ?_)
  rfl
theorem bound_num (W : List Tru) (d : Nat) (hd : d < 5) : NumOK W 43 (.int .i64 (d : Int)) (fun t => t.eb d) := fun t _ m c hc hm fl =>
  (bound1_can t d hd).pure (.int _ _) (Entry.nm hc (by omega) ⟨⟨hm, rfl, by omega⟩, trivial⟩ (by
    show [trV t, AV.ptr (nm 2 c 1) 0] = _
    rw [nm_lt (by omega)])) fl
theorem look_nil {x : Nat} {r : List (Nat × Option AObj)} (h : lookM r x = none) : ∀ {m : List (Nat × Option AObj)}, lookM (m ++ r) x = lookM m x
  | [] => h
  | (y, o) :: m => by
    rw [List.cons_append, lookM, lookM, look_nil h]
theorem gd_app {fl c c' : Nat} {m r : List (Nat × Option AObj)} (hc : c ≤ c') (hr : ∀ x, lookM r x ≠ none → c ≤ x ∧ x < c') : Go.Ev.Good fl c (ofM m) c' (ofM (m ++ r)) := by
  refine ⟨hc, fun x _ h2 => ?_, fun hd x hx => ?_⟩
  · rw [ofM_get, ofM_get]
    exact look_nil (Classical.byContradiction fun q => by have := (hr x q).1; omega)
  · rw [ofM_get] at hx
    by_cases q : lookM r x = none
    · rw [look_nil q] at hx
      have := hd x (by rw [ofM_get]; exact hx)
      omega
    · exact (hr x q).2
theorem rds_dom {ts : List Tru} {x y : Nat} : ∀ {n : Nat}, lookM (rdsM ts x n) y ≠ none → x ≤ y ∧ y < x + n
  | 0, h => absurd rfl h
  | n + 1, h => by
    by_cases e : y = x + n
    · omega
    · rw [rdsM, lookM_tl e] at h
      have := rds_dom h
      omega
theorem kn_good {B : RBook} (hB : bkOk B) (a1 a2 a3 : AV) (c : Nat) (m : List (Nat × Option AObj)) (fl : Nat) : Go.Ev.Good fl c (ofM m) (c + 13) (ofM (knM B a1 a2 a3 c m)) := by
  have hnd := hB.2.1.1
  exact ((gd_app (c' := c + 12) (by omega) fun x hx => by have := rds_dom hx; omega).cons (c2 := c + 13) (by omega) (by omega) (by omega)).cons (c2 := c + 13) (by omega) (by omega) (by omega)
/-- Whether there is such a day, in a region whose order is open. -/
noncomputable def dayF (B : RBook) (a1 a2 a3 : AV) (d : Int) (q : Bool) : CallFn := one1 41 [bk B a1 a2 a3, .int .i64 d] (.bool q) fun H c => ∃ m, H = ofM m ∧ BkIn B a1 a2 a3 m c
theorem dayF_calm {B : RBook} {a1 a2 a3 : AV} (hn : B.nd ≤ 9223372036854775807) {d : Int} {q : Bool} (h : dB (dyQ B d) = q) : CalmC 0 Try.prog (dayF B a1 a2 a3 d q) :=
  one1_calm fun fl H c ⟨m, hm, hk⟩ => by subst hm; exact val_is (by rw [h]) (isDay_at hk hn fl d)
/-- learn, where it answers an error. -/
noncomputable def lnF (B : RBook) (a1 a2 a3 : AV) (q : Bool) (e : Int) : CallFn := one1 40 [bk B a1 a2 a3, .bool q] (.tup [knZ, .int .i64 e]) fun H c => ∃ m, H = ofM m ∧ BkIn B a1 a2 a3 m c
theorem lnF_no {B : RBook} {a1 a2 a3 : AV} (hn : B.nd ≤ 9223372036854775807) (hB : ¬ bkOk B) (q : Bool) : CalmC 0 Try.prog (lnF B a1 a2 a3 q 70) := one1_calm fun fl H c ⟨m, hm, hk⟩ => by subst hm; exact learn_no_at hk hn hB q fl
theorem lnF_ask {B : RBook} {a1 a2 a3 : AV} (hn : B.nd ≤ 9223372036854775807) (hB : bkOk B) : CalmC 0 Try.prog (lnF B a1 a2 a3 false 71) := one1_calm fun fl H c ⟨m, hm, hk⟩ => by subst hm; exact learn_ask_at hk hn hB fl
theorem lnF_false {B : RBook} {a1 a2 a3 : AV} (hn : B.nd ≤ 9223372036854775807) (hB : bkOk B) (hW : Wn B = []) : CalmC 0 Try.prog (lnF B a1 a2 a3 true 72) := one1_calm fun fl H c ⟨m, hm, hk⟩ => by subst hm; exact learn_false hk hn hB hW fl
theorem two_calm {f g : CallFn} (h : CalmC 0 Try.prog f) (k : CalmC 0 Try.prog g) : CalmC 0 Try.prog (alts [f, g]) := alts_calm fun x hx => by
  simp only [List.mem_cons, List.not_mem_nil, or_false] at hx
  rcases hx with rfl | rfl
  · exact h
  · exact k
set_option format.width 260
set_option maxRecDepth 100000 in
set_option maxHeartbeats 4000000 in
theorem Bound_can (B : RBook) (a1 a2 a3 : AV) (h1 : IsSl a1 B.nl 0) (h2 : IsSl a2 B.nd 1) (h3 : IsSl a3 B.nk 2) (hn : B.nd ≤ 9223372036854775807) (d : Int) : CanS 0 Try.prog 12 3 [bk B a1 a2 a3, .int .i64 d] [(0, some (oLa B)), (1, some (oDa B)), (2, some (oLo B))] 3 fun v _ _ => v = spV B (dyQ B d) (fun t => t.eb d.toNat) := by
  by_cases hB : bkOk B
  · by_cases hq : dyQ B d
    · by_cases hW : Wn B = []
      · rw [spV_false hB hq hW]
        refine CanS.mk Try.func12 rfl rfl rfl ?_
        repeat' (first | refine RT.nil ?_ | refine sq_n ?_ | refine Tr.seq ?_ | refine Tr.region ?_ | (refine RT.goK rfl rfl rfl rfl ?_; apply Nx.of; (first | exact S.assign | exact S.box | exact S.alloc rfl)))
        refine Tr.openK un12_1 (by kernel_rfl) (by kernel_rfl) (alts [dayF B a1 a2 a3 d true, lnF B a1 a2 a3 true 72]) (two_calm (dayF_calm hn (dB_tt hq)) (lnF_false hn hB hW)) ?_
        repeat' (first | (refine RD.callN rfl rfl rfl rfl rfl rfl rfl rfl rfl (fun fl' => alts_hd (one1_at ⟨_, rfl, ⟨h1, h2, h3, rfl, rfl, rfl, by decide⟩⟩ fl')) (fun _ => by refine srOk_all ?_; simp only [srOk]; (repeat' (first | exact trivial | refine And.intro ?_ ?_)); all_goals (first | (refine ⟨_, rfl, ?_⟩; (first | (simp [rfO, rfVs, rfV, bk, AV.cells, h1.rf, h2.rf, h3.rf]; done))))) ?_) | (refine RD.callN rfl rfl rfl rfl rfl rfl rfl rfl rfl (fun fl' => (alts_tl (famA_ne _ (by decide))).trans (alts_hd (one1_at ⟨_, rfl, ⟨h1, h2, h3, rfl, rfl, rfl, by decide⟩⟩ fl'))) (fun _ => by refine srOk_all ?_; simp only [srOk]; (repeat' (first | exact trivial | refine And.intro ?_ ?_)); all_goals (first | exact trivial | (refine ⟨_, rfl, ?_⟩; (first | rfl | (simp [rfO, rfVs, rfV, rfVs_flat]; done) | (simp [rfO, rfVs, rfV, bk, AV.cells, h1.rf, h2.rf, h3.rf]; done))))) ?_) | (refine RD.free rfl rfl rfl rfl rfl rfl ?_; apply Nx.of; (first | exact S.move | exact S.assign | exact S.extract rfl)) | (refine RD.new rfl rfl rfl rfl rfl rfl ?_; apply Nx.of; (first | exact S.alloc rfl)) | (refine RD.load rfl rfl rfl rfl rfl rfl rfl rfl ?_; apply Nx.of; (first | exact S.load1c rfl rfl rfl rfl | exact S.loadNc rfl rfl rfl rfl)) | (refine RD.store rfl rfl rfl rfl rfl rfl rfl ?_; apply Nx.of; (first | exact S.store rfl rfl rfl rfl rfl rfl)) | refine RD.nil ⟨Nat.le_of_ble_eq_true rfl, ?_⟩)
        repeat' (first | refine RT.nil ?_ | refine sq_n ?_ | refine Tr.seq ?_ | refine Tr.region ?_ | refine Tr.cond_t rfl ?_ | refine Tr.ret ?_ | refine sq_r ?_ | (refine RT.goK rfl rfl rfl rfl ?_; apply Nx.of; (first | exact S.move | exact S.assign | exact S.neq | exact S.build rfl rfl rfl)) | (refine RT.goK0 rfl rfl rfl ?_; apply Nx.of; (first | exact S.store rfl rfl rfl rfl rfl rfl)))
        (first | refine rt_go rfl ?_)
        rfl
      · rw [spV_ok hB hq hW]
        have hnd := hB.2.1.1.2
        have hd5 : d.toNat < 5 := by unfold dyQ at hq; omega
        obtain ⟨d', hd'⟩ := Int.eq_ofNat_of_zero_le hq.1
        subst hd'
        rw [Int.toNat_natCast] at hd5 ⊢
        refine CanS.mk Try.func12 rfl rfl rfl ?_
        repeat' (first | refine RT.nil ?_ | refine sq_n ?_ | refine Tr.seq ?_ | refine Tr.region ?_ | (refine RT.goK rfl rfl rfl rfl ?_; apply Nx.of; (first | exact S.assign | exact S.box | exact S.alloc rfl)))
        obtain ⟨d, hdd⟩ : ∃ d : Int, (d' : Int) = d := ⟨_, rfl⟩
        rw [hdd] at hq
        refine Tr.openK un12_1 (by kernel_rfl) (by kernel_rfl) (alts [dayF B a1 a2 a3 d' true, pinX 40 [bk B a1 a2 a3, .bool true] [(5, some (.cells [.int .i64 0, .int .i64 0])), (4, some (.cells [.int .i64 (d' : Int)])), (3, some (.cells (bk B a1 a2 a3).cells)), (0, some (oLa B)), (1, some (oDa B)), (2, some (oLo B))] 6 (.tup [knV B 6, .int .i64 0]) (knM B a1 a2 a3 6 [(5, some (.cells [.int .i64 0, .int .i64 0])), (4, some (.cells [.int .i64 (d' : Int)])), (3, some (.cells (bk B a1 a2 a3).cells)), (0, some (oLa B)), (1, some (oDa B)), (2, some (oLo B))]) 19]) (two_calm (dayF_calm hn (by rw [hdd]; exact dB_tt hq)) (pinX_calm (fun fl => learn_at ⟨h1, h2, h3, rfl, rfl, rfl, by decide⟩ (fun x o hx => by have := lookM_mem hx; simp at this; omega) hn hB hW fl) (fun fl => kn_good hB a1 a2 a3 6 _ fl))) ?_
        repeat' (first | (refine RD.callN rfl rfl rfl rfl rfl rfl rfl rfl rfl (fun fl' => alts_hd (one1_at ⟨_, rfl, ⟨h1, h2, h3, rfl, rfl, rfl, by decide⟩⟩ fl')) (fun _ => by refine srOk_all ?_; simp only [srOk]; (repeat' (first | exact trivial | refine And.intro ?_ ?_)); all_goals (first | (refine ⟨_, rfl, ?_⟩; (first | (simp [rfO, rfVs, rfV, bk, AV.cells, h1.rf, h2.rf, h3.rf]; done))))) ?_) | (refine RD.callX rfl rfl rfl rfl rfl rfl rfl rfl rfl (fun fl' => (alts_tl (famA_ne _ (by decide))).trans (alts_hd (pinX_at _ _ _ _ _ _ _ fl'))) (fun _ => by refine srOkX_all ?_; simp only [srOkX]; (repeat' (first | exact trivial | refine And.intro ?_ ?_)); all_goals (first | exact trivial | (refine ⟨_, rfl, rfl, ?_⟩; (first | rfl | (simp [rfO, rfVs, rfV, rfVs_flat]; done) | (simp [rfO, rfVs, rfV, bk, AV.cells, h1.rf, h2.rf, h3.rf]; done))))) ?_) | (refine RD.free rfl rfl rfl rfl rfl rfl ?_; apply Nx.of; (first | exact S.move | exact S.assign | exact S.extract rfl)) | (refine RD.new rfl rfl rfl rfl rfl rfl ?_; apply Nx.of; (first | exact S.alloc rfl)) | (refine RD.load rfl rfl rfl rfl rfl rfl rfl rfl ?_; apply Nx.of; (first | exact S.load1c rfl rfl rfl rfl | exact S.loadNc rfl rfl rfl rfl)) | (refine RD.store rfl rfl rfl rfl rfl rfl rfl ?_; apply Nx.of; (first | exact S.store rfl rfl (kn_one _ _ _ _ _) rfl rfl rfl)) | refine RD.nil ⟨Nat.le_of_ble_eq_true rfl, ?_⟩)
        repeat' (first | refine RT.nil ?_ | refine sq_n ?_ | refine Tr.seq ?_ | refine Tr.region ?_ | refine Tr.cond_f rfl ?_ | refine Tr.skip ?_ | refine Tr.ret ?_ | (refine RT.call rfl rfl rfl (span_at (x := 18) (z := 4) rfl rfl hW (Wn_len hB) _ _ (bound_num _ _ hd5) _) rfl rfl (Nat.le_refl _) ?_) | (refine RT.goK rfl rfl rfl rfl ?_; apply Nx.of; (first | exact S.move | exact S.assign | exact S.loadNc rfl rfl rfl rfl | exact S.neq | exact S.makeFunc)) | (refine RT.goK0 rfl rfl rfl ?_; apply Nx.of; (first | exact S.store rfl rfl rfl rfl rfl rfl)))
        (first | refine rt_go rfl ?_)
        rfl
    · rw [spV_ask hB hq]
      refine CanS.mk Try.func12 rfl rfl rfl ?_
      repeat' (first | refine RT.nil ?_ | refine sq_n ?_ | refine Tr.seq ?_ | refine Tr.region ?_ | (refine RT.goK rfl rfl rfl rfl ?_; apply Nx.of; (first | exact S.assign | exact S.box | exact S.alloc rfl)))
      refine Tr.openK un12_1 (by kernel_rfl) (by kernel_rfl) (alts [dayF B a1 a2 a3 d false, lnF B a1 a2 a3 false 71]) (two_calm (dayF_calm hn (dB_ff hq)) (lnF_ask hn hB)) ?_
      repeat' (first | (refine RD.callN rfl rfl rfl rfl rfl rfl rfl rfl rfl (fun fl' => alts_hd (one1_at ⟨_, rfl, ⟨h1, h2, h3, rfl, rfl, rfl, by decide⟩⟩ fl')) (fun _ => by refine srOk_all ?_; simp only [srOk]; (repeat' (first | exact trivial | refine And.intro ?_ ?_)); all_goals (first | (refine ⟨_, rfl, ?_⟩; (first | (simp [rfO, rfVs, rfV, bk, AV.cells, h1.rf, h2.rf, h3.rf]; done))))) ?_) | (refine RD.callN rfl rfl rfl rfl rfl rfl rfl rfl rfl (fun fl' => (alts_tl (famA_ne _ (by decide))).trans (alts_hd (one1_at ⟨_, rfl, ⟨h1, h2, h3, rfl, rfl, rfl, by decide⟩⟩ fl'))) (fun _ => by refine srOk_all ?_; simp only [srOk]; (repeat' (first | exact trivial | refine And.intro ?_ ?_)); all_goals (first | exact trivial | (refine ⟨_, rfl, ?_⟩; (first | rfl | (simp [rfO, rfVs, rfV, rfVs_flat]; done) | (simp [rfO, rfVs, rfV, bk, AV.cells, h1.rf, h2.rf, h3.rf]; done))))) ?_) | (refine RD.free rfl rfl rfl rfl rfl rfl ?_; apply Nx.of; (first | exact S.move | exact S.assign | exact S.extract rfl)) | (refine RD.new rfl rfl rfl rfl rfl rfl ?_; apply Nx.of; (first | exact S.alloc rfl)) | (refine RD.load rfl rfl rfl rfl rfl rfl rfl rfl ?_; apply Nx.of; (first | exact S.load1c rfl rfl rfl rfl | exact S.loadNc rfl rfl rfl rfl)) | (refine RD.store rfl rfl rfl rfl rfl rfl rfl ?_; apply Nx.of; (first | exact S.store rfl rfl rfl rfl rfl rfl)) | refine RD.nil ⟨Nat.le_of_ble_eq_true rfl, ?_⟩)
      repeat' (first | refine RT.nil ?_ | refine sq_n ?_ | refine Tr.seq ?_ | refine Tr.region ?_ | refine Tr.cond_t rfl ?_ | refine Tr.ret ?_ | refine sq_r ?_ | (refine RT.goK rfl rfl rfl rfl ?_; apply Nx.of; (first | exact S.move | exact S.assign | exact S.neq | exact S.build rfl rfl rfl)) | (refine RT.goK0 rfl rfl rfl ?_; apply Nx.of; (first | exact S.store rfl rfl rfl rfl rfl rfl)))
      (first | refine rt_go rfl ?_)
      rfl
  · rw [spV_no hB]
    refine CanS.mk Try.func12 rfl rfl rfl ?_
    repeat' (first | refine RT.nil ?_ | refine sq_n ?_ | refine Tr.seq ?_ | refine Tr.region ?_ | (refine RT.goK rfl rfl rfl rfl ?_; apply Nx.of; (first | exact S.assign | exact S.box | exact S.alloc rfl)))
    obtain ⟨q, hq⟩ : ∃ q, dB (dyQ B d) = q := ⟨_, rfl⟩
    refine Tr.openK un12_1 (by kernel_rfl) (by kernel_rfl) (alts [dayF B a1 a2 a3 d q, lnF B a1 a2 a3 q 70]) (two_calm (dayF_calm hn hq) (lnF_no hn hB q)) ?_
    repeat' (first | (refine RD.callN rfl rfl rfl rfl rfl rfl rfl rfl rfl (fun fl' => alts_hd (one1_at ⟨_, rfl, ⟨h1, h2, h3, rfl, rfl, rfl, by decide⟩⟩ fl')) (fun _ => by refine srOk_all ?_; simp only [srOk]; (repeat' (first | exact trivial | refine And.intro ?_ ?_)); all_goals (first | (refine ⟨_, rfl, ?_⟩; (first | (simp [rfO, rfVs, rfV, bk, AV.cells, h1.rf, h2.rf, h3.rf]; done))))) ?_) | (refine RD.callN rfl rfl rfl rfl rfl rfl rfl rfl rfl (fun fl' => (alts_tl (famA_ne _ (by decide))).trans (alts_hd (one1_at ⟨_, rfl, ⟨h1, h2, h3, rfl, rfl, rfl, by decide⟩⟩ fl'))) (fun _ => by refine srOk_all ?_; simp only [srOk]; (repeat' (first | exact trivial | refine And.intro ?_ ?_)); all_goals (first | exact trivial | (refine ⟨_, rfl, ?_⟩; (first | rfl | (simp [rfO, rfVs, rfV, rfVs_flat]; done) | (simp [rfO, rfVs, rfV, bk, AV.cells, h1.rf, h2.rf, h3.rf]; done))))) ?_) | (refine RD.free rfl rfl rfl rfl rfl rfl ?_; apply Nx.of; (first | exact S.move | exact S.assign | exact S.extract rfl)) | (refine RD.new rfl rfl rfl rfl rfl rfl ?_; apply Nx.of; (first | exact S.alloc rfl)) | (refine RD.load rfl rfl rfl rfl rfl rfl rfl rfl ?_; apply Nx.of; (first | exact S.load1c rfl rfl rfl rfl | exact S.loadNc rfl rfl rfl rfl)) | (refine RD.store rfl rfl rfl rfl rfl rfl rfl ?_; apply Nx.of; (first | exact S.store rfl rfl rfl rfl rfl rfl)) | refine RD.nil ⟨Nat.le_of_ble_eq_true rfl, ?_⟩)
    repeat' (first | refine RT.nil ?_ | refine sq_n ?_ | refine Tr.seq ?_ | refine Tr.region ?_ | refine Tr.cond_t rfl ?_ | refine Tr.ret ?_ | refine sq_r ?_ | (refine RT.goK rfl rfl rfl rfl ?_; apply Nx.of; (first | exact S.move | exact S.assign | exact S.neq | exact S.build rfl rfl rfl)) | (refine RT.goK0 rfl rfl rfl ?_; apply Nx.of; (first | exact S.store rfl rfl rfl rfl rfl rfl)))
    (first | refine rt_go rfl ?_)
    rfl
theorem Bound_at {B : RBook} {a1 a2 a3 : AV} {m : List (Nat × Option AObj)} {c : Nat} (h : BkIn B a1 a2 a3 m c) (hn : B.nd ≤ 9223372036854775807) (d : Int) (fl : Nat) : OkAt 0 Try.prog fl 12 [bk B a1 a2 a3, .int .i64 d] (ofM m) c (spV B (dyQ B d) (fun t => t.eb d.toNat)) (ofM m) c :=
  (Bound_can B a1 a2 a3 h.h1 h.h2 h.h3 hn d).pure (spV_pl _ _ _) (h.entry _ fun _ => rfl) fl
end Go.Proofs.Ytpneoeoimdfjaaa

/- Package roll: Fits. -/
namespace Go.Proofs.Ytpneoeoimdfjaaa
open Go Go.Ev

/-- A function's call that tells whether something is so in a truth, in all memory that holds another one's. -/
def PrOK (W : List Tru) (g : Nat) (first cap : List AV) (m : List (Nat × Option AObj)) (c : Nat) (pr : Tru → Prop) : Prop := ∀ t ∈ W, ∀ m' c', Sub m c m' c' → ∀ fl, OkAt 0 Try.prog fl g (first ++ [trV t] ++ cap) (ofM m') c' (.bool (dB (pr t))) (ofM m') c'
section
variable {W : List Tru} {g x : Nat} {first cap : List AV} {m : List (Nat × Option AObj)} {c : Nat} {pr : Tru → Prop}

set_option maxRecDepth 100000 in
set_option maxHeartbeats 4000000 in
theorem index_at (hx : lookM m x = some (oWn W)) (hlen : W.length ≤ 20000) (hp : PrOK W g first cap m c pr) (fl : Nat) : OkAt 0 Try.prog fl 67 [.gs x W.length, .fn g first cap] (ofM m) c (.int .i64 (ixV pr W)) (ofM m) c := by
  refine CanS.here (CanS.mk Try.func67 rfl rfl rfl ?_) (.int _ _) fl
  have hs := IsSl.gs x W.length
  repeat' (first | refine RT.nil ?_ | refine sq_n ?_ | refine Tr.seq ?_ | refine Tr.region ?_ | refine Tr.block ?_ | (refine RT.goK rfl rfl rfl rfl ?_; apply Nx.of; (first | exact S.move | exact S.assign)) | (refine RT.goK rfl rfl rfl rfl ?_; apply Nx.of; (first | exact S.len_sl rfl rfl rfl (by assumption))))
  refine Tr.loop (fun k : Nat => stL Try.f67.ntmps [] [(0, .gs x W.length), (1, .fn g first cap), (7, .int .i64 W.length), (8, .int .i64 k)] m c) (fun k => k ≤ W.length ∧ ∀ i u, i < k → W[i]? = some u → ¬ pr u) (fun k => W.length - k) 0 ⟨Nat.zero_le _, fun i u hi => by omega⟩ (Wk.temps (Nat.le_refl _) (Nat.zero_le _) (Nat.le_refl _) ⟨rfl, rfl, rfl, rfl, trivial⟩) (fun k hk => ?_)
  obtain ⟨hk, hno⟩ := hk
  by_cases hlt : k < W.length
  · obtain ⟨tk, htk, hmk⟩ := at_some hlt
    have hlt' : (k : Int) < W.length := by omega
    repeat' (first | refine RT.nil ?_ | refine sq_n ?_ | refine Tr.seq ?_ | refine Tr.region ?_ | refine Tr.cond_t rfl ?_ | refine Tr.cond_d rfl (fun _ => ?_) (fun _ => ?_) | refine Tr.skip ?_ | refine Tr.ret ?_ | refine sq_r ?_ | refine Tr.block ?_ | refine blk_n ?_ | refine blk_r ?_ | refine lp_r ?_ | (refine RT.goK rfl rfl rfl rfl ?_; (refine Nx.of (S.lss_t hlt') ?_)) | (refine RT.call rfl rfl rfl (hp tk hmk _ _ .refl _) rfl rfl (Nat.le_refl _) ?_) | (refine RT.goK rfl rfl rfl rfl ?_; refine Nx.of (S.rowG rfl rfl hx (fun _ => rfl) htk rfl rfl) ?_) | (refine RT.goK rfl rfl rfl rfl ?_; apply Nx.of; (first | exact S.move | exact S.assign | exact S.add_one (by omega))) | (refine RT.goK rfl rfl rfl rfl ?_; apply Nx.of; (first | exact S.idx_sl rfl rfl rfl (by assumption) (by omega))))
    · (first | refine rt_go rfl ?_)
      exact congrArg (AV.int .i64) (ixV_at hno htk (by assumption)).symm
    · refine lp_n (k + 1) ⟨hlt, fun i u hi hu => ?_⟩ (by omega) (Wk.temps (Nat.le_refl _) (Nat.zero_le _) (Nat.le_refl _) ⟨rfl, rfl, rfl, rfl, trivial⟩)
      rcases Nat.lt_succ_iff_lt_or_eq.1 hi with h | rfl
      · exact hno i u h hu
      · rw [htk] at hu; cases hu; assumption
  · have hlt' : ¬ (k : Int) < W.length := by omega
    repeat' (first | refine RT.nil ?_ | refine sq_n ?_ | refine Tr.seq ?_ | refine Tr.region ?_ | refine Tr.cond_f rfl ?_ | refine Tr.ret ?_ | refine Tr.exit ?_ | refine sq_x ?_ | refine blk_hit rfl ?_ | refine lp_x ?_ | (refine RT.goK rfl rfl rfl rfl ?_; (refine Nx.of (S.lss_f hlt') ?_)) | (refine RT.goK rfl rfl rfl rfl ?_; apply Nx.of; (first | exact S.assign)))
    (first | refine rt_go rfl ?_)
    exact congrArg (AV.int .i64) (ixV_none fun i u hi hu => hno i u (by omega) hu).symm

set_option maxRecDepth 100000 in
set_option maxHeartbeats 4000000 in
theorem contains_at (hx : lookM m x = some (oWn W)) (hlen : W.length ≤ 20000) (hp : PrOK W g first cap m c pr) (fl : Nat) : OkAt 0 Try.prog fl 45 [.gs x W.length, .fn g first cap] (ofM m) c (.bool (dB (∃ t ∈ W, pr t))) (ofM m) c := by
  refine CanS.here (CanS.mk Try.func45 rfl rfl rfl ?_) (.bool _) fl
  repeat' (first | refine RT.nil ?_ | refine sq_n ?_ | refine Tr.seq ?_ | refine Tr.region ?_ | refine Tr.ret ?_ | (refine RT.call rfl rfl rfl (index_at hx hlen hp _) rfl rfl (Nat.le_refl _) ?_) | (refine RT.goK rfl rfl rfl rfl ?_; apply Nx.of; (first | exact S.move | exact S.assign | exact S.geq)))
  (first | refine rt_go rfl ?_)
  exact dB_iff ixV_nn

end
/-- An answer that is yes or no. -/
noncomputable def ftV (B : RBook) (d b : Int) : AV :=
  if dB (bkOk B) = false then .tup [.bool false, .int .i64 70] else if dB (lkOk B d b) = false then .tup [.bool false, .int .i64 71] else if dB (Wn B = []) then .tup [.bool false, .int .i64 72] else .tup [.bool (dB (∃ t ∈ Wn B, t.eb d.toNat = b)), .int .i64 0]
theorem ftV_no {B : RBook} {d b : Int} (h : ¬ bkOk B) : ftV B d b = .tup [.bool false, .int .i64 70] := by unfold ftV; rw [dB_ff h, if_pos rfl]
theorem ftV_ask {B : RBook} {d b : Int} (h : bkOk B) (hq : ¬ lkOk B d b) : ftV B d b = .tup [.bool false, .int .i64 71] := by unfold ftV; rw [dB_tt h, if_neg (by decide), dB_ff hq, if_pos rfl]
theorem ftV_false {B : RBook} {d b : Int} (h : bkOk B) (hq : lkOk B d b) (hW : Wn B = []) : ftV B d b = .tup [.bool false, .int .i64 72] := by unfold ftV; rw [dB_tt h, if_neg (by decide), dB_tt hq, if_neg (by decide), dB_tt hW, if_pos rfl]
theorem ftV_ok {B : RBook} {d b : Int} (h : bkOk B) (hq : lkOk B d b) (hW : Wn B ≠ []) : ftV B d b = .tup [.bool (dB (∃ t ∈ Wn B, t.eb d.toNat = b)), .int .i64 0] := by unfold ftV; rw [dB_tt h, if_neg (by decide), dB_tt hq, if_neg (by decide), dB_ff hW, if_neg (by decide)]
theorem ftV_pl (B : RBook) (d b : Int) : Pl (ftV B d b) := by unfold ftV; (repeat' split) <;> exact fun _ => rfl
/-- Whether there can be such a look, in a region whose order is open. -/
noncomputable def lokF (B : RBook) (a1 a2 a3 : AV) (d b : Int) (q : Bool) : CallFn := one1 44 [bk B a1 a2 a3, .agg [.int .i64 d, .int .i64 b]] (.bool q) fun H c => ∃ m, H = ofM m ∧ BkIn B a1 a2 a3 m c
theorem lokF_calm {B : RBook} {a1 a2 a3 : AV} (hn : B.nd ≤ 9223372036854775807) {d b : Int} {q : Bool} (h : dB (lkOk B d b) = q) : CalmC 0 Try.prog (lokF B a1 a2 a3 d b q) :=
  one1_calm fun fl H c ⟨m, hm, hk⟩ => by subst hm; exact val_is (by rw [h]) (isLook_at hk hn d b fl)
set_option format.width 260
set_option maxRecDepth 100000 in
set_option maxHeartbeats 4000000 in
theorem fits_can (B : RBook) (a1 a2 a3 : AV) (h1 : IsSl a1 B.nl 0) (h2 : IsSl a2 B.nd 1) (h3 : IsSl a3 B.nk 2) (hn : B.nd ≤ 9223372036854775807) (d : Nat) (b : Int) (hB : bkOk B) (hq : lkOk B d b) (hW : Wn B ≠ []) : CanS 0 Try.prog 13 3 [bk B a1 a2 a3, .agg [.int .i64 (d : Int), .int .i64 b]] [(0, some (oLa B)), (1, some (oDa B)), (2, some (oLo B))] 3 fun v _ _ => v = .tup [.bool (dB (∃ t ∈ Wn B, t.eb d = b)), .int .i64 0] := by
  have hnd := hB.2.1.1.2
  have hd5 : d < 5 := by unfold lkOk dyQ at hq; omega
  refine CanS.mk Try.func13 rfl rfl rfl ?_
  repeat' (first | refine RT.nil ?_ | refine sq_n ?_ | refine Tr.seq ?_ | refine Tr.region ?_ | (refine RT.goK rfl rfl rfl rfl ?_; apply Nx.of; (first | exact S.assign | exact S.box)))
  refine Tr.openK un13_1 (by kernel_rfl) (by kernel_rfl) (alts [lokF B a1 a2 a3 d b true, pinX 40 [bk B a1 a2 a3, .bool true] [(4, some (.cells [.int .i64 (d : Int), .int .i64 b])), (3, some (.cells (bk B a1 a2 a3).cells)), (0, some (oLa B)), (1, some (oDa B)), (2, some (oLo B))] 5 (.tup [knV B 5, .int .i64 0]) (knM B a1 a2 a3 5 [(4, some (.cells [.int .i64 (d : Int), .int .i64 b])), (3, some (.cells (bk B a1 a2 a3).cells)), (0, some (oLa B)), (1, some (oDa B)), (2, some (oLo B))]) 18]) (two_calm (lokF_calm hn (dB_tt hq)) (pinX_calm (fun fl => learn_at ⟨h1, h2, h3, rfl, rfl, rfl, by decide⟩ (fun x o hx => by have := lookM_mem hx; simp at this; omega) hn hB hW fl) (fun fl => kn_good hB a1 a2 a3 5 _ fl))) ?_
  repeat' (first | (refine RD.callN rfl rfl rfl rfl rfl rfl rfl rfl rfl (fun fl' => alts_hd (one1_at ⟨_, rfl, ⟨h1, h2, h3, rfl, rfl, rfl, by decide⟩⟩ fl')) (fun _ => by refine srOk_all ?_; simp only [srOk]; (repeat' (first | exact trivial | refine And.intro ?_ ?_)); all_goals (first | (refine ⟨_, rfl, ?_⟩; (first | (simp [rfO, rfVs, rfV, bk, AV.cells, h1.rf, h2.rf, h3.rf]; done))))) ?_) | (refine RD.callX rfl rfl rfl rfl rfl rfl rfl rfl rfl (fun fl' => (alts_tl (famA_ne _ (by decide))).trans (alts_hd (pinX_at _ _ _ _ _ _ _ fl'))) (fun _ => by refine srOkX_all ?_; simp only [srOkX]; (repeat' (first | exact trivial | refine And.intro ?_ ?_)); all_goals (first | exact trivial | (refine ⟨_, rfl, rfl, ?_⟩; (first | rfl | (simp [rfO, rfVs, rfV, rfVs_flat]; done) | (simp [rfO, rfVs, rfV, bk, AV.cells, h1.rf, h2.rf, h3.rf]; done))))) ?_) | (refine RD.free rfl rfl rfl rfl rfl rfl ?_; apply Nx.of; (first | exact S.move | exact S.assign | exact S.extract rfl)) | (refine RD.new rfl rfl rfl rfl rfl rfl ?_; apply Nx.of; (first | exact S.alloc rfl)) | (refine RD.load rfl rfl rfl rfl rfl rfl rfl rfl ?_; apply Nx.of; (first | exact S.loadNc rfl rfl rfl rfl)) | (refine RD.store rfl rfl rfl rfl rfl rfl rfl ?_; apply Nx.of; (first | exact S.store rfl rfl (kn_one _ _ _ _ _) rfl rfl rfl)) | refine RD.nil ⟨Nat.le_of_ble_eq_true rfl, ?_⟩)
  repeat' (first | refine RT.nil ?_ | refine sq_n ?_ | refine Tr.seq ?_ | refine Tr.region ?_ | refine Tr.cond_f rfl ?_ | refine Tr.skip ?_ | refine Tr.ret ?_ | (refine RT.call rfl rfl rfl (contains_at (x := 17) (pr := fun t => t.eb d = b) rfl (Wn_len hB) (fun t _ m' c' _ fl => isRight_at fl t d hd5 b _ _) _) rfl rfl (Nat.le_refl _) ?_) | (refine RT.goK rfl rfl rfl rfl ?_; apply Nx.of; (first | exact S.move | exact S.assign | exact S.load1c rfl rfl rfl rfl | exact S.loadNc rfl rfl rfl rfl | exact S.fieldAddr rfl rfl rfl | exact S.neq | exact S.makeFunc)))
  (first | refine rt_go rfl ?_)
  rfl
set_option maxRecDepth 100000 in
set_option maxHeartbeats 4000000 in
theorem Fits_can (B : RBook) (a1 a2 a3 : AV) (h1 : IsSl a1 B.nl 0) (h2 : IsSl a2 B.nd 1) (h3 : IsSl a3 B.nk 2) (hn : B.nd ≤ 9223372036854775807) (d b : Int) : CanS 0 Try.prog 13 3 [bk B a1 a2 a3, .agg [.int .i64 d, .int .i64 b]] [(0, some (oLa B)), (1, some (oDa B)), (2, some (oLo B))] 3 fun v _ _ => v = ftV B d b := by
  by_cases hB : bkOk B
  · by_cases hq : lkOk B d b
    · by_cases hW : Wn B = []
      · rw [ftV_false hB hq hW]
        refine CanS.mk Try.func13 rfl rfl rfl ?_
        repeat' (first | refine RT.nil ?_ | refine sq_n ?_ | refine Tr.seq ?_ | refine Tr.region ?_ | (refine RT.goK rfl rfl rfl rfl ?_; apply Nx.of; (first | exact S.assign | exact S.box)))
        refine Tr.openK un13_1 (by kernel_rfl) (by kernel_rfl) (alts [lokF B a1 a2 a3 d b true, lnF B a1 a2 a3 true 72]) (two_calm (lokF_calm hn (dB_tt hq)) (lnF_false hn hB hW)) ?_
        repeat' (first | (refine RD.callN rfl rfl rfl rfl rfl rfl rfl rfl rfl (fun fl' => alts_hd (one1_at ⟨_, rfl, ⟨h1, h2, h3, rfl, rfl, rfl, by decide⟩⟩ fl')) (fun _ => by refine srOk_all ?_; simp only [srOk]; (repeat' (first | exact trivial | refine And.intro ?_ ?_)); all_goals (first | (refine ⟨_, rfl, ?_⟩; (first | (simp [rfO, rfVs, rfV, bk, AV.cells, h1.rf, h2.rf, h3.rf]; done))))) ?_) | (refine RD.callN rfl rfl rfl rfl rfl rfl rfl rfl rfl (fun fl' => (alts_tl (famA_ne _ (by decide))).trans (alts_hd (one1_at ⟨_, rfl, ⟨h1, h2, h3, rfl, rfl, rfl, by decide⟩⟩ fl'))) (fun _ => by refine srOk_all ?_; simp only [srOk]; (repeat' (first | exact trivial | refine And.intro ?_ ?_)); all_goals (first | exact trivial | (refine ⟨_, rfl, ?_⟩; (first | rfl | (simp [rfO, rfVs, rfV, rfVs_flat]; done) | (simp [rfO, rfVs, rfV, bk, AV.cells, h1.rf, h2.rf, h3.rf]; done))))) ?_) | (refine RD.free rfl rfl rfl rfl rfl rfl ?_; apply Nx.of; (first | exact S.move | exact S.assign | exact S.extract rfl)) | (refine RD.new rfl rfl rfl rfl rfl rfl ?_; apply Nx.of; (first | exact S.alloc rfl)) | (refine RD.load rfl rfl rfl rfl rfl rfl rfl rfl ?_; apply Nx.of; (first | exact S.loadNc rfl rfl rfl rfl)) | (refine RD.store rfl rfl rfl rfl rfl rfl rfl ?_; apply Nx.of; (first | exact S.store rfl rfl rfl rfl rfl rfl)) | refine RD.nil ⟨Nat.le_of_ble_eq_true rfl, ?_⟩)
        repeat' (first | refine RT.nil ?_ | refine sq_n ?_ | refine Tr.seq ?_ | refine Tr.region ?_ | refine Tr.cond_t rfl ?_ | refine Tr.ret ?_ | refine sq_r ?_ | (refine RT.goK rfl rfl rfl rfl ?_; apply Nx.of; (first | exact S.move | exact S.assign | exact S.neq)))
        (first | refine rt_go rfl ?_)
        rfl
      · rw [ftV_ok hB hq hW]
        obtain ⟨d', hd'⟩ := Int.eq_ofNat_of_zero_le hq.1.1
        subst hd'
        rw [Int.toNat_natCast]
        exact fits_can B a1 a2 a3 h1 h2 h3 hn d' b hB hq hW
    · rw [ftV_ask hB hq]
      refine CanS.mk Try.func13 rfl rfl rfl ?_
      repeat' (first | refine RT.nil ?_ | refine sq_n ?_ | refine Tr.seq ?_ | refine Tr.region ?_ | (refine RT.goK rfl rfl rfl rfl ?_; apply Nx.of; (first | exact S.assign | exact S.box)))
      refine Tr.openK un13_1 (by kernel_rfl) (by kernel_rfl) (alts [lokF B a1 a2 a3 d b false, lnF B a1 a2 a3 false 71]) (two_calm (lokF_calm hn (dB_ff hq)) (lnF_ask hn hB)) ?_
      repeat' (first | (refine RD.callN rfl rfl rfl rfl rfl rfl rfl rfl rfl (fun fl' => alts_hd (one1_at ⟨_, rfl, ⟨h1, h2, h3, rfl, rfl, rfl, by decide⟩⟩ fl')) (fun _ => by refine srOk_all ?_; simp only [srOk]; (repeat' (first | exact trivial | refine And.intro ?_ ?_)); all_goals (first | (refine ⟨_, rfl, ?_⟩; (first | (simp [rfO, rfVs, rfV, bk, AV.cells, h1.rf, h2.rf, h3.rf]; done))))) ?_) | (refine RD.callN rfl rfl rfl rfl rfl rfl rfl rfl rfl (fun fl' => (alts_tl (famA_ne _ (by decide))).trans (alts_hd (one1_at ⟨_, rfl, ⟨h1, h2, h3, rfl, rfl, rfl, by decide⟩⟩ fl'))) (fun _ => by refine srOk_all ?_; simp only [srOk]; (repeat' (first | exact trivial | refine And.intro ?_ ?_)); all_goals (first | exact trivial | (refine ⟨_, rfl, ?_⟩; (first | rfl | (simp [rfO, rfVs, rfV, rfVs_flat]; done) | (simp [rfO, rfVs, rfV, bk, AV.cells, h1.rf, h2.rf, h3.rf]; done))))) ?_) | (refine RD.free rfl rfl rfl rfl rfl rfl ?_; apply Nx.of; (first | exact S.move | exact S.assign | exact S.extract rfl)) | (refine RD.new rfl rfl rfl rfl rfl rfl ?_; apply Nx.of; (first | exact S.alloc rfl)) | (refine RD.load rfl rfl rfl rfl rfl rfl rfl rfl ?_; apply Nx.of; (first | exact S.loadNc rfl rfl rfl rfl)) | (refine RD.store rfl rfl rfl rfl rfl rfl rfl ?_; apply Nx.of; (first | exact S.store rfl rfl rfl rfl rfl rfl)) | refine RD.nil ⟨Nat.le_of_ble_eq_true rfl, ?_⟩)
      repeat' (first | refine RT.nil ?_ | refine sq_n ?_ | refine Tr.seq ?_ | refine Tr.region ?_ | refine Tr.cond_t rfl ?_ | refine Tr.ret ?_ | refine sq_r ?_ | (refine RT.goK rfl rfl rfl rfl ?_; apply Nx.of; (first | exact S.move | exact S.assign | exact S.neq)))
      (first | refine rt_go rfl ?_)
      rfl
  · rw [ftV_no hB]
    refine CanS.mk Try.func13 rfl rfl rfl ?_
    repeat' (first | refine RT.nil ?_ | refine sq_n ?_ | refine Tr.seq ?_ | refine Tr.region ?_ | (refine RT.goK rfl rfl rfl rfl ?_; apply Nx.of; (first | exact S.assign | exact S.box)))
    obtain ⟨q, hq⟩ : ∃ q, dB (lkOk B d b) = q := ⟨_, rfl⟩
    refine Tr.openK un13_1 (by kernel_rfl) (by kernel_rfl) (alts [lokF B a1 a2 a3 d b q, lnF B a1 a2 a3 q 70]) (two_calm (lokF_calm hn hq) (lnF_no hn hB q)) ?_
    repeat' (first | (refine RD.callN rfl rfl rfl rfl rfl rfl rfl rfl rfl (fun fl' => alts_hd (one1_at ⟨_, rfl, ⟨h1, h2, h3, rfl, rfl, rfl, by decide⟩⟩ fl')) (fun _ => by refine srOk_all ?_; simp only [srOk]; (repeat' (first | exact trivial | refine And.intro ?_ ?_)); all_goals (first | (refine ⟨_, rfl, ?_⟩; (first | (simp [rfO, rfVs, rfV, bk, AV.cells, h1.rf, h2.rf, h3.rf]; done))))) ?_) | (refine RD.callN rfl rfl rfl rfl rfl rfl rfl rfl rfl (fun fl' => (alts_tl (famA_ne _ (by decide))).trans (alts_hd (one1_at ⟨_, rfl, ⟨h1, h2, h3, rfl, rfl, rfl, by decide⟩⟩ fl'))) (fun _ => by refine srOk_all ?_; simp only [srOk]; (repeat' (first | exact trivial | refine And.intro ?_ ?_)); all_goals (first | exact trivial | (refine ⟨_, rfl, ?_⟩; (first | rfl | (simp [rfO, rfVs, rfV, rfVs_flat]; done) | (simp [rfO, rfVs, rfV, bk, AV.cells, h1.rf, h2.rf, h3.rf]; done))))) ?_) | (refine RD.free rfl rfl rfl rfl rfl rfl ?_; apply Nx.of; (first | exact S.move | exact S.assign | exact S.extract rfl)) | (refine RD.new rfl rfl rfl rfl rfl rfl ?_; apply Nx.of; (first | exact S.alloc rfl)) | (refine RD.load rfl rfl rfl rfl rfl rfl rfl rfl ?_; apply Nx.of; (first | exact S.loadNc rfl rfl rfl rfl)) | (refine RD.store rfl rfl rfl rfl rfl rfl rfl ?_; apply Nx.of; (first | exact S.store rfl rfl rfl rfl rfl rfl)) | refine RD.nil ⟨Nat.le_of_ble_eq_true rfl, ?_⟩)
    repeat' (first | refine RT.nil ?_ | refine sq_n ?_ | refine Tr.seq ?_ | refine Tr.region ?_ | refine Tr.cond_t rfl ?_ | refine Tr.ret ?_ | refine sq_r ?_ | (refine RT.goK rfl rfl rfl rfl ?_; apply Nx.of; (first | exact S.move | exact S.assign | exact S.neq)))
    (first | refine rt_go rfl ?_)
    rfl
theorem Fits_at {B : RBook} {a1 a2 a3 : AV} {m : List (Nat × Option AObj)} {c : Nat} (h : BkIn B a1 a2 a3 m c) (hn : B.nd ≤ 9223372036854775807) (d b : Int) (fl : Nat) : OkAt 0 Try.prog fl 13 [bk B a1 a2 a3, .agg [.int .i64 d, .int .i64 b]] (ofM m) c (ftV B d b) (ofM m) c :=
  (Fits_can B a1 a2 a3 h.h1 h.h2 h.h3 hn d b).pure (ftV_pl _ _ _) (h.entry _ fun _ => rfl) fl
end Go.Proofs.Ytpneoeoimdfjaaa

/- Package roll: how many layers are bound from day to day: plain facts. -/
namespace Go.Proofs.Ytpneoeoimdfjaaa
open Go Go.Ev

theorem passN_la {B : RBook} {t : Tru} {d rb : Nat} {rr : Int} : (passN B t d rb rr).la = t.la := by
  unfold passN
  (repeat' split) <;> rfl
theorem pas_b {B : RBook} {t : Tru} {d : Nat} (h : 0 ≤ befB t d) : (pasT B t d).eb d = befB t d ∨ (pasT B t d).eb d = befB t d + 1 := by
  have key : ∀ (u : Tru) (rb : Nat) (rr : Int), (passN B u d rb rr).eb d = rb ∨ (passN B u d rb rr).eb d = rb + 1 := fun u rb rr => by
    unfold passN
    split
    · exact .inl upd_at
    · split
      · show upd _ d _ d = _ ∨ upd _ d _ d = _
        rw [upd_at]
        unfold rolB
        by_cases q : B.nee rb ≤ rr + u.w d
        · rw [dB_tt q]; exact .inr rfl
        · rw [dB_ff q]; exact .inl rfl
      · exact .inl upd_at
  unfold pasT
  by_cases hd : befB t d = B.nl ∧ befR t d = 0
  · rw [dB_tt hd, cond_true]
    exact .inl upd_at
  · rw [dB_ff hd, cond_false]
    have := key (bif dB (t.la (befB t d).toNat = t.lo (befB t d).toNat) then t.setLa (befB t d).toNat (t.la (befB t d).toNat + 1) else t) (befB t d).toNat (befR t d)
    rwa [Int.toNat_of_nonneg h] at this
theorem pas_first {B : RBook} {t : Tru} {d : Nat} (hn : 1 ≤ B.nl) (h0 : noLa t) (hl : t.lo 0 = 0) : 1 ≤ (pasT B t d).la 0 := by
  have e0 : befB t d = 0 := by unfold befB; rw [dB_tt h0]; rfl
  unfold pasT
  rw [dB_ff (fun q => by rw [e0] at q; have := q.1; omega), cond_false, passN_la, e0]
  have e1 : t.la (0 : Int).toNat = t.lo (0 : Int).toNat := h0.1.trans hl.symm
  rw [dB_tt e1, cond_true]
  show 1 ≤ upd t.la 0 (t.la 0 + 1) 0
  rw [upd_at, h0.1]
  decide
theorem trs_steps {B : RBook} (hB : bkOk B) : ∀ {k d : Nat} {t u : Tru}, d + k = B.nd → LvOk B t d → (d = 0 → noLa t ∧ t.lo 0 = 0) → (1 ≤ d → 1 ≤ t.la 0 ∧ t.eb (d - 1) ≤ d) → u ∈ trs B k d t → ∀ j, d ≤ j → j < B.nd → (0 ≤ u.eb j ∧ u.eb j ≤ B.nl) ∧ u.eb j ≤ (j : Int) + 1 ∧ (1 ≤ j → u.eb (j - 1) ≤ u.eb j ∧ u.eb j ≤ u.eb (j - 1) + 1)
  | 0, d, t, u, he, _, _, _, _, j, h1, h2 => absurd h2 (by omega)
  | k + 1, d, t, u, he, hl, h0, h1, hu, j, hj1, hj2 => by
    obtain ⟨n, hn, sk, hs, _, hu⟩ := mem_step.1 hu
    have hnd := hB.2.1.1.2
    have hda := hB.2.1.2 d (by omega)
    unfold daOk at hda
    have hn2 : 0 ≤ n ∧ n ≤ 20 := by
      unfold ints at hn
      obtain ⟨i, hi, rfl⟩ := List.mem_map.1 hn
      have := List.mem_range.1 hi
      omega
    have hs2 : sk < 3 := List.mem_range.1 hs
    have hpo := hl.pas (show d < 5 by omega) hn2 hs2
    obtain ⟨g1, g2, g3, g4⟩ := pas_e hB hpo hl.r.2
    have gb := pas_b (B := B) (t := (t.setW d n).setS d (sk : Int)) (d := d) hl.b.1
    replace gb : (nxT B t d n sk).eb d = befB t d ∨ (nxT B t d n sk).eb d = befB t d + 1 := gb
    replace g1 : 0 ≤ (nxT B t d n sk).eb d ∧ (nxT B t d n sk).eb d ≤ B.nl := g1
    have e1 : u.eb d = (nxT B t d n sk).eb d := eb_keep hu (Nat.lt_succ_self d)
    have hbef : (d = 0 ∧ befB t d = 0) ∨ (1 ≤ d ∧ befB t d = t.eb (d - 1)) := by
      rcases Nat.eq_zero_or_pos d with rfl | hd
      · refine .inl ⟨rfl, ?_⟩
        unfold befB
        rw [dB_tt (h0 rfl).1]; rfl
      · refine .inr ⟨hd, ?_⟩
        unfold befB
        rw [dB_ff (fun q => by have := (h1 hd).1; have := q.1; omega)]; rfl
    have hla : 1 ≤ (nxT B t d n sk).la 0 := by
      rcases Nat.eq_zero_or_pos d with rfl | hd
      · exact pas_first hB.1.1.1 (h0 rfl).1 (h0 rfl).2
      · have a := (g4 0).1
        have b := (h1 hd).1
        have e : ((t.setW d n).setS d (sk : Int)).la 0 = t.la 0 := rfl
        rw [e] at a
        show 1 ≤ (pasT B _ d).la 0
        omega
    have hle : (nxT B t d n sk).eb d ≤ (d : Int) + 1 := by
      rcases hbef with ⟨h, h'⟩ | ⟨h, h'⟩
      · omega
      · have := (h1 h).2
        omega
    rcases Nat.lt_or_ge d j with hdj | hdj
    · exact trs_steps hB (by omega) (hl.next hB (by omega) hn2 hs2) (fun q => absurd q (by omega)) (fun _ => ⟨hla, by show (nxT B t d n sk).eb (d + 1 - 1) ≤ _; rw [Nat.add_sub_cancel]; omega⟩) hu j (by omega) hj2
    · obtain rfl : j = d := by omega
      refine ⟨by omega, by omega, fun hj => ?_⟩
      have e2 : u.eb (j - 1) = (nxT B t j n sk).eb (j - 1) := eb_keep hu (by omega)
      have e3 : (nxT B t j n sk).eb (j - 1) = t.eb (j - 1) := nxT_keep (by omega)
      rcases hbef with ⟨h, _⟩ | ⟨_, h'⟩
      · omega
      · omega
theorem lv0 {B : RBook} (hB : bkOk B) : LvOk B tru0 0 := by
  have hz : noLa tru0 := ⟨rfl, rfl, rfl, rfl⟩
  have e1 : befB tru0 0 = 0 := by unfold befB; rw [dB_tt hz]; rfl
  have e2 : befR tru0 0 = 0 := by unfold befR; rw [dB_tt hz]; rfl
  refine ⟨.inl hz, ?_, ?_, ?_, fun i _ => ⟨Int.le_refl _, Int.le_refl _⟩, fun i _ => ⟨Int.le_refl _, Int.le_refl _⟩⟩
  · rw [e1]; omega
  · rw [e2]; decide
  · intro _; exact e2
theorem norm_eb {t : Tru} {j : Nat} (h : j < 5) : (norm t).eb j = t.eb j := by rcases lt5 h with rfl | rfl | rfl | rfl | rfl <;> rfl
/-- How many layers are bound, from day to day. -/
theorem wn_steps {B : RBook} (hB : bkOk B) {t : Tru} (ht : t ∈ Wn B) {j : Nat} (hj : j < B.nd) : (0 ≤ t.eb j ∧ t.eb j ≤ B.nl) ∧ t.eb j ≤ (j : Int) + 1 ∧ (1 ≤ j → t.eb (j - 1) ≤ t.eb j ∧ t.eb j ≤ t.eb (j - 1) + 1) := by
  obtain ⟨u, hu, rfl⟩ := List.mem_map.1 ht
  have hnd := hB.2.1.1.2
  have := trs_steps hB (k := B.nd) (d := 0) (t := tru0) (u := u) (by omega) (lv0 hB) (fun _ => ⟨⟨rfl, rfl, rfl, rfl⟩, rfl⟩) (fun h => absurd h (by omega)) hu j (Nat.zero_le _) hj
  rw [norm_eb (show j < 5 by omega), norm_eb (show j - 1 < 5 by omega)]
  exact this
end Go.Proofs.Ytpneoeoimdfjaaa

/- RollSteps: the law, for every book and all numbers. -/
namespace Go.Proofs.Ytpneoeoimdfjaaa
open Go Go.Ev

/-- The chapter's examples say true. -/
abbrev BillOK : Prop := CanS 0 Try.prog 10 0 [] [] 0 fun v _ _ => v = .bool true
theorem sound_t {B : RBook} {a1 a2 a3 : AV} {m : List (Nat × Option AObj)} {c : Nat} (h : BkIn B a1 a2 a3 m c) (hn : B.nd ≤ 9223372036854775807) (hB : bkOk B) (fl : Nat) : OkAt 0 Try.prog fl 9 [bk B a1 a2 a3] (ofM m) c (.bool true) (ofM m) c :=
  (sound_yes B a1 a2 a3 h.h1 h.h2 h.h3 hn hB).pure (.bool _) (h.entry [] .nil) fl
theorem sound_f {B : RBook} {a1 a2 a3 : AV} {m : List (Nat × Option AObj)} {c : Nat} (h : BkIn B a1 a2 a3 m c) (hn : B.nd ≤ 9223372036854775807) (hB : ¬ bkOk B) (fl : Nat) : OkAt 0 Try.prog fl 9 [bk B a1 a2 a3] (ofM m) c (.bool false) (ofM m) c :=
  (sound_no B a1 a2 a3 h.h1 h.h2 h.h3 hn hB).pure (.bool _) (h.entry [] .nil) fl
theorem eqSp (a b e d : Int) : eqA Try.prog 32 (.agg [.int .i64 a, .int .i64 b]) (.agg [.int .i64 e, .int .i64 d]) = some (decide (a = e ∧ b = d)) := by
  have : eqA Try.prog 32 (.agg [.int .i64 a, .int .i64 b]) (.agg [.int .i64 e, .int .i64 d]) = andV (some (decide (a = e))) (andV (some (decide (b = d))) (some true)) := by kernel_rfl
  rw [this]
  by_cases h1 : a = e <;> by_cases h2 : b = d <;> simp [andV, h1, h2]
theorem S.eqlA_t {P : Program} {fl c t yt : Nat} {m : List (Nat × Option AObj)} {x1 x2 : Operand} {l1 l2 : List AV} {p : Prop} {inst : Decidable p} (h : eqA P t (.agg l1) (.agg l2) = some (@decide p inst)) (hp : p) : OpE P fl (.binOp .eql t x1 x2 yt) [.agg l1, .agg l2] m c (.bool true) m c := by
  have := S.eqlA (fl := fl) (c := c) (m := m) (x1 := x1) (x2 := x2) (yt := yt) (h.trans (congrArg some (decide_eq_true hp)))
  exact this
set_option maxRecDepth 100000 in
theorem Reach_can (a b : Int) : CanS 0 Try.prog 37 0 [.int .i64 a, .int .i64 b] [] 0 fun v _ _ => v = .agg [.int .i64 a, .int .i64 b] := by
  refine CanS.mk Try.func37 rfl rfl rfl ?_
  repeat' (first | refine RT.nil ?_ | refine sq_n ?_ | refine Tr.seq ?_ | refine Tr.region ?_ | refine Tr.ret ?_ | (refine RT.goK rfl rfl rfl rfl ?_; apply Nx.of; (first | exact S.move | exact S.alloc rfl | exact S.build rfl rfl rfl)) | (refine RT.goK0 rfl rfl rfl ?_; apply Nx.of; (first | exact S.store rfl rfl rfl rfl rfl rfl)))
  (first | refine rt_go rfl ?_)
  rfl
theorem Reach_at (a b : Int) (H : T AObj) (c fl : Nat) : OkAt 0 Try.prog fl 37 [.int .i64 a, .int .i64 b] H c (.agg [.int .i64 a, .int .i64 b]) H c :=
  (Reach_can a b).pure (fun _ => rfl) (.plain fun _ => rfl) fl
set_option maxRecDepth 100000 in
theorem Just_can (a : Int) : CanS 0 Try.prog 14 0 [.int .i64 a] [] 0 fun v _ _ => v = .agg [.int .i64 a, .int .i64 a] := by
  refine CanS.mk Try.func14 rfl rfl rfl ?_
  repeat' (first | refine RT.nil ?_ | refine sq_n ?_ | refine Tr.seq ?_ | refine Tr.region ?_ | refine Tr.ret ?_ | (refine RT.call rfl rfl rfl (Reach_at _ _ _ _ _) rfl rfl (Nat.le_refl _) ?_) | (refine RT.goK rfl rfl rfl rfl ?_; apply Nx.of; (first | exact S.move | exact S.alloc rfl)) | (refine RT.goK0 rfl rfl rfl ?_; apply Nx.of; (first | exact S.store rfl rfl rfl rfl rfl rfl)))
  (first | refine rt_go rfl ?_)
  rfl
theorem Just_at (a : Int) (H : T AObj) (c fl : Nat) : OkAt 0 Try.prog fl 14 [.int .i64 a] H c (.agg [.int .i64 a, .int .i64 a]) H c :=
  (Just_can a).pure (fun _ => rfl) (.plain fun _ => rfl) fl
set_option maxRecDepth 100000 in
theorem Holds_can (lo hi n : Int) : CanS 0 Try.prog 16 0 [.agg [.int .i64 lo, .int .i64 hi], .int .i64 n] [] 0 fun v _ _ => v = .bool (decide (lo ≤ n ∧ n ≤ hi)) := by
  refine CanS.mk Try.func16 rfl rfl rfl ?_
  repeat' (first | refine RT.nil ?_ | refine sq_n ?_ | refine Tr.seq ?_ | refine Tr.region ?_ | refine Tr.ret ?_ | (refine RT.call rfl rfl rfl (Amid_at _ _ _ _ _ _) rfl rfl (Nat.le_refl _) ?_) | (refine RT.goK rfl rfl rfl rfl ?_; apply Nx.of; (first | exact S.move | exact S.assign | exact S.load1c rfl rfl rfl rfl | exact S.fieldAddr rfl rfl rfl | exact S.box)))
  (first | refine rt_go rfl ?_)
  rfl
theorem Holds_t {lo hi n : Int} (h : lo ≤ n ∧ n ≤ hi) (H : T AObj) (c fl : Nat) : OkAt 0 Try.prog fl 16 [.agg [.int .i64 lo, .int .i64 hi], .int .i64 n] H c (.bool true) H c := by
  have := (Holds_can lo hi n).pure (.bool _) (.plain fun _ => rfl) (H := H) (c := c) fl
  rwa [decide_eq_true h] at this

set_option maxRecDepth 100000 in
set_option maxHeartbeats 8000000 in
theorem steps_false (hb : BillOK) (B : RBook) (a1 a2 a3 : AV) (h1 : IsSl a1 B.nl 0) (h2 : IsSl a2 B.nd 1) (h3 : IsSl a3 B.nk 2) (hn : B.nd ≤ 9223372036854775807) (n0 n1 a b : Int) (hB : bkOk B) (ha : wrapV n0 B.nd = a) (hm : wrapV n1 ((B.nl + 1 : Nat) : Int) = b)
    (hBd : spV B (dyQ B a) (fun t => t.eb a.toNat) = .tup [.agg [.int .i64 0, .int .i64 0], .int .i64 72]) (hFt : ftV B a b = .tup [.bool false, .int .i64 72]) : CanS 0 Try.prog 3 3 [bk B a1 a2 a3, .agg [.int .i64 n0, .int .i64 n1]] [(0, some (oLa B)), (1, some (oDa B)), (2, some (oLo B))] 3 fun v _ _ => v = .bool true := by
  have hnl := hB.1.1
  have hnd := hB.2.1.1
  refine CanS.mk Try.func3 rfl rfl rfl ?_
  repeat' (first | refine RT.nil ?_ | refine sq_n ?_ | refine Tr.seq ?_ | refine Tr.region ?_ | refine Tr.cond_f rfl ?_ | refine Tr.skip ?_ | (refine RT.call rfl rfl rfl (sound_t ⟨h1, h2, h3, rfl, rfl, rfl, by decide⟩ hn hB _) rfl rfl (Nat.le_refl _) ?_) | (refine RT.goK rfl rfl rfl rfl ?_; apply Nx.of; (first | exact S.assign | exact S.loadNc rfl rfl rfl rfl | exact S.not_t | exact S.box)))
  refine Tr.openK un3_3 (by kernel_rfl) (by kernel_rfl) wrapF wrapF_calm ?_
  repeat' (first | (refine RD.free rfl rfl rfl rfl rfl rfl ?_; apply Nx.of; (first | exact S.assign | exact S.fieldAddr rfl rfl rfl | exact S.add_one (by omega) | exact S.len_sl rfl rfl rfl (by assumption) | exact S.idx_arrI rfl rfl rfl (by decide) (by decide))) | (refine RD.load rfl rfl rfl rfl rfl rfl rfl rfl ?_; apply Nx.of; (first | exact S.load1c rfl rfl rfl rfl)) | (refine RD.load rfl rfl rfl rfl rfl rfl rfl (by refine us_all ?_; simp only [usOk, cond_true, cond_false]; (repeat' (first | exact trivial | refine And.intro ?_ ?_)); all_goals (first | rfl | exact .inl trivial | (refine Or.inr (was_same rfl ?_); (first | (exact ⟨_, rfl, rfl⟩) | (refine ⟨_, rfl, ?_⟩; simp [bk, AV.cells, rfO, rfVs, rfV, h1.rf, h2.rf, h3.rf]; done))))) ?_; apply Nx.of; (first | exact S.load1c rfl rfl rfl rfl)) | (refine RD.callN rfl rfl rfl rfl rfl rfl rfl rfl rfl (fun fl' => wrapF_at _ _ (by omega) fl' _ _) (fun _ => by refine srOk_all ?_; simp only [srOk]; (repeat' (first | exact trivial | refine And.intro ?_ ?_)); all_goals (first | exact trivial | (refine ⟨_, rfl, ?_⟩; (first | rfl | (simp [rfO, rfVs, rfV, rfVs_flat]; done) | (simp [bk, AV.cells, rfO, rfVs, rfV, h1.rf, h2.rf, h3.rf]; done))))) ?_) | refine RD.nil ⟨Nat.le_of_ble_eq_true rfl, ?_⟩)
  rw [ha, hm]
  repeat' (first | refine RT.nil ?_ | refine sq_n ?_ | refine Tr.seq ?_ | refine Tr.region ?_ | refine Tr.cond_t rfl ?_ | (refine RT.call rfl rfl rfl (val_is hBd (Bound_at ⟨h1, h2, h3, rfl, rfl, rfl, by decide⟩ hn _ _)) rfl rfl (Nat.le_refl _) ?_) | (refine RT.call rfl rfl rfl (val_is hFt (Fits_at ⟨h1, h2, h3, rfl, rfl, rfl, by decide⟩ hn _ _ _)) rfl rfl (Nat.le_refl _) ?_) | (refine RT.goK rfl rfl rfl rfl ?_; apply Nx.of; (first | exact S.neq_t (by decide))) | (refine RT.goK rfl rfl rfl rfl ?_; apply Nx.of; (first | exact S.move | exact S.assign | exact S.loadNc rfl rfl rfl rfl | exact S.alloc rfl | exact S.build rfl rfl rfl | exact S.extract rfl)) | (refine RT.goK0 rfl rfl rfl ?_; apply Nx.of; (first | exact S.store rfl rfl rfl rfl rfl rfl)))
  refine Tr.openK un3_7 (by kernel_rfl) (by kernel_rfl) (alts [one1 14 [.int .i64 0] (.agg [.int .i64 0, .int .i64 0]) fun _ _ => True, one1 10 [] (.bool true) fun _ _ => True]) (two_calm (one1_calm fun fl H c _ => Just_at 0 H c fl) (one1_calm fun fl H c _ => hb.root_at fl H c)) ?_
  repeat' (first | (refine RD.callN rfl rfl rfl rfl rfl rfl rfl rfl rfl (fun fl' => alts_hd (one1_at trivial fl')) (fun _ => by refine srOk_all ?_; simp only [srOk]; (repeat' (first | exact trivial | refine And.intro ?_ ?_)); all_goals (first | (refine ⟨_, rfl, ?_⟩; (first | rfl)))) ?_) | (refine RD.callN rfl rfl rfl rfl rfl rfl rfl rfl rfl (fun fl' => (alts_tl (famA_ne _ (by decide))).trans (alts_hd (one1_at trivial fl'))) (fun _ => by refine srOk_all ?_; simp only [srOk]; (repeat' (first | exact trivial | refine And.intro ?_ ?_)); all_goals (first | exact trivial | (refine ⟨_, rfl, ?_⟩; (first | rfl | (simp [rfO, rfVs, rfV, rfVs_flat]; done) | (simp [bk, AV.cells, rfO, rfVs, rfV, h1.rf, h2.rf, h3.rf]; done))))) ?_) | (refine RD.free rfl rfl rfl rfl rfl rfl ?_; apply Nx.of; (first | exact S.eql_t (by decide))) | (refine RD.free rfl rfl rfl rfl rfl rfl ?_; apply Nx.of; (first | exact S.move | exact S.assign | exact S.not_f | exact S.pick_tt | exact S.eqlA_t (eqSp _ _ _ _) ⟨rfl, rfl⟩)) | (refine RD.load rfl rfl rfl rfl rfl rfl rfl rfl ?_; apply Nx.of; (first | exact S.loadNc rfl rfl rfl rfl)) | refine RD.nil ⟨Nat.le_of_ble_eq_true rfl, ?_⟩)
  repeat' (first | refine sq_n ?_ | refine Tr.ret ?_ | refine sq_r ?_)
  (first | refine rt_go rfl ?_)
  rfl
set_option format.width 260
set_option maxRecDepth 100000 in
set_option maxHeartbeats 8000000 in
theorem steps_true (hb : BillOK) (B : RBook) (a1 a2 a3 : AV) (h1 : IsSl a1 B.nl 0) (h2 : IsSl a2 B.nd 1) (h3 : IsSl a3 B.nk 2) (hn : B.nd ≤ 9223372036854775807) (n0 n1 a b sl sh tl th : Int) (is : Bool) (hB : bkOk B) (ha : wrapV n0 B.nd = a) (hm : wrapV n1 ((B.nl + 1 : Nat) : Int) = b) (ha0 : 0 ≤ a ∧ a < B.nd)
    (hBd : spV B (dyQ B a) (fun t => t.eb a.toNat) = .tup [.agg [.int .i64 sl, .int .i64 sh], .int .i64 0]) (hFt : ftV B a b = .tup [.bool is, .int .i64 0]) (his : is = true → sl ≤ b ∧ b ≤ sh)
    (hFl : ftV B a sl = .tup [.bool true, .int .i64 0]) (hFh : ftV B a sh = .tup [.bool true, .int .i64 0]) (hbd : 0 ≤ sl ∧ sl ≤ sh ∧ sh ≤ a + 1 ∧ sh ≤ B.nl)
    (hBt : a ≠ 0 → spV B (dyQ B (a - 1)) (fun t => t.eb (a - 1).toNat) = .tup [.agg [.int .i64 tl, .int .i64 th], .int .i64 0]) (hbt : a ≠ 0 → 0 ≤ tl ∧ 0 ≤ th ∧ tl ≤ sl ∧ th ≤ sh ∧ sl ≤ tl + 1 ∧ sh ≤ th + 1) : CanS 0 Try.prog 3 3 [bk B a1 a2 a3, .agg [.int .i64 n0, .int .i64 n1]] [(0, some (oLa B)), (1, some (oDa B)), (2, some (oLo B))] 3 fun v _ _ => v = .bool true := by
  have hnl := hB.1.1
  have hnd := hB.2.1.1
  have hmin : min (a + 1) (B.nl : Int) = a + 1 ∨ min (a + 1) (B.nl : Int) = B.nl := by omega
  refine CanS.mk Try.func3 rfl rfl rfl ?_
  repeat' (first | refine RT.nil ?_ | refine sq_n ?_ | refine Tr.seq ?_ | refine Tr.region ?_ | refine Tr.cond_f rfl ?_ | refine Tr.skip ?_ | (refine RT.call rfl rfl rfl (sound_t ⟨h1, h2, h3, rfl, rfl, rfl, by decide⟩ hn hB _) rfl rfl (Nat.le_refl _) ?_) | (refine RT.goK rfl rfl rfl rfl ?_; apply Nx.of; (first | exact S.assign | exact S.loadNc rfl rfl rfl rfl | exact S.not_t | exact S.box)))
  refine Tr.openK un3_3 (by kernel_rfl) (by kernel_rfl) wrapF wrapF_calm ?_
  repeat' (first | (refine RD.free rfl rfl rfl rfl rfl rfl ?_; apply Nx.of; (first | exact S.assign | exact S.fieldAddr rfl rfl rfl | exact S.add_one (by omega) | exact S.len_sl rfl rfl rfl (by assumption) | exact S.idx_arrI rfl rfl rfl (by decide) (by decide))) | (refine RD.load rfl rfl rfl rfl rfl rfl rfl rfl ?_; apply Nx.of; (first | exact S.load1c rfl rfl rfl rfl)) | (refine RD.load rfl rfl rfl rfl rfl rfl rfl (by refine us_all ?_; simp only [usOk, cond_true, cond_false]; (repeat' (first | exact trivial | refine And.intro ?_ ?_)); all_goals (first | rfl | exact .inl trivial | (refine Or.inr (was_same rfl ?_); (first | (exact ⟨_, rfl, rfl⟩) | (refine ⟨_, rfl, ?_⟩; simp [bk, AV.cells, rfO, rfVs, rfV, h1.rf, h2.rf, h3.rf]; done))))) ?_; apply Nx.of; (first | exact S.load1c rfl rfl rfl rfl)) | (refine RD.callN rfl rfl rfl rfl rfl rfl rfl rfl rfl (fun fl' => wrapF_at _ _ (by omega) fl' _ _) (fun _ => by refine srOk_all ?_; simp only [srOk]; (repeat' (first | exact trivial | refine And.intro ?_ ?_)); all_goals (first | exact trivial | (refine ⟨_, rfl, ?_⟩; (first | rfl | (simp [rfO, rfVs, rfV, rfVs_flat]; done) | (simp [bk, AV.cells, rfO, rfVs, rfV, h1.rf, h2.rf, h3.rf]; done))))) ?_) | refine RD.nil ⟨Nat.le_of_ble_eq_true rfl, ?_⟩)
  rw [ha, hm]
  repeat' (first | refine RT.nil ?_ | refine sq_n ?_ | refine Tr.seq ?_ | refine Tr.region ?_ | refine Tr.cond_f rfl ?_ | refine Tr.skip ?_ | (refine RT.call rfl rfl rfl (val_is hBd (Bound_at ⟨h1, h2, h3, rfl, rfl, rfl, by decide⟩ hn _ _)) rfl rfl (Nat.le_refl _) ?_) | (refine RT.call rfl rfl rfl (val_is hFt (Fits_at ⟨h1, h2, h3, rfl, rfl, rfl, by decide⟩ hn _ _ _)) rfl rfl (Nat.le_refl _) ?_) | (refine RT.goK rfl rfl rfl rfl ?_; apply Nx.of; (first | exact S.neq_f (by decide))) | (refine RT.goK rfl rfl rfl rfl ?_; apply Nx.of; (first | exact S.move | exact S.assign | exact S.load1c rfl rfl rfl rfl | exact S.loadNc rfl rfl rfl rfl | exact S.fieldAddr rfl rfl rfl | exact S.alloc rfl | exact S.add (by unfold In64; omega) | exact S.min2 | exact S.build rfl rfl rfl | exact S.extract rfl)) | (refine RT.goK0 rfl rfl rfl ?_; apply Nx.of; (first | exact S.store rfl rfl rfl rfl rfl rfl)) | (refine RT.goK rfl rfl rfl rfl ?_; apply Nx.of; (first | exact S.len_sl rfl rfl rfl (by assumption))))
  repeat' (first | (refine RT.call rfl rfl rfl (Sane_t (by omega) (by omega) _ _ _) rfl rfl (Nat.le_refl _) ?_) | (refine RT.goK rfl rfl rfl rfl ?_; apply Nx.of; (first | exact S.move | exact S.not_t | exact S.pick_ff)))
  cases is
  all_goals
    repeat' (first | refine RT.nil ?_ | refine sq_n ?_ | refine Tr.seq ?_ | refine Tr.region ?_ | refine Tr.cond_f rfl ?_ | refine Tr.skip ?_ | refine Tr.block ?_ | (refine RT.call rfl rfl rfl (Holds_t (his rfl) _ _ _) rfl rfl (Nat.le_refl _) ?_) | (refine RT.goK rfl rfl rfl rfl ?_; apply Nx.of; (first | exact S.move | exact S.assign | exact S.loadNc rfl rfl rfl rfl | exact S.not_t | exact S.pick_tt | exact S.pick_ff)) | (refine RT.no rfl rfl rfl ?_))
    refine Tr.unroll 2 ?_
    repeat' (first | refine RT.nil ?_ | refine sq_n ?_ | refine Tr.seq ?_ | refine Tr.region ?_ | refine Tr.cond_t rfl ?_ | refine Tr.skip ?_ | refine Tr.block ?_ | (refine RT.goK rfl rfl rfl rfl ?_; apply Nx.of; (first | exact S.lss_t (by decide))) | (refine RT.goK rfl rfl rfl rfl ?_; apply Nx.of; (first | exact S.move)))
    refine Tr.openK un3_13 (by kernel_rfl) (by kernel_rfl) (one1 13 [bk B a1 a2 a3, .agg [.int .i64 a, .int .i64 sl]] (.tup [.bool true, .int .i64 0]) fun H c => ∃ m, H = ofM m ∧ BkIn B a1 a2 a3 m c) (one1_calm fun fl H c ⟨m, hm, hk⟩ => by subst hm; exact val_is hFl (Fits_at hk hn a sl fl)) ?_
    repeat' (first | (refine RD.free rfl rfl rfl rfl rfl rfl ?_; apply Nx.of; (first | exact S.move | exact S.assign | exact S.fieldAddr rfl rfl rfl | exact S.build rfl rfl rfl | exact S.extract rfl | exact S.idx_sl4 (i := 0) rfl rfl rfl (by decide))) | (refine RD.new rfl rfl rfl rfl rfl rfl ?_; apply Nx.of; (first | exact S.buildSlice rfl rfl rfl rfl rfl rfl rfl)) | (refine RD.load rfl rfl rfl rfl rfl rfl rfl rfl ?_; apply Nx.of; (first | exact S.load1c rfl rfl rfl rfl | exact S.loadNc rfl rfl rfl rfl)) | (refine RD.callN rfl rfl rfl rfl rfl rfl rfl rfl rfl (fun fl' => one1_at ⟨_, rfl, ⟨h1, h2, h3, rfl, rfl, rfl, by decide⟩⟩ fl') (fun _ => by refine srOk_all ?_; simp only [srOk]; (repeat' (first | exact trivial | refine And.intro ?_ ?_)); all_goals (first | exact trivial | (refine ⟨_, rfl, ?_⟩; (first | rfl | (simp [rfO, rfVs, rfV, rfVs_flat]; done) | (simp [bk, AV.cells, rfO, rfVs, rfV, h1.rf, h2.rf, h3.rf]; done))))) ?_) | refine RD.nil ⟨Nat.le_of_ble_eq_true rfl, ?_⟩)
    repeat' (first | refine RT.nil ?_ | refine sq_n ?_ | refine Tr.seq ?_ | refine Tr.region ?_ | refine Tr.cond_t rfl ?_ | refine Tr.cond_f rfl ?_ | refine Tr.skip ?_ | refine Tr.block ?_ | refine blk_n ?_ | refine un_n ?_ | (refine RT.goK rfl rfl rfl rfl ?_; apply Nx.of; (first | exact S.lss_t (by decide) | exact S.neq_f (by decide))) | (refine RT.goK rfl rfl rfl rfl ?_; apply Nx.of; (first | exact S.move | exact S.assign | exact S.not_t | exact S.pick_ff | exact S.add (by unfold In64; omega))))
    refine Tr.openK un3_13 (by kernel_rfl) (by kernel_rfl) (one1 13 [bk B a1 a2 a3, .agg [.int .i64 a, .int .i64 sh]] (.tup [.bool true, .int .i64 0]) fun H c => ∃ m, H = ofM m ∧ BkIn B a1 a2 a3 m c) (one1_calm fun fl H c ⟨m, hm, hk⟩ => by subst hm; exact val_is hFh (Fits_at hk hn a sh fl)) ?_
    repeat' (first | (refine RD.free rfl rfl rfl rfl rfl rfl ?_; apply Nx.of; (first | exact S.move | exact S.assign | exact S.fieldAddr rfl rfl rfl | exact S.build rfl rfl rfl | exact S.extract rfl | exact S.idx_sl4 (i := 1) rfl rfl rfl (by decide))) | (refine RD.new rfl rfl rfl rfl rfl rfl ?_; apply Nx.of; (first | exact S.buildSlice rfl rfl rfl rfl rfl rfl rfl)) | (refine RD.load rfl rfl rfl rfl rfl rfl rfl rfl ?_; apply Nx.of; (first | exact S.load1c rfl rfl rfl rfl | exact S.loadNc rfl rfl rfl rfl)) | (refine RD.callN rfl rfl rfl rfl rfl rfl rfl rfl rfl (fun fl' => one1_at ⟨_, rfl, ⟨h1, h2, h3, rfl, rfl, rfl, by decide⟩⟩ fl') (fun _ => by refine srOk_all ?_; simp only [srOk]; (repeat' (first | exact trivial | refine And.intro ?_ ?_)); all_goals (first | exact trivial | (refine ⟨_, rfl, ?_⟩; (first | rfl | (simp [rfO, rfVs, rfV, rfVs_flat]; done) | (simp [bk, AV.cells, rfO, rfVs, rfV, h1.rf, h2.rf, h3.rf]; done))))) ?_) | refine RD.nil ⟨Nat.le_of_ble_eq_true rfl, ?_⟩)
    repeat' (first | refine RT.nil ?_ | refine sq_n ?_ | refine Tr.seq ?_ | refine Tr.region ?_ | refine Tr.cond_f rfl ?_ | refine Tr.cond_d rfl (fun _ => ?_) (fun _ => ?_) | refine Tr.skip ?_ | refine Tr.exit ?_ | refine sq_x ?_ | refine blk_n ?_ | refine blk_hit rfl ?_ | refine un_n ?_ | refine un_x ?_ | (refine RT.goK rfl rfl rfl rfl ?_; first | refine Nx.of (S.leq_t (by omega)) ?_) | (refine RT.goK rfl rfl rfl rfl ?_; apply Nx.of; (first | exact S.lss_f (by decide) | exact S.neq_f (by decide))) | (refine RT.goK rfl rfl rfl rfl ?_; apply Nx.of; (first | exact S.move | exact S.assign | exact S.load1c rfl rfl rfl rfl | exact S.loadNc rfl rfl rfl rfl | exact S.fieldAddr rfl rfl rfl | exact S.eql | exact S.not_t | exact S.pick_ff | exact S.add (by unfold In64; omega) | exact S.sub (by unfold In64; omega))))
    all_goals
      repeat' (first | refine RT.nil ?_ | refine sq_n ?_ | refine Tr.seq ?_ | refine Tr.region ?_ | refine Tr.ret ?_ | refine sq_r ?_ | (refine RT.call rfl rfl rfl (hb.root_at _ _ _) rfl rfl (Nat.le_refl _) ?_) | (refine RT.call rfl rfl rfl (val_is (hBt (by assumption)) (Bound_at ⟨h1, h2, h3, rfl, rfl, rfl, by decide⟩ hn _ _)) rfl rfl (Nat.le_refl _) ?_) | (refine RT.goK rfl rfl rfl rfl ?_; first | refine Nx.of (S.leq_t (by omega)) ?_ | refine Nx.of (S.eql_t (by omega)) ?_) | (refine RT.goK rfl rfl rfl rfl ?_; apply Nx.of; (first | exact S.move | exact S.assign | exact S.load1c rfl rfl rfl rfl | exact S.fieldAddr rfl rfl rfl | exact S.pick_tt | exact S.alloc rfl | exact S.add (by unfold In64; omega) | exact S.extract rfl)) | (refine RT.goK0 rfl rfl rfl ?_; apply Nx.of; (first | exact S.store rfl rfl rfl rfl rfl rfl)))
      (first | refine rt_go rfl ?_)
      rfl
theorem steps_law (hb : BillOK) (B : RBook) (a1 a2 a3 : AV) (h1 : IsSl a1 B.nl 0) (h2 : IsSl a2 B.nd 1) (h3 : IsSl a3 B.nk 2) (hn : B.nd ≤ 9223372036854775807) (n0 n1 : Int) : CanS 0 Try.prog 3 3 [bk B a1 a2 a3, .agg [.int .i64 n0, .int .i64 n1]] [(0, some (oLa B)), (1, some (oDa B)), (2, some (oLo B))] 3 fun v _ _ => v = .bool true := by
  by_cases hB : bkOk B
  · have hnl := hB.1.1
    have hnd := hB.2.1.1
    have hA := wrapV_bd (n := n0) (k := (B.nd : Int)) (by omega)
    have hM := wrapV_bd (n := n1) (k := ((B.nl + 1 : Nat) : Int)) (by omega)
    obtain ⟨a, ha⟩ := Int.eq_ofNat_of_zero_le hA.1
    generalize hb2 : wrapV n1 ((B.nl + 1 : Nat) : Int) = b at hM
    rw [ha] at hA
    have hq : dyQ B (a : Int) := by unfold dyQ; omega
    have hl : lkOk B (a : Int) b := ⟨hq, by omega⟩
    by_cases hW : Wn B = []
    · exact steps_false hb B a1 a2 a3 h1 h2 h3 hn n0 n1 a b hB ha hb2 (spV_false hB hq hW) (ftV_false hB hl hW)
    · have hs := sp_is (fun t : Tru => t.eb a) hW
      have ht := sp_is (fun t : Tru => t.eb (a - 1)) hW
      have st := fun t (h : t ∈ Wn B) => wn_steps hB h (show a < B.nd by omega)
      obtain ⟨u1, v1, w1⟩ := hs.exL
      obtain ⟨u2, v2, w2⟩ := hs.exH
      obtain ⟨u3, v3, w3⟩ := ht.exL
      obtain ⟨u4, v4, w4⟩ := ht.exH
      have s1 := st u1 v1
      have s2 := st u2 v2
      have s3 := st u3 v3
      have s4 := st u4 v4
      have p1 := hs.all u1 v1
      have p3 := hs.all u3 v3
      have p4 := hs.all u4 v4
      have q1 := ht.all u1 v1
      have q2 := ht.all u2 v2
      have q3 := ht.all u3 v3
      have eS := spV_ok (num := fun t => t.eb (a : Int).toNat) hB hq hW
      rw [Int.toNat_natCast] at eS
      have eF := ftV_ok hB hl hW
      have hall := hs.all
      generalize spL (fun t : Tru => t.eb a) (Wn B) = sl at *
      generalize spH (fun t : Tru => t.eb a) (Wn B) = sh at *
      have hFx : ∀ x : Int, (∃ t ∈ Wn B, t.eb a = x) → ftV B a x = .tup [.bool true, .int .i64 0] := fun x ⟨t, h, e⟩ => by
        have := st t h
        have hl : lkOk B (a : Int) x := ⟨hq, by omega⟩
        rw [ftV_ok hB hl hW, Int.toNat_natCast, dB_tt ⟨t, h, e⟩]
      refine steps_true hb B a1 a2 a3 h1 h2 h3 hn n0 n1 a b sl sh (spL (fun t : Tru => t.eb (a - 1)) (Wn B)) (spH (fun t : Tru => t.eb (a - 1)) (Wn B)) (dB (∃ t ∈ Wn B, t.eb a = b)) hB ha hb2 ⟨by omega, by omega⟩ (by rw [Int.toNat_natCast]; exact eS) (by rw [eF, Int.toNat_natCast]) (fun h => ?_) (hFx sl ⟨u1, v1, w1⟩) (hFx sh ⟨u2, v2, w2⟩) (by omega) (fun h => ?_) (fun h => ?_)
      · obtain ⟨t, h', e'⟩ := dB_eq.1 h
        have := hall t h'
        omega
      · have hq2 : dyQ B ((a : Int) - 1) := by unfold dyQ; omega
        rw [spV_ok hB hq2 hW, show ((a : Int) - 1).toNat = a - 1 by omega]
      · have k1 := s1.2.2 (by omega)
        have k2 := s2.2.2 (by omega)
        have k3 := s3.2.2 (by omega)
        have k4 := s4.2.2 (by omega)
        have r3 := wn_steps hB v3 (show a - 1 < B.nd by omega)
        have r4 := wn_steps hB v4 (show a - 1 < B.nd by omega)
        generalize spL (fun t : Tru => t.eb (a - 1)) (Wn B) = tl at *
        generalize spH (fun t : Tru => t.eb (a - 1)) (Wn B) = th at *
        omega
  · refine CanS.mk Try.func3 rfl rfl rfl ?_
    repeat' (first | refine RT.nil ?_ | refine sq_n ?_ | refine Tr.seq ?_ | refine Tr.region ?_ | refine Tr.cond_t rfl ?_ | refine Tr.ret ?_ | refine sq_r ?_ | (refine RT.call rfl rfl rfl (hb.root_at _ _ _) rfl rfl (Nat.le_refl _) ?_) | (refine RT.call rfl rfl rfl (sound_f ⟨h1, h2, h3, rfl, rfl, rfl, by decide⟩ hn hB _) rfl rfl (Nat.le_refl _) ?_) | (refine RT.goK rfl rfl rfl rfl ?_; apply Nx.of; (first | exact S.assign | exact S.loadNc rfl rfl rfl rfl | exact S.not_f | exact S.box)))
    (first | refine rt_go rfl ?_)
    rfl
end Go.Proofs.Ytpneoeoimdfjaaa
