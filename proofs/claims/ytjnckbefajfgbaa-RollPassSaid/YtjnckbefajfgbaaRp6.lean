/- Texts of one kind, one behind the other: Kt, Ku, Kv, Kw, Kx, Ky, Kz, Na, Nb, Nc, Ng, Ni. -/
import Derived.Test.YtjnckbefajfgbaaRp5
set_option linter.unusedVariables false
set_option linter.unusedSimpArgs false
/- Package roll: span. -/
namespace Go.Proofs.Ytjnckbefajfgbaa
open Go Go.Ev

theorem mp_one (nd x i : Nat) : (mpV nd x i).one = true := by unfold mpV; split <;> rfl
theorem mp_ren (nd : Nat) {x y i : Nat} {σ : Nat → Nat} (h : σ (x + i) = y + i) : (mpV nd x i).ren σ = mpV nd y i := by
  unfold mpV
  split
  · show AV.map _ = _; rw [h]
  · rfl
theorem kn_one (n x g nd y : Nat) : ((AV.agg (.ptr x 0 :: .gs g n :: mpsV nd y)).cells.all AV.one) = true := by
  simp only [AV.cells, List.all_cons, List.all_nil, mp_one]
  rfl
theorem kn_ren {n nd : Nat} (σ : Nat → Nat) (h : ∀ y, y < 8 → σ y = y) : (AObj.cells (.ptr 2 0 :: .gs 0 n :: mpsV nd 3)).ren σ = .cells (.ptr 2 0 :: .gs 0 n :: mpsV nd 3) := by
  simp only [AObj.ren, AV.rens, AV.ren, h 2 (by omega), h 0 (by omega), mp_ren nd (x := 3) (y := 3) (i := 0) (h 3 (by omega)), mp_ren nd (x := 3) (y := 3) (i := 1) (h 4 (by omega)), mp_ren nd (x := 3) (y := 3) (i := 2) (h 5 (by omega)), mp_ren nd (x := 3) (y := 3) (i := 3) (h 6 (by omega)), mp_ren nd (x := 3) (y := 3) (i := 4) (h 7 (by omega))]

/-- A function's call that answers with a number of a truth. -/
def NumOK (W : List Tru) (f : Nat) (x0 : AV) (num : Tru → Int) : Prop := ∀ t ∈ W, ∀ m c, 2 ≤ c → lookM m 1 = some (.cells [x0]) → ∀ fl, OkAt 0 Try.prog fl f [trV t, .ptr 1 0] (ofM m) c (.int .i64 (num t)) (ofM m) c

set_option maxRecDepth 100000 in
set_option maxHeartbeats 4000000 in
theorem span_can (W : List Tru) (nd : Nat) (hW : W ≠ []) (hlen : W.length ≤ 20000) (f : Nat) (x0 : AV) (hx : ∀ σ : Nat → Nat, σ 0 = 0 → AV.rens σ [x0] = [x0]) (hr : rfVs [x0] = true)
    (num : Tru → Int) (hnum : NumOK W f x0 num) : CanS 0 Try.prog 41 8 [.agg (.ptr 2 0 :: .gs 0 W.length :: mpsV nd 3), .fn f [] [.ptr 1 0]] [(0, some (oWn W)), (1, some (.cells [x0]))] 8 fun v _ _ => v = .agg [.int .i64 (spL num W), .int .i64 (spH num W)] := by
  have hpos : 0 < W.length := List.length_pos_iff.2 hW
  obtain ⟨t0, ht0, hm0⟩ := at_some hpos
  have htk := ht0
  have hs := IsSl.gs 0 W.length
  refine CanS.mk Try.func41 rfl rfl rfl ?_
  repeat' (first | refine RT.nil ?_ | refine sq_n ?_ | refine Tr.seq ?_ | refine Tr.region ?_ | refine Tr.block ?_ | (refine RT.call rfl rfl rfl (hnum t0 hm0 _ _ (by decide) rfl _) rfl rfl (Nat.le_refl _) ?_) | (refine RT.goK rfl rfl rfl rfl ?_; apply Nx.of; (first | exact S.move | exact S.assign | exact S.load1c rfl rfl rfl rfl | exact S.fieldAddr rfl rfl rfl | exact S.box | exact S.alloc rfl | exact S.build rfl rfl rfl | exact S.rowG rfl rfl rfl (fun _ => rfl) ht0 rfl rfl)) | (refine RT.goK0 rfl rfl rfl ?_; apply Nx.of; (first | exact S.store rfl rfl rfl rfl rfl rfl)) | (refine RT.goK rfl rfl rfl rfl ?_; apply Nx.of; (first | exact S.idx_sl rfl rfl rfl (by assumption) (by omega) | exact S.len_sl rfl rfl rfl (by assumption))))
  refine Tr.loop (fun k : Nat => stL Try.f41.ntmps [] [(1, .fn f [] [.ptr 1 0]), (2, .ptr 8 0), (4, .ptr 9 0), (6, .ptr 10 0), (20, .gs 0 W.length), (21, .int .i64 W.length), (22, .int .i64 k)] ([(10, some (.cells [.int .i64 (loK num W (num t0) k), .int .i64 (hiK num W (num t0) k)])), (9, some (.cells [.int .i64 0, .int .i64 0])), (8, some (.cells (.ptr 2 0 :: .gs 0 W.length :: mpsV nd 3)))] ++ [(0, some (oWn W)), (1, some (.cells [x0]))]) 11) (fun k => k ≤ W.length) (fun k => W.length - k) 0 (Nat.zero_le _) (by (refine Wk.same (by decide) (by decide) (by decide) (by decide) ?_ ?_ rfl; all_goals ((try simp only [allL, allM]); (repeat' (first | exact trivial | refine And.intro ?_ ?_)); all_goals (first | rfl | exact ren_grown _ _ _ _ | exact congrArg AObj.cells (hx _ (nm_lt (by decide))) | exact kn_ren _ (fun y hy => nm_lt (by omega)) | decide)))) (fun k hk => ?_)
  by_cases hlt : k < W.length
  · obtain ⟨tk, htk, hmk⟩ := at_some hlt
    have e1 := loK_succ (f := num) (a := num t0) htk
    have e2 := hiK_succ (f := num) (a := num t0) htk
    have hlt' : (k : Int) < W.length := by omega
    repeat' (first | refine RT.nil ?_ | refine sq_n ?_ | refine Tr.seq ?_ | refine Tr.region ?_ | refine Tr.cond_t rfl ?_ | refine Tr.skip ?_ | refine Tr.block ?_ | refine blk_n ?_ | (refine RT.call rfl rfl rfl (hnum tk hmk _ _ (by decide) rfl _) rfl rfl (Nat.le_refl _) ?_) | (refine RT.goK rfl rfl rfl rfl ?_; (refine Nx.of (S.lss_t hlt') ?_)) | (refine RT.goK rfl rfl rfl rfl ?_; apply Nx.of; (first | exact S.move | exact S.assign | exact S.load1c rfl rfl rfl rfl | exact S.loadNc rfl rfl rfl rfl | exact S.fieldAddr rfl rfl rfl | exact S.alloc rfl | exact S.add_one (by omega) | exact S.min2 | exact S.max2 | exact S.build rfl rfl rfl | exact S.rowG rfl rfl rfl (fun _ => rfl) htk rfl rfl)) | (refine RT.goK0 rfl rfl rfl ?_; apply Nx.of; (first | exact S.store rfl rfl rfl rfl rfl rfl)) | (refine RT.goK rfl rfl rfl rfl ?_; apply Nx.of; (first | exact S.idx_sl rfl rfl rfl (by assumption) (by omega))))
    refine lp_n (k + 1) hlt (by omega) (by (refine Wk.same (by decide) (by decide) (by decide) (by decide) ?_ ?_ rfl; all_goals ((try simp only [allL, allM]); (repeat' (first | exact trivial | refine And.intro ?_ ?_)); all_goals (first | rfl | exact ren_grown _ _ _ _ | (rw [← e1, ← e2]; rfl) | exact congrArg AObj.cells (hx _ (nm_lt (by decide))) | exact kn_ren _ (fun y hy => nm_lt (by omega)) | decide))))
  · have hlt' : ¬ (k : Int) < W.length := by omega
    have hke : k = W.length := by omega
    have e3 := loK_end (f := num) ht0
    have e4 := hiK_end (f := num) ht0
    rw [← hke] at e3 e4
    repeat' (first | refine RT.nil ?_ | refine sq_n ?_ | refine Tr.seq ?_ | refine Tr.region ?_ | refine Tr.cond_f rfl ?_ | refine Tr.ret ?_ | refine Tr.exit ?_ | refine sq_x ?_ | refine blk_hit rfl ?_ | refine lp_x ?_ | (refine RT.goK rfl rfl rfl rfl ?_; (refine Nx.of (S.lss_f hlt') ?_)) | (refine RT.goK rfl rfl rfl rfl ?_; apply Nx.of; (first | exact S.loadNc rfl rfl rfl rfl)) | (refine RT.goK0 rfl rfl rfl ?_; apply Nx.of; (first | exact S.store rfl rfl rfl rfl rfl rfl)))
    (first | refine rt_go rfl ?_)
    rw [← e3, ← e4]
    rfl
end Go.Proofs.Ytjnckbefajfgbaa

/- Package roll: span at any memory; Bound, Wagons. -/
namespace Go.Proofs.Ytjnckbefajfgbaa
open Go Go.Ev

theorem span_at {W : List Tru} {nd : Nat} {x z p q : Nat} {d : Int} {m : List (Nat × Option AObj)} {c : Nat} (mx : lookM m x = some (oWn W)) (mz : lookM m z = some (.cells [.int .i64 d])) (hW : W ≠ []) (hlen : W.length ≤ 20000) (f : Nat) (num : Tru → Int) (hnum : NumOK W f (.int .i64 d) num) (fl : Nat) :
    OkAt 0 Try.prog fl 41 [.agg (.ptr p 0 :: .gs x W.length :: mpsV nd q), .fn f [] [.ptr z 0]] (ofM m) c (.agg [.int .i64 (spL num W), .int .i64 (spH num W)]) (ofM m) c := by
  let τ : Nat → Nat := tau [x, z, p, q, q + 1, q + 2, q + 3, q + 4] c
  have ha : AV.rens τ [.agg (.ptr 2 0 :: .gs 0 W.length :: mpsV nd 3), .fn f [] [.ptr 1 0]] = [.agg (.ptr p 0 :: .gs x W.length :: mpsV nd q), .fn f [] [.ptr z 0]] := by
    have e0 : τ (3 + 0) = q + 0 := rfl
    have e1 : τ (3 + 1) = q + 1 := rfl
    have e2 : τ (3 + 2) = q + 2 := rfl
    have e3 : τ (3 + 3) = q + 3 := rfl
    have e4 : τ (3 + 4) = q + 4 := rfl
    simp only [AV.ren, AV.rens, mp_ren nd e0, mp_ren nd e1, mp_ren nd e2, mp_ren nd e3, mp_ren nd e4]
    rfl
  have low : ∀ {u : Nat} {ob : AObj}, lookM [(0, some (oWn W)), (1, some (.cells [.int .i64 d]))] u = some ob → u = 0 ∨ u = 1 := fun {u ob} hz => by
    have := lookM_mem hz
    simpa using this
  have hxz : x ≠ z := fun e => by rw [e, mz] at mx; cases mx
  refine (span_can W nd hW hlen f (.int .i64 d) (fun σ _ => rfl) rfl num hnum).pure (fun _ => rfl) ?_ fl
  rw [← ha]
  refine Entry.ren τ (fun g hg => by omega) (fun y hy => by show c ≤ tau _ _ _; rw [tau_ge hy]; omega) ⟨getM (mx.trans (congrArg some (ren_grown _ _ _ _).symm)), getM mz, trivial⟩ (fun u u' o o' hu hu' hne => .inl fun e => ?_)
  rcases low hu with rfl | rfl <;> rcases low hu' with rfl | rfl
  · exact hne rfl
  · exact hxz e
  · exact hxz e.symm
  · exact hne rfl

/-- An answer as a span: whether the book is wrong, the question, the book false. -/
noncomputable def spV (B : RBook) (Q : Prop) (num : Tru → Int) : AV :=
  if dB (bkOk B) = false then .tup [.agg [.int .i64 0, .int .i64 0], .int .i64 70] else if dB Q = false then .tup [.agg [.int .i64 0, .int .i64 0], .int .i64 71] else if dB (Wn B = []) then .tup [.agg [.int .i64 0, .int .i64 0], .int .i64 72] else .tup [.agg [.int .i64 (spL num (Wn B)), .int .i64 (spH num (Wn B))], .int .i64 0]
theorem spV_no {B : RBook} {Q : Prop} {num : Tru → Int} (h : ¬ bkOk B) : spV B Q num = .tup [.agg [.int .i64 0, .int .i64 0], .int .i64 70] := by unfold spV; rw [dB_ff h, if_pos rfl]
theorem spV_ask {B : RBook} {Q : Prop} {num : Tru → Int} (h : bkOk B) (hq : ¬ Q) : spV B Q num = .tup [.agg [.int .i64 0, .int .i64 0], .int .i64 71] := by unfold spV; rw [dB_tt h, if_neg (by decide), dB_ff hq, if_pos rfl]
theorem spV_false {B : RBook} {Q : Prop} {num : Tru → Int} (h : bkOk B) (hq : Q) (hW : Wn B = []) : spV B Q num = .tup [.agg [.int .i64 0, .int .i64 0], .int .i64 72] := by unfold spV; rw [dB_tt h, if_neg (by decide), dB_tt hq, if_neg (by decide), dB_tt hW, if_pos rfl]
theorem spV_ok {B : RBook} {Q : Prop} {num : Tru → Int} (h : bkOk B) (hq : Q) (hW : Wn B ≠ []) : spV B Q num = .tup [.agg [.int .i64 (spL num (Wn B)), .int .i64 (spH num (Wn B))], .int .i64 0] := by unfold spV; rw [dB_tt h, if_neg (by decide), dB_tt hq, if_neg (by decide), dB_ff hW, if_neg (by decide)]
theorem spV_pl (B : RBook) (Q : Prop) (num : Tru → Int) : Pl (spV B Q num) := by unfold spV; (repeat' split) <;> exact fun _ => rfl
theorem Wn_len {B : RBook} (hB : bkOk B) : (Wn B).length ≤ 20000 := by
  have := allT_len hB.2.1
  unfold Wn
  rw [List.length_map]
  omega

set_option maxRecDepth 100000 in
set_option maxHeartbeats 4000000 in
theorem bound1_can (t : Tru) (d : Nat) (hd : d < 5) : CanS 0 Try.prog 68 2 [trV t, .ptr 1 0] [(1, some (.cells [.int .i64 (d : Int)]))] 2 fun v _ _ => v = .int .i64 (t.eb d) := by
  refine CanS.mk Try.func68 rfl rfl rfl ?_
  repeat' (first | refine RT.nil ?_ | refine sq_n ?_ | refine Tr.seq ?_ | refine Tr.region ?_ | refine Tr.ret ?_ | (refine RT.goK rfl rfl rfl rfl ?_; apply Nx.of; (first | exact S.idx_arr rfl rfl rfl hd | exact S.load1c rfl rfl rfl (truC_b hd))) | (refine RT.goK rfl rfl rfl rfl ?_; apply Nx.of; (first | exact S.assign | exact S.load1c rfl rfl rfl rfl | exact S.fieldAddr rfl rfl rfl | exact S.box)))
  (first | refine rt_go rfl ?_)
  rfl
theorem bound_num (W : List Tru) (d : Nat) (hd : d < 5) : NumOK W 68 (.int .i64 (d : Int)) (fun t => t.eb d) := fun t _ m c hc hm fl =>
  (bound1_can t d hd).pure (.int _ _) (Entry.nm hc (by omega) ⟨⟨hm, rfl, by omega⟩, trivial⟩ (by
    show [trV t, AV.ptr (nm 2 c 1) 0] = _
    rw [nm_lt (by omega)])) fl
theorem look_nil {x : Nat} {r : List (Nat × Option AObj)} (h : lookM r x = none) : ∀ {m : List (Nat × Option AObj)}, lookM (m ++ r) x = lookM m x
  | [] => h
  | (y, o) :: m => by
    rw [List.cons_append, lookM, lookM, look_nil h]
theorem gd_app {fl c c' : Nat} {m r : List (Nat × Option AObj)} (hc : c ≤ c') (hr : ∀ x, lookM r x ≠ none → c ≤ x ∧ x < c') : Go.Ev.Good fl c (ofM m) c' (ofM (m ++ r)) := by
  refine ⟨hc, fun x _ h2 => ?_, fun hd x hx => ?_⟩
  · rw [ofM_get, ofM_get]
    exact look_nil (Classical.byContradiction fun q => by have := (hr x q).1; omega)
  · rw [ofM_get] at hx
    by_cases q : lookM r x = none
    · rw [look_nil q] at hx
      have := hd x (by rw [ofM_get]; exact hx)
      omega
    · exact (hr x q).2
theorem rds_dom {ts : List Tru} {x y : Nat} : ∀ {n : Nat}, lookM (rdsM ts x n) y ≠ none → x ≤ y ∧ y < x + n
  | 0, h => absurd rfl h
  | n + 1, h => by
    by_cases e : y = x + n
    · omega
    · rw [rdsM, lookM_tl e] at h
      have := rds_dom h
      omega
theorem kn_good {B : RBook} (hB : bkOk B) (a1 a2 a3 : AV) (c : Nat) (m : List (Nat × Option AObj)) (fl : Nat) : Go.Ev.Good fl c (ofM m) (c + 13) (ofM (knM B a1 a2 a3 c m)) := by
  have hnd := hB.2.1.1
  exact ((gd_app (c' := c + 12) (by omega) fun x hx => by have := rds_dom hx; omega).cons (c2 := c + 13) (by omega) (by omega) (by omega)).cons (c2 := c + 13) (by omega) (by omega) (by omega)
/-- Whether there is such a day, in a region whose order is open. -/
noncomputable def dayF (B : RBook) (a1 a2 a3 : AV) (d : Int) (q : Bool) : CallFn := one1 67 [bk B a1 a2 a3, .int .i64 d] (.bool q) fun H c => ∃ m, H = ofM m ∧ BkIn B a1 a2 a3 m c
theorem dayF_calm {B : RBook} {a1 a2 a3 : AV} (hn : B.nd ≤ 9223372036854775807) {d : Int} {q : Bool} (h : dB (dyQ B d) = q) : CalmC 0 Try.prog (dayF B a1 a2 a3 d q) :=
  one1_calm fun fl H c ⟨m, hm, hk⟩ => by subst hm; exact val_is (by rw [h]) (isDay_at hk hn fl d)
/-- learn, where it answers an error. -/
noncomputable def lnF (B : RBook) (a1 a2 a3 : AV) (q : Bool) (e : Int) : CallFn := one1 40 [bk B a1 a2 a3, .bool q] (.tup [knZ, .int .i64 e]) fun H c => ∃ m, H = ofM m ∧ BkIn B a1 a2 a3 m c
theorem lnF_no {B : RBook} {a1 a2 a3 : AV} (hn : B.nd ≤ 9223372036854775807) (hB : ¬ bkOk B) (q : Bool) : CalmC 0 Try.prog (lnF B a1 a2 a3 q 70) := one1_calm fun fl H c ⟨m, hm, hk⟩ => by subst hm; exact learn_no_at hk hn hB q fl
theorem lnF_ask {B : RBook} {a1 a2 a3 : AV} (hn : B.nd ≤ 9223372036854775807) (hB : bkOk B) : CalmC 0 Try.prog (lnF B a1 a2 a3 false 71) := one1_calm fun fl H c ⟨m, hm, hk⟩ => by subst hm; exact learn_ask_at hk hn hB fl
theorem lnF_false {B : RBook} {a1 a2 a3 : AV} (hn : B.nd ≤ 9223372036854775807) (hB : bkOk B) (hW : Wn B = []) : CalmC 0 Try.prog (lnF B a1 a2 a3 true 72) := one1_calm fun fl H c ⟨m, hm, hk⟩ => by subst hm; exact learn_false hk hn hB hW fl
theorem two_calm {f g : CallFn} (h : CalmC 0 Try.prog f) (k : CalmC 0 Try.prog g) : CalmC 0 Try.prog (alts [f, g]) := alts_calm fun x hx => by
  simp only [List.mem_cons, List.not_mem_nil, or_false] at hx
  rcases hx with rfl | rfl
  · exact h
  · exact k
set_option format.width 260
set_option maxRecDepth 100000 in
set_option maxHeartbeats 4000000 in
theorem Bound_can (B : RBook) (a1 a2 a3 : AV) (h1 : IsSl a1 B.nl 0) (h2 : IsSl a2 B.nd 1) (h3 : IsSl a3 B.nk 2) (hn : B.nd ≤ 9223372036854775807) (d : Int) : CanS 0 Try.prog 28 3 [bk B a1 a2 a3, .int .i64 d] [(0, some (oLa B)), (1, some (oDa B)), (2, some (oLo B))] 3 fun v _ _ => v = spV B (dyQ B d) (fun t => t.eb d.toNat) := by
  by_cases hB : bkOk B
  · by_cases hq : dyQ B d
    · by_cases hW : Wn B = []
      · rw [spV_false hB hq hW]
        refine CanS.mk Try.func28 rfl rfl rfl ?_
        repeat' (first | refine RT.nil ?_ | refine sq_n ?_ | refine Tr.seq ?_ | refine Tr.region ?_ | (refine RT.goK rfl rfl rfl rfl ?_; apply Nx.of; (first | exact S.assign | exact S.box | exact S.alloc rfl)))
        refine Tr.openK un28_1 (by kernel_rfl) (by kernel_rfl) (alts [dayF B a1 a2 a3 d true, lnF B a1 a2 a3 true 72]) (two_calm (dayF_calm hn (dB_tt hq)) (lnF_false hn hB hW)) ?_
        repeat' (first | (refine RD.callN rfl rfl rfl rfl rfl rfl rfl rfl rfl (fun fl' => alts_hd (one1_at ⟨_, rfl, ⟨h1, h2, h3, rfl, rfl, rfl, by decide⟩⟩ fl')) (fun _ => by refine srOk_all ?_; simp only [srOk]; (repeat' (first | exact trivial | refine And.intro ?_ ?_)); all_goals (first | (refine ⟨_, rfl, ?_⟩; (first | (simp [rfO, rfVs, rfV, bk, AV.cells, h1.rf, h2.rf, h3.rf]; done))))) ?_) | (refine RD.callN rfl rfl rfl rfl rfl rfl rfl rfl rfl (fun fl' => (alts_tl (famA_ne _ (by decide))).trans (alts_hd (one1_at ⟨_, rfl, ⟨h1, h2, h3, rfl, rfl, rfl, by decide⟩⟩ fl'))) (fun _ => by refine srOk_all ?_; simp only [srOk]; (repeat' (first | exact trivial | refine And.intro ?_ ?_)); all_goals (first | exact trivial | (refine ⟨_, rfl, ?_⟩; (first | rfl | (simp [rfO, rfVs, rfV, rfVs_flat]; done) | (simp [rfO, rfVs, rfV, bk, AV.cells, h1.rf, h2.rf, h3.rf]; done))))) ?_) | (refine RD.free rfl rfl rfl rfl rfl rfl ?_; apply Nx.of; (first | exact S.move | exact S.assign | exact S.extract rfl)) | (refine RD.new rfl rfl rfl rfl rfl rfl ?_; apply Nx.of; (first | exact S.alloc rfl)) | (refine RD.load rfl rfl rfl rfl rfl rfl rfl rfl ?_; apply Nx.of; (first | exact S.load1c rfl rfl rfl rfl | exact S.loadNc rfl rfl rfl rfl)) | (refine RD.store rfl rfl rfl rfl rfl rfl rfl ?_; apply Nx.of; (first | exact S.store rfl rfl rfl rfl rfl rfl)) | refine RD.nil ⟨Nat.le_of_ble_eq_true rfl, ?_⟩)
        repeat' (first | refine RT.nil ?_ | refine sq_n ?_ | refine Tr.seq ?_ | refine Tr.region ?_ | refine Tr.cond_t rfl ?_ | refine Tr.ret ?_ | refine sq_r ?_ | (refine RT.goK rfl rfl rfl rfl ?_; apply Nx.of; (first | exact S.move | exact S.assign | exact S.neq | exact S.build rfl rfl rfl)) | (refine RT.goK0 rfl rfl rfl ?_; apply Nx.of; (first | exact S.store rfl rfl rfl rfl rfl rfl)))
        (first | refine rt_go rfl ?_)
        rfl
      · rw [spV_ok hB hq hW]
        have hnd := hB.2.1.1.2
        have hd5 : d.toNat < 5 := by unfold dyQ at hq; omega
        obtain ⟨d', hd'⟩ := Int.eq_ofNat_of_zero_le hq.1
        subst hd'
        rw [Int.toNat_natCast] at hd5 ⊢
        refine CanS.mk Try.func28 rfl rfl rfl ?_
        repeat' (first | refine RT.nil ?_ | refine sq_n ?_ | refine Tr.seq ?_ | refine Tr.region ?_ | (refine RT.goK rfl rfl rfl rfl ?_; apply Nx.of; (first | exact S.assign | exact S.box | exact S.alloc rfl)))
        obtain ⟨d, hdd⟩ : ∃ d : Int, (d' : Int) = d := ⟨_, rfl⟩
        rw [hdd] at hq
        refine Tr.openK un28_1 (by kernel_rfl) (by kernel_rfl) (alts [dayF B a1 a2 a3 d' true, pinX 40 [bk B a1 a2 a3, .bool true] [(5, some (.cells [.int .i64 0, .int .i64 0])), (4, some (.cells [.int .i64 (d' : Int)])), (3, some (.cells (bk B a1 a2 a3).cells)), (0, some (oLa B)), (1, some (oDa B)), (2, some (oLo B))] 6 (.tup [knV B 6, .int .i64 0]) (knM B a1 a2 a3 6 [(5, some (.cells [.int .i64 0, .int .i64 0])), (4, some (.cells [.int .i64 (d' : Int)])), (3, some (.cells (bk B a1 a2 a3).cells)), (0, some (oLa B)), (1, some (oDa B)), (2, some (oLo B))]) 19]) (two_calm (dayF_calm hn (by rw [hdd]; exact dB_tt hq)) (pinX_calm (fun fl => learn_at ⟨h1, h2, h3, rfl, rfl, rfl, by decide⟩ (fun x o hx => by have := lookM_mem hx; simp at this; omega) hn hB hW fl) (fun fl => kn_good hB a1 a2 a3 6 _ fl))) ?_
        repeat' (first | (refine RD.callN rfl rfl rfl rfl rfl rfl rfl rfl rfl (fun fl' => alts_hd (one1_at ⟨_, rfl, ⟨h1, h2, h3, rfl, rfl, rfl, by decide⟩⟩ fl')) (fun _ => by refine srOk_all ?_; simp only [srOk]; (repeat' (first | exact trivial | refine And.intro ?_ ?_)); all_goals (first | (refine ⟨_, rfl, ?_⟩; (first | (simp [rfO, rfVs, rfV, bk, AV.cells, h1.rf, h2.rf, h3.rf]; done))))) ?_) | (refine RD.callX rfl rfl rfl rfl rfl rfl rfl rfl rfl (fun fl' => (alts_tl (famA_ne _ (by decide))).trans (alts_hd (pinX_at _ _ _ _ _ _ _ fl'))) (fun _ => by refine srOkX_all ?_; simp only [srOkX]; (repeat' (first | exact trivial | refine And.intro ?_ ?_)); all_goals (first | exact trivial | (refine ⟨_, rfl, rfl, ?_⟩; (first | rfl | (simp [rfO, rfVs, rfV, rfVs_flat]; done) | (simp [rfO, rfVs, rfV, bk, AV.cells, h1.rf, h2.rf, h3.rf]; done))))) ?_) | (refine RD.free rfl rfl rfl rfl rfl rfl ?_; apply Nx.of; (first | exact S.move | exact S.assign | exact S.extract rfl)) | (refine RD.new rfl rfl rfl rfl rfl rfl ?_; apply Nx.of; (first | exact S.alloc rfl)) | (refine RD.load rfl rfl rfl rfl rfl rfl rfl rfl ?_; apply Nx.of; (first | exact S.load1c rfl rfl rfl rfl | exact S.loadNc rfl rfl rfl rfl)) | (refine RD.store rfl rfl rfl rfl rfl rfl rfl ?_; apply Nx.of; (first | exact S.store rfl rfl (kn_one _ _ _ _ _) rfl rfl rfl)) | refine RD.nil ⟨Nat.le_of_ble_eq_true rfl, ?_⟩)
        repeat' (first | refine RT.nil ?_ | refine sq_n ?_ | refine Tr.seq ?_ | refine Tr.region ?_ | refine Tr.cond_f rfl ?_ | refine Tr.skip ?_ | refine Tr.ret ?_ | (refine RT.call rfl rfl rfl (span_at (x := 18) (z := 4) rfl rfl hW (Wn_len hB) _ _ (bound_num _ _ hd5) _) rfl rfl (Nat.le_refl _) ?_) | (refine RT.goK rfl rfl rfl rfl ?_; apply Nx.of; (first | exact S.move | exact S.assign | exact S.loadNc rfl rfl rfl rfl | exact S.neq | exact S.makeFunc)) | (refine RT.goK0 rfl rfl rfl ?_; apply Nx.of; (first | exact S.store rfl rfl rfl rfl rfl rfl)))
        (first | refine rt_go rfl ?_)
        rfl
    · rw [spV_ask hB hq]
      refine CanS.mk Try.func28 rfl rfl rfl ?_
      repeat' (first | refine RT.nil ?_ | refine sq_n ?_ | refine Tr.seq ?_ | refine Tr.region ?_ | (refine RT.goK rfl rfl rfl rfl ?_; apply Nx.of; (first | exact S.assign | exact S.box | exact S.alloc rfl)))
      refine Tr.openK un28_1 (by kernel_rfl) (by kernel_rfl) (alts [dayF B a1 a2 a3 d false, lnF B a1 a2 a3 false 71]) (two_calm (dayF_calm hn (dB_ff hq)) (lnF_ask hn hB)) ?_
      repeat' (first | (refine RD.callN rfl rfl rfl rfl rfl rfl rfl rfl rfl (fun fl' => alts_hd (one1_at ⟨_, rfl, ⟨h1, h2, h3, rfl, rfl, rfl, by decide⟩⟩ fl')) (fun _ => by refine srOk_all ?_; simp only [srOk]; (repeat' (first | exact trivial | refine And.intro ?_ ?_)); all_goals (first | (refine ⟨_, rfl, ?_⟩; (first | (simp [rfO, rfVs, rfV, bk, AV.cells, h1.rf, h2.rf, h3.rf]; done))))) ?_) | (refine RD.callN rfl rfl rfl rfl rfl rfl rfl rfl rfl (fun fl' => (alts_tl (famA_ne _ (by decide))).trans (alts_hd (one1_at ⟨_, rfl, ⟨h1, h2, h3, rfl, rfl, rfl, by decide⟩⟩ fl'))) (fun _ => by refine srOk_all ?_; simp only [srOk]; (repeat' (first | exact trivial | refine And.intro ?_ ?_)); all_goals (first | exact trivial | (refine ⟨_, rfl, ?_⟩; (first | rfl | (simp [rfO, rfVs, rfV, rfVs_flat]; done) | (simp [rfO, rfVs, rfV, bk, AV.cells, h1.rf, h2.rf, h3.rf]; done))))) ?_) | (refine RD.free rfl rfl rfl rfl rfl rfl ?_; apply Nx.of; (first | exact S.move | exact S.assign | exact S.extract rfl)) | (refine RD.new rfl rfl rfl rfl rfl rfl ?_; apply Nx.of; (first | exact S.alloc rfl)) | (refine RD.load rfl rfl rfl rfl rfl rfl rfl rfl ?_; apply Nx.of; (first | exact S.load1c rfl rfl rfl rfl | exact S.loadNc rfl rfl rfl rfl)) | (refine RD.store rfl rfl rfl rfl rfl rfl rfl ?_; apply Nx.of; (first | exact S.store rfl rfl rfl rfl rfl rfl)) | refine RD.nil ⟨Nat.le_of_ble_eq_true rfl, ?_⟩)
      repeat' (first | refine RT.nil ?_ | refine sq_n ?_ | refine Tr.seq ?_ | refine Tr.region ?_ | refine Tr.cond_t rfl ?_ | refine Tr.ret ?_ | refine sq_r ?_ | (refine RT.goK rfl rfl rfl rfl ?_; apply Nx.of; (first | exact S.move | exact S.assign | exact S.neq | exact S.build rfl rfl rfl)) | (refine RT.goK0 rfl rfl rfl ?_; apply Nx.of; (first | exact S.store rfl rfl rfl rfl rfl rfl)))
      (first | refine rt_go rfl ?_)
      rfl
  · rw [spV_no hB]
    refine CanS.mk Try.func28 rfl rfl rfl ?_
    repeat' (first | refine RT.nil ?_ | refine sq_n ?_ | refine Tr.seq ?_ | refine Tr.region ?_ | (refine RT.goK rfl rfl rfl rfl ?_; apply Nx.of; (first | exact S.assign | exact S.box | exact S.alloc rfl)))
    obtain ⟨q, hq⟩ : ∃ q, dB (dyQ B d) = q := ⟨_, rfl⟩
    refine Tr.openK un28_1 (by kernel_rfl) (by kernel_rfl) (alts [dayF B a1 a2 a3 d q, lnF B a1 a2 a3 q 70]) (two_calm (dayF_calm hn hq) (lnF_no hn hB q)) ?_
    repeat' (first | (refine RD.callN rfl rfl rfl rfl rfl rfl rfl rfl rfl (fun fl' => alts_hd (one1_at ⟨_, rfl, ⟨h1, h2, h3, rfl, rfl, rfl, by decide⟩⟩ fl')) (fun _ => by refine srOk_all ?_; simp only [srOk]; (repeat' (first | exact trivial | refine And.intro ?_ ?_)); all_goals (first | (refine ⟨_, rfl, ?_⟩; (first | (simp [rfO, rfVs, rfV, bk, AV.cells, h1.rf, h2.rf, h3.rf]; done))))) ?_) | (refine RD.callN rfl rfl rfl rfl rfl rfl rfl rfl rfl (fun fl' => (alts_tl (famA_ne _ (by decide))).trans (alts_hd (one1_at ⟨_, rfl, ⟨h1, h2, h3, rfl, rfl, rfl, by decide⟩⟩ fl'))) (fun _ => by refine srOk_all ?_; simp only [srOk]; (repeat' (first | exact trivial | refine And.intro ?_ ?_)); all_goals (first | exact trivial | (refine ⟨_, rfl, ?_⟩; (first | rfl | (simp [rfO, rfVs, rfV, rfVs_flat]; done) | (simp [rfO, rfVs, rfV, bk, AV.cells, h1.rf, h2.rf, h3.rf]; done))))) ?_) | (refine RD.free rfl rfl rfl rfl rfl rfl ?_; apply Nx.of; (first | exact S.move | exact S.assign | exact S.extract rfl)) | (refine RD.new rfl rfl rfl rfl rfl rfl ?_; apply Nx.of; (first | exact S.alloc rfl)) | (refine RD.load rfl rfl rfl rfl rfl rfl rfl rfl ?_; apply Nx.of; (first | exact S.load1c rfl rfl rfl rfl | exact S.loadNc rfl rfl rfl rfl)) | (refine RD.store rfl rfl rfl rfl rfl rfl rfl ?_; apply Nx.of; (first | exact S.store rfl rfl rfl rfl rfl rfl)) | refine RD.nil ⟨Nat.le_of_ble_eq_true rfl, ?_⟩)
    repeat' (first | refine RT.nil ?_ | refine sq_n ?_ | refine Tr.seq ?_ | refine Tr.region ?_ | refine Tr.cond_t rfl ?_ | refine Tr.ret ?_ | refine sq_r ?_ | (refine RT.goK rfl rfl rfl rfl ?_; apply Nx.of; (first | exact S.move | exact S.assign | exact S.neq | exact S.build rfl rfl rfl)) | (refine RT.goK0 rfl rfl rfl ?_; apply Nx.of; (first | exact S.store rfl rfl rfl rfl rfl rfl)))
    (first | refine rt_go rfl ?_)
    rfl
end Go.Proofs.Ytjnckbefajfgbaa

/- Package roll: Fits. -/
namespace Go.Proofs.Ytjnckbefajfgbaa
open Go Go.Ev

/-- A function's call that tells whether something is so in a truth, in all memory that holds another one's. -/
def PrOK (W : List Tru) (g : Nat) (first cap : List AV) (m : List (Nat × Option AObj)) (c : Nat) (pr : Tru → Prop) : Prop := ∀ t ∈ W, ∀ m' c', Sub m c m' c' → ∀ fl, OkAt 0 Try.prog fl g (first ++ [trV t] ++ cap) (ofM m') c' (.bool (dB (pr t))) (ofM m') c'
section
variable {W : List Tru} {g x : Nat} {first cap : List AV} {m : List (Nat × Option AObj)} {c : Nat} {pr : Tru → Prop}

end
/-- An answer that is yes or no. -/
noncomputable def ftV (B : RBook) (d b : Int) : AV :=
  if dB (bkOk B) = false then .tup [.bool false, .int .i64 70] else if dB (lkOk B d b) = false then .tup [.bool false, .int .i64 71] else if dB (Wn B = []) then .tup [.bool false, .int .i64 72] else .tup [.bool (dB (∃ t ∈ Wn B, t.eb d.toNat = b)), .int .i64 0]
/-- Whether there can be such a look, in a region whose order is open. -/
noncomputable def lokF (B : RBook) (a1 a2 a3 : AV) (d b : Int) (q : Bool) : CallFn := one1 71 [bk B a1 a2 a3, .agg [.int .i64 d, .int .i64 b]] (.bool q) fun H c => ∃ m, H = ofM m ∧ BkIn B a1 a2 a3 m c
set_option format.width 260
end Go.Proofs.Ytjnckbefajfgbaa

/- Package roll: how many layers are bound from day to day: plain facts. -/
namespace Go.Proofs.Ytjnckbefajfgbaa
open Go Go.Ev

theorem passN_la {B : RBook} {t : Tru} {d rb : Nat} {rr : Int} : (passN B t d rb rr).la = t.la := by
  unfold passN
  (repeat' split) <;> rfl
theorem pas_b {B : RBook} {t : Tru} {d : Nat} (h : 0 ≤ befB t d) : (pasT B t d).eb d = befB t d ∨ (pasT B t d).eb d = befB t d + 1 := by
  have key : ∀ (u : Tru) (rb : Nat) (rr : Int), (passN B u d rb rr).eb d = rb ∨ (passN B u d rb rr).eb d = rb + 1 := fun u rb rr => by
    unfold passN
    split
    · exact .inl upd_at
    · split
      · show upd _ d _ d = _ ∨ upd _ d _ d = _
        rw [upd_at]
        unfold rolB
        by_cases q : B.nee rb ≤ rr + u.w d
        · rw [dB_tt q]; exact .inr rfl
        · rw [dB_ff q]; exact .inl rfl
      · exact .inl upd_at
  unfold pasT
  by_cases hd : befB t d = B.nl ∧ befR t d = 0
  · rw [dB_tt hd, cond_true]
    exact .inl upd_at
  · rw [dB_ff hd, cond_false]
    have := key (bif dB (t.la (befB t d).toNat = t.lo (befB t d).toNat) then t.setLa (befB t d).toNat (t.la (befB t d).toNat + 1) else t) (befB t d).toNat (befR t d)
    rwa [Int.toNat_of_nonneg h] at this
theorem pas_first {B : RBook} {t : Tru} {d : Nat} (hn : 1 ≤ B.nl) (h0 : noLa t) (hl : t.lo 0 = 0) : 1 ≤ (pasT B t d).la 0 := by
  have e0 : befB t d = 0 := by unfold befB; rw [dB_tt h0]; rfl
  unfold pasT
  rw [dB_ff (fun q => by rw [e0] at q; have := q.1; omega), cond_false, passN_la, e0]
  have e1 : t.la (0 : Int).toNat = t.lo (0 : Int).toNat := h0.1.trans hl.symm
  rw [dB_tt e1, cond_true]
  show 1 ≤ upd t.la 0 (t.la 0 + 1) 0
  rw [upd_at, h0.1]
  decide
theorem trs_steps {B : RBook} (hB : bkOk B) : ∀ {k d : Nat} {t u : Tru}, d + k = B.nd → LvOk B t d → (d = 0 → noLa t ∧ t.lo 0 = 0) → (1 ≤ d → 1 ≤ t.la 0 ∧ t.eb (d - 1) ≤ d) → u ∈ trs B k d t → ∀ j, d ≤ j → j < B.nd → (0 ≤ u.eb j ∧ u.eb j ≤ B.nl) ∧ u.eb j ≤ (j : Int) + 1 ∧ (1 ≤ j → u.eb (j - 1) ≤ u.eb j ∧ u.eb j ≤ u.eb (j - 1) + 1)
  | 0, d, t, u, he, _, _, _, _, j, h1, h2 => absurd h2 (by omega)
  | k + 1, d, t, u, he, hl, h0, h1, hu, j, hj1, hj2 => by
    obtain ⟨n, hn, sk, hs, _, hu⟩ := mem_step.1 hu
    have hnd := hB.2.1.1.2
    have hda := hB.2.1.2 d (by omega)
    unfold daOk at hda
    have hn2 : 0 ≤ n ∧ n ≤ 20 := by
      unfold ints at hn
      obtain ⟨i, hi, rfl⟩ := List.mem_map.1 hn
      have := List.mem_range.1 hi
      omega
    have hs2 : sk < 3 := List.mem_range.1 hs
    have hpo := hl.pas (show d < 5 by omega) hn2 hs2
    obtain ⟨g1, g2, g3, g4⟩ := pas_e hB hpo hl.r.2
    have gb := pas_b (B := B) (t := (t.setW d n).setS d (sk : Int)) (d := d) hl.b.1
    replace gb : (nxT B t d n sk).eb d = befB t d ∨ (nxT B t d n sk).eb d = befB t d + 1 := gb
    replace g1 : 0 ≤ (nxT B t d n sk).eb d ∧ (nxT B t d n sk).eb d ≤ B.nl := g1
    have e1 : u.eb d = (nxT B t d n sk).eb d := eb_keep hu (Nat.lt_succ_self d)
    have hbef : (d = 0 ∧ befB t d = 0) ∨ (1 ≤ d ∧ befB t d = t.eb (d - 1)) := by
      rcases Nat.eq_zero_or_pos d with rfl | hd
      · refine .inl ⟨rfl, ?_⟩
        unfold befB
        rw [dB_tt (h0 rfl).1]; rfl
      · refine .inr ⟨hd, ?_⟩
        unfold befB
        rw [dB_ff (fun q => by have := (h1 hd).1; have := q.1; omega)]; rfl
    have hla : 1 ≤ (nxT B t d n sk).la 0 := by
      rcases Nat.eq_zero_or_pos d with rfl | hd
      · exact pas_first hB.1.1.1 (h0 rfl).1 (h0 rfl).2
      · have a := (g4 0).1
        have b := (h1 hd).1
        have e : ((t.setW d n).setS d (sk : Int)).la 0 = t.la 0 := rfl
        rw [e] at a
        show 1 ≤ (pasT B _ d).la 0
        omega
    have hle : (nxT B t d n sk).eb d ≤ (d : Int) + 1 := by
      rcases hbef with ⟨h, h'⟩ | ⟨h, h'⟩
      · omega
      · have := (h1 h).2
        omega
    rcases Nat.lt_or_ge d j with hdj | hdj
    · exact trs_steps hB (by omega) (hl.next hB (by omega) hn2 hs2) (fun q => absurd q (by omega)) (fun _ => ⟨hla, by show (nxT B t d n sk).eb (d + 1 - 1) ≤ _; rw [Nat.add_sub_cancel]; omega⟩) hu j (by omega) hj2
    · obtain rfl : j = d := by omega
      refine ⟨by omega, by omega, fun hj => ?_⟩
      have e2 : u.eb (j - 1) = (nxT B t j n sk).eb (j - 1) := eb_keep hu (by omega)
      have e3 : (nxT B t j n sk).eb (j - 1) = t.eb (j - 1) := nxT_keep (by omega)
      rcases hbef with ⟨h, _⟩ | ⟨_, h'⟩
      · omega
      · omega
theorem lv0 {B : RBook} (hB : bkOk B) : LvOk B tru0 0 := by
  have hz : noLa tru0 := ⟨rfl, rfl, rfl, rfl⟩
  have e1 : befB tru0 0 = 0 := by unfold befB; rw [dB_tt hz]; rfl
  have e2 : befR tru0 0 = 0 := by unfold befR; rw [dB_tt hz]; rfl
  refine ⟨.inl hz, ?_, ?_, ?_, fun i _ => ⟨Int.le_refl _, Int.le_refl _⟩, fun i _ => ⟨Int.le_refl _, Int.le_refl _⟩⟩
  · rw [e1]; omega
  · rw [e2]; decide
  · intro _; exact e2
theorem norm_eb {t : Tru} {j : Nat} (h : j < 5) : (norm t).eb j = t.eb j := by rcases lt5 h with rfl | rfl | rfl | rfl | rfl <;> rfl
/-- How many layers are bound, from day to day. -/
theorem wn_steps {B : RBook} (hB : bkOk B) {t : Tru} (ht : t ∈ Wn B) {j : Nat} (hj : j < B.nd) : (0 ≤ t.eb j ∧ t.eb j ≤ B.nl) ∧ t.eb j ≤ (j : Int) + 1 ∧ (1 ≤ j → t.eb (j - 1) ≤ t.eb j ∧ t.eb j ≤ t.eb (j - 1) + 1) := by
  obtain ⟨u, hu, rfl⟩ := List.mem_map.1 ht
  have hnd := hB.2.1.1.2
  have := trs_steps hB (k := B.nd) (d := 0) (t := tru0) (u := u) (by omega) (lv0 hB) (fun _ => ⟨⟨rfl, rfl, rfl, rfl⟩, rfl⟩) (fun h => absurd h (by omega)) hu j (Nat.zero_le _) hj
  rw [norm_eb (show j < 5 by omega), norm_eb (show j - 1 < 5 by omega)]
  exact this
end Go.Proofs.Ytjnckbefajfgbaa

/- Package roll: whether all layers are bound at a day's end, surely or perhaps; the first such day. -/
namespace Go.Proofs.Ytjnckbefajfgbaa
open Go Go.Ev

theorem mp_rf (nd x i : Nat) : rfV (mpV nd x i) = true := by unfold mpV; split <;> rfl
set_option format.width 260
set_option maxRecDepth 100000 in
set_option maxHeartbeats 4000000 in
theorem surely_can (B : RBook) (a1 a2 a3 : AV) (h1 : IsSl a1 B.nl 0) (h2 : IsSl a2 B.nd 1) (h3 : IsSl a3 B.nk 2) (W : List Tru) (n d : Nat) (hd : d < B.nd) (hd5 : d < 5) : CanS 0 Try.prog 47 10 [.agg (.ptr 3 0 :: .gs 9 n :: mpsV B.nd 4), .int .i64 (d : Int)] [(4 + d, some (rdO d W)), (0, some (oLa B)), (1, some (oDa B)), (2, some (oLo B)), (3, some (.cells (pbC B a1 a2 a3)))] 10 fun v _ _ => v = .bool (decide (rdC d W (B.nl, 0) = n)) := by
  have e : mpV B.nd 4 d = .map (4 + d) := if_pos hd
  have hs := IsSl.gs 9 n
  rcases lt5 hd5 with rfl | rfl | rfl | rfl | rfl
  all_goals
    unfold mpsV
    rw [e]
    refine CanS.mk Try.func47 rfl rfl rfl ?_
    repeat' (first | refine RT.nil ?_ | refine sq_n ?_ | refine Tr.seq ?_ | refine Tr.region ?_ | (refine RT.goK rfl rfl rfl rfl ?_; apply Nx.of; (first | exact S.assign | exact S.box)))
    refine Tr.openK un47_1 (by kernel_rfl) (by kernel_rfl) (one1 79 [.ptr 3 0] (roV B.nl 0) fun H c => ∃ m, H = ofM m ∧ PbIn B a1 a2 a3 3 m c) done_calm ?_
    repeat' (first | (refine RD.callN rfl rfl rfl rfl rfl rfl rfl rfl rfl (fun fl' => one1_at ⟨_, rfl, h1, h2, h3, rfl, rfl, rfl, rfl, by decide, by decide⟩ fl') (fun _ => by refine srOk_all ?_; simp only [srOk]; (repeat' (first | exact trivial | refine And.intro ?_ ?_)); all_goals (first | (refine ⟨_, rfl, ?_⟩; (first | (simp [rfO, rfVs, rfV, pbC, bk, AV.cells, h1.rf, h2.rf, h3.rf, mp_rf]; done))))) ?_) | (refine RD.load rfl rfl rfl rfl rfl rfl rfl (by refine us_all ?_; simp only [usOk, cond_true, cond_false]; (repeat' (first | exact trivial | refine And.intro ?_ ?_)); all_goals (first | rfl | exact .inl trivial | (refine Or.inr (was_same rfl ?_); (first | (refine ⟨_, rfl, ?_⟩; simp [rfO, rfVs, rfV, pbC, bk, AV.cells, h1.rf, h2.rf, h3.rf, mp_rf]; done))))) ?_; (refine Nx.of (S.look0 (enc := roE) (encV := roW) (f := rdF _ W) (L := rdK _ W) (k := ((B.nl : Int), 0)) roKeys rfl rfl rfl rfl (fun h => by unfold rdF; rw [rdC_0 h])) ?_)) | (refine RD.free rfl rfl rfl rfl rfl rfl ?_; refine Nx.of (S.idx_arr rfl rfl rfl (by decide)) ?_) | (refine RD.free rfl rfl rfl rfl rfl rfl ?_; apply Nx.of; (first | exact S.move | exact S.assign | exact S.fieldAddr rfl rfl rfl | exact S.eql | exact S.len_sl rfl rfl rfl (by assumption))) | (refine RD.load rfl rfl rfl rfl rfl rfl rfl rfl ?_; apply Nx.of; (first | exact S.load1c rfl rfl rfl rfl)) | (refine RD.load rfl rfl rfl rfl rfl rfl rfl (by refine us_all ?_; simp only [usOk, cond_true, cond_false]; (repeat' (first | exact trivial | refine And.intro ?_ ?_)); all_goals (first | rfl | exact .inl trivial | (refine Or.inr (was_same rfl ?_); (first | (refine ⟨_, rfl, ?_⟩; simp [rfO, rfVs, rfV, pbC, bk, AV.cells, h1.rf, h2.rf, h3.rf, mp_rf]; done))))) ?_; apply Nx.of; (first | exact S.load1c rfl rfl rfl rfl)) | refine RD.nil ⟨Nat.le_of_ble_eq_true rfl, ?_⟩)
    repeat' (first | refine sq_n ?_ | refine Tr.ret ?_)
    (first | refine rt_go rfl ?_)
    rfl
set_option maxRecDepth 100000 in
set_option maxHeartbeats 4000000 in
theorem may_can (B : RBook) (a1 a2 a3 : AV) (h1 : IsSl a1 B.nl 0) (h2 : IsSl a2 B.nd 1) (h3 : IsSl a3 B.nk 2) (W : List Tru) (n d : Nat) (hd : d < B.nd) (hd5 : d < 5) : CanS 0 Try.prog 49 10 [.agg (.ptr 3 0 :: .gs 9 n :: mpsV B.nd 4), .int .i64 (d : Int)] [(4 + d, some (rdO d W)), (0, some (oLa B)), (1, some (oDa B)), (2, some (oLo B)), (3, some (.cells (pbC B a1 a2 a3)))] 10 fun v _ _ => v = .bool (decide (0 < rdC d W (B.nl, 0))) := by
  have e : mpV B.nd 4 d = .map (4 + d) := if_pos hd
  have hs := IsSl.gs 9 n
  rcases lt5 hd5 with rfl | rfl | rfl | rfl | rfl
  all_goals
    unfold mpsV
    rw [e]
    refine CanS.mk Try.func49 rfl rfl rfl ?_
    repeat' (first | refine RT.nil ?_ | refine sq_n ?_ | refine Tr.seq ?_ | refine Tr.region ?_ | (refine RT.goK rfl rfl rfl rfl ?_; apply Nx.of; (first | exact S.assign | exact S.box)))
    refine Tr.openK un49_1 (by kernel_rfl) (by kernel_rfl) (one1 79 [.ptr 3 0] (roV B.nl 0) fun H c => ∃ m, H = ofM m ∧ PbIn B a1 a2 a3 3 m c) done_calm ?_
    repeat' (first | (refine RD.callN rfl rfl rfl rfl rfl rfl rfl rfl rfl (fun fl' => one1_at ⟨_, rfl, h1, h2, h3, rfl, rfl, rfl, rfl, by decide, by decide⟩ fl') (fun _ => by refine srOk_all ?_; simp only [srOk]; (repeat' (first | exact trivial | refine And.intro ?_ ?_)); all_goals (first | (refine ⟨_, rfl, ?_⟩; (first | (simp [rfO, rfVs, rfV, pbC, bk, AV.cells, h1.rf, h2.rf, h3.rf, mp_rf]; done))))) ?_) | (refine RD.load rfl rfl rfl rfl rfl rfl rfl (by refine us_all ?_; simp only [usOk, cond_true, cond_false]; (repeat' (first | exact trivial | refine And.intro ?_ ?_)); all_goals (first | rfl | exact .inl trivial)) ?_; (refine Nx.of (S.look0 (enc := roE) (encV := roW) (f := rdF _ W) (L := rdK _ W) (k := ((B.nl : Int), 0)) roKeys rfl rfl rfl rfl (fun h => by unfold rdF; rw [rdC_0 h])) ?_)) | (refine RD.free rfl rfl rfl rfl rfl rfl ?_; refine Nx.of (S.idx_arr rfl rfl rfl (by decide)) ?_) | (refine RD.free rfl rfl rfl rfl rfl rfl ?_; apply Nx.of; (first | exact S.move | exact S.assign | exact S.fieldAddr rfl rfl rfl | exact S.gtr)) | (refine RD.load rfl rfl rfl rfl rfl rfl rfl rfl ?_; apply Nx.of; (first | exact S.load1c rfl rfl rfl rfl)) | refine RD.nil ⟨Nat.le_of_ble_eq_true rfl, ?_⟩)
    repeat' (first | refine sq_n ?_ | refine Tr.ret ?_)
    (first | refine rt_go rfl ?_)
    rfl
/-- The same, where the book that is known lies anywhere. -/
structure KnAt (B : RBook) (a1 a2 a3 : AV) (p q d : Nat) (W : List Tru) (m : List (Nat × Option AObj)) (c : Nat) : Prop where
  pb : PbIn B a1 a2 a3 p m c
  mx : lookM m (q + d) = some (rdO d W)
theorem KnAt.entry {B : RBook} {a1 a2 a3 : AV} {p q x d n : Nat} {W : List Tru} {m : List (Nat × Option AObj)} {c : Nat} (h : KnAt B a1 a2 a3 p q d W m c) (hd5 : d < 5) : Entry 0 (ofM m) c [.agg (.ptr p 0 :: .gs x n :: mpsV B.nd q), .int .i64 (d : Int)] [(4 + d, some (rdO d W)), (0, some (oLa B)), (1, some (oDa B)), (2, some (oLo B)), (3, some (.cells (pbC B a1 a2 a3)))] 10 [.agg (.ptr 3 0 :: .gs 9 n :: mpsV B.nd 4), .int .i64 (d : Int)] := by
  let τ : Nat → Nat := tau [0, 1, 2, p, q, q + 1, q + 2, q + 3, q + 4, x] c
  have e0 : τ (4 + 0) = q + 0 := rfl
  have e1 : τ (4 + 1) = q + 1 := rfl
  have e2 : τ (4 + 2) = q + 2 := rfl
  have e3 : τ (4 + 3) = q + 3 := rfl
  have e4 : τ (4 + 4) = q + 4 := rfl
  have t0 : τ 0 = 0 := rfl
  have t1 : τ 1 = 1 := rfl
  have t2 : τ 2 = 2 := rfl
  have t3 : τ 3 = p := rfl
  have ha : AV.rens τ [.agg (.ptr 3 0 :: .gs 9 n :: mpsV B.nd 4), .int .i64 (d : Int)] = [.agg (.ptr p 0 :: .gs x n :: mpsV B.nd q), .int .i64 (d : Int)] := by
    simp only [AV.ren, AV.rens, mp_ren B.nd e0, mp_ren B.nd e1, mp_ren B.nd e2, mp_ren B.nd e3, mp_ren B.nd e4]
    rfl
  have td : τ (4 + d) = q + d := by rcases lt5 hd5 with rfl | rfl | rfl | rfl | rfl <;> rfl
  have low : ∀ {u : Nat} {ob : AObj}, lookM [(4 + d, some (rdO d W)), (0, some (oLa B)), (1, some (oDa B)), (2, some (oLo B)), (3, some (.cells (pbC B a1 a2 a3)))] u = some ob → u = 4 + d ∨ u = 0 ∨ u = 1 ∨ u = 2 ∨ u = 3 := fun {u ob} hz => by
    have := lookM_mem hz
    simpa using this
  have lk : ∀ {u : Nat} {o : AObj}, u < 4 → lookM [(4 + d, some (rdO d W)), (0, some (oLa B)), (1, some (oDa B)), (2, some (oLo B)), (3, some (.cells (pbC B a1 a2 a3)))] u = some o → lookM [(0, some (oLa B)), (1, some (oDa B)), (2, some (oLo B)), (3, some (.cells (pbC B a1 a2 a3)))] u = some o := fun {u o} hu ho => by
    rwa [lookM_tl (by omega)] at ho
  have hobj : ∀ u o, lookM [(4 + d, some (rdO d W)), (0, some (oLa B)), (1, some (oDa B)), (2, some (oLo B)), (3, some (.cells (pbC B a1 a2 a3)))] u = some o → lookM m (τ u) = some (o.ren τ) := fun u o hu => by
    rcases low hu with rfl | rfl | rfl | rfl | rfl
    · rw [lookM_hd] at hu; cases hu; rw [td, rd_ren]; exact h.mx
    · have := lk (by omega) hu; cases this; rw [t0, ren_ro]; exact h.pb.m1
    · have := lk (by omega) hu; cases this; rw [t1, ren_ro]; exact h.pb.m2
    · have := lk (by omega) hu; cases this; rw [t2, ren_ro]; exact h.pb.m3
    · have := lk (by omega) hu; cases this; rw [t3, pbc_ren h.pb.h1 h.pb.h2 h.pb.h3 t0 t1 t2]; exact h.pb.m4
  rw [← ha]
  refine Entry.ren τ (fun g hg => by omega) (fun y hy => by show c ≤ tau _ _ _; rw [tau_ge hy]; omega) ⟨getM (hobj _ _ lookM_hd), getM (hobj 0 _ ((lookM_tl (by omega)).trans rfl)), getM (hobj 1 _ ((lookM_tl (by omega)).trans rfl)), getM (hobj 2 _ ((lookM_tl (by omega)).trans rfl)), getM (hobj 3 _ ((lookM_tl (by omega)).trans rfl)), trivial⟩ (fun u u' o o' hu hu' hne => .inl fun e => ?_)
  have g1 := hobj u o hu
  have g2 := hobj u' o' hu'
  rw [e] at g1
  rw [g1] at g2
  have key : ∀ (u : Nat) (o : AObj), lookM [(4 + d, some (rdO d W)), (0, some (oLa B)), (1, some (oDa B)), (2, some (oLo B)), (3, some (.cells (pbC B a1 a2 a3)))] u = some o → (u = 4 + d ∧ ∃ es, o.ren τ = .map es) ∨ (u < 3 ∧ τ u = u ∧ ∃ es, o.ren τ = .ro es) ∨ (u = 3 ∧ ∃ es, o.ren τ = .cells es) := fun u o hu => by
    rcases low hu with rfl | rfl | rfl | rfl | rfl
    · rw [lookM_hd] at hu; cases hu; exact .inl ⟨rfl, _, rd_ren _ _ _⟩
    · have := lk (by omega) hu; cases this; exact .inr (.inl ⟨by omega, rfl, _, ren_ro _ _ _⟩)
    · have := lk (by omega) hu; cases this; exact .inr (.inl ⟨by omega, rfl, _, ren_ro _ _ _⟩)
    · have := lk (by omega) hu; cases this; exact .inr (.inl ⟨by omega, rfl, _, ren_ro _ _ _⟩)
    · have := lk (by omega) hu; cases this; exact .inr (.inr ⟨rfl, _, rfl⟩)
  rw [Option.some.injEq] at g2
  rcases key u o hu with ⟨x1, es, y1⟩ | ⟨x1, z1, es, y1⟩ | ⟨x1, es, y1⟩ <;> rcases key u' o' hu' with ⟨x2, es', y2⟩ | ⟨x2, z2, es', y2⟩ | ⟨x2, es', y2⟩ <;> rw [y1, y2] at g2 <;> first | (cases g2; done) | omega
theorem surely_at {B : RBook} {a1 a2 a3 : AV} {p q x d n : Nat} {W : List Tru} {m : List (Nat × Option AObj)} {c : Nat} (h : KnAt B a1 a2 a3 p q d W m c) (hd : d < B.nd) (hd5 : d < 5) (fl : Nat) : OkAt 0 Try.prog fl 47 [.agg (.ptr p 0 :: .gs x n :: mpsV B.nd q), .int .i64 (d : Int)] (ofM m) c (.bool (decide (rdC d W (B.nl, 0) = n))) (ofM m) c :=
  (surely_can B a1 a2 a3 h.pb.h1 h.pb.h2 h.pb.h3 W n d hd hd5).pure (.bool _) (h.entry hd5) fl
theorem may_at {B : RBook} {a1 a2 a3 : AV} {p q x d n : Nat} {W : List Tru} {m : List (Nat × Option AObj)} {c : Nat} (h : KnAt B a1 a2 a3 p q d W m c) (hd : d < B.nd) (hd5 : d < 5) (fl : Nat) : OkAt 0 Try.prog fl 49 [.agg (.ptr p 0 :: .gs x n :: mpsV B.nd q), .int .i64 (d : Int)] (ofM m) c (.bool (decide (0 < rdC d W (B.nl, 0)))) (ofM m) c :=
  (may_can B a1 a2 a3 h.pb.h1 h.pb.h2 h.pb.h3 W n d hd hd5).pure (.bool _) (h.entry hd5) fl
end Go.Proofs.Ytjnckbefajfgbaa

/- Package roll: Done, Perhaps. -/
namespace Go.Proofs.Ytjnckbefajfgbaa
open Go Go.Ev

theorem rds_at {ts : List Tru} {x d : Nat} : ∀ {n : Nat}, d < n → lookM (rdsM ts x n) (x + d) = some (rdO d ts)
  | 0, h => absurd h (by omega)
  | n + 1, h => by
    rw [rdsM]
    by_cases e : d = n
    · subst e; exact lookM_hd
    · rw [lookM_tl (by omega)]
      exact rds_at (by omega)
theorem look_skip {r : List (Nat × Option AObj)} {x : Nat} : ∀ {m : List (Nat × Option AObj)}, (∀ e ∈ m, e.1 ≠ x) → lookM (m ++ r) x = lookM r x
  | [], _ => rfl
  | (y, o) :: m, h => by
    have hy : y ≠ x := h (y, o) List.mem_cons_self
    rw [List.cons_append, lookM_tl hy.symm]
    exact look_skip fun e he => h e (List.mem_cons_of_mem _ he)
open Classical in
/-- The first day on which something is so. -/
noncomputable def fdV (pr : Nat → Prop) (n : Nat) : AV := if h : ∃ d, d < n ∧ pr d ∧ ∀ j, j < d → ¬ pr j then .tup [.int .i64 (h.choose : Int), .int .i64 0] else .tup [.int .i64 0, .int .i64 4]
theorem fdV_at {pr : Nat → Prop} {n d : Nat} (hd : d < n) (hp : pr d) (hno : ∀ j, j < d → ¬ pr j) : fdV pr n = .tup [.int .i64 (d : Int), .int .i64 0] := by
  have h : ∃ d, d < n ∧ pr d ∧ ∀ j, j < d → ¬ pr j := ⟨d, hd, hp, hno⟩
  have : h.choose = d := by
    obtain ⟨_, h2, h3⟩ := h.choose_spec
    rcases Nat.lt_trichotomy h.choose d with q | q | q
    · exact absurd h2 (hno _ q)
    · exact q
    · exact absurd hp (h3 _ q)
  unfold fdV
  rw [dif_pos h, this]
theorem fdV_none {pr : Nat → Prop} {n : Nat} (hno : ∀ j, j < n → ¬ pr j) : fdV pr n = .tup [.int .i64 0, .int .i64 4] := by
  unfold fdV
  rw [dif_neg fun ⟨d, h1, h2, _⟩ => hno d h1 h2]
theorem fdV_pl (pr : Nat → Prop) (n : Nat) : Pl (fdV pr n) := by unfold fdV; split <;> exact fun _ => rfl
/-- What firstDay answers. -/
noncomputable def fsV (B : RBook) (pr : Nat → Prop) : AV := if dB (bkOk B) = false then .tup [.int .i64 0, .int .i64 70] else if dB (Wn B = []) then .tup [.int .i64 0, .int .i64 72] else fdV pr B.nd
theorem fsV_no {B : RBook} {pr : Nat → Prop} (h : ¬ bkOk B) : fsV B pr = .tup [.int .i64 0, .int .i64 70] := by unfold fsV; rw [dB_ff h, if_pos rfl]
theorem fsV_false {B : RBook} {pr : Nat → Prop} (h : bkOk B) (hW : Wn B = []) : fsV B pr = .tup [.int .i64 0, .int .i64 72] := by unfold fsV; rw [dB_tt h, if_neg (by decide), dB_tt hW, if_pos rfl]
theorem fsV_ok {B : RBook} {pr : Nat → Prop} (h : bkOk B) (hW : Wn B ≠ []) : fsV B pr = fdV pr B.nd := by unfold fsV; rw [dB_tt h, if_neg (by decide), dB_ff hW, if_neg (by decide)]
theorem fsV_pl (B : RBook) (pr : Nat → Prop) : Pl (fsV B pr) := by
  unfold fsV
  split
  · exact fun _ => rfl
  · split
    · exact fun _ => rfl
    · exact fdV_pl _ _
/-- A function that tells whether something is so on a day. -/
def DayOK (B : RBook) (a1 a2 a3 : AV) (f : Nat) (pr : Nat → Prop) : Prop := ∀ (p q x d : Nat) (m : List (Nat × Option AObj)) (c : Nat), KnAt B a1 a2 a3 p q d (Wn B) m c → d < B.nd → d < 5 → ∀ fl, OkAt 0 Try.prog fl f [.agg (.ptr p 0 :: .gs x (Wn B).length :: mpsV B.nd q), .int .i64 (d : Int)] (ofM m) c (.bool (dB (pr d))) (ofM m) c
set_option format.width 260
set_option maxRecDepth 100000 in
set_option maxHeartbeats 4000000 in
theorem first_can (B : RBook) (a1 a2 a3 : AV) (h1 : IsSl a1 B.nl 0) (h2 : IsSl a2 B.nd 1) (h3 : IsSl a3 B.nk 2) (hn : B.nd ≤ 9223372036854775807) (f : Nat) (pr : Nat → Prop) (hf : DayOK B a1 a2 a3 f pr) : CanS 0 Try.prog 46 3 [bk B a1 a2 a3, .fn f [] []] [(0, some (oLa B)), (1, some (oDa B)), (2, some (oLo B))] 3 fun v _ _ => v = fsV B pr := by
  by_cases hB : bkOk B
  · by_cases hW : Wn B = []
    · rw [fsV_false hB hW]
      refine CanS.mk Try.func46 rfl rfl rfl ?_
      repeat' (first | refine RT.nil ?_ | refine sq_n ?_ | refine Tr.seq ?_ | refine Tr.region ?_ | refine Tr.cond_t rfl ?_ | refine Tr.ret ?_ | refine sq_r ?_ | (refine RT.call rfl rfl rfl (learn_false ⟨h1, h2, h3, rfl, rfl, rfl, by decide⟩ hn hB hW _) rfl rfl (Nat.le_refl _) ?_) | (refine RT.goK rfl rfl rfl rfl ?_; apply Nx.of; (first | exact S.move | exact S.assign | exact S.loadNc rfl rfl rfl rfl | exact S.neq | exact S.box | exact S.alloc rfl | exact S.extract rfl)) | (refine RT.goK0 rfl rfl rfl ?_; apply Nx.of; (first | exact S.store rfl rfl rfl rfl rfl rfl)))
      (first | refine rt_go rfl ?_)
      rfl
    · rw [fsV_ok hB hW]
      have hnd := hB.2.1.1
      refine CanS.mk Try.func46 rfl rfl rfl ?_
      repeat' (first | refine RT.nil ?_ | refine sq_n ?_ | refine Tr.seq ?_ | refine Tr.region ?_ | refine Tr.cond_f rfl ?_ | refine Tr.skip ?_ | refine Tr.block ?_ | (refine RT.call rfl rfl rfl (learn_at ⟨h1, h2, h3, rfl, rfl, rfl, by decide⟩ (fun x o hx => by have := lookM_mem hx; simp at this; omega) hn hB hW _) rfl rfl (by decide) ?_) | (refine RT.goK rfl rfl rfl rfl ?_; apply Nx.of; (first | exact S.move | exact S.assign | exact S.load1c rfl rfl rfl rfl | exact S.loadNc rfl rfl rfl rfl | exact S.fieldAddr rfl rfl rfl | exact S.neq | exact S.box | exact S.alloc rfl | exact S.nilCheck | exact S.extract rfl)) | (refine RT.goK0 rfl rfl rfl ?_; apply Nx.of; (first | exact S.store rfl rfl (kn_one _ _ _ _ _) rfl rfl rfl)) | (refine RT.goK rfl rfl rfl rfl ?_; apply Nx.of; (first | exact S.len_sl rfl rfl rfl (by assumption))))
      refine Tr.loop (fun k : Nat => stL Try.f46.ntmps [] [(1, .fn f [] []), (6, .ptr 17 0), (23, .int .i64 B.nd), (24, .int .i64 k)] ((17, some (.cells (.ptr 7 0 :: .gs 16 (Wn B).length :: mpsV B.nd 9))) :: (17, some (.cells [.nilp, .nils, .nilm, .nilm, .nilm, .nilm, .nilm])) :: knM B a1 a2 a3 4 [(3, some (.cells (bk B a1 a2 a3).cells)), (0, some (oLa B)), (1, some (oDa B)), (2, some (oLo B))]) 18) (fun k => k ≤ B.nd ∧ ∀ j, j < k → ¬ pr j) (fun k => B.nd - k) 0 ⟨Nat.zero_le _, fun j hj => absurd hj (Nat.not_lt_zero j)⟩ (Wk.temps (by decide) (by decide) (by decide) ⟨rfl, rfl, rfl, rfl, trivial⟩) (fun k ⟨hk, hno⟩ => ?_)
      by_cases hlt : k < B.nd
      · have hlt' : (k : Int) < B.nd := by omega
        have hk5 : k < 5 := by omega
        have hmx : lookM ((17, some (.cells (.ptr 7 0 :: .gs 16 (Wn B).length :: mpsV B.nd 9))) :: (17, some (.cells [.nilp, .nils, .nilm, .nilm, .nilm, .nilm, .nilm])) :: knM B a1 a2 a3 4 [(3, some (.cells (bk B a1 a2 a3).cells)), (0, some (oLa B)), (1, some (oDa B)), (2, some (oLo B))]) (9 + k) = some (rdO k (Wn B)) := by
          rw [lookM_tl (by omega), lookM_tl (by omega)]
          unfold knM
          rw [lookM_tl (by omega), lookM_tl (by omega), look_skip (fun e he => by simp at he; rcases he with rfl | rfl | rfl | rfl <;> simp <;> omega)]
          exact rds_at hlt
        by_cases hp : pr k
        · have hpv : AV.bool (dB (pr k)) = .bool true := by rw [dB_tt hp]
          repeat' (first | refine RT.nil ?_ | refine sq_n ?_ | refine Tr.seq ?_ | refine Tr.region ?_ | refine Tr.cond_t rfl ?_ | refine Tr.skip ?_ | refine Tr.ret ?_ | refine sq_r ?_ | refine Tr.block ?_ | refine blk_r ?_ | refine lp_r ?_ | (refine RT.goK rfl rfl rfl rfl ?_; refine Nx.of (S.lss_t hlt') ?_) | (refine RT.call rfl rfl rfl (val_is hpv (hf 7 9 16 k _ _ ⟨⟨h1, h2, h3, rfl, rfl, rfl, rfl, by decide, by decide⟩, hmx⟩ hlt hk5 _)) rfl rfl (Nat.le_refl _) ?_) | (refine RT.goK rfl rfl rfl rfl ?_; apply Nx.of; (first | exact S.move | exact S.assign | exact S.loadNc rfl rfl rfl rfl)))
          (first | refine rt_go rfl ?_)
          exact (fdV_at hlt hp hno).symm
        · have hpv : AV.bool (dB (pr k)) = .bool false := by rw [dB_ff hp]
          repeat' (first | refine RT.nil ?_ | refine sq_n ?_ | refine Tr.seq ?_ | refine Tr.region ?_ | refine Tr.cond_t rfl ?_ | refine Tr.cond_f rfl ?_ | refine Tr.skip ?_ | refine Tr.block ?_ | refine blk_n ?_ | (refine RT.goK rfl rfl rfl rfl ?_; refine Nx.of (S.lss_t hlt') ?_) | (refine RT.call rfl rfl rfl (val_is hpv (hf 7 9 16 k _ _ ⟨⟨h1, h2, h3, rfl, rfl, rfl, rfl, by decide, by decide⟩, hmx⟩ hlt hk5 _)) rfl rfl (Nat.le_refl _) ?_) | (refine RT.goK rfl rfl rfl rfl ?_; apply Nx.of; (first | exact S.move | exact S.assign | exact S.loadNc rfl rfl rfl rfl | exact S.add_one (by omega))))
          refine lp_n (k + 1) ⟨hlt, fun j hj => ?_⟩ (by omega) (Wk.temps (by decide) (by decide) (by decide) ⟨rfl, rfl, rfl, rfl, trivial⟩)
          rcases Nat.lt_succ_iff_lt_or_eq.1 hj with q | rfl
          · exact hno j q
          · exact hp
      · have hlt' : ¬ (k : Int) < B.nd := by omega
        repeat' (first | refine RT.nil ?_ | refine sq_n ?_ | refine Tr.seq ?_ | refine Tr.region ?_ | refine Tr.cond_f rfl ?_ | refine Tr.ret ?_ | refine Tr.exit ?_ | refine sq_x ?_ | refine blk_hit rfl ?_ | refine lp_x ?_ | (refine RT.goK rfl rfl rfl rfl ?_; refine Nx.of (S.lss_f hlt') ?_) | (refine RT.goK rfl rfl rfl rfl ?_; apply Nx.of; (first | exact S.assign)))
        (first | refine rt_go rfl ?_)
        exact (fdV_none fun j hj => hno j (by omega)).symm
  · rw [fsV_no hB]
    refine CanS.mk Try.func46 rfl rfl rfl ?_
    repeat' (first | refine RT.nil ?_ | refine sq_n ?_ | refine Tr.seq ?_ | refine Tr.region ?_ | refine Tr.cond_t rfl ?_ | refine Tr.ret ?_ | refine sq_r ?_ | (refine RT.call rfl rfl rfl (learn_no_at ⟨h1, h2, h3, rfl, rfl, rfl, by decide⟩ hn hB _ _) rfl rfl (Nat.le_refl _) ?_) | (refine RT.goK rfl rfl rfl rfl ?_; apply Nx.of; (first | exact S.move | exact S.assign | exact S.loadNc rfl rfl rfl rfl | exact S.neq | exact S.box | exact S.alloc rfl | exact S.extract rfl)) | (refine RT.goK0 rfl rfl rfl ?_; apply Nx.of; (first | exact S.store rfl rfl rfl rfl rfl rfl)))
    (first | refine rt_go rfl ?_)
    rfl
theorem first_at {B : RBook} {a1 a2 a3 : AV} {m : List (Nat × Option AObj)} {c : Nat} (h : BkIn B a1 a2 a3 m c) (hn : B.nd ≤ 9223372036854775807) (f : Nat) (pr : Nat → Prop) (hf : DayOK B a1 a2 a3 f pr) (fl : Nat) : OkAt 0 Try.prog fl 46 [bk B a1 a2 a3, .fn f [] []] (ofM m) c (fsV B pr) (ofM m) c :=
  (first_can B a1 a2 a3 h.h1 h.h2 h.h3 hn f pr hf).pure (fsV_pl _ _) (h.entry _ fun _ => rfl) fl
/-- At a day's end all layers surely are bound, or perhaps. -/
abbrev sureP (B : RBook) (d : Nat) : Prop := rdC d (Wn B) (B.nl, 0) = (Wn B).length
abbrev mayP (B : RBook) (d : Nat) : Prop := 0 < rdC d (Wn B) (B.nl, 0)
theorem dB_de {p : Prop} [Decidable p] : decide p = dB p := by
  by_cases h : p
  · rw [dB_tt h, decide_eq_true h]
  · rw [dB_ff h, decide_eq_false h]
theorem sure_ok (B : RBook) (a1 a2 a3 : AV) : DayOK B a1 a2 a3 47 (sureP B) := fun p q x d m c h hd hd5 fl => val_is (congrArg AV.bool (dB_de (p := rdC d (Wn B) (B.nl, 0) = (Wn B).length))) (surely_at h hd hd5 fl)
theorem may_ok (B : RBook) (a1 a2 a3 : AV) : DayOK B a1 a2 a3 49 (mayP B) := fun p q x d m c h hd hd5 fl => val_is (congrArg AV.bool (dB_de (p := 0 < rdC d (Wn B) (B.nl, 0)))) (may_at h hd hd5 fl)
set_option maxRecDepth 100000 in
theorem Done_can (B : RBook) (a1 a2 a3 : AV) (h1 : IsSl a1 B.nl 0) (h2 : IsSl a2 B.nd 1) (h3 : IsSl a3 B.nk 2) (hn : B.nd ≤ 9223372036854775807) : CanS 0 Try.prog 15 3 [bk B a1 a2 a3] [(0, some (oLa B)), (1, some (oDa B)), (2, some (oLo B))] 3 fun v _ _ => v = fsV B (sureP B) := by
  refine CanS.mk Try.func15 rfl rfl rfl ?_
  obtain ⟨u, w, hv⟩ : ∃ u w : Int, fsV B (sureP B) = .tup [.int .i64 u, .int .i64 w] := by
    unfold fsV fdV
    (repeat' split) <;> exact ⟨_, _, rfl⟩
  rw [hv]
  repeat' (first | refine RT.nil ?_ | refine sq_n ?_ | refine Tr.seq ?_ | refine Tr.region ?_ | refine Tr.ret ?_ | (refine RT.call rfl rfl rfl (val_is hv (first_at ⟨h1, h2, h3, rfl, rfl, rfl, by decide⟩ hn _ _ (sure_ok B a1 a2 a3) _)) rfl rfl (Nat.le_refl _) ?_) | (refine RT.goK rfl rfl rfl rfl ?_; apply Nx.of; (first | exact S.assign | exact S.loadNc rfl rfl rfl rfl | exact S.box | exact S.extract rfl)))
  (first | refine rt_go rfl ?_)
  rfl
set_option maxRecDepth 100000 in
theorem Perhaps_can (B : RBook) (a1 a2 a3 : AV) (h1 : IsSl a1 B.nl 0) (h2 : IsSl a2 B.nd 1) (h3 : IsSl a3 B.nk 2) (hn : B.nd ≤ 9223372036854775807) : CanS 0 Try.prog 17 3 [bk B a1 a2 a3] [(0, some (oLa B)), (1, some (oDa B)), (2, some (oLo B))] 3 fun v _ _ => v = fsV B (mayP B) := by
  refine CanS.mk Try.func17 rfl rfl rfl ?_
  obtain ⟨u, w, hv⟩ : ∃ u w : Int, fsV B (mayP B) = .tup [.int .i64 u, .int .i64 w] := by
    unfold fsV fdV
    (repeat' split) <;> exact ⟨_, _, rfl⟩
  rw [hv]
  repeat' (first | refine RT.nil ?_ | refine sq_n ?_ | refine Tr.seq ?_ | refine Tr.region ?_ | refine Tr.ret ?_ | (refine RT.call rfl rfl rfl (val_is hv (first_at ⟨h1, h2, h3, rfl, rfl, rfl, by decide⟩ hn _ _ (may_ok B a1 a2 a3) _)) rfl rfl (Nat.le_refl _) ?_) | (refine RT.goK rfl rfl rfl rfl ?_; apply Nx.of; (first | exact S.assign | exact S.loadNc rfl rfl rfl rfl | exact S.box | exact S.extract rfl)))
  (first | refine rt_go rfl ?_)
  rfl
end Go.Proofs.Ytjnckbefajfgbaa

/- Package roll: when all layers are bound: plain facts. -/
namespace Go.Proofs.Ytjnckbefajfgbaa
open Go Go.Ev

theorem pas_keepR {B : RBook} {t : Tru} {d j : Nat} (h : j ≠ d) : (pasT B t d).er j = t.er j := by
  have key : ∀ (u : Tru) (rb : Nat) (rr : Int), (passN B u d rb rr).er j = u.er j := fun u rb rr => by
    unfold passN
    (repeat' split) <;> exact upd_ne h
  unfold pasT
  by_cases hd : befB t d = B.nl ∧ befR t d = 0
  · rw [dB_tt hd, cond_true]
    exact upd_ne h
  · rw [dB_ff hd, cond_false, key]
    by_cases hl : t.la (befB t d).toNat = t.lo (befB t d).toNat
    · rw [dB_tt hl]; rfl
    · rw [dB_ff hl]; rfl
theorem er_keep {B : RBook} : ∀ {k d j : Nat} {t u : Tru}, u ∈ trs B k d t → j < d → u.er j = t.er j
  | 0, d, j, t, u, h, _ => by rw [List.mem_singleton.1 h]
  | k + 1, d, j, t, u, h, hj => by
    obtain ⟨n, _, sk, _, _, hu⟩ := mem_step.1 h
    rw [er_keep hu (by omega)]
    exact pas_keepR (t := (t.setW d n).setS d (sk : Int)) (by omega)
theorem trs_done {B : RBook} (hB : bkOk B) : ∀ {k d : Nat} {t u : Tru}, d + k = B.nd → LvOk B t d → u ∈ trs B k d t → ∀ j, d ≤ j → j < B.nd → u.eb j = B.nl → u.er j = 0
  | 0, d, t, u, he, _, _, j, h1, h2 => absurd h2 (by omega)
  | k + 1, d, t, u, he, hl, hu, j, hj1, hj2 => by
    obtain ⟨n, hn, sk, hs, _, hu⟩ := mem_step.1 hu
    have hnd := hB.2.1.1.2
    have hda := hB.2.1.2 d (by omega)
    unfold daOk at hda
    have hn2 : 0 ≤ n ∧ n ≤ 20 := by
      unfold ints at hn
      obtain ⟨i, hi, rfl⟩ := List.mem_map.1 hn
      have := List.mem_range.1 hi
      omega
    have hs2 : sk < 3 := List.mem_range.1 hs
    rcases Nat.lt_or_ge d j with hdj | hdj
    · exact trs_done hB (by omega) (hl.next hB (by omega) hn2 hs2) hu j (by omega) hj2
    · obtain rfl : j = d := by omega
      obtain ⟨_, _, g3, _⟩ := pas_e hB (hl.pas (show j < 5 by omega) hn2 hs2) hl.r.2
      rw [eb_keep hu (Nat.lt_succ_self j), er_keep hu (Nat.lt_succ_self j)]
      exact g3
theorem norm_er {t : Tru} {j : Nat} (h : j < 5) : (norm t).er j = t.er j := by rcases lt5 h with rfl | rfl | rfl | rfl | rfl <;> rfl
theorem wn_done {B : RBook} (hB : bkOk B) {t : Tru} (ht : t ∈ Wn B) {j : Nat} (hj : j < B.nd) : endK j t = ((B.nl : Int), 0) ↔ t.eb j = B.nl := by
  obtain ⟨u, hu, rfl⟩ := List.mem_map.1 ht
  have hnd := hB.2.1.1.2
  have := trs_done hB (k := B.nd) (d := 0) (t := tru0) (u := u) (by omega) (lv0 hB) hu j (Nat.zero_le _) hj
  unfold endK
  rw [norm_eb (show j < 5 by omega), norm_er (show j < 5 by omega)]
  exact ⟨fun h => congrArg Prod.fst h, fun h => by rw [h, this h]⟩
theorem sure_iff {B : RBook} (hB : bkOk B) {j : Nat} (hj : j < B.nd) : sureP B j ↔ ∀ t ∈ Wn B, t.eb j = B.nl := by
  unfold sureP rdC
  constructor
  · intro h t ht
    have hl : ((Wn B).filter fun t => decide (endK j t = ((B.nl : Int), 0))).length = (Wn B).length := by omega
    have := List.length_filter_eq_length_iff.1 hl t ht
    exact (wn_done hB ht hj).1 (of_decide_eq_true this)
  · intro h
    rw [List.filter_eq_self.2 fun t ht => decide_eq_true ((wn_done hB ht hj).2 (h t ht))]
theorem may_iff {B : RBook} (hB : bkOk B) {j : Nat} (hj : j < B.nd) : mayP B j ↔ ∃ t ∈ Wn B, t.eb j = B.nl := by
  unfold mayP rdC
  constructor
  · intro h
    have hp : 0 < ((Wn B).filter fun t => decide (endK j t = ((B.nl : Int), 0))).length := by omega
    obtain ⟨t, ht⟩ := List.exists_mem_of_ne_nil _ (List.length_pos_iff.1 hp)
    obtain ⟨h1, h2⟩ := List.mem_filter.1 ht
    exact ⟨t, h1, (wn_done hB h1 hj).1 (of_decide_eq_true h2)⟩
  · rintro ⟨t, h1, h2⟩
    have : t ∈ (Wn B).filter fun t => decide (endK j t = ((B.nl : Int), 0)) := List.mem_filter.2 ⟨h1, decide_eq_true ((wn_done hB h1 hj).2 h2)⟩
    have := List.length_pos_of_mem this
    omega
theorem first_case (pr : Nat → Prop) (n : Nat) : (∃ d, d < n ∧ pr d ∧ (∀ j, j < d → ¬ pr j)) ∨ ∀ j, j < n → ¬ pr j := by
  induction n with
  | zero => exact .inr fun j h => absurd h (Nat.not_lt_zero j)
  | succ n ih =>
    rcases ih with ⟨d, h1, h2, h3⟩ | h
    · exact .inl ⟨d, by omega, h2, h3⟩
    · by_cases q : pr n
      · exact .inl ⟨n, by omega, q, h⟩
      · refine .inr fun j hj => ?_
        rcases Nat.lt_succ_iff_lt_or_eq.1 hj with k | rfl
        · exact h j k
        · exact q
end Go.Proofs.Ytjnckbefajfgbaa

/- Package roll: Bound, Done, Perhaps of a book whose lists lie anywhere; what wagons and skies of two books do. -/
namespace Go.Proofs.Ytjnckbefajfgbaa
open Go Go.Ev

theorem Bound_x {B : RBook} {v1 v2 v3 : AV} {m : List (Nat × Option AObj)} {c : Nat} (h : BkX B v1 v2 v3 m c) (hn : B.nd ≤ 9223372036854775807) (d : Int) (fl : Nat) : OkAt 0 Try.prog fl 28 [bk B v1 v2 v3, .int .i64 d] (ofM m) c (spV B (dyQ B d) (fun t => t.eb d.toNat)) (ofM m) c :=
  h.use [.int .i64 d] (fun _ => rfl) (spV_pl _ _ _) (fun a1 a2 a3 i1 i2 i3 => Bound_can B a1 a2 a3 i1 i2 i3 hn d) fl
theorem Done_x {B : RBook} {v1 v2 v3 : AV} {m : List (Nat × Option AObj)} {c : Nat} (h : BkX B v1 v2 v3 m c) (hn : B.nd ≤ 9223372036854775807) (fl : Nat) : OkAt 0 Try.prog fl 15 [bk B v1 v2 v3] (ofM m) c (fsV B (sureP B)) (ofM m) c :=
  h.use [] .nil (fsV_pl _ _) (fun a1 a2 a3 i1 i2 i3 => Done_can B a1 a2 a3 i1 i2 i3 hn) fl
theorem Perhaps_x {B : RBook} {v1 v2 v3 : AV} {m : List (Nat × Option AObj)} {c : Nat} (h : BkX B v1 v2 v3 m c) (hn : B.nd ≤ 9223372036854775807) (fl : Nat) : OkAt 0 Try.prog fl 17 [bk B v1 v2 v3] (ofM m) c (fsV B (mayP B)) (ofM m) c :=
  h.use [] .nil (fsV_pl _ _) (fun a1 a2 a3 i1 i2 i3 => Perhaps_can B a1 a2 a3 i1 i2 i3 hn) fl

/-- What a day makes of a road: layers bound, wagons on the next. -/
noncomputable def stB (B : RBook) (b r n : Int) (sk : Nat) : Int := if b = B.nl ∧ r = 0 then b else if sk = 1 then rolB (B.nee b.toNat) b r n else b
noncomputable def stR (B : RBook) (b r n : Int) (sk : Nat) : Int := if b = B.nl ∧ r = 0 then r else if sk = 0 then r else if sk = 1 then rolR (B.nee b.toNat) b r n else 0
theorem nx_st {B : RBook} {t : Tru} {d sk : Nat} {n : Int} (h : 0 ≤ befB t d) (hs : sk < 3) : (nxT B t d n sk).eb d = stB B (befB t d) (befR t d) n sk ∧ (nxT B t d n sk).er d = stR B (befB t d) (befR t d) n sk := by
  obtain ⟨rb, hrb⟩ := Int.eq_ofNat_of_zero_le h
  have key : ∀ (u : Tru) (rr : Int), u.s d = (sk : Int) → u.w d = n → (passN B u d rb rr).eb d = (if sk = 1 then rolB (B.nee rb) rb rr n else rb) ∧ (passN B u d rb rr).er d = (if sk = 0 then rr else if sk = 1 then rolR (B.nee rb) rb rr n else 0) := fun u rr h1 h2 => by
    unfold passN
    rw [h1]
    obtain rfl | rfl | rfl : sk = 0 ∨ sk = 1 ∨ sk = 2 := by omega
    · exact ⟨upd_at, upd_at⟩
    · refine ⟨Eq.trans (upd_at) ?_, Eq.trans (upd_at) ?_⟩
      · show rolB _ _ _ (u.w d) = _; rw [h2]; rfl
      · show rolR _ _ _ (u.w d) = _; rw [h2]; rfl
    · exact ⟨upd_at, upd_at⟩
  unfold nxT pasT stB stR
  show (bif dB (befB t d = B.nl ∧ befR t d = 0) then _ else _ : Tru).eb d = _ ∧ (bif dB (befB t d = B.nl ∧ befR t d = 0) then _ else _ : Tru).er d = _
  by_cases hd : befB t d = B.nl ∧ befR t d = 0
  · rw [dB_tt hd, cond_true, if_pos hd, if_pos hd]
    exact ⟨upd_at, upd_at⟩
  · rw [dB_ff hd, cond_false, if_neg hd, if_neg hd]
    show (passN B _ d (befB t d).toNat (befR t d)).eb d = _ ∧ (passN B _ d (befB t d).toNat (befR t d)).er d = _
    rw [hrb, Int.toNat_natCast]
    refine key _ _ ?_ ?_
    · by_cases hl : ((t.setW d n).setS d (sk : Int)).la (befB ((t.setW d n).setS d (sk : Int)) d).toNat = ((t.setW d n).setS d (sk : Int)).lo (befB ((t.setW d n).setS d (sk : Int)) d).toNat
      · rw [dB_tt hl, cond_true]; exact upd_at
      · rw [dB_ff hl, cond_false]; exact upd_at
    · by_cases hl : ((t.setW d n).setS d (sk : Int)).la (befB ((t.setW d n).setS d (sk : Int)) d).toNat = ((t.setW d n).setS d (sk : Int)).lo (befB ((t.setW d n).setS d (sk : Int)) d).toNat
      · rw [dB_tt hl, cond_true]; exact upd_at
      · rw [dB_ff hl, cond_false]; exact upd_at
/-- A day on before which something was laid. -/
def LaOk (t : Tru) (d : Nat) : Prop := (d = 0 → noLa t ∧ t.lo 0 = 0) ∧ (1 ≤ d → 1 ≤ t.la 0)
theorem la_next {B : RBook} (hB : bkOk B) {t : Tru} {d sk : Nat} {n : Int} (h : LaOk t d) (hl : LvOk B t d) (hd : d < 5) (hn : 0 ≤ n ∧ n ≤ 20) (hs : sk < 3) : LaOk (nxT B t d n sk) (d + 1) := by
  refine ⟨fun q => absurd q (by omega), fun _ => ?_⟩
  have hpo := hl.pas hd hn hs
  obtain ⟨_, _, _, g4⟩ := pas_e hB hpo hl.r.2
  rcases Nat.eq_zero_or_pos d with rfl | hd
  · exact pas_first hB.1.1.1 (h.1 rfl).1 (h.1 rfl).2
  · have a := (g4 0).1
    have b := h.2 hd
    have e : ((t.setW d n).setS d (sk : Int)).la 0 = t.la 0 := rfl
    rw [e] at a
    show 1 ≤ (pasT B _ d).la 0
    omega
theorem bef_next {B : RBook} {t : Tru} {d sk : Nat} {n : Int} (h : LaOk (nxT B t d n sk) (d + 1)) : befB (nxT B t d n sk) (d + 1) = (nxT B t d n sk).eb d ∧ befR (nxT B t d n sk) (d + 1) = (nxT B t d n sk).er d := by
  have h1 := h.2 (by omega)
  have h2 : ¬ noLa (nxT B t d n sk) := fun q => by have := q.1; omega
  unfold befB befR
  rw [dB_ff h2, Nat.add_sub_cancel]
  exact ⟨rfl, rfl⟩
/-- The road of a book, as far as it may be. -/
structure RdOk (B : RBook) (x y : Int) : Prop where
  b : 0 ≤ x ∧ x ≤ B.nl
  r : 0 ≤ y ∧ y ≤ 30
  z : x = B.nl → y = 0
theorem mem_ints {a b n : Int} : n ∈ ints a b ↔ a ≤ n ∧ n ≤ b := by
  unfold ints
  rw [List.mem_map]
  constructor
  · rintro ⟨k, hk, rfl⟩
    have := List.mem_range.1 hk
    omega
  · rintro ⟨h1, h2⟩
    exact ⟨(n - a).toNat, List.mem_range.2 (by omega), by omega⟩
theorem wg_bd {B : RBook} (hB : bkOk B) {d : Nat} (hd : d < B.nd) {n : Int} (hn : n ∈ ints (B.wl d) (B.wh d)) : 0 ≤ n ∧ n ≤ 20 := by
  have h1 := hB.2.1.2 d hd
  unfold daOk at h1
  have := mem_ints.1 hn
  omega
/-- One book follows another, day by day. -/
theorem sim {X Y : RBook} (R : Nat → Int → Int → Int → Int → Prop) (hX : bkOk X) (hY : bkOk Y) (hd : X.nd = Y.nd) (hYk : Y.nk = 0)
    (hs : ∀ d, d < X.nd → ∀ b r b' r', RdOk X b r → RdOk Y b' r' → R d b r b' r' → ∀ n ∈ ints (X.wl d) (X.wh d), ∀ sk, sk < 3 → hasP (X.sky d) sk → ∃ n' ∈ ints (Y.wl d) (Y.wh d), ∃ sk', sk' < 3 ∧ hasP (Y.sky d) sk' ∧ R (d + 1) (stB X b r n sk) (stR X b r n sk) (stB Y b' r' n' sk') (stR Y b' r' n' sk')) :
    ∀ (k d : Nat) (t t' u : Tru), d + k = X.nd → LvOk X t d → LvOk Y t' d → LaOk t d → LaOk t' d → R d (befB t d) (befR t d) (befB t' d) (befR t' d) → u ∈ trs X k d t → ∃ u' ∈ trs Y k d t', ∀ j, d ≤ j → j < X.nd → R (j + 1) (u.eb j) (u.er j) (u'.eb j) (u'.er j)
  | 0, d, t, t', u, he, _, _, _, _, _, _ => ⟨t', List.mem_singleton_self _, fun j h1 h2 => absurd h2 (by omega)⟩
  | k + 1, d, t, t', u, he, l1, l2, q1, q2, hR, hu => by
    obtain ⟨n, hn, sk, hsk, ⟨hh, _⟩, hu⟩ := mem_step.1 hu
    have hsk := List.mem_range.1 hsk
    have h5 := hX.2.1.1.2
    obtain ⟨n', hn', sk', hsk', hh', hR'⟩ := hs d (by omega) _ _ _ _ ⟨l1.b, l1.r, l1.z⟩ ⟨l2.b, l2.r, l2.z⟩ hR n hn sk hsk hh
    have b1 := wg_bd hX (show d < X.nd by omega) hn
    have b2 := wg_bd hY (show d < Y.nd by omega) hn'
    have e1 := nx_st (B := X) (n := n) l1.b.1 hsk
    have e2 := nx_st (B := Y) (n := n') l2.b.1 hsk'
    have q1' := la_next hX q1 l1 (by omega) b1 hsk
    have q2' := la_next hY q2 l2 (by omega) b2 hsk'
    have f1 := bef_next q1'
    have f2 := bef_next q2'
    have hR2 : R (d + 1) ((nxT X t d n sk).eb d) ((nxT X t d n sk).er d) ((nxT Y t' d n' sk').eb d) ((nxT Y t' d n' sk').er d) := by rw [e1.1, e1.2, e2.1, e2.2]; exact hR'
    obtain ⟨u', hu', hr⟩ := sim R hX hY hd hYk hs k (d + 1) _ _ u (by omega) (l1.next hX (by omega) b1 hsk) (l2.next hY (by omega) b2 hsk') q1' q2' (by rw [f1.1, f1.2, f2.1, f2.2]; exact hR2) hu
    refine ⟨u', mem_step.2 ⟨n', hn', sk', List.mem_range.2 hsk', ⟨hh', fun i hi => absurd hi (by omega)⟩, hu'⟩, fun j h1 h2 => ?_⟩
    rcases Nat.lt_or_ge d j with h | h
    · exact hr j h h2
    · obtain rfl : j = d := by omega
      rw [eb_keep hu (Nat.lt_succ_self j), er_keep hu (Nat.lt_succ_self j), eb_keep hu' (Nat.lt_succ_self j), er_keep hu' (Nat.lt_succ_self j)]
      exact hR2
theorem wn_sim {X Y : RBook} (R : Nat → Int → Int → Int → Int → Prop) (hX : bkOk X) (hY : bkOk Y) (hd : X.nd = Y.nd) (hYk : Y.nk = 0) (h0 : R 0 0 0 0 0)
    (hs : ∀ d, d < X.nd → ∀ b r b' r', RdOk X b r → RdOk Y b' r' → R d b r b' r' → ∀ n ∈ ints (X.wl d) (X.wh d), ∀ sk, sk < 3 → hasP (X.sky d) sk → ∃ n' ∈ ints (Y.wl d) (Y.wh d), ∃ sk', sk' < 3 ∧ hasP (Y.sky d) sk' ∧ R (d + 1) (stB X b r n sk) (stR X b r n sk) (stB Y b' r' n' sk') (stR Y b' r' n' sk'))
    {t : Tru} (ht : t ∈ Wn X) : ∃ t' ∈ Wn Y, ∀ j, j < X.nd → R (j + 1) (t.eb j) (t.er j) (t'.eb j) (t'.er j) := by
  obtain ⟨u, hu, rfl⟩ := List.mem_map.1 ht
  have hz : noLa tru0 := ⟨rfl, rfl, rfl, rfl⟩
  have e1 : befB tru0 0 = 0 := by unfold befB; rw [dB_tt hz]; rfl
  have e2 : befR tru0 0 = 0 := by unfold befR; rw [dB_tt hz]; rfl
  have la0 : LaOk tru0 0 := ⟨fun _ => ⟨hz, rfl⟩, fun h => absurd h (by omega)⟩
  obtain ⟨u', hu', hr⟩ := sim R hX hY hd hYk hs X.nd 0 tru0 tru0 u (by omega) (lv0 hX) (lv0 hY) la0 la0 (by rw [e1, e2]; exact h0) hu
  rw [hd] at hu'
  have h5 := hX.2.1.1.2
  refine ⟨norm u', List.mem_map.2 ⟨u', hu', rfl⟩, fun j hj => ?_⟩
  rw [norm_eb (by omega), norm_eb (by omega), norm_er (by omega), norm_er (by omega)]
  exact hr j (Nat.zero_le _) hj
end Go.Proofs.Ytjnckbefajfgbaa

/- RollPass: a wagon more on a day: plain facts. -/
namespace Go.Proofs.Ytjnckbefajfgbaa
open Go Go.Ev

/-- A book without looks, with other wagons on a day. -/
def psB (B : RBook) (e : Nat) (lo hi : Int) : RBook := { B with nk := 0, wl := upd B.wl e lo, wh := upd B.wh e hi }
def upR (e d : Nat) (b r b' r' : Int) : Prop := (b < b' ∨ b = b' ∧ r ≤ r') ∧ (d ≤ e → b = b' ∧ r = r')
theorem st_up {X Y : RBook} (hl : X.nl = Y.nl) (hn : X.nee = Y.nee) {e d sk : Nat} {b r b' r' n n' : Int} (h1 : RdOk X b r) (h2 : RdOk Y b' r') (h : upR e d b r b' r') (h0 : 0 ≤ n) (hnn : n ≤ n') (heq : d < e → n = n') (hs : sk < 3) : upR e (d + 1) (stB X b r n sk) (stR X b r n sk) (stB Y b' r' n' sk) (stR Y b' r' n' sk) := by
  obtain ⟨h, hq⟩ := h
  have hb := h1.b
  have hr := h1.r
  have hz := h1.z
  have hb' := h2.b
  have hr' := h2.r
  have hz' := h2.z
  rw [← hl] at hb' hz'
  refine ⟨?_, fun hd => ?_⟩
  · unfold stB stR rolB rolR
    rw [← hl, ← hn]
    have key : ∀ p : Prop, dB p = true ∧ p ∨ dB p = false ∧ ¬ p := fun p => by
      by_cases q : p
      · exact .inl ⟨dB_tt q, q⟩
      · exact .inr ⟨dB_ff q, q⟩
    obtain rfl | rfl | rfl : sk = 0 ∨ sk = 1 ∨ sk = 2 := by omega
    · simp only [show ¬ (0 : Nat) = 1 by decide, if_false, if_true]
      split <;> split <;> omega
    · simp only [show ¬ (1 : Nat) = 0 by decide, if_false, if_true]
      rcases h with h | ⟨rfl, h⟩
      · rcases key (X.nee b.toNat ≤ r + n) with ⟨k1, k1'⟩ | ⟨k1, k1'⟩ <;> rcases key (X.nee b'.toNat ≤ r' + n') with ⟨k2, k2'⟩ | ⟨k2, k2'⟩ <;> rw [k1, k2] <;> simp only [cond_true, cond_false] <;> split <;> split <;> omega
      · rcases key (X.nee b.toNat ≤ r + n) with ⟨k1, k1'⟩ | ⟨k1, k1'⟩ <;> rcases key (X.nee b.toNat ≤ r' + n') with ⟨k2, k2'⟩ | ⟨k2, k2'⟩ <;> rw [k1, k2] <;> simp only [cond_true, cond_false] <;> split <;> split <;> omega
    · simp only [show ¬ (2 : Nat) = 1 by decide, show ¬ (2 : Nat) = 0 by decide, if_false]
      split <;> split <;> omega
  · obtain ⟨rfl, rfl⟩ := hq (by omega)
    rw [heq (by omega)]
    unfold stB stR
    rw [← hl, ← hn]
    exact ⟨rfl, rfl⟩
/-- Whatever was true has its like with a wagon more, and the other way round. -/
theorem ps_up {B : RBook} {e : Nat} {lo hi : Int} (hB : bkOk (ncB B)) (hP : bkOk (psB B e lo hi)) (h1 : B.wl e ≤ lo) (h2 : B.wh e ≤ hi) {t : Tru} (ht : t ∈ Wn (ncB B)) : ∃ t' ∈ Wn (psB B e lo hi), ∀ j, j < B.nd → t.eb j ≤ t'.eb j ∧ (j < e → t.eb j = t'.eb j) := by
  obtain ⟨t', ht', hr⟩ := wn_sim (X := ncB B) (Y := psB B e lo hi) (upR e) hB hP rfl rfl ⟨.inr ⟨rfl, Int.le_refl _⟩, fun _ => ⟨rfl, rfl⟩⟩ (fun d hd b r b' r' q1 q2 hR n hn sk hs hh => by
    have hda := hP.2.1.2 d hd
    unfold daOk at hda
    have hn2 : B.wl d ≤ n ∧ n ≤ B.wh d := mem_ints.1 hn
    have hb := wg_bd hB hd hn
    by_cases hde : d = e
    · subst hde
      have e1 : (psB B d lo hi).wl d = lo := upd_at
      have e2 : (psB B d lo hi).wh d = hi := upd_at
      rw [e1, e2] at hda
      rcases Int.le_total lo n with q | q
      · exact ⟨n, mem_ints.2 (by rw [e1, e2]; omega), sk, hs, hh, st_up (X := ncB B) (Y := psB B d lo hi) (n' := n) rfl rfl q1 q2 hR hb.1 (Int.le_refl _) (fun _ => rfl) hs⟩
      · exact ⟨lo, mem_ints.2 (by rw [e1, e2]; omega), sk, hs, hh, st_up (X := ncB B) (Y := psB B d lo hi) (n' := lo) rfl rfl q1 q2 hR hb.1 q (fun h => absurd h (by omega)) hs⟩
    · have e1 : (psB B e lo hi).wl d = B.wl d := upd_ne hde
      have e2 : (psB B e lo hi).wh d = B.wh d := upd_ne hde
      exact ⟨n, mem_ints.2 (by rw [e1, e2]; omega), sk, hs, hh, st_up (X := ncB B) (Y := psB B e lo hi) (n' := n) rfl rfl q1 q2 hR hb.1 (Int.le_refl _) (fun _ => rfl) hs⟩) ht
  refine ⟨t', ht', fun j hj => ?_⟩
  obtain ⟨a, b⟩ := hr j hj
  exact ⟨by omega, fun h => (b (by omega)).1⟩
theorem ps_down {B : RBook} {e : Nat} {lo hi : Int} (hB : bkOk (ncB B)) (hP : bkOk (psB B e lo hi)) (h1 : B.wl e ≤ lo) (h2 : B.wh e ≤ hi) {t : Tru} (ht : t ∈ Wn (psB B e lo hi)) : ∃ t' ∈ Wn (ncB B), ∀ j, j < B.nd → t'.eb j ≤ t.eb j ∧ (j < e → t'.eb j = t.eb j) := by
  obtain ⟨t', ht', hr⟩ := wn_sim (X := psB B e lo hi) (Y := ncB B) (fun d b r b' r' => upR e d b' r' b r) hP hB rfl rfl ⟨.inr ⟨rfl, Int.le_refl _⟩, fun _ => ⟨rfl, rfl⟩⟩ (fun d hd b r b' r' q1 q2 hR n hn sk hs hh => by
    have hda := hB.2.1.2 d hd
    unfold daOk at hda
    replace hda : (0 ≤ B.wl d ∧ B.wl d ≤ 20) ∧ (B.wl d ≤ B.wh d ∧ B.wh d ≤ 20) ∧ B.wh d - B.wl d ≤ 1 := hda.1
    have hb := wg_bd hP hd hn
    by_cases hde : d = e
    · subst hde
      have e1 : (psB B d lo hi).wl d = lo := upd_at
      have e2 : (psB B d lo hi).wh d = hi := upd_at
      have hn2 := mem_ints.1 hn
      rw [e1, e2] at hn2
      rcases Int.le_total n (B.wh d) with q | q
      · exact ⟨n, mem_ints.2 (show B.wl d ≤ n ∧ n ≤ B.wh d by omega), sk, hs, hh, st_up (X := ncB B) (Y := psB B d lo hi) (n' := n) rfl rfl q2 q1 hR hb.1 (Int.le_refl _) (fun _ => rfl) hs⟩
      · exact ⟨B.wh d, mem_ints.2 (show B.wl d ≤ B.wh d ∧ B.wh d ≤ B.wh d by omega), sk, hs, hh, st_up (X := ncB B) (Y := psB B d lo hi) (n := B.wh d) rfl rfl q2 q1 hR (by omega) q (fun h => absurd h (by omega)) hs⟩
    · have e1 : (psB B e lo hi).wl d = B.wl d := upd_ne hde
      have e2 : (psB B e lo hi).wh d = B.wh d := upd_ne hde
      have hn2 := mem_ints.1 hn
      rw [e1, e2] at hn2
      exact ⟨n, mem_ints.2 hn2, sk, hs, hh, st_up (X := ncB B) (Y := psB B e lo hi) (n' := n) rfl rfl q2 q1 hR hb.1 (Int.le_refl _) (fun _ => rfl) hs⟩) ht
  refine ⟨t', ht', fun j hj => ?_⟩
  obtain ⟨a, b⟩ := hr j hj
  exact ⟨by omega, fun h => (b (by omega)).1⟩
theorem nc_ok {B : RBook} (hB : bkOk B) : bkOk (ncB B) := ⟨hB.1, hB.2.1, Nat.zero_le _, fun i hi => absurd hi (Nat.not_lt_zero i)⟩
theorem ps_ok {B : RBook} (hB : bkOk B) {e : Nat} (he : e < B.nd) : bkOk (psB B e (min (min 20 (B.wh e + 1)) (B.wl e + 1)) (min 20 (B.wh e + 1))) := by
  refine ⟨hB.1, ⟨hB.2.1.1, fun d hd => ?_⟩, Nat.zero_le _, fun i hi => absurd hi (Nat.not_lt_zero i)⟩
  have h := hB.2.1.2 d hd
  unfold daOk at h ⊢
  show ((0 ≤ upd B.wl e _ d ∧ upd B.wl e _ d ≤ 20) ∧ (upd B.wl e _ d ≤ upd B.wh e _ d ∧ upd B.wh e _ d ≤ 20) ∧ upd B.wh e _ d - upd B.wl e _ d ≤ 1) ∧ 1 ≤ B.sky d ∧ B.sky d ≤ 7
  by_cases hde : d = e
  · subst hde
    rw [upd_at, upd_at]
    omega
  · rw [upd_ne hde, upd_ne hde]
    exact h
theorem wn_ne {B : RBook} (hB : bkOk B) (h0 : B.nk = 0) : Wn B ≠ [] := by
  obtain ⟨nl, nee, yar, nd, wl, wh, sky, nk, ld, lb⟩ := B
  subst h0
  intro e
  exact nc_ne hB (List.map_eq_nil_iff.1 e)
end Go.Proofs.Ytjnckbefajfgbaa

/- RollPass: the law's walk. -/
namespace Go.Proofs.Ytjnckbefajfgbaa
open Go Go.Ev

/-- The chapter's examples say true. -/
abbrev BillOK : Prop := CanS 0 Try.prog 21 0 [] [] 0 fun v _ _ => v = .bool true
theorem sound_t {B : RBook} {a1 a2 a3 : AV} {m : List (Nat × Option AObj)} {c : Nat} (h : BkIn B a1 a2 a3 m c) (hn : B.nd ≤ 9223372036854775807) (hB : bkOk B) (fl : Nat) : OkAt 0 Try.prog fl 22 [bk B a1 a2 a3] (ofM m) c (.bool true) (ofM m) c :=
  (sound_yes B a1 a2 a3 h.h1 h.h2 h.h3 hn hB).pure (.bool _) (h.entry [] .nil) fl
theorem sound_f {B : RBook} {a1 a2 a3 : AV} {m : List (Nat × Option AObj)} {c : Nat} (h : BkIn B a1 a2 a3 m c) (hn : B.nd ≤ 9223372036854775807) (hB : ¬ bkOk B) (fl : Nat) : OkAt 0 Try.prog fl 22 [bk B a1 a2 a3] (ofM m) c (.bool false) (ofM m) c :=
  (sound_no B a1 a2 a3 h.h1 h.h2 h.h3 hn hB).pure (.bool _) (h.entry [] .nil) fl
theorem eqSp (a b e d : Int) : eqA Try.prog 28 (.agg [.int .i64 a, .int .i64 b]) (.agg [.int .i64 e, .int .i64 d]) = some (decide (a = e ∧ b = d)) := by
  have : eqA Try.prog 28 (.agg [.int .i64 a, .int .i64 b]) (.agg [.int .i64 e, .int .i64 d]) = andV (some (decide (a = e))) (andV (some (decide (b = d))) (some true)) := by kernel_rfl
  rw [this]
  by_cases h1 : a = e <;> by_cases h2 : b = d <;> simp [andV, h1, h2]
theorem S.neqA_f {P : Program} {fl c t yt : Nat} {m : List (Nat × Option AObj)} {x1 x2 : Operand} {l1 l2 : List AV} {p : Prop} {inst : Decidable p} (h : eqA P t (.agg l1) (.agg l2) = some (@decide p inst)) (hp : p) : OpE P fl (.binOp .neq t x1 x2 yt) [.agg l1, .agg l2] m c (.bool false) m c := by
  have := S.neqA (fl := fl) (c := c) (m := m) (x1 := x1) (x2 := x2) (yt := yt) h
  rwa [show decide (¬ p) = false from decide_eq_false (fun k => k hp)] at this
/-- The book with more wagons, half done. -/
def psH (B : RBook) (e : Nat) (hi : Int) : RBook := { B with nk := 0, wh := upd B.wh e hi }
theorem ps_sp1 {B : RBook} {e : Nat} {hi : Int} (he : e < B.nd) : Go.Ev.splice (flat (daE B) (List.range B.nd)) (e * 3 + 1) [.int .i64 hi] = some (flat (daE (psH B e hi)) (List.range B.nd)) :=
  flat_splice (enc := daE B) (enc' := daE (psH B e hi)) (fun _ => rfl) he (by omega) (fun d hd => by show [_, upd B.wh e hi d, _] = _; rw [upd_ne hd]; rfl) (by show [_, upd B.wh e hi e, _] = _; rw [upd_at]; rfl)
theorem ps_sp2 {B : RBook} {e : Nat} {lo hi : Int} (he : e < B.nd) : Go.Ev.splice (flat (daE (psH B e hi)) (List.range B.nd)) (e * 3 + 0) [.int .i64 lo] = some (flat (daE (psB B e lo hi)) (List.range B.nd)) :=
  flat_splice (enc := daE (psH B e hi)) (enc' := daE (psB B e lo hi)) (fun _ => rfl) he (by omega) (fun d hd => by show [upd B.wl e lo d, _, _] = [_, _, _]; rw [upd_ne hd]; rfl) (by show [upd B.wl e lo e, _, _] = _; rw [upd_at]; rfl)
theorem bkx_nc {B : RBook} {a1 a2 : AV} {m : List (Nat × Option AObj)} {c : Nat} (h1 : IsSl a1 B.nl 0) (h2 : IsSl a2 B.nd 1) (m0 : lookM m 0 = some (oLa B)) (m1 : lookM m 1 = some (oDa B)) : BkX (ncB B) a1 a2 .nils m c :=
  BkX.of (x1 := 0) (x2 := 1) (x3 := 0) ⟨h1, _, m0, .inr rfl⟩ ⟨h2, _, m1, .inr rfl⟩ ⟨IsSl.nils 0, _, m0, .inl rfl⟩
theorem bkx_ps {B : RBook} {a1 : AV} {e x : Nat} {lo hi : Int} {m : List (Nat × Option AObj)} {c : Nat} (h1 : IsSl a1 B.nl 0) (m0 : lookM m 0 = some (oLa B)) (m1 : lookM m x = some (.grown (flat (daE (psB B e lo hi)) (List.range B.nd)) 3)) : BkX (psB B e lo hi) a1 (.gs x B.nd) .nils m c :=
  BkX.of (x1 := 0) (x2 := x) (x3 := 0) ⟨h1, _, m0, .inr rfl⟩ ⟨IsSl.gs x _, _, m1, .inr rfl⟩ ⟨IsSl.nils 0, _, m0, .inl rfl⟩
set_option format.width 260
set_option maxRecDepth 100000 in
set_option maxHeartbeats 8000000 in
theorem pass_walk (hb : BillOK) (B : RBook) (a1 a2 a3 : AV) (h1 : IsSl a1 B.nl 0) (h2 : IsSl a2 B.nd 1) (h3 : IsSl a3 B.nk 2) (hn : B.nd ≤ 9223372036854775807) (n0 n1 : Int) (e : Nat) (a sl sh tl th p q k w e1 e2 e3 e4 lo hi : Int) (hB : bkOk B) (hen : wrapV n0 B.nd = (e : Int)) (he : e < B.nd) (ha : wrapV n1 B.nd = a) (hhi : min 20 (B.wh e + 1) = hi) (hlo : min hi (B.wl e + 1) = lo)
    (hBx : spV (ncB B) (dyQ (ncB B) a) (fun t => t.eb a.toNat) = .tup [.agg [.int .i64 sl, .int .i64 sh], .int .i64 0]) (hBy : spV (psB B e lo hi) (dyQ (psB B e lo hi) a) (fun t => t.eb a.toNat) = .tup [.agg [.int .i64 tl, .int .i64 th], .int .i64 0])
    (hDx : fsV (ncB B) (sureP (ncB B)) = .tup [.int .i64 p, .int .i64 e1]) (hDy : fsV (psB B e lo hi) (sureP (psB B e lo hi)) = .tup [.int .i64 q, .int .i64 e2]) (hPx : fsV (ncB B) (mayP (ncB B)) = .tup [.int .i64 k, .int .i64 e3]) (hPy : fsV (psB B e lo hi) (mayP (psB B e lo hi)) = .tup [.int .i64 w, .int .i64 e4])
    (hle : sl ≤ tl ∧ sh ≤ th) (hEq : a < e → tl = sl ∧ th = sh) (hD : e1 = 4 ∨ e1 = 0 ∧ e2 = 0 ∧ q ≤ p) (hP : e3 = 4 ∨ e3 = 0 ∧ e4 = 0 ∧ w ≤ k) : CanS 0 Try.prog 10 3 [bk B a1 a2 a3, .agg [.int .i64 n0, .int .i64 n1]] [(0, some (oLa B)), (1, some (oDa B)), (2, some (oLo B))] 3 fun v _ _ => v = .bool true := by
  have hnl := hB.1.1
  have hnd := hB.2.1.1
  have hwd := hB.2.1.2 e he
  unfold daOk at hwd
  have hfl : (flat (daE B) (List.range B.nd)).length = B.nd * 3 := by rw [flat_len (s := 3) (fun _ => rfl), List.length_range]
  have hs := IsSl.gs 8 B.nd
  have hsp1 := ps_sp1 (B := B) (hi := hi) he
  have hsp2 := ps_sp2 (B := B) (lo := lo) (hi := hi) he
  have hwh : (daE (psH B e hi) e)[1]? = some hi := by show some (upd B.wh e hi e) = _; rw [upd_at]
  have hwl : (daE (psH B e hi) e)[0]? = some (B.wl e) := rfl
  have hwb : (daE B e)[1]? = some (B.wh e) := rfl
  have hEq' : a < e → sl = tl ∧ sh = th := fun h => ⟨(hEq h).1.symm, (hEq h).2.symm⟩
  refine CanS.mk Try.func10 rfl rfl rfl ?_
  repeat' (first | refine RT.nil ?_ | refine sq_n ?_ | refine Tr.seq ?_ | refine Tr.region ?_ | refine Tr.cond_f rfl ?_ | refine Tr.skip ?_ | (refine RT.call rfl rfl rfl (sound_t ⟨h1, h2, h3, rfl, rfl, rfl, by decide⟩ hn hB _) rfl rfl (Nat.le_refl _) ?_) | (refine RT.goK rfl rfl rfl rfl ?_; apply Nx.of; (first | exact S.assign | exact S.loadNc rfl rfl rfl rfl | exact S.not_t | exact S.box)))
  refine Tr.openK un10_3 (by kernel_rfl) (by kernel_rfl) wrapF wrapF_calm ?_
  repeat' (first | (refine RD.free rfl rfl rfl rfl rfl rfl ?_; apply Nx.of; (first | exact S.assign | exact S.fieldAddr rfl rfl rfl | exact S.len_sl rfl rfl rfl (by assumption) | exact S.idx_arrI rfl rfl rfl (by decide) (by decide))) | (refine RD.new rfl rfl rfl rfl rfl rfl ?_; apply Nx.of; (first | exact S.alloc rfl)) | (refine RD.load rfl rfl rfl rfl rfl rfl rfl rfl ?_; apply Nx.of; (first | exact S.load1c rfl rfl rfl rfl | exact S.loadNc rfl rfl rfl rfl)) | (refine RD.store rfl rfl rfl rfl rfl rfl rfl ?_; apply Nx.of; (first | exact S.store rfl rfl (bk_one h1 h2 h3) rfl rfl rfl)) | (refine RD.callN rfl rfl rfl rfl rfl rfl rfl rfl rfl (fun fl' => wrapF_at _ _ (by omega) fl' _ _) (fun _ => by refine srOk_all ?_; simp only [srOk]; (repeat' (first | exact trivial | refine And.intro ?_ ?_)); all_goals (first | (refine ⟨_, rfl, ?_⟩; (first | (simp [bk, AV.cells, rfO, rfVs, rfV, rfVs_flat, h1.rf, h2.rf, h3.rf]; done))))) ?_) | refine RD.nil ⟨Nat.le_of_ble_eq_true rfl, ?_⟩)
  rw [hen, ha]
  repeat' (first | refine RT.nil ?_ | refine sq_n ?_ | refine Tr.seq ?_ | refine Tr.region ?_ | (refine RT.goK rfl rfl rfl rfl ?_; apply Nx.of; (first | exact S.move | exact S.assign | exact S.load1c rfl rfl rfl rfl | exact S.loadNc rfl rfl rfl rfl | exact S.fieldAddr rfl rfl rfl | exact S.alloc rfl | exact S.add (by unfold In64; omega) | exact S.min2 | exact S.nilCheck | exact S.buildSlice0 rfl rfl rfl | exact S.append_e rfl rfl rfl rfl rfl rfl rfl rfl rfl rfl h2 rfl rfl hfl (by omega) (by omega) | exact S.rowg rfl rfl rfl (fun _ => rfl) (range_at he) hwb)) | (refine RT.goK0 rfl rfl rfl ?_; apply Nx.of; (first | exact S.store rfl rfl rfl rfl rfl rfl | exact S.store rfl rfl (bk_one (B := ncB B) h1 h2 (IsSl.nils 2)) rfl rfl rfl)) | (refine RT.goK rfl rfl rfl rfl ?_; apply Nx.of; (first | exact S.idx_sl rfl rfl rfl (by assumption) (by omega))))
  rw [hhi]
  repeat' (first | refine RT.nil ?_ | refine sq_n ?_ | refine Tr.seq ?_ | (refine RT.goK0 rfl rfl rfl ?_; apply Nx.of; (first | exact S.storeG rfl rfl rfl rfl rfl hsp1)))
  refine Tr.openK un10_9 (by kernel_rfl) (by kernel_rfl) noCall noCall_calm ?_
  repeat' (first | (refine RD.free rfl rfl rfl rfl rfl rfl ?_; apply Nx.of; (first | exact S.move | exact S.fieldAddr rfl rfl rfl | exact S.add (by unfold In64; omega) | exact S.min2 | exact S.nilCheck)) | (refine RD.load rfl rfl rfl rfl rfl rfl rfl rfl ?_; apply Nx.of; (first | exact S.rowg rfl rfl rfl (fun _ => rfl) (range_at he) hwh | exact S.rowg rfl rfl rfl (fun _ => rfl) (range_at he) hwl)))
  rw [hlo]
  repeat' (first | (refine RD.store rfl rfl rfl rfl rfl rfl rfl ?_; apply Nx.of; (first | exact S.storeG rfl rfl rfl rfl rfl hsp2)) | refine RD.nil ⟨Nat.le_of_ble_eq_true rfl, ?_⟩)
  repeat' (first | refine sq_n ?_ | refine Tr.seq ?_ | refine Tr.region ?_ | (refine RT.goK rfl rfl rfl rfl ?_; apply Nx.of; (first | exact S.move | exact S.loadNc rfl rfl rfl rfl)))
  repeat' (first | (refine RT.call rfl rfl rfl (val_is hBx (Bound_x (bkx_nc h1 h2 rfl rfl) hn _ _)) rfl rfl (Nat.le_refl _) ?_) | (refine RT.call rfl rfl rfl (val_is hBy (Bound_x (bkx_ps (x := 8) h1 rfl rfl) hn _ _)) rfl rfl (Nat.le_refl _) ?_) | refine RT.nil ?_ | refine sq_n ?_ | refine Tr.seq ?_ | refine Tr.region ?_ | (refine RT.goK rfl rfl rfl rfl ?_; apply Nx.of; (first | exact S.move | exact S.assign | exact S.loadNc rfl rfl rfl rfl | exact S.alloc rfl | exact S.extract rfl)) | (refine RT.goK0 rfl rfl rfl ?_; apply Nx.of; (first | exact S.store rfl rfl rfl rfl rfl rfl)))
  repeat' (first | (refine RT.call rfl rfl rfl (val_is hDx (Done_x (bkx_nc h1 h2 rfl rfl) hn _)) rfl rfl (Nat.le_refl _) ?_) | (refine RT.call rfl rfl rfl (val_is hDy (Done_x (bkx_ps (x := 8) h1 rfl rfl) hn _)) rfl rfl (Nat.le_refl _) ?_) | refine RT.nil ?_ | refine sq_n ?_ | refine Tr.seq ?_ | refine Tr.region ?_ | (refine RT.goK rfl rfl rfl rfl ?_; apply Nx.of; (first | exact S.move | exact S.assign | exact S.loadNc rfl rfl rfl rfl | exact S.extract rfl)))
  repeat' (first | (refine RT.call rfl rfl rfl (val_is hPx (Perhaps_x (bkx_nc h1 h2 rfl rfl) hn _)) rfl rfl (Nat.le_refl _) ?_) | (refine RT.call rfl rfl rfl (val_is hPy (Perhaps_x (bkx_ps (x := 8) h1 rfl rfl) hn _)) rfl rfl (Nat.le_refl _) ?_) | refine RT.nil ?_ | refine sq_n ?_ | refine Tr.seq ?_ | refine Tr.region ?_ | (refine RT.goK rfl rfl rfl rfl ?_; apply Nx.of; (first | exact S.move | exact S.assign | exact S.loadNc rfl rfl rfl rfl | exact S.extract rfl)))
  rcases hD with rfl | ⟨rfl, rfl, hqp⟩ <;> rcases hP with rfl | ⟨rfl, rfl, hwk⟩
  all_goals
    by_cases hae : a < e
    · have hEq2 := hEq hae
      repeat' (first | refine RT.nil ?_ | refine sq_n ?_ | refine Tr.seq ?_ | refine Tr.region ?_ | refine Tr.cond_f rfl ?_ | refine Tr.skip ?_ | refine Tr.ret ?_ | (refine RT.goK rfl rfl rfl rfl ?_; apply Nx.of; (first | exact S.eql_t (by decide) | exact S.eql_f (by decide) | exact S.neq_f (by decide))) | (refine RT.goK rfl rfl rfl rfl ?_; first | refine Nx.of (S.lss_f (by omega)) ?_ | refine Nx.of (S.lss_t (by omega)) ?_ | refine Nx.of (S.leq_t (by omega)) ?_ | refine Nx.of (S.neqA_f (eqSp _ _ _ _) (hEq' (by omega))) ?_) | (refine RT.goK rfl rfl rfl rfl ?_; apply Nx.of; (first | exact S.move | exact S.assign | exact S.load1c rfl rfl rfl rfl | exact S.loadNc rfl rfl rfl rfl | exact S.fieldAddr rfl rfl rfl | exact S.pick_tt | exact S.pick_ff)) | (refine RT.no rfl rfl rfl ?_) | (refine RT.call rfl rfl rfl (hb.root_at _ _ _) rfl rfl (Nat.le_refl _) ?_))
      (first | refine rt_go rfl ?_)
      rfl
    · repeat' (first | refine RT.nil ?_ | refine sq_n ?_ | refine Tr.seq ?_ | refine Tr.region ?_ | refine Tr.cond_f rfl ?_ | refine Tr.skip ?_ | refine Tr.ret ?_ | (refine RT.goK rfl rfl rfl rfl ?_; apply Nx.of; (first | exact S.eql_t (by decide) | exact S.eql_f (by decide) | exact S.neq_f (by decide))) | (refine RT.goK rfl rfl rfl rfl ?_; first | refine Nx.of (S.lss_f (by omega)) ?_ | refine Nx.of (S.leq_t (by omega)) ?_) | (refine RT.goK rfl rfl rfl rfl ?_; apply Nx.of; (first | exact S.move | exact S.assign | exact S.load1c rfl rfl rfl rfl | exact S.fieldAddr rfl rfl rfl | exact S.pick_tt | exact S.pick_ff)) | (refine RT.no rfl rfl rfl ?_) | (refine RT.call rfl rfl rfl (hb.root_at _ _ _) rfl rfl (Nat.le_refl _) ?_))
      (first | refine rt_go rfl ?_)
      rfl
end Go.Proofs.Ytjnckbefajfgbaa

/- RollMore: one look more: plain facts. -/
namespace Go.Proofs.Ytjnckbefajfgbaa
open Go Go.Ev

/-- The book with one look more. -/
def moB (B : RBook) (d b : Int) : RBook := { B with nk := B.nk + 1, ld := upd B.ld B.nk d, lb := upd B.lb B.nk b }
/-- What two questions after the first day answer, where the one is so whenever the other is. -/
theorem fs_two {X Y : RBook} {p q : Nat → Prop} (hX : bkOk X) (hY : bkOk Y) (wX : Wn X ≠ []) (wY : Wn Y ≠ []) (hd : X.nd = Y.nd) (h : ∀ j, j < X.nd → p j → q j) : ∃ u v e1 e2 : Int, fsV X p = .tup [.int .i64 u, .int .i64 e1] ∧ fsV Y q = .tup [.int .i64 v, .int .i64 e2] ∧ (e1 = 4 ∨ e1 = 0 ∧ e2 = 0 ∧ v ≤ u) := by
  rcases first_case p X.nd with ⟨u, u1, u2, u3⟩ | un
  · rcases first_case q Y.nd with ⟨v, v1, v2, v3⟩ | vn
    · refine ⟨u, v, 0, 0, (fsV_ok hX wX).trans (fdV_at u1 u2 u3), (fsV_ok hY wY).trans (fdV_at v1 v2 v3), .inr ⟨rfl, rfl, ?_⟩⟩
      rcases Nat.lt_or_ge u v with k | k
      · exact absurd (h u u1 u2) (v3 u k)
      · omega
    · exact absurd (h u u1 u2) (vn u (hd ▸ u1))
  · rcases first_case q Y.nd with ⟨v, v1, v2, v3⟩ | vn
    · exact ⟨0, v, 4, 0, (fsV_ok hX wX).trans (fdV_none un), (fsV_ok hY wY).trans (fdV_at v1 v2 v3), .inl rfl⟩
    · exact ⟨0, 0, 4, 4, (fsV_ok hX wX).trans (fdV_none un), (fsV_ok hY wY).trans (fdV_none vn), .inl rfl⟩
end Go.Proofs.Ytjnckbefajfgbaa

/- RollPass: the law from the plain facts. -/
namespace Go.Proofs.Ytjnckbefajfgbaa
open Go Go.Ev

set_option maxRecDepth 100000 in
set_option maxHeartbeats 8000000 in
theorem pass_law (hb : BillOK) (B : RBook) (a1 a2 a3 : AV) (h1 : IsSl a1 B.nl 0) (h2 : IsSl a2 B.nd 1) (h3 : IsSl a3 B.nk 2) (hn : B.nd ≤ 9223372036854775807) (n0 n1 : Int) : CanS 0 Try.prog 10 3 [bk B a1 a2 a3, .agg [.int .i64 n0, .int .i64 n1]] [(0, some (oLa B)), (1, some (oDa B)), (2, some (oLo B))] 3 fun v _ _ => v = .bool true := by
  by_cases hB : bkOk B
  · have hnd := hB.2.1.1
    have hE := wrapV_bd (n := n0) (k := (B.nd : Int)) (by omega)
    have hA := wrapV_bd (n := n1) (k := (B.nd : Int)) (by omega)
    obtain ⟨e, he⟩ := Int.eq_ofNat_of_zero_le hE.1
    obtain ⟨a, ha⟩ := Int.eq_ofNat_of_zero_le hA.1
    rw [he] at hE
    rw [ha] at hA
    have heN : e < B.nd := by omega
    have haN : a < B.nd := by omega
    have hda := hB.2.1.2 e heN
    unfold daOk at hda
    have hX := nc_ok hB
    have hY := ps_ok hB heN
    obtain ⟨hi, hhi⟩ : ∃ hi, min 20 (B.wh e + 1) = hi := ⟨_, rfl⟩
    rw [hhi] at hY
    obtain ⟨lo, hlo⟩ : ∃ lo, min hi (B.wl e + 1) = lo := ⟨_, rfl⟩
    rw [hlo] at hY
    have g1 : B.wl e ≤ lo := by omega
    have g2 : B.wh e ≤ hi := by omega
    have wX := wn_ne hX rfl
    have wY := wn_ne hY rfl
    have up := fun {t : Tru} (ht : t ∈ Wn (ncB B)) => ps_up hX hY g1 g2 ht
    have dn := fun {t : Tru} (ht : t ∈ Wn (psB B e lo hi)) => ps_down hX hY g1 g2 ht
    have hq : dyQ (ncB B) (a : Int) := by unfold dyQ; show 0 ≤ (a : Int) ∧ (a : Int) ≤ (B.nd : Int) - 1; omega
    have hq' : dyQ (psB B e lo hi) (a : Int) := hq
    have eX := spV_ok (num := fun t => t.eb (a : Int).toNat) hX hq wX
    have eY := spV_ok (num := fun t => t.eb (a : Int).toNat) hY hq' wY
    have sX := sp_is (fun t : Tru => t.eb (a : Int).toNat) wX
    have sY := sp_is (fun t : Tru => t.eb (a : Int).toNat) wY
    obtain ⟨p, q, e1, e2, hDx, hDy, hD⟩ := fs_two (p := sureP (ncB B)) (q := sureP (psB B e lo hi)) hX hY wX wY rfl (fun j hj k => (sure_iff hY hj).2 fun t ht => by
      obtain ⟨u, hu, hl⟩ := dn ht
      have k1 := (sure_iff hX hj).1 k u hu
      have k2 := (hl j hj).1
      have k3 := (wn_steps hY ht hj).1.2
      have e1 : (ncB B).nl = B.nl := rfl
      have e2 : (psB B e lo hi).nl = B.nl := rfl
      rw [e1] at k1
      rw [e2] at k3 ⊢
      omega)
    obtain ⟨k, w, e3, e4, hPx, hPy, hP⟩ := fs_two (p := mayP (ncB B)) (q := mayP (psB B e lo hi)) hX hY wX wY rfl (fun j hj k => (by
      obtain ⟨u, hu, k1⟩ := (may_iff hX hj).1 k
      obtain ⟨t, ht, hl⟩ := up hu
      refine (may_iff hY hj).2 ⟨t, ht, ?_⟩
      have k2 := (hl j hj).1
      have k3 := (wn_steps hY ht hj).1.2
      have e1 : (ncB B).nl = B.nl := rfl
      have e2 : (psB B e lo hi).nl = B.nl := rfl
      rw [e1] at k1
      rw [e2] at k3 ⊢
      omega))
    rw [Int.toNat_natCast] at sX sY
    obtain ⟨x1, i1, j1⟩ := sX.exL
    obtain ⟨x2, i2, j2⟩ := sX.exH
    obtain ⟨y1, i3, j3⟩ := sY.exL
    obtain ⟨y2, i4, j4⟩ := sY.exH
    obtain ⟨u1, r1, s1⟩ := up i1
    obtain ⟨u2, r2, s2⟩ := up i2
    obtain ⟨v1, r3, s3⟩ := dn i3
    obtain ⟨v2, r4, s4⟩ := dn i4
    have t1 := sY.all u1 r1
    have t2 := sY.all u2 r2
    have t3 := sX.all v1 r3
    have t4 := sX.all v2 r4
    have m1 := s1 a haN
    have m2 := s2 a haN
    have m3 := s3 a haN
    have m4 := s4 a haN
    refine pass_walk hb B a1 a2 a3 h1 h2 h3 hn n0 n1 e a _ _ _ _ p q k w e1 e2 e3 e4 lo hi hB he heN ha hhi hlo eX eY hDx hDy hPx hPy ?_ ?_ hD hP
    · rw [Int.toNat_natCast]
      generalize spL (fun t : Tru => t.eb a) (Wn (ncB B)) = sl at *
      generalize spH (fun t : Tru => t.eb a) (Wn (ncB B)) = sh at *
      generalize spL (fun t : Tru => t.eb a) (Wn (psB B e lo hi)) = tl at *
      generalize spH (fun t : Tru => t.eb a) (Wn (psB B e lo hi)) = th at *
      omega
    · intro hae
      have n1 := m1.2 (by omega)
      have n2 := m2.2 (by omega)
      have n3 := m3.2 (by omega)
      have n4 := m4.2 (by omega)
      rw [Int.toNat_natCast]
      generalize spL (fun t : Tru => t.eb a) (Wn (ncB B)) = sl at *
      generalize spH (fun t : Tru => t.eb a) (Wn (ncB B)) = sh at *
      generalize spL (fun t : Tru => t.eb a) (Wn (psB B e lo hi)) = tl at *
      generalize spH (fun t : Tru => t.eb a) (Wn (psB B e lo hi)) = th at *
      omega
  · refine CanS.mk Try.func10 rfl rfl rfl ?_
    repeat' (first | refine RT.nil ?_ | refine sq_n ?_ | refine Tr.seq ?_ | refine Tr.region ?_ | refine Tr.cond_t rfl ?_ | refine Tr.ret ?_ | refine sq_r ?_ | (refine RT.call rfl rfl rfl (hb.root_at _ _ _) rfl rfl (Nat.le_refl _) ?_) | (refine RT.call rfl rfl rfl (sound_f ⟨h1, h2, h3, rfl, rfl, rfl, by decide⟩ hn hB _) rfl rfl (Nat.le_refl _) ?_) | (refine RT.goK rfl rfl rfl rfl ?_; apply Nx.of; (first | exact S.assign | exact S.loadNc rfl rfl rfl rfl | exact S.not_f | exact S.box)))
    (first | refine rt_go rfl ?_)
    rfl
end Go.Proofs.Ytjnckbefajfgbaa
