/- Texts of one kind, one behind the other: Co, Cp, SyV, Cq, Cr, Cs, Ct, Cu, Cv, SyX, Cw, SyY, Cx, Cy, Cz, SyZ, Da, Db, Dc, SyNr, SyOi, Dd, De, SyW2, Df, Dg, Dh, Di, Dj, SyFr, Dk, Dl, Dm, Dn, SyOj, Do, Dp, Du, Dq, Dr, Ds, Dt, Dv, SyFu, Ea, Eb, Ec, Ed. -/
import Derived.Test.YtjncfddnphhofaaTI3
set_option linter.unusedVariables false
set_option linter.unusedSimpArgs false
/- Package claim: what is answered of stages, and what the road owes. -/
namespace Go.Proofs.Ytjncfddnphhofaa
open Go Go.Ev

theorem NumOK.of {B : CBook} {a1 a2 : AV} {f : Nat} {cap xs : List AV} {num : Tru → Int} (hxs : ∀ σ : Nat → Nat, (∀ y, y < 5 → σ y = y) → AV.rens σ xs = xs) (hc : ∀ σ : Nat → Nat, (∀ y, y < 6 → σ y = y) → AV.rens σ cap = cap) (h : IsSl a1 B.ns 0 → IsSl a2 B.nc 1 → ∀ t ∈ Ws B, CanS 0 Try.prog f 6 ([.ptr 2 0, trV t] ++ cap) [(0, some (oSt B)), (1, some (oCk B)), (2, some (.cells (pbC B a1 a2 3))), (5, some (.cells xs))] 6 fun v _ _ => v = .int .i64 (num t)) : NumOK B a1 a2 f cap xs num := fun t ht m c hp h6 hx fl => by
  have hs : ∀ y, y < 6 → nm 6 c y = y := fun y hy => nm_lt hy
  refine (h hp.h1 hp.h2 t ht).pure (.int _ _) (.nm h6 (by omega) ⟨⟨hp.m1, ren_ro _ _ _, by omega⟩, ⟨hp.m2, ren_ro _ _ _, by omega⟩, ⟨hp.m3, pbc_ren hp.h1 hp.h2 (hs 0 (by omega)) (hs 1 (by omega)) (hs 3 (by omega)), by omega⟩, ⟨hx, congrArg AObj.cells (hxs _ fun y hy => hs y (by omega)), by omega⟩, trivial⟩ ?_) fl
  rw [rens_append, hc _ hs]
  simp only [AV.rens, AV.ren, hs 2 (by omega)]

set_option maxRecDepth 100000 in
set_option maxHeartbeats 4000000 in
theorem comes1_num (B : CBook) (a1 a2 : AV) (i : Nat) (hi : i < 3) : NumOK B a1 a2 57 [.ptr 5 0] [.int .i64 (i : Int)] (fun t => t.c i) := .of (fun _ _ => rfl) (fun σ hσ => by simp only [AV.rens, AV.ren, hσ 5 (by omega)]) fun h1 h2 t ht => by
  refine CanS.mk Try.func57 rfl rfl rfl ?_
  repeat' (first | refine RT.nil ?_ | refine sq_n ?_ | refine Tr.seq ?_ | refine Tr.region ?_ | refine Tr.ret ?_ | (refine RT.goK rfl rfl rfl rfl ?_; apply Nx.of; (first | exact S.assign | exact S.load1c rfl rfl rfl rfl | exact S.fieldAddr rfl rfl rfl | exact S.box)) | (refine RT.goK rfl rfl rfl rfl ?_; apply Nx.of; (first | exact S.load1c rfl rfl rfl (trV_c hi) | exact S.idx_arr rfl rfl rfl (show _ < 3 by omega))))
  (first | refine rt_go rfl ?_)
  rfl
set_option maxRecDepth 100000 in
set_option maxHeartbeats 4000000 in
theorem rough1_num (B : CBook) (a1 a2 : AV) (i : Nat) (hi : i < 3) : NumOK B a1 a2 64 [.ptr 5 0] [.int .i64 (i : Int)] (fun t => t.r i) := .of (fun _ _ => rfl) (fun σ hσ => by simp only [AV.rens, AV.ren, hσ 5 (by omega)]) fun h1 h2 t ht => by
  refine CanS.mk Try.func64 rfl rfl rfl ?_
  repeat' (first | refine RT.nil ?_ | refine sq_n ?_ | refine Tr.seq ?_ | refine Tr.region ?_ | refine Tr.ret ?_ | (refine RT.goK rfl rfl rfl rfl ?_; apply Nx.of; (first | exact S.assign | exact S.load1c rfl rfl rfl rfl | exact S.fieldAddr rfl rfl rfl | exact S.box)) | (refine RT.goK rfl rfl rfl rfl ?_; apply Nx.of; (first | exact S.load1c rfl rfl rfl (trV_r hi) | exact S.idx_arr rfl rfl rfl (show _ < 3 by omega))))
  (first | refine rt_go rfl ?_)
  rfl
set_option maxRecDepth 100000 in
set_option maxHeartbeats 4000000 in
theorem late1_num (B : CBook) (a1 a2 : AV) (hok : stsOk B) (hw : weaOk B) (i : Nat) (hi : i < B.ns) : NumOK B a1 a2 61 [.ptr 5 0] [.int .i64 (i : Int)] (fun t => ltV B i t) := .of (fun _ _ => rfl) (fun σ hσ => by simp only [AV.rens, AV.ren, hσ 5 (by omega)]) fun h1 h2 t ht => by
  have hT := TruB.of hok hw ht
  refine CanS.mk Try.func61 rfl rfl rfl ?_
  repeat' (first | refine RT.nil ?_ | refine sq_n ?_ | refine Tr.seq ?_ | refine Tr.region ?_ | refine Tr.ret ?_ | (refine RT.call rfl rfl rfl (late_at (p := 2) (q := 3) ⟨h1, h2, rfl, rfl, rfl, by decide, by decide, by decide⟩ hok t hT i hi _) rfl rfl (Nat.le_refl _) ?_) | (refine RT.goK rfl rfl rfl rfl ?_; apply Nx.of; (first | exact S.move | exact S.assign | exact S.load1c rfl rfl rfl rfl | exact S.loadNc rfl rfl rfl rfl | exact S.box)))
  (first | refine rt_go rfl ?_)
  rfl
/-- What is answered: an error, and both ends. -/
noncomputable def ansE (B : CBook) (q : Prop) : Int := if dB (bkOk B) = false then 60 else if dB q = false then 61 else if dB (Ws B = []) = true then 62 else 0
noncomputable def ansL (B : CBook) (q : Prop) (num : Tru → Int) : Int := if ansE B q = 0 then spL num (Ws B) else 0
noncomputable def ansH (B : CBook) (q : Prop) (num : Tru → Int) : Int := if ansE B q = 0 then spH num (Ws B) else 0
noncomputable def ansV (B : CBook) (q : Prop) (num : Tru → Int) : AV := .tup [.agg [.int .i64 (ansL B q num), .int .i64 (ansH B q num)], .int .i64 (ansE B q)]
theorem ansE_no {B : CBook} {q : Prop} (h : ¬ bkOk B) : ansE B q = 60 := by unfold ansE; rw [dB_ff h, if_pos rfl]
theorem ansE_ask {B : CBook} {q : Prop} (h : bkOk B) (hq : ¬ q) : ansE B q = 61 := by unfold ansE; rw [dB_tt h, if_neg (by decide), dB_ff hq, if_pos rfl]
theorem ansE_false {B : CBook} {q : Prop} (h : bkOk B) (hq : q) (hW : Ws B = []) : ansE B q = 62 := by unfold ansE; rw [dB_tt h, if_neg (by decide), dB_tt hq, if_neg (by decide), dB_tt hW, if_pos rfl]
theorem ansE_ok {B : CBook} {q : Prop} (h : bkOk B) (hq : q) (hW : Ws B ≠ []) : ansE B q = 0 := by unfold ansE; rw [dB_tt h, if_neg (by decide), dB_tt hq, if_neg (by decide), dB_ff hW, if_neg (by decide)]
theorem ansV_err {B : CBook} {q : Prop} {num : Tru → Int} {e : Int} (h : ansE B q = e) (he : e ≠ 0) : ansV B q num = .tup [.agg [.int .i64 0, .int .i64 0], .int .i64 e] := by unfold ansV ansL ansH; rw [h, if_neg he, if_neg he]
theorem ansV_ok {B : CBook} {q : Prop} {num : Tru → Int} (h : ansE B q = 0) : ansV B q num = .tup [.agg [.int .i64 (spL num (Ws B)), .int .i64 (spH num (Ws B))], .int .i64 0] := by unfold ansV ansL ansH; rw [h, if_pos rfl, if_pos rfl]

set_option maxRecDepth 100000 in
set_option maxHeartbeats 4000000 in
theorem answer_can (B : CBook) (a1 a2 : AV) (h1 : IsSl a1 B.ns 0) (h2 : IsSl a2 B.nc 1) (hn : B.ns ≤ 9223372036854775807) (q : Bool) (f : Nat) (x : Int) (num : Tru → Int) (hnum : bkOk B → q = true → NumOK B a1 a2 f [.ptr 5 0] [.int .i64 x] num) : CanS 0 Try.prog 55 3 [bk B a1 a2, .agg [.bool q, .fn f [] [.ptr 2 0]]] ([(0, some (oSt B)), (1, some (oCk B))] ++ [(2, some (.cells [.int .i64 x]))]) 3 fun v _ _ => v = ansV B (q = true) num := by
  by_cases hB : bkOk B
  · cases q with
    | false =>
      rw [ansV_err (ansE_ask hB (by simp)) (by decide)]
      refine CanS.mk Try.func55 rfl rfl rfl ?_
      repeat' (first | refine RT.nil ?_ | refine sq_n ?_ | refine Tr.seq ?_ | refine Tr.region ?_ | refine Tr.cond_t rfl ?_ | refine Tr.ret ?_ | refine sq_r ?_ | (refine RT.call rfl rfl rfl (learn_ask_at ⟨h1, h2, rfl, rfl, by decide⟩ hn hB _) rfl rfl (Nat.le_refl _) ?_) | (refine RT.goK rfl rfl rfl rfl ?_; apply Nx.of; (first | exact S.move | exact S.assign | exact S.load1c rfl rfl rfl rfl | exact S.loadNc rfl rfl rfl rfl | exact S.fieldAddr rfl rfl rfl | exact S.neq | exact S.box | exact S.alloc rfl | exact S.build rfl rfl rfl | exact S.extract rfl)) | (refine RT.goK0 rfl rfl rfl ?_; apply Nx.of; (first | exact S.store rfl rfl rfl rfl rfl rfl)))
      (first | refine rt_go rfl ?_)
      rfl
    | true =>
      by_cases hW : Ws B = []
      · rw [ansV_err (ansE_false hB rfl hW) (by decide)]
        refine CanS.mk Try.func55 rfl rfl rfl ?_
        repeat' (first | refine RT.nil ?_ | refine sq_n ?_ | refine Tr.seq ?_ | refine Tr.region ?_ | refine Tr.cond_t rfl ?_ | refine Tr.ret ?_ | refine sq_r ?_ | (refine RT.call rfl rfl rfl (learn_false_at ⟨h1, h2, rfl, rfl, by decide⟩ hn hB hW _) rfl rfl (Nat.le_refl _) ?_) | (refine RT.goK rfl rfl rfl rfl ?_; apply Nx.of; (first | exact S.move | exact S.assign | exact S.load1c rfl rfl rfl rfl | exact S.loadNc rfl rfl rfl rfl | exact S.fieldAddr rfl rfl rfl | exact S.neq | exact S.box | exact S.alloc rfl | exact S.build rfl rfl rfl | exact S.extract rfl)) | (refine RT.goK0 rfl rfl rfl ?_; apply Nx.of; (first | exact S.store rfl rfl rfl rfl rfl rfl)))
        (first | refine rt_go rfl ?_)
        rfl
      · rw [ansV_ok (ansE_ok hB rfl hW)]
        refine CanS.mk Try.func55 rfl rfl rfl ?_
        repeat' (first | refine RT.nil ?_ | refine sq_n ?_ | refine Tr.seq ?_ | refine Tr.region ?_ | refine Tr.cond_f rfl ?_ | refine Tr.skip ?_ | refine Tr.ret ?_ | (refine RT.call rfl rfl rfl (learn_at ⟨h1, h2, rfl, rfl, by decide⟩ (fun x o hx => by have := lookM_mem hx; simp at this; omega) hn hB hW _) rfl rfl (by decide) ?_) | (refine RT.call rfl rfl rfl (span_at (p := 9) (q := 10) (x := 14) (z := 2) (ys := [.int .i64 x]) ⟨⟨h1, h2, rfl, rfl, rfl, by decide, by decide, by decide⟩, rfl, by decide, rfl, by decide, by decide⟩ hW (wths_len hB.1) true f [.ptr 5 0] [.int .i64 x] [.ptr 2 0] rfl rfl (fun _ _ => rfl) rfl (fun σ hσ => by simp only [AV.rens, AV.ren, hσ 5 (by omega)]) rfl num (hnum hB rfl) _) rfl rfl (Nat.le_refl _) ?_) | (refine RT.goK rfl rfl rfl rfl ?_; apply Nx.of; (first | exact S.move | exact S.assign | exact S.load1c rfl rfl rfl rfl | exact S.loadNc rfl rfl rfl rfl | exact S.fieldAddr rfl rfl rfl | exact S.neq | exact S.box | exact S.alloc rfl | exact S.extract rfl)) | (refine RT.goK0 rfl rfl rfl ?_; apply Nx.of; (first | exact S.store rfl rfl rfl rfl rfl rfl)))
        (first | refine rt_go rfl ?_)
        rfl
  · rw [ansV_err (ansE_no hB) (by decide)]
    refine CanS.mk Try.func55 rfl rfl rfl ?_
    repeat' (first | refine RT.nil ?_ | refine sq_n ?_ | refine Tr.seq ?_ | refine Tr.region ?_ | refine Tr.cond_t rfl ?_ | refine Tr.ret ?_ | refine sq_r ?_ | (refine RT.call rfl rfl rfl (learn_no_at ⟨h1, h2, rfl, rfl, by decide⟩ hn hB _ _) rfl rfl (Nat.le_refl _) ?_) | (refine RT.goK rfl rfl rfl rfl ?_; apply Nx.of; (first | exact S.move | exact S.assign | exact S.load1c rfl rfl rfl rfl | exact S.loadNc rfl rfl rfl rfl | exact S.fieldAddr rfl rfl rfl | exact S.neq | exact S.box | exact S.alloc rfl | exact S.build rfl rfl rfl | exact S.extract rfl)) | (refine RT.goK0 rfl rfl rfl ?_; apply Nx.of; (first | exact S.store rfl rfl rfl rfl rfl rfl)))
    (first | refine rt_go rfl ?_)
    rfl
end Go.Proofs.Ytjncfddnphhofaa

/- Package claim: Right, Comes, Late, Rough, Owes. -/
namespace Go.Proofs.Ytjncfddnphhofaa
open Go Go.Ev

theorem answer_at {B : CBook} {a1 a2 : AV} {m : List (Nat × Option AObj)} {c z : Nat} (h : BkIn B a1 a2 m c) (hn : B.ns ≤ 9223372036854775807) (q : Bool) (f : Nat) (x : Int) (num : Tru → Int) (hnum : bkOk B → q = true → NumOK B a1 a2 f [.ptr 5 0] [.int .i64 x] num) (hz : lookM m z = some (.cells [.int .i64 x])) (hzc : z < c) (fl : Nat) :
    OkAt 0 Try.prog fl 55 [bk B a1 a2, .agg [.bool q, .fn f [] [.ptr z 0]]] (ofM m) c (ansV B (q = true) num) (ofM m) c := by
  have e0 : tau [0, 1, z] c 0 = 0 := rfl
  have e1 : tau [0, 1, z] c 1 = 1 := rfl
  have e2 : tau [0, 1, z] c 2 = z := rfl
  refine (answer_can B a1 a2 h.h1 h.h2 hn q f x num hnum).pure (fun _ => rfl) ?_ fl
  have ha : AV.rens (tau [0, 1, z] c) [bk B a1 a2, .agg [.bool q, .fn f [] [.ptr 2 0]]] = [bk B a1 a2, .agg [.bool q, .fn f [] [.ptr z 0]]] := by simp only [bk, AV.ren, AV.rens, h.h1.ren e0, h.h2.ren e1, e2]
  rw [← ha]
  have hc := h.hc
  refine Entry.ren _ (fun g hg => by omega) (fun y hy => by rw [tau_ge hy]; omega) ⟨?_, ?_, getM hz, trivial⟩ (fun u u' o o' hu hu' hne => .inl fun e => ?_)
  · show (ofM m).get 0 = _
    rw [ren_ro]; exact getM h.m1
  · show (ofM m).get 1 = _
    rw [ren_ro]; exact getM h.m2
  · have low : ∀ {u : Nat} {ob : AObj}, lookM ([(0, some (oSt B)), (1, some (oCk B))] ++ [(2, some (.cells [.int .i64 x]))]) u = some ob → u = 0 ∨ u = 1 ∨ u = 2 := fun {u ob} hz => by
      have := lookM_mem hz
      simpa using this
    have hz0 : z ≠ 0 := fun e => by rw [e, h.m1] at hz; cases hz
    have hz1 : z ≠ 1 := fun e => by rw [e, h.m2] at hz; cases hz
    rcases low hu with rfl | rfl | rfl <;> rcases low hu' with rfl | rfl | rfl <;> simp only [e0, e1, e2] at e <;> omega
/-- A stage's number. -/
def stQ (B : CBook) (n : Int) : Prop := 0 ≤ n ∧ n ≤ (B.ns : Int) - 1
theorem ansV_congr {B : CBook} {q q' : Prop} {num : Tru → Int} (h : q ↔ q') : ansV B q num = ansV B q' num := by rw [propext h]
noncomputable def stF (B : CBook) (a1 a2 : AV) (n : Int) : CallFn := one1 56 [bk B a1 a2, .int .i64 n] (.bool (decide (0 ≤ n ∧ n ≤ (B.ns : Int) - 1))) fun H c => ∃ m, H = ofM m ∧ BkIn B a1 a2 m c
noncomputable def anF (B : CBook) (a1 a2 : AV) (f : Nat) (n : Int) (num : Tru → Int) : CallFn := one1 55 [bk B a1 a2, .agg [.bool (decide (0 ≤ n ∧ n ≤ (B.ns : Int) - 1)), .fn f [] [.ptr 3 0]]] (ansV B (stQ B n) num) fun H c => ∃ m, H = ofM m ∧ BkIn B a1 a2 m c ∧ lookM m 3 = some (.cells [.int .i64 n]) ∧ 3 < c
theorem anF_calm {B : CBook} {a1 a2 : AV} (hn : B.ns ≤ 9223372036854775807) (f : Nat) (n : Int) (num : Tru → Int) (hnum : bkOk B → stQ B n → NumOK B a1 a2 f [.ptr 5 0] [.int .i64 n] num) : CalmC 0 Try.prog (alts [stF B a1 a2 n, anF B a1 a2 f n num]) := alts_calm fun g hg => by
  simp only [List.mem_cons, List.not_mem_nil, or_false] at hg
  rcases hg with rfl | rfl
  · exact one1_calm fun fl H c ⟨m, hm, h⟩ => by subst hm; exact isStage_at h hn fl n
  · exact one1_calm fun fl H c ⟨m, hm, h, hz, hzc⟩ => by
      subst hm
      have := answer_at h hn (decide (0 ≤ n ∧ n ≤ (B.ns : Int) - 1)) f n num (fun hB hq => hnum hB (of_decide_eq_true (p := 0 ≤ n ∧ n ≤ (B.ns : Int) - 1) hq)) hz hzc fl
      rwa [ansV_congr (q' := stQ B n) (decide_eq_true_iff (p := 0 ≤ n ∧ n ≤ (B.ns : Int) - 1))] at this
theorem stQ_nat {B : CBook} {n : Int} (h : stQ B n) : n = (n.toNat : Int) ∧ n.toNat < B.ns := by unfold stQ at h; omega
set_option maxRecDepth 100000 in
set_option maxHeartbeats 4000000 in
theorem Comes_can (B : CBook) (a1 a2 : AV) (h1 : IsSl a1 B.ns 0) (h2 : IsSl a2 B.nc 1) (hn : B.ns ≤ 9223372036854775807) (n : Int) : CanS 0 Try.prog 13 2 [bk B a1 a2, .int .i64 n] [(0, some (oSt B)), (1, some (oCk B))] 2 fun v _ _ => v = ansV B (stQ B n) (fun t => t.c n.toNat) := by
  refine CanS.mk Try.func13 rfl rfl rfl ?_
  repeat' (first | refine RT.nil ?_ | refine sq_n ?_ | refine Tr.seq ?_ | refine Tr.region ?_ | (refine RT.goK rfl rfl rfl rfl ?_; apply Nx.of; (first | exact S.assign | exact S.box | exact S.alloc rfl)))
  refine Tr.openK un13_1 (by kernel_rfl) (by kernel_rfl) (alts [stF B a1 a2 n, anF B a1 a2 57 n (fun t => t.c n.toNat)]) (anF_calm hn _ n _ fun hB hq => by
    have h3 := hB.1.1
    obtain ⟨e, hi⟩ := stQ_nat hq
    have := comes1_num B a1 a2 n.toNat (by omega)
    rwa [← e] at this) ?_
  repeat' (first | (refine RD.free rfl rfl rfl rfl rfl rfl ?_; apply Nx.of; (first | exact S.assign | exact S.build rfl rfl rfl | exact S.extract rfl | exact S.makeFunc)) | (refine RD.load rfl rfl rfl rfl rfl rfl rfl rfl ?_; apply Nx.of; (first | exact S.load1c rfl rfl rfl rfl | exact S.loadNc rfl rfl rfl rfl)) | (refine RD.store rfl rfl rfl rfl rfl rfl rfl ?_; apply Nx.of; (first | exact S.store rfl rfl rfl rfl rfl rfl)) | (refine RD.callN rfl rfl rfl rfl rfl rfl rfl rfl rfl (fun fl' => alts_hd (one1_at ⟨_, rfl, ⟨h1, h2, rfl, rfl, by decide⟩⟩ fl')) (fun _ => by refine srOk_all ?_; simp only [srOk]; (repeat' (first | exact trivial | refine And.intro ?_ ?_)); all_goals (first | (refine ⟨_, rfl, ?_⟩; (first | (simp [pbC, bk, AV.cells, rfO, rfVs, rfV, h1.rf, h2.rf]; done))))) ?_) | (refine RD.callN rfl rfl rfl rfl rfl rfl rfl rfl rfl (fun fl' => (alts_tl (famA_ne _ (by decide))).trans (alts_hd (one1_at ⟨_, rfl, ⟨h1, h2, rfl, rfl, by decide⟩, rfl, by decide⟩ fl'))) (fun _ => by refine srOk_all ?_; simp only [srOk]; (repeat' (first | exact trivial | refine And.intro ?_ ?_)); all_goals (first | exact trivial | (refine ⟨_, rfl, ?_⟩; (first | rfl | (simp [rfO, rfVs, rfV, rfVs_flat]; done) | (simp [pbC, bk, AV.cells, rfO, rfVs, rfV, h1.rf, h2.rf]; done))))) ?_) | refine RD.nil ⟨Nat.le_of_ble_eq_true rfl, ?_⟩)
  repeat' (first | refine sq_n ?_ | refine Tr.ret ?_)
  (first | refine rt_go rfl ?_)
  rfl
set_option maxRecDepth 100000 in
set_option maxHeartbeats 4000000 in
theorem Late_can (B : CBook) (a1 a2 : AV) (h1 : IsSl a1 B.ns 0) (h2 : IsSl a2 B.nc 1) (hn : B.ns ≤ 9223372036854775807) (n : Int) : CanS 0 Try.prog 15 2 [bk B a1 a2, .int .i64 n] [(0, some (oSt B)), (1, some (oCk B))] 2 fun v _ _ => v = ansV B (stQ B n) (ltV B n.toNat) := by
  refine CanS.mk Try.func15 rfl rfl rfl ?_
  repeat' (first | refine RT.nil ?_ | refine sq_n ?_ | refine Tr.seq ?_ | refine Tr.region ?_ | (refine RT.goK rfl rfl rfl rfl ?_; apply Nx.of; (first | exact S.assign | exact S.box | exact S.alloc rfl)))
  refine Tr.openK un15_1 (by kernel_rfl) (by kernel_rfl) (alts [stF B a1 a2 n, anF B a1 a2 61 n (ltV B n.toNat)]) (anF_calm hn _ n _ fun hB hq => by
    have h3 := hB.1.1
    obtain ⟨e, hi⟩ := stQ_nat hq
    have := late1_num B a1 a2 hB.1 hB.2.1 n.toNat hi
    rwa [← e] at this) ?_
  repeat' (first | (refine RD.free rfl rfl rfl rfl rfl rfl ?_; apply Nx.of; (first | exact S.assign | exact S.build rfl rfl rfl | exact S.extract rfl | exact S.makeFunc)) | (refine RD.load rfl rfl rfl rfl rfl rfl rfl rfl ?_; apply Nx.of; (first | exact S.load1c rfl rfl rfl rfl | exact S.loadNc rfl rfl rfl rfl)) | (refine RD.store rfl rfl rfl rfl rfl rfl rfl ?_; apply Nx.of; (first | exact S.store rfl rfl rfl rfl rfl rfl)) | (refine RD.callN rfl rfl rfl rfl rfl rfl rfl rfl rfl (fun fl' => alts_hd (one1_at ⟨_, rfl, ⟨h1, h2, rfl, rfl, by decide⟩⟩ fl')) (fun _ => by refine srOk_all ?_; simp only [srOk]; (repeat' (first | exact trivial | refine And.intro ?_ ?_)); all_goals (first | (refine ⟨_, rfl, ?_⟩; (first | (simp [pbC, bk, AV.cells, rfO, rfVs, rfV, h1.rf, h2.rf]; done))))) ?_) | (refine RD.callN rfl rfl rfl rfl rfl rfl rfl rfl rfl (fun fl' => (alts_tl (famA_ne _ (by decide))).trans (alts_hd (one1_at ⟨_, rfl, ⟨h1, h2, rfl, rfl, by decide⟩, rfl, by decide⟩ fl'))) (fun _ => by refine srOk_all ?_; simp only [srOk]; (repeat' (first | exact trivial | refine And.intro ?_ ?_)); all_goals (first | exact trivial | (refine ⟨_, rfl, ?_⟩; (first | rfl | (simp [rfO, rfVs, rfV, rfVs_flat]; done) | (simp [pbC, bk, AV.cells, rfO, rfVs, rfV, h1.rf, h2.rf]; done))))) ?_) | refine RD.nil ⟨Nat.le_of_ble_eq_true rfl, ?_⟩)
  repeat' (first | refine sq_n ?_ | refine Tr.ret ?_)
  (first | refine rt_go rfl ?_)
  rfl
set_option maxRecDepth 100000 in
set_option maxHeartbeats 4000000 in
theorem Rough_can (B : CBook) (a1 a2 : AV) (h1 : IsSl a1 B.ns 0) (h2 : IsSl a2 B.nc 1) (hn : B.ns ≤ 9223372036854775807) (n : Int) : CanS 0 Try.prog 17 2 [bk B a1 a2, .int .i64 n] [(0, some (oSt B)), (1, some (oCk B))] 2 fun v _ _ => v = ansV B (stQ B n) (fun t => t.r n.toNat) := by
  refine CanS.mk Try.func17 rfl rfl rfl ?_
  repeat' (first | refine RT.nil ?_ | refine sq_n ?_ | refine Tr.seq ?_ | refine Tr.region ?_ | (refine RT.goK rfl rfl rfl rfl ?_; apply Nx.of; (first | exact S.assign | exact S.box | exact S.alloc rfl)))
  refine Tr.openK un17_1 (by kernel_rfl) (by kernel_rfl) (alts [stF B a1 a2 n, anF B a1 a2 64 n (fun t => t.r n.toNat)]) (anF_calm hn _ n _ fun hB hq => by
    have h3 := hB.1.1
    obtain ⟨e, hi⟩ := stQ_nat hq
    have := rough1_num B a1 a2 n.toNat (by omega)
    rwa [← e] at this) ?_
  repeat' (first | (refine RD.free rfl rfl rfl rfl rfl rfl ?_; apply Nx.of; (first | exact S.assign | exact S.build rfl rfl rfl | exact S.extract rfl | exact S.makeFunc)) | (refine RD.load rfl rfl rfl rfl rfl rfl rfl rfl ?_; apply Nx.of; (first | exact S.load1c rfl rfl rfl rfl | exact S.loadNc rfl rfl rfl rfl)) | (refine RD.store rfl rfl rfl rfl rfl rfl rfl ?_; apply Nx.of; (first | exact S.store rfl rfl rfl rfl rfl rfl)) | (refine RD.callN rfl rfl rfl rfl rfl rfl rfl rfl rfl (fun fl' => alts_hd (one1_at ⟨_, rfl, ⟨h1, h2, rfl, rfl, by decide⟩⟩ fl')) (fun _ => by refine srOk_all ?_; simp only [srOk]; (repeat' (first | exact trivial | refine And.intro ?_ ?_)); all_goals (first | (refine ⟨_, rfl, ?_⟩; (first | (simp [pbC, bk, AV.cells, rfO, rfVs, rfV, h1.rf, h2.rf]; done))))) ?_) | (refine RD.callN rfl rfl rfl rfl rfl rfl rfl rfl rfl (fun fl' => (alts_tl (famA_ne _ (by decide))).trans (alts_hd (one1_at ⟨_, rfl, ⟨h1, h2, rfl, rfl, by decide⟩, rfl, by decide⟩ fl'))) (fun _ => by refine srOk_all ?_; simp only [srOk]; (repeat' (first | exact trivial | refine And.intro ?_ ?_)); all_goals (first | exact trivial | (refine ⟨_, rfl, ?_⟩; (first | rfl | (simp [rfO, rfVs, rfV, rfVs_flat]; done) | (simp [pbC, bk, AV.cells, rfO, rfVs, rfV, h1.rf, h2.rf]; done))))) ?_) | refine RD.nil ⟨Nat.le_of_ble_eq_true rfl, ?_⟩)
  repeat' (first | refine sq_n ?_ | refine Tr.ret ?_)
  (first | refine rt_go rfl ?_)
  rfl
theorem Comes_at {B : CBook} {a1 a2 : AV} {m : List (Nat × Option AObj)} {c : Nat} (h : BkIn B a1 a2 m c) (hn : B.ns ≤ 9223372036854775807) (n : Int) (fl : Nat) : OkAt 0 Try.prog fl 13 [bk B a1 a2, .int .i64 n] (ofM m) c (ansV B (stQ B n) (fun t => t.c n.toNat)) (ofM m) c :=
  (Comes_can B a1 a2 h.h1 h.h2 hn n).pure (fun _ => rfl) (h.entry _ fun _ => rfl) fl
theorem Late_at {B : CBook} {a1 a2 : AV} {m : List (Nat × Option AObj)} {c : Nat} (h : BkIn B a1 a2 m c) (hn : B.ns ≤ 9223372036854775807) (n : Int) (fl : Nat) : OkAt 0 Try.prog fl 15 [bk B a1 a2, .int .i64 n] (ofM m) c (ansV B (stQ B n) (ltV B n.toNat)) (ofM m) c :=
  (Late_can B a1 a2 h.h1 h.h2 hn n).pure (fun _ => rfl) (h.entry _ fun _ => rfl) fl
theorem Rough_at {B : CBook} {a1 a2 : AV} {m : List (Nat × Option AObj)} {c : Nat} (h : BkIn B a1 a2 m c) (hn : B.ns ≤ 9223372036854775807) (n : Int) (fl : Nat) : OkAt 0 Try.prog fl 17 [bk B a1 a2, .int .i64 n] (ofM m) c (ansV B (stQ B n) (fun t => t.r n.toNat)) (ofM m) c :=
  (Rough_can B a1 a2 h.h1 h.h2 hn n).pure (fun _ => rfl) (h.entry _ fun _ => rfl) fl
end Go.Proofs.Ytjncfddnphhofaa

/- Loads and stores near the top of a memory whose names are not literal. -/
namespace Go.Ev
open Go
section
variable {P : Program} {fl c t x off : Nat} {m : List (Nat × Option AObj)} {y : Ty} {cs cs' vs : List AV} {v : AV} {a b : Operand}
end
end Go.Ev

/- Package claim: in which truths something is so. -/
namespace Go.Proofs.Ytjncfddnphhofaa
open Go Go.Ev

/-- A function's call that tells whether something is so in a truth, in all memory that holds another one's. -/
def PrOK (B : CBook) (g : Nat) (first cap : List AV) (m : List (Nat × Option AObj)) (c : Nat) (pr : Tru → Prop) : Prop := ∀ t ∈ Ws B, ∀ m' c', Sub m c m' c' → ∀ fl, OkAt 0 Try.prog fl g (first ++ [trV t] ++ cap) (ofM m') c' (.bool (dB (pr t))) (ofM m') c'
section
variable {B : CBook} {g x : Nat} {first cap : List AV} {m : List (Nat × Option AObj)} {c : Nat} {pr : Tru → Prop}

end
end Go.Proofs.Ytjncfddnphhofaa

/- Package claim: where; the weathers, the blame, what is paid, the first stage. -/
namespace Go.Proofs.Ytjncfddnphhofaa
open Go Go.Ev

abbrev exV : AV := .agg [.int .i64 2, .fn 116 [] [], .int .i64 1, .fn 117 [] [], .int .i64 0, .fn 118 [] []]
/-- In which truths something is so. -/
noncomputable def whV (B : CBook) (pr : Tru → Prop) : Int := bif dB (∀ t ∈ Ws B, pr t) then 2 else bif dB (∃ t ∈ Ws B, pr t) then 1 else 0
section
variable {B : CBook} {g x p : Nat} {first cap : List AV} {m : List (Nat × Option AObj)} {c : Nat} {pr : Tru → Prop}
end
end Go.Proofs.Ytjncfddnphhofaa

/- Package claim: the weathers, what is paid, the first stage: what is known answers. -/
namespace Go.Proofs.Ytjncfddnphhofaa
open Go Go.Ev

section
variable {B : CBook} {a1 a2 : AV} {p q : Nat} {m : List (Nat × Option AObj)} {c : Nat}
end

/-- A set, number by number. -/
noncomputable def setV (p : Nat → Prop) : Nat → Int
  | 0 => 0
  | k + 1 => bif dB (p k) then orI (setV p k) (1 * 2 ^ k) else setV p k
def weaP (B : CBook) (k : Nat) : Prop := ∃ t ∈ Ws B, t.w = k

end Go.Proofs.Ytjncfddnphhofaa

/- Package claim: Weather, Blame, Pays, First, Fits, Right. -/
namespace Go.Proofs.Ytjncfddnphhofaa
open Go Go.Ev

noncomputable def paV (B : CBook) : Int := if whV B (blP B) = 2 then spL (owV B) (Ws B) else 0
/-- The first stage at which the coach surely is late. -/
def fsP (B : CBook) (i : Nat) : Prop := ∀ t ∈ Ws B, 0 < ltV B i t
noncomputable def fsN (B : CBook) : Nat := fstN (fsP B) B.ns B.ns
noncomputable def fsV (B : CBook) : Int := if fsN B < B.ns then fsN B else 0
noncomputable def fsE (B : CBook) : Int := if fsN B < B.ns then 0 else 4
/-! What is exported. -/
/-- A number that is answered, of a valid book that can be true. -/
noncomputable def numA (B : CBook) (n : Int) : AV := if ansE B True = 0 then .tup [.int .i64 n, .int .i64 0] else .tup [.int .i64 0, .int .i64 (ansE B True)]
noncomputable def fsA (B : CBook) : AV := if ansE B True = 0 then .tup [.int .i64 (fsV B), .int .i64 (fsE B)] else .tup [.int .i64 0, .int .i64 (ansE B True)]
end Go.Proofs.Ytjncfddnphhofaa

/- What the laws on package claim share: the base's small functions, and whether there is a book. -/
namespace Go.Proofs.Ytjncfddnphhofaa
open Go Go.Ev

set_option maxRecDepth 100000 in
theorem Amid_can (n lo hi : Int) : CanS 0 Try.prog 39 0 [.int .i64 n, .int .i64 lo, .int .i64 hi] [] 0 fun v _ _ => v = .bool (decide (lo ≤ n ∧ n ≤ hi)) := by
  refine CanS.mk Try.func39 rfl rfl rfl ?_
  repeat' (first | refine RT.nil ?_ | refine sq_n ?_ | refine Tr.seq ?_ | refine Tr.region ?_ | refine Tr.ret ?_ | (refine RT.splitd rfl rfl (fun _ => ?_) (fun _ => ?_)) | (refine RT.goK rfl rfl rfl rfl ?_; apply Nx.of; (first | exact S.move | exact S.assign | exact S.leq | exact S.pick_tt | exact S.pick_ff)) | (refine RT.no rfl rfl rfl ?_))
  all_goals
    (first | refine rt_go rfl ?_)
    simp [*, retV]
theorem Amid_at (n lo hi : Int) (H : T AObj) (c fl : Nat) : OkAt 0 Try.prog fl 39 [.int .i64 n, .int .i64 lo, .int .i64 hi] H c (.bool (decide (lo ≤ n ∧ n ≤ hi))) H c :=
  (Amid_can n lo hi).pure (.bool _) (.plain fun _ => rfl) fl
set_option maxRecDepth 100000 in
theorem Reach_can (a b : Int) : CanS 0 Try.prog 68 0 [.int .i64 a, .int .i64 b] [] 0 fun v _ _ => v = .agg [.int .i64 a, .int .i64 b] := by
  refine CanS.mk Try.func68 rfl rfl rfl ?_
  repeat' (first | refine RT.nil ?_ | refine sq_n ?_ | refine Tr.seq ?_ | refine Tr.region ?_ | refine Tr.ret ?_ | (refine RT.goK rfl rfl rfl rfl ?_; apply Nx.of; (first | exact S.move | exact S.alloc rfl | exact S.build rfl rfl rfl)) | (refine RT.goK0 rfl rfl rfl ?_; apply Nx.of; (first | exact S.store rfl rfl rfl rfl rfl rfl)))
  (first | refine rt_go rfl ?_)
  rfl
theorem Reach_at (a b : Int) (H : T AObj) (c fl : Nat) : OkAt 0 Try.prog fl 68 [.int .i64 a, .int .i64 b] H c (.agg [.int .i64 a, .int .i64 b]) H c :=
  (Reach_can a b).pure (fun _ => rfl) (.plain fun _ => rfl) fl

/-- Any number, brought below another one. -/
def wrapV (n k : Int) : Int := if k ≤ 0 then 0 else if n.tmod k < 0 then n.tmod k + k else n.tmod k
set_option maxRecDepth 100000 in
theorem Sane_can (lo hi a b d : Int) (h : -100000 ≤ a ∧ b ≤ 100000) : CanS 0 Try.prog 53 0 [.agg [.int .i64 lo, .int .i64 hi], .int .i64 a, .int .i64 b, .int .i64 d] [] 0 fun v _ _ => v = .bool (decide (a ≤ lo ∧ lo ≤ hi ∧ hi ≤ b ∧ hi - lo ≤ d)) := by
  refine CanS.mk Try.func53 rfl rfl rfl ?_
  repeat' (first | refine RT.nil ?_ | refine sq_n ?_ | refine Tr.seq ?_ | refine Tr.region ?_ | refine Tr.ret ?_ | (refine RT.splitd rfl rfl (fun _ => ?_) (fun _ => ?_)) | (refine RT.goK rfl rfl rfl rfl ?_; apply Nx.of; (first | exact S.move | exact S.assign | exact S.load1c rfl rfl rfl rfl | exact S.fieldAddr rfl rfl rfl | exact S.leq | exact S.pick_tt | exact S.pick_ff | exact S.box | exact S.sub (by unfold In64; omega))) | (refine RT.no rfl rfl rfl ?_))
  all_goals
    (first | refine rt_go rfl ?_)
    simp [*, retV]
theorem Sane_at (lo hi a b d : Int) (h : -100000 ≤ a ∧ b ≤ 100000) (H : T AObj) (c fl : Nat) : OkAt 0 Try.prog fl 53 [.agg [.int .i64 lo, .int .i64 hi], .int .i64 a, .int .i64 b, .int .i64 d] H c (.bool (decide (a ≤ lo ∧ lo ≤ hi ∧ hi ≤ b ∧ hi - lo ≤ d))) H c :=
  (Sane_can lo hi a b d h).pure (.bool _) (.plain fun _ => rfl) fl
end Go.Proofs.Ytjncfddnphhofaa

/- Whether there is a book of claims, as the laws ask it. -/
namespace Go.Proofs.Ytjncfddnphhofaa
open Go Go.Ev

end Go.Proofs.Ytjncfddnphhofaa

/- Lists that are copied and changed: append to an empty list, stores into rows that have grown; slices as windows. -/
namespace Go.Ev
open Go

section
variable {P : Program} {fl c : Nat} {m : List (Nat × Option AObj)} {y y' z : Ty} {t t' : Nat} {x1 x2 : Operand} {v : AV}

theorem S.buildSlice0 [Tab P] (ht : ty P t = some y) (hk : y.kind = 5) (he : ty P y.elem = some z) : OpE P fl (.buildSlice t 0 #[]) [] m c (.sl c 0 0 0) ((c, some (.cells [])) :: m) (c + 1) := by
  refine ⟨rfl, Nat.le_succ _, ?_⟩
  have h0 : Nat.ble (0 * z.size) (2 ^ 24) = true := by simp
  simp only [opA, oBuildSlice, ty_slice ht hk, ty_size he, h0, cond_true, Nat.beq_refl, List.map_nil, List.zip_nil_left, fillA]
  rfl

theorem cut_all {cs : List AV} {k : Nat} (h : cs.length = k) : cut cs 0 k = some cs := by
  unfold cut
  simp only [List.drop_zero, List.take_of_length_le (Nat.le_of_eq h), h, Nat.beq_refl, cond_true]

/-- Nothing, to an empty list. -/
theorem S.append_e0 [Tab P] {ats : Array Nat} {x w : Nat} {ob : AObj} {news : List AV} (hat : ats.toList = [t, t']) (ht : ty P t = some y) (hk : y.kind = 5) (ht' : ty P t' = some y') (hk' : y'.kind = 5) (hz : ty P y.elem = some z) (hzz : (Nat.beq z.zero.cells.length z.size && Nat.ble 1 z.size) = true)
    (hx : lookM m x = some (.cells [])) (hv : IsSl v 0 w) (ho : lookM m w = some ob) (hcs : cellsOf ob = some news) : OpE P fl (.call ⟨.builtin .append, #[x1, x2], ats⟩) [.sl x 0 0 0, v] m c (.sl x 0 0 0) m c := by
  obtain ⟨i, h1, h2, h3⟩ := info_sz hz
  have hcut0 : ∀ cs : List AV, cut cs 0 (0 * i.size) = some [] := fun cs => by rw [Nat.zero_mul]; rfl
  have hce : cellsOf (.cells []) = some [] := rfl
  refine ⟨rfl, Nat.le_refl _, ?_⟩
  show opA P (ofM m) c fl _ _ = _
  rcases hv with rfl | ⟨rfl, _⟩
  · simp only [opA, oCall, builtinA, hat, appendA, ty_slice ht hk, ty_slice ht' hk', h1, rowT hz hzz, sliceCells, getCells, ofM_get, hx, ho, hcs, hce, Option.bind_some, hcut0, Option.map_some, Nat.beq_refl, cond_true]
    rfl
  · simp only [opA, oCall, builtinA, hat, appendA, ty_slice ht hk, ty_slice ht' hk', h1, rowT hz hzz, sliceCells, getCells, ofM_get, hx, hce, Option.bind_some, hcut0, Option.map_some, Nat.beq_refl, cond_true]
    rfl

end
end Go.Ev

/- Package claim: books whose lists lie elsewhere. -/
namespace Go.Proofs.Ytjncfddnphhofaa
open Go Go.Ev

/-- A book whose lists lie anywhere in memory. -/
structure BkX (B : CBook) (v1 v2 : AV) (m : List (Nat × Option AObj)) (c : Nat) : Prop where
  ex : ∃ (W : List Wnd) (a1 a2 : AV), W.length = 2 ∧ winOk (ofM m) W [flat (stE B) (List.range B.ns), flat (ckE B) (List.range B.nc)] ∧ ArgW W v1 a1 ∧ ArgW W v2 a2 ∧ IsSl a1 B.ns 0 ∧ IsSl a2 B.nc 1

theorem pls_flat {τ : Type} (enc : τ → List Int) (L : List τ) : Pls (flat enc L) := fun σ => rens_flat enc σ L
/-- One list, where it lies. -/
abbrev LiesAt (m : List (Nat × Option AObj)) (v : AV) (n x : Nat) (cs : List AV) : Prop := IsSl v n x ∧ ∃ o, lookM m x = some o ∧ (cs = [] ∨ cellsOf o = some cs)
section
variable {B : CBook} {v1 v2 : AV} {m : List (Nat × Option AObj)} {c : Nat}
end
end Go.Proofs.Ytjncfddnphhofaa

/- Calls that spoil one object; calls that leave new names behind, in regions whose order is open. -/
namespace Go.Ev
open Go

section
variable {G : Nat} {P : Program} {ρ ρ1 : Rho} {fl c c' : Nat} {w w' : World}

theorem del_get {m : List (Nat × Option AObj)} {q x : Nat} {o : AObj} (h : (ofM ((q, none) :: m)).get x = some o) : x ≠ q ∧ (ofM m).get x = some o := by
  rw [ofM_get] at h ⊢
  by_cases e : x = q
  · subst e; rw [lookM_hd] at h; cases h
  · rw [lookM_tl e] at h; exact ⟨e, h⟩

/-- A call that spoils one object, and leaves nothing else behind. -/
theorem CanS.spoil {f q fl0 : Nat} {args0 : List AV} {m0 m : List (Nat × Option AObj)} {v0 : AV} {o0 : AObj} (h : CanS G P f fl0 args0 m0 (fl0 + 1) fun v _ _ => v = v0) (hv : Pl v0)
    (τ : Nat → Nat) (hτg : ∀ g, g < G → τ g = g) (hτ2 : ∀ y, fl0 + 1 ≤ y → c ≤ τ y) (hobj : ∀ y o, lookM m0 y = some o → (ofM m).get (τ y) = some (o.ren τ))
    (hinj : ∀ x y o o', lookM m0 x = some o → lookM m0 y = some o' → x ≠ y → τ x ≠ τ y ∨ ∃ n m, o.share = some (false, n) ∧ o'.share = some (false, m))
    (hq : τ fl0 = q) (hfl : fl ≤ q) (ho0 : lookM m0 fl0 = some o0) (hs0 : o0.share = none) : OkAt G P fl f (AV.rens τ args0) (ofM m) c v0 (ofM ((q, none) :: m)) c := by
  refine ⟨h.1, fun ρ w us hH hargs r n => ?_⟩
  have h0 : Holds G (fun x => ρ (τ x)) (ofM m0) (fl0 + 1) w := hH.ren τ (fun x o hx => hobj x o (by rw [← ofM_get]; exact hx)) (fun x y o o' hx hy => hinj x y o o' (by rw [← ofM_get]; exact hx) (by rw [← ofM_get]; exact hy)) hτ2 hτg
  refine (h.2 _ w us h0 ((VRs_ren ρ τ args0 us).1 hargs) r n).mono ?_
  rintro e w' ⟨u, v1, H1, c1, ρ1, rfl, rfl, h3, h4, h5, h6, h7⟩
  have hfr : ∃ x, ρ1 x = none := ⟨c1, h4.fresh c1 (Nat.le_refl _)⟩
  have hqo : (ofM m).get q = some (o0.ren τ) := by rw [← hq]; exact hobj _ _ ho0
  have hqs : (o0.ren τ).share = none := by rw [AObj.ren_share]; exact hs0
  obtain ⟨pq, hρq, _⟩ := hH.obj _ _ hqo
  have hown : ∀ y t, fl0 ≤ y → ρ (τ y) = some t → y = fl0 := fun y t hy ht => by
    rcases Nat.lt_or_ge y (fl0 + 1) with h | h
    · omega
    · have := h0.fresh y h
      replace this : ρ (τ y) = none := this
      rw [this] at ht; cases ht
  have hap : ∀ x o p, (ofM m).get x = some o → ρ x = some p → x ≠ q → p.b ≠ pq.b := fun x o p hx hp hn hb => by
    have := (hH.sep x q o _ p pq hn hx hqo hp hρq hb).ro
    unfold AObj.isRo at this
    rw [hqs] at this
    simp at this
  have hkeep : ∀ b, b < w.heap.size → b ≠ pq.b → w'.heap[b]? = w.heap[b]? := fun b hb hne => h7.keep b hb fun y t hy ht => by
    have e := hown y t hy ht
    subst e
    rw [hq] at ht
    rw [hρq] at ht
    cases ht
    exact fun e => hne e.symm
  refine ⟨u, rfl, ρ, hv.vr hfr h3, ⟨fun x o hx => ?_, fun x y o o' p p' hxy hx hy hp hp' hb => ?_, hH.fresh, fun x p hp => Nat.lt_of_lt_of_le (hH.lt x p hp) h7.size, hH.glob⟩, .refl _ _ _ _, ⟨h7.os, h7.tape, h7.output, h7.size, fun b hb hn => hkeep b hb fun e => hn q pq hfl hρq e.symm⟩⟩
  · obtain ⟨e, hx⟩ := del_get hx
    obtain ⟨p, h1, h2⟩ := hH.obj x o hx
    exact ⟨p, h1, h2.world (hkeep p.b (hH.lt x p h1) (hap x o p hx h1 e))⟩
  · exact hH.sep x y o o' p p' hxy (del_get hx).2 (del_get hy).2 hp hp' hb

theorem Good.cons {H : T AObj} {m : List (Nat × Option AObj)} {c1 c2 d : Nat} {o : AObj} (h : Good fl c H c1 (ofM m)) (hd : c ≤ d) (hd2 : d < c2) (hc : c1 ≤ c2) : Good fl c H c2 (ofM ((d, some o) :: m)) := by
  refine ⟨Nat.le_trans h.count hc, fun x h1 h2 => ?_, fun hdm x hx => ?_⟩
  · have := h.keep x h1 h2
    rw [ofM_get] at this ⊢
    rw [lookM_tl (by omega)]
    exact this
  · by_cases e : x = d
    · omega
    · have := h.dom hdm x (by rw [ofM_get] at hx ⊢; rwa [lookM_tl e] at hx)
      omega
open Classical in
/-- One call, in one memory. -/
noncomputable def pinX (f : Nat) (args : List AV) (m : List (Nat × Option AObj)) (c : Nat) (v : AV) (m' : List (Nat × Option AObj)) (c' : Nat) : CallFn := fun _ f1 args1 H1 c1 =>
  if f1 = f ∧ args1 = args ∧ H1 = ofM m ∧ c1 = c then some (v, ofM m', c') else none
theorem pinX_at (f : Nat) (args : List AV) (m : List (Nat × Option AObj)) (c : Nat) (v : AV) (m' : List (Nat × Option AObj)) (c' fl : Nat) : pinX f args m c v m' c' fl f args (ofM m) c = some (v, ofM m', c') := by
  unfold pinX; rw [if_pos ⟨rfl, rfl, rfl, rfl⟩]
theorem pinX_calm {f : Nat} {args : List AV} {m m' : List (Nat × Option AObj)} {v : AV} (h : ∀ fl, OkAt G P fl f args (ofM m) c v (ofM m') c') (hg : ∀ fl, Good fl c (ofM m) c' (ofM m')) : CalmC G P (pinX f args m c v m' c') := by
  refine ⟨fun fl f1 args1 H1 c1 v' H' c2 e => ?_, fun fl f1 args1 H1 c1 v' H' c2 e => ?_⟩
  · unfold pinX at e
    split at e
    · rename_i hh
      obtain ⟨rfl, rfl, rfl, rfl⟩ := hh
      simp only [Option.some.injEq, Prod.mk.injEq] at e
      obtain ⟨rfl, rfl, rfl⟩ := e
      exact h _
    · cases e
  · unfold pinX at e
    split at e
    · rename_i hh
      obtain ⟨rfl, rfl, rfl, rfl⟩ := hh
      simp only [Option.some.injEq, Prod.mk.injEq] at e
      obtain ⟨rfl, rfl, rfl⟩ := e
      exact hg _
    · cases e

variable {n : Nat} {dfs : List Nat} {l : List (Nat × AV)} {o : Oper} {call round : CallFn} {ops : List Oper} {is : List OpI} {rs us : List Rec} {un : List Nat} {wd : Bool} {v : AV} {d : Nat} {K : St → Prop} {m m' : List (Nat × Option AObj)}
theorem RD.callX [hP : PG P G] {f : Nat} {first cap args : List AV} (hk : kindA o.op = .heavy) (hc : isCall o.op = true) (hr : recL rs un = some us) (hw : wantedL ops o l = some true) (hv : operandsL G l (opArgs o.op) = some (.fn f first cap :: args)) (hd : o.dst = some d) (hn : Nat.blt d n = true)
    (hu : us.all (fun r => !r.heavy && r.st.isNone) = true) (hh : (us.flatMap fun r => (List.range (r.hi - r.lo)).map (r.lo + ·)) = [])
    (hs : ∀ fl', call fl' f (first ++ args ++ cap) (ofM m) c = some (v, ofM m', c')) (hsame : wd = true → us.all (sameR P (ofM m) (ofM m')) = true)
    (h : RD G P fl call round ops is (⟨true, none, c, c', none, bif wd then some (ofM m, ofM m') else none, none⟩ :: rs) (stL n dfs ((d, v) :: l) m' c') K) : RD G P fl call round ops (⟨o, un, wd⟩ :: is) rs (stL n dfs l m c) K := by
  refine RD.step (v := v) (m' := m') (c' := c') (rc := ⟨true, none, c, c', none, bif wd then some (ofM m, ofM m') else none, none⟩) hr hw hv ?_ (put_some hn hd) (by rw [hd]; exact h)
  rw [hk]; unfold stD
  have hst : ∀ fl', stepA P call round fl' o.op (.fn f first cap :: args) (ofM m) c = some (v, ofM m', c') := fun fl' => by
    unfold stepA; rw [hc]; exact hs fl'
  simp only [hu, hh, hideA, cond_true]
  cases wd with
  | true => simp only [cond_true, hst, backA, List.foldl_nil, hsame rfl]
  | false => simp only [cond_false, hst, backA, List.foldl_nil]
/-- What was read is still there, where a call adds names. -/
def srOkX (m m' : List (Nat × Option AObj)) : List Rec → Prop
  | [] => True
  | r :: us => (match r.reads with | none => True | some x => ∃ ob, lookM m x = some ob ∧ lookM m' x = some ob ∧ rfO ob = true) ∧ srOkX m m' us
theorem srOkX_all : ∀ {us : List Rec}, srOkX m m' us → us.all (sameR P (ofM m) (ofM m')) = true
  | [], _ => rfl
  | r :: us, h => by
    obtain ⟨h1, h2⟩ := h
    have h3 : sameR P (ofM m) (ofM m') r = true := by
      unfold sameR
      split at h1
      · rename_i e; rw [e]
      · rename_i x e
        obtain ⟨ob, h4, h4', h5⟩ := h1
        rw [e]
        simp only [same_get (getM h4) (getM h4') h5, Bool.true_or]
    rw [List.all_cons, h3, srOkX_all h2]
    rfl
end
end Go.Ev

/- Package claim: Right, Fits. -/
namespace Go.Proofs.Ytjncfddnphhofaa
open Go Go.Ev

theorem right_at {B : CBook} {a1 a2 : AV} {p q : Nat} {L : List (Int × Int)} {m : List (Nat × Option AObj)} {c : Nat} (h : PbIn B a1 a2 p q m c) (hq : lookM m q = some (oMap B L)) (hok : stsOk B) (hw : weaOk B) (hck : cksOk B) (fl : Nat) (hfl : fl ≤ q) : OkAt 0 Try.prog fl 50 [.ptr p 0] (ofM m) c (.bool (!(wths B 0).isEmpty)) (ofM ((q, none) :: m)) c := by
  have e0 : tau [0, 1, p, q] c 0 = 0 := rfl
  have e1 : tau [0, 1, p, q] c 1 = 1 := rfl
  have e2 : tau [0, 1, p, q] c 2 = p := rfl
  have e3 : tau [0, 1, p, q] c 3 = q := rfl
  have low : ∀ {u : Nat} {ob : AObj}, lookM [(0, some (oSt B)), (1, some (oCk B)), (2, some (.cells (pbC B a1 a2 3))), (3, some (oMap B L))] u = some ob → u = 0 ∨ u = 1 ∨ u = 2 ∨ u = 3 := fun {u ob} hz => by
    have := lookM_mem hz
    simpa using this
  have hobj : ∀ u o, lookM [(0, some (oSt B)), (1, some (oCk B)), (2, some (.cells (pbC B a1 a2 3))), (3, some (oMap B L))] u = some o → lookM m (tau [0, 1, p, q] c u) = some (o.ren (tau [0, 1, p, q] c)) := fun u o hu => by
    rcases low hu with rfl | rfl | rfl | rfl
    · cases hu; rw [e0, ren_ro]; exact h.m1
    · cases hu; rw [e1, ren_ro]; exact h.m2
    · cases hu
      have : (AObj.cells (pbC B a1 a2 3)).ren (tau [0, 1, p, q] c) = .cells (pbC B a1 a2 q) := by simp only [pbC, AObj.ren, AV.ren, AV.rens, h.h1.ren e0, h.h2.ren e1, e3]
      rw [e2, this]; exact h.m3
    · cases hu; rw [e3, ren_mapA]; exact hq
  have ha : AV.rens (tau [0, 1, p, q] c) [.ptr 2 0] = [.ptr p 0] := rfl
  rw [← ha]
  refine CanS.spoil (o0 := oMap B L) (right_can B a1 a2 h.h1 h.h2 hok hw hck L) (.bool _) (tau [0, 1, p, q] c) (fun g hg => by omega) (fun u hu => by rw [tau_ge hu]; omega) (fun u o hu => getM (hobj u o hu)) (fun u u' o o' hu hu' hne => .inl fun e => ?_) rfl hfl rfl rfl
  have g1 := hobj u o hu
  have g2 := hobj u' o' hu'
  rw [e] at g1
  rw [g1] at g2
  rcases low hu with rfl | rfl | rfl | rfl <;> rcases low hu' with rfl | rfl | rfl | rfl <;> first | exact absurd rfl hne | exact absurd (show (0 : Nat) = 1 from e) (by decide) | exact absurd (show (1 : Nat) = 0 from e) (by decide) | (cases hu; cases hu'; simp [AObj.ren, AV.rens, AV.ren, pbC, oSt, oCk] at g2)

/-- Whether a book can be true, as it is answered. -/
noncomputable def rtV (B : CBook) : AV := if dB (bkOk B) = true then .tup [.bool (dB (Ws B ≠ [])), .int .i64 0] else .tup [.bool false, .int .i64 60]
theorem rtV_no {B : CBook} (h : ¬ bkOk B) : rtV B = .tup [.bool false, .int .i64 60] := by unfold rtV; rw [dB_ff h, if_neg (by decide)]
theorem rtV_t {B : CBook} (h : bkOk B) (hW : Ws B ≠ []) : rtV B = .tup [.bool true, .int .i64 0] := by unfold rtV; rw [dB_tt h, if_pos rfl, dB_tt hW]
theorem rtV_f {B : CBook} (h : bkOk B) (hW : Ws B = []) : rtV B = .tup [.bool false, .int .i64 0] := by unfold rtV; rw [dB_tt h, if_pos rfl, dB_ff (fun k => k hW)]
set_option maxRecDepth 100000 in
set_option maxHeartbeats 4000000 in
theorem Right_can (B : CBook) (a1 a2 : AV) (h1 : IsSl a1 B.ns 0) (h2 : IsSl a2 B.nc 1) (hn : B.ns ≤ 9223372036854775807) : CanS 0 Try.prog 9 2 [bk B a1 a2] [(0, some (oSt B)), (1, some (oCk B))] 2 fun v _ _ => v = rtV B := by
  refine CanS.mk Try.func9 rfl rfl rfl ?_
  by_cases hB : bkOk B
  · have he : rtV B = .tup [.bool (!(wths B 0).isEmpty), .int .i64 0] := by
      by_cases hW : Ws B = []
      · have : (wths B 0).isEmpty = true := by show (Ws B).isEmpty = true; rw [hW]; rfl
        rw [rtV_f hB hW, this]; rfl
      · have : (wths B 0).isEmpty = false := by
          show (Ws B).isEmpty = false
          cases h : Ws B with
          | nil => exact absurd h hW
          | cons _ _ => rfl
        rw [rtV_t hB hW, this]; rfl
    rw [he]
    repeat' (first | refine RT.nil ?_ | refine sq_n ?_ | refine Tr.seq ?_ | refine Tr.region ?_ | refine Tr.cond_f rfl ?_ | refine Tr.skip ?_ | refine Tr.ret ?_ | (refine RT.call rfl rfl rfl (Check_ok ⟨h1, h2, rfl, rfl, by decide⟩ hn hB _) rfl rfl (Nat.le_refl _) ?_) | (refine RT.call rfl rfl rfl (prepare_at ⟨h1, h2, rfl, rfl, by decide⟩ (fun x o hx => by have := lookM_mem hx; simp at this; omega) _) rfl rfl (by decide) ?_) | (refine RT.call rfl rfl rfl (right_at (p := 5) (q := 4) (L := []) ⟨h1, h2, rfl, rfl, rfl, by decide, by decide, by decide⟩ rfl hB.1 hB.2.1 hB.2.2.1 _ (by decide)) rfl rfl (Nat.le_refl _) ?_) | (refine RT.goK rfl rfl rfl rfl ?_; apply Nx.of; (first | exact S.neq_f (by decide))) | (refine RT.goK rfl rfl rfl rfl ?_; apply Nx.of; (first | exact S.move | exact S.assign | exact S.loadNc rfl rfl rfl rfl | exact S.box)))
    (first | refine rt_go rfl ?_)
    rfl
  · rw [rtV_no hB]
    repeat' (first | refine RT.nil ?_ | refine sq_n ?_ | refine Tr.seq ?_ | refine Tr.region ?_ | refine Tr.cond_t rfl ?_ | refine Tr.ret ?_ | refine sq_r ?_ | (refine RT.call rfl rfl rfl (Check_no ⟨h1, h2, rfl, rfl, by decide⟩ hn hB _) rfl rfl (Nat.le_refl _) ?_) | (refine RT.goK rfl rfl rfl rfl ?_; apply Nx.of; (first | exact S.neq_t (by decide))) | (refine RT.goK rfl rfl rfl rfl ?_; apply Nx.of; (first | exact S.move | exact S.assign | exact S.loadNc rfl rfl rfl rfl | exact S.box)))
    (first | refine rt_go rfl ?_)
    rfl
theorem rtV_pl (B : CBook) : Pl (rtV B) := by unfold rtV; split <;> exact fun _ => rfl
/-- Whether a further clock can be right. -/
def ftP (B : CBook) (s r e : Int) : Prop := ∃ t ∈ Ws B, r - e ≤ t.c s.toNat ∧ t.c s.toNat ≤ r + e
noncomputable def ftV (B : CBook) (s r e : Int) : AV := if ansE B (ckOk B s r e) = 0 then .tup [.bool (dB (ftP B s r e)), .int .i64 0] else .tup [.bool false, .int .i64 (ansE B (ckOk B s r e))]
noncomputable def clF (B : CBook) (a1 a2 : AV) (s r e : Int) (v : Bool) : CallFn := one1 79 [bk B a1 a2, .agg [.int .i64 s, .int .i64 r, .int .i64 e]] (.bool v) fun H c => ∃ m, H = ofM m ∧ BkIn B a1 a2 m c
noncomputable def lnF (B : CBook) (a1 a2 : AV) (q : Bool) (x : Int) : CallFn := one1 71 [bk B a1 a2, .bool q] (.tup [.agg [.nilp, .nils], .int .i64 x]) fun H c => ∃ m, H = ofM m ∧ BkIn B a1 a2 m c
end Go.Proofs.Ytjncfddnphhofaa

/- What the laws on package claim share, beside the book: spans compared, Reach, Just, Wrap in open regions; a book whose road is smooth. -/
namespace Go.Proofs.Ytjncfddnphhofaa
open Go Go.Ev

theorem eqSp (a b e d : Int) : eqA Try.prog 32 (.agg [.int .i64 a, .int .i64 b]) (.agg [.int .i64 e, .int .i64 d]) = some (decide (a = e ∧ b = d)) := by
  have : eqA Try.prog 32 (.agg [.int .i64 a, .int .i64 b]) (.agg [.int .i64 e, .int .i64 d]) = andV (some (decide (a = e))) (andV (some (decide (b = d))) (some true)) := by kernel_rfl
  rw [this, andV1, andV2]
theorem S.neqA_f {P : Program} {fl c t yt : Nat} {m : List (Nat × Option AObj)} {x1 x2 : Operand} {l1 l2 : List AV} {p : Prop} {inst : Decidable p} (h : eqA P t (.agg l1) (.agg l2) = some (@decide p inst)) (hp : p) : OpE P fl (.binOp .neq t x1 x2 yt) [.agg l1, .agg l2] m c (.bool false) m c := by
  have := S.neqA (fl := fl) (c := c) (m := m) (x1 := x1) (x2 := x2) (yt := yt) h
  rwa [show decide (¬ p) = false from decide_eq_false (fun k => k hp)] at this
theorem S.eqlA_t {P : Program} {fl c t yt : Nat} {m : List (Nat × Option AObj)} {x1 x2 : Operand} {l1 l2 : List AV} {p : Prop} {inst : Decidable p} (h : eqA P t (.agg l1) (.agg l2) = some (@decide p inst)) (hp : p) : OpE P fl (.binOp .eql t x1 x2 yt) [.agg l1, .agg l2] m c (.bool true) m c := by
  have := S.eqlA (fl := fl) (c := c) (m := m) (x1 := x1) (x2 := x2) (yt := yt) (h.trans (congrArg some (decide_eq_true hp)))
  exact this
theorem val_is {u v : AV} {H : T AObj} {c fl f : Nat} {args : List AV} (e : u = v) (h : OkAt 0 Try.prog fl f args H c u H c) : OkAt 0 Try.prog fl f args H c v H c := e ▸ h
/-- The chapter's examples say true. -/
abbrev BillOK : Prop := CanS 0 Try.prog 19 0 [] [] 0 fun v _ _ => v = .bool true

set_option maxRecDepth 100000 in
theorem Just_can (a : Int) : CanS 0 Try.prog 95 0 [.int .i64 a] [] 0 fun v _ _ => v = .agg [.int .i64 a, .int .i64 a] := by
  refine CanS.mk Try.func95 rfl rfl rfl ?_
  repeat' (first | refine RT.nil ?_ | refine sq_n ?_ | refine Tr.seq ?_ | refine Tr.region ?_ | refine Tr.ret ?_ | (refine RT.call rfl rfl rfl (Reach_at _ _ _ _ _) rfl rfl (Nat.le_refl _) ?_) | (refine RT.goK rfl rfl rfl rfl ?_; apply Nx.of; (first | exact S.move | exact S.alloc rfl)) | (refine RT.goK0 rfl rfl rfl ?_; apply Nx.of; (first | exact S.store rfl rfl rfl rfl rfl rfl)))
  (first | refine rt_go rfl ?_)
  rfl
theorem Just_at (a : Int) (H : T AObj) (c fl : Nat) : OkAt 0 Try.prog fl 95 [.int .i64 a] H c (.agg [.int .i64 a, .int .i64 a]) H c :=
  (Just_can a).pure (fun _ => rfl) (.plain fun _ => rfl) fl

noncomputable def reachF : CallFn := famA (α := Int × Int) 68 (fun a => [.int .i64 a.1, .int .i64 a.2]) (fun a => .agg [.int .i64 a.1, .int .i64 a.2]) fun _ _ _ => True
noncomputable def justF : CallFn := famA (α := Int) 95 (fun a => [.int .i64 a]) (fun a => .agg [.int .i64 a, .int .i64 a]) fun _ _ _ => True
theorem justF_calm : CalmC 0 Try.prog justF := famA_calm fun a fl H c _ => Just_at a H c fl
theorem justF_at (a : Int) (fl0 : Nat) (H : T AObj) (c : Nat) : justF fl0 95 [.int .i64 a] H c = some (.agg [.int .i64 a, .int .i64 a], H, c) :=
  famA_at (α := Int) fl0 a trivial fun x h => by
    simp only [List.cons.injEq, AV.int.injEq, true_and, and_true] at h
    subst h
    rfl
noncomputable def wrapF : CallFn := famA (α := Int × Int) 43 (fun a => [.int .i64 a.1, .int .i64 a.2]) (fun a => .int .i64 (wrapV a.1 a.2)) fun a _ _ => a.2 ≤ 1000000
/-- A book whose road costs nothing on the first stages. -/
def smB (B : CBook) (k : Nat) : CBook := { B with rl := fun i => if i < k then 0 else B.rl i, rh := fun i => if i < k then 0 else B.rh i }
end Go.Proofs.Ytjncfddnphhofaa

/- A book whose road is smooth: where it lies, and what its truths are. -/
namespace Go.Proofs.Ytjncfddnphhofaa
open Go Go.Ev

/-- A book without its clocks. -/
def ncB (B : CBook) : CBook := { B with nc := 0 }
/-- A truth by its parts. -/
def toT (w : Int) (n : Nat) (r c : Nat → Int) : Tru := ⟨w, if 0 < n then r 0 else 0, if 1 < n then r 1 else 0, if 2 < n then r 2 else 0, if 0 < n then c 0 else 0, if 1 < n then c 1 else 0, if 2 < n then c 2 else 0⟩
def sumN (f : Nat → Int) : Nat → Int
  | 0 => 0
  | k + 1 => sumN f k + f k
def chn (B : CBook) (w : Nat) : Nat → Int
  | 0 => B.dl 0 + B.cost w + B.rl 0
  | k + 1 => chn B w k + B.sl k + B.dl (k + 1) + B.cost w + B.rl (k + 1)
end Go.Proofs.Ytjncfddnphhofaa

/- Heavy operations that are not calls, whose order beside others is open; and-not. -/
namespace Go.Ev
open Go

section
variable {G : Nat} {P : Program} {fl c c' : Nat} {n : Nat} {dfs : List Nat} {l : List (Nat × AV)} {o : Oper} {call round : CallFn} {ops : List Oper} {is : List OpI} {rs us : List Rec} {un : List Nat} {v : AV} {vs : List AV} {d : Nat} {K : St → Prop} {m m' : List (Nat × Option AObj)}
def andnI (a b : Int) : Int := IntKind.i64.wrap (BitVec.ofInt 64 a &&& ~~~(BitVec.ofInt 64 b)).toNat
theorem S.neqB_f {t s : Nat} {x1 x2 : Operand} {b : Bool} (h : eqA P t (.bool b) (.bool b) = some true) : OpE P fl (.binOp .neq t x1 x2 s) [.bool b, .bool b] m c (.bool false) m c := by
  refine ⟨rfl, Nat.le_refl _, ?_⟩
  show opt1 ((eqA P t (.bool b) (.bool b)).map fun b => .bool (!b)) (ofM m) c = _
  rw [h]; rfl
theorem S.gtr_f {t s : Nat} {x1 x2 : Operand} {a b : Int} (h : ¬ b < a) : OpE P fl (.binOp .gtr t x1 x2 s) [.int .i64 a, .int .i64 b] m c (.bool false) m c := by
  have := S.gtr (P := P) (fl := fl) (m := m) (c := c) (t := t) (yt := s) (x1 := x1) (x2 := x2) (a := a) (b := b)
  rwa [decide_eq_false h] at this
end
end Go.Ev

/- A book with a further clock: where it lies. -/
namespace Go.Proofs.Ytjncfddnphhofaa
open Go Go.Ev

set_option maxRecDepth 100000 in
theorem In_can (s : Int) (n : Nat) (h : n ≤ 62) : CanS 0 Try.prog 38 0 [.int .i64 s, .int .i64 (n : Int)] [] 0 fun v _ _ => v = .bool (dB (hasP s n)) := by
  refine CanS.mk Try.func38 rfl rfl rfl ?_
  repeat' (first | refine RT.nil ?_ | refine sq_n ?_ | refine Tr.seq ?_ | refine Tr.region ?_ | refine Tr.ret ?_ | (refine RT.goK rfl rfl rfl rfl ?_; refine Nx.of (S.shr h) ?_) | (refine RT.goK rfl rfl rfl rfl ?_; apply Nx.of; (first | exact S.move | exact S.assign | exact S.eql | exact S.and)))
  (first | refine rt_go rfl ?_)
  exact dB_iff Iff.rfl
theorem In_at (s : Int) (n : Nat) (h : n ≤ 62) (H : T AObj) (c fl : Nat) : OkAt 0 Try.prog fl 38 [.int .i64 s, .int .i64 (n : Int)] H c (.bool (dB (hasP s n))) H c :=
  (In_can s n h).pure (.bool _) (.plain fun _ => rfl) fl

/-- A book with one clock more. -/
def wiB (B : CBook) (s r e : Int) : CBook := { B with nc := B.nc + 1, ck := fun i => if i < B.nc then B.ck i else s, rd := fun i => if i < B.nc then B.rd i else r, er := fun i => if i < B.nc then B.er i else e }
/-- The name under which the longer list lies. -/
def wiX (B : CBook) : Nat := if B.nc = 0 then 8 else 9
end Go.Proofs.Ytjncfddnphhofaa

/- A book with a further clock, a book with one weather: their truths. -/
namespace Go.Proofs.Ytjncfddnphhofaa
open Go Go.Ev

/-- A book with one weather. -/
def weB (B : CBook) (w : Nat) : CBook := { B with wea := 1 * 2 ^ w }
end Go.Proofs.Ytjncfddnphhofaa

/- Package claim: wrongIn, numbers: what fewest holds against a truth. -/
namespace Go.Proofs.Ytjncfddnphhofaa
open Go Go.Ev

/-- The clocks that are wrong in a truth, on the first stages. -/
noncomputable def wnS (B : CBook) (t : Tru) : Nat → Int
  | 0 => 0
  | k + 1 => orI (wnS B t k) (wrV B ((k : Int), t.c k))
def lsS (t : Tru) (L : List (Int × Int)) : Nat → List (Int × Int)
  | 0 => L
  | k + 1 => insL (lsS t L k) ((k : Int), t.c k)
end Go.Proofs.Ytjncfddnphhofaa

/- A range over a function whose rounds also read what lies beneath: Tr.range, but that the rounds' memory may name things below their floor. -/
namespace Go.Ev
open Go

/-- What of a memory lies above a floor. -/
def upM (f : Nat) (m : List (Nat × Option AObj)) : List (Nat × Option AObj) := m.filter fun e => Nat.ble f e.1
section
variable {P : Program} {ρ : Rho} {fl cb c cc n p : Nat} {w : World} {l lC : List (Nat × AV)} {ags bd : Code} {m memT : List (Nat × Option AObj)}
variable {σ : Type} {M : σ → List (Nat × Option AObj)} {ok : σ → List AV → Prop} {stp : σ → List AV → σ × Option Code}

end
end Go.Ev

/- Lists of numbers: append, cut to their length. -/
namespace Go.Ev
open Go

section
variable {P : Program} {fl c : Nat} {m : List (Nat × Option AObj)} {y y' z : Ty} {t t' : Nat} {x1 x2 : Operand}

theorem keptI [Tab P] {e : Nat} (h : ty P e = some z) (hk : z.kind = 0) : keptA P e = false := by
  have h1 := ty_kind h
  unfold kindOk at h1
  rw [hk] at h1
  unfold keptA
  split
  · rename_i h2
    replace h1 : okInt P e = true := h1
    unfold okInt at h1
    rw [h2] at h1
    simp at h1
  · rfl
theorem S.append_gsI [Tab P] {ats : Array Nat} {x a n : Nat} {olds news : List AV} (hat : ats.toList = [t, t']) (ht : ty P t = some y) (hk : y.kind = 5) (ht' : ty P t' = some y') (hk' : y'.kind = 5) (hz : ty P y.elem = some z) (hzk : z.kind = 0) (hzz : (Nat.beq z.zero.cells.length z.size && Nat.ble 1 z.size) = true)
    (hb : Nat.ble z.bytes 10000 = true) (ho : lookM m x = some (.cells news)) (hc : cut news 0 (1 * z.size) = some news) (ha : lookM m a = some (.grown olds z.size)) (hf : Nat.ble fl a = true) (hca : cut olds 0 (n * z.size) = some olds) (hn : n ≤ 1000000) (hone : news.all AV.one = true) :
    OpE P fl (.call ⟨.builtin .append, #[x1, x2], ats⟩) [.gs a n, .sl x 0 1 1] m c (.gs c (n + 1)) ((c, some (.grown (olds ++ news) z.size)) :: (a, none) :: m) (c + 1) := by
  obtain ⟨i, h1, h2, h3⟩ := info_sz hz
  have hb' : z.bytes ≤ 10000 := Nat.le_of_ble_eq_true hb
  have hbb : (Nat.ble ((2 * (n + 1) + 1000) * i.bytes) (2 ^ 48) && Nat.ble (n + 1) (2 ^ 62)) = true := by
    rw [h2]
    simp only [Bool.and_eq_true, Nat.ble_eq]
    refine ⟨?_, by omega⟩
    calc (2 * (n + 1) + 1000) * z.bytes ≤ 3000000 * 10000 := Nat.mul_le_mul (by omega) hb'
      _ ≤ 2 ^ 48 := by decide
  refine ⟨rfl, Nat.le_succ _, ?_⟩
  show opA P (ofM m) c fl _ _ = _
  simp only [opA, oCall, builtinA, hat, appendA, ty_slice ht hk, ty_slice ht' hk', h1, rowT hz hzz, sliceCells, getCells, ofM_get, ho, ha, cellsOf, Option.bind_some, h3, hc, hca, Option.map_some, show Nat.beq 1 0 = false from rfl, cond_false, hbb, cond_true, hf, hone, Nat.beq_refl, Bool.and_self]
  rfl
end
end Go.Ev

/- Package claim: the numbers of a set. -/
namespace Go.Proofs.Ytjncfddnphhofaa
open Go Go.Ev

/-- The numbers of a set, below a number. -/
noncomputable def numsL (s : Int) : Nat → List Nat
  | 0 => []
  | k + 1 => bif dB (hasP s k) then numsL s k ++ [k] else numsL s k
def natV (l : List Nat) : List AV := (l.map fun k : Nat => (k : Int)).map (AV.int .i64)
/-- A list of numbers that grows under a name. -/
def grV (x : Nat) (l : List Nat) : AV := match l with | [] => .nils | _ :: _ => .gs x l.length
def grM (x : Nat) (l : List Nat) : List (Nat × Option AObj) := match l with | [] => [] | _ :: _ => [(x, some (.grown (natV l) 1))]
/-- A list of numbers that is full. -/
def fuV (x : Nat) (l : List Nat) : AV := match l with | [] => .nils | _ :: _ => .sl x 0 l.length l.length

end Go.Proofs.Ytjncfddnphhofaa

/- Lists of numbers compared: by length, then in order. -/
namespace Go.Proofs.Ytjncfddnphhofaa
open Go Go.Ev

def cmpI (a b : Int) : Int := if a < b then -1 else if b < a then 1 else 0
def lexC : List Nat → List Nat → Int
  | [], [] => 0
  | [], _ :: _ => -1
  | _ :: _, [] => 1
  | a :: r, b :: q => if cmpI a b = 0 then lexC r q else cmpI a b
/-- How two lists stand to one another: by length, then in order. -/
def cmpL (l q : List Nat) : Int := if cmpI l.length q.length = 0 then lexC l q else cmpI l.length q.length
/-- A full list, where it lies. -/
def LiesF (m : List (Nat × Option AObj)) (x : Nat) (l : List Nat) : Prop := l = [] ∨ lookM m x = some (.grown (natV l) 1)
def winF (x z : Nat) (l : List Nat) : Wnd := match l with | [] => (z, 0, none) | _ :: _ => (x, 0, some l.length)
def argF (i : Nat) (l : List Nat) : AV := match l with | [] => .nils | _ :: _ => .gs i l.length
end Go.Proofs.Ytjncfddnphhofaa

/- A call that writes, in one memory, in a region whose order is open. -/
namespace Go.Ev
open Go

section
variable {G : Nat} {P : Program} {fl c c' : Nat} {n : Nat} {dfs : List Nat} {l : List (Nat × AV)} {o : Oper} {call round : CallFn} {ops : List Oper} {is : List OpI} {rs us : List Rec} {un : List Nat} {v : AV} {d : Nat} {K : St → Prop} {m m' : List (Nat × Option AObj)}
open Classical in
/-- One call, in one memory, that writes at the name q and above. -/
noncomputable def pinW (q f : Nat) (args : List AV) (m : List (Nat × Option AObj)) (c : Nat) (v : AV) (m' : List (Nat × Option AObj)) (c' : Nat) : CallFn := fun fl f1 args1 H1 c1 =>
  if f1 = f ∧ args1 = args ∧ H1 = ofM m ∧ c1 = c ∧ fl ≤ q then some (v, ofM m', c') else none
end
end Go.Ev

/- Package claim: wrongIn and numbers at any memory. -/
namespace Go.Proofs.Ytjncfddnphhofaa
open Go Go.Ev

end Go.Proofs.Ytjncfddnphhofaa

/- Package claim: fewest. -/
namespace Go.Proofs.Ytjncfddnphhofaa
open Go Go.Ev

end Go.Proofs.Ytjncfddnphhofaa

/- Package claim: the book without its clocks, and its truths: its empty list of clocks lies under any name. -/
namespace Go.Proofs.Ytjncfddnphhofaa
open Go Go.Ev

structure PbZ (B : CBook) (a1 : AV) (z p q : Nat) (m : List (Nat × Option AObj)) (c : Nat) : Prop where
  h1 : IsSl a1 B.ns 0
  hn : B.nc = 0
  m1 : lookM m 0 = some (oSt B)
  m2 : lookM m z = some (oCk B)
  m3 : lookM m p = some (.cells (pbC B a1 .nils q))
  hc : 2 ≤ c
  hp : p < c
  hq : q < c
end Go.Proofs.Ytjncfddnphhofaa

/- Package claim: fewest. -/
namespace Go.Proofs.Ytjncfddnphhofaa
open Go Go.Ev

/-- What the rounds have: whether the list was replaced, the best list, which moments were asked for. -/
abbrev FwS := Bool × List Nat × List (Int × Int)
def fwN (s : FwS) : Nat := if s.1 then 14 else 7
noncomputable def fwM (B : CBook) (a1 a2 : AV) (s : FwS) : List (Nat × Option AObj) := [(8, some (.cells [fuV (fwN s) s.2.1])), (5, some (.cells [.ptr 3 0])), (0, some (oSt B)), (1, some (oCk B)), (3, some (.cells (pbC B a1 a2 4))), (4, some (oMap B s.2.2)), (12, some .dfr)] ++ grM (fwN s) s.2.1
noncomputable def fwL (B : CBook) (t : Tru) : List Nat := numsL (wnS B t B.ns) B.nc
noncomputable def fwS (B : CBook) (s : FwS) (ags : List AV) : FwS × Option Code :=
  (if cmpL (fwL B (decT ags)) s.2.1 < 0 then (true, fwL B (decT ags), lsS (decT ags) s.2.2 B.ns) else (s.1, s.2.1, lsS (decT ags) s.2.2 B.ns), none)
section
variable {B : CBook} {a1 a2 : AV} {n c : Nat} {l : List (Nat × AV)} {m : List (Nat × Option AObj)} {t : Tru} {bs : Bool} {best W : List Nat} {asked : List (Int × Int)} {lo : AObj}
end
/-- What is left of all rounds. -/
noncomputable def fwE (B : CBook) (L0 : List (Int × Int)) : FwS := (foldS (fwS B) ((false, numsL (1 * 2 ^ B.nc - 1) B.nc, L0), none) (Ws (ncB B))).1
end Go.Proofs.Ytjncfddnphhofaa

/- Package claim: Wrong. -/
namespace Go.Proofs.Ytjncfddnphhofaa
open Go Go.Ev

/-- The clocks that must be wrong. -/
noncomputable def wrongL (B : CBook) : List Nat := (fwE B []).2.1
end Go.Proofs.Ytjncfddnphhofaa

/- A call that writes nothing of what was, and leaves new names: from what it looks at. -/
set_option linter.unusedVariables false
namespace Go.Ev
open Go

section
variable {G : Nat} {P : Program} {c k : Nat}

/-- A call that leaves new names alone: its own are counted from where it began. -/
theorem CanS.fresh {f : Nat} {args args0 : List AV} {m0 : List (Nat × Option AObj)} {c0 : Nat} {Qf : AV → T AObj → Nat → Prop} {H H' : T AObj} {v0 : AV} (h : CanS G P f c0 args0 m0 c0 Qf) (he : Entry G H c args m0 c0 args0)
    (hout : ∀ v1 H1 c1, Qf v1 H1 c1 → v1 = v0.ren (fun y => c0 + y) ∧ c1 = c0 + k ∧ ∀ x o, H'.get x = some o → (x < c ∧ H.get x = some o) ∨ ∃ (y : Nat) (o0 : AObj), x = c + y ∧ H1.get (c0 + y) = some (o0.ren fun y => c0 + y) ∧ o = o0.ren fun y => c + y) (fl : Nat) :
    OkAt G P fl f args H c (v0.ren fun y => c + y) H' (c + k) := by
  refine ⟨h.1, fun ρ w us hH hargs r n => ?_⟩
  obtain ⟨ρ0, h0, ha⟩ := he ρ w us hH hargs
  refine (h.2 ρ0 w us h0 ha r n).mono ?_
  rintro e w' ⟨u, v1, H1, c1, ρ1, rfl, hq, h3, h4, h5, h6, h7⟩
  obtain ⟨rfl, rfl, ho⟩ := hout v1 H1 c1 hq
  have hlow : ∀ x p, ρ x = some p → x < c := fun x p hp => by
    rcases Nat.lt_or_ge x c with h | h
    · exact h
    · rw [hH.fresh x h] at hp; cases hp
  have hk : ∀ b, b < w.heap.size → w'.heap[b]? = w.heap[b]? := fun b hb => h7.keep b hb fun x p hx hp => by rw [h0.fresh x hx] at hp; cases hp
  -- new names speak of new blocks
  have hnew : ∀ y q, c0 ≤ y → ρ1 y = some q → w.heap.size ≤ q.b := fun y q hy hq => by
    rcases h6.2 y q hy hq with h | ⟨z, t, hz, ht, hzb⟩
    · exact h
    · rw [h0.fresh z hz] at ht; cases ht
  have hval : ∀ y, (fun x => if x < c then ρ x else ρ1 (c0 + (x - c))) (c + y) = ρ1 (c0 + y) := fun y => by
    show (if c + y < c then ρ (c + y) else ρ1 (c0 + (c + y - c))) = _
    rw [if_neg (by omega), show c0 + (c + y - c) = c0 + y by omega]
  have hcomp : (fun y => (fun x => if x < c then ρ x else ρ1 (c0 + (x - c))) (c + y)) = fun y => ρ1 (c0 + y) := funext hval
  have hle : RLe ρ (fun x => if x < c then ρ x else ρ1 (c0 + (x - c))) := fun x p hp => by
    show (if x < c then ρ x else _) = _
    rw [if_pos (hlow x p hp)]; exact hp
  refine ⟨u, rfl, fun x => if x < c then ρ x else ρ1 (c0 + (x - c)), ?_, ⟨?_, ?_, ?_, ?_, ?_⟩, ⟨hle, ?_, ?_, by omega⟩, ⟨h7.os, h7.tape, h7.output, h7.size, fun b hb _ => hk b hb⟩⟩
  · rw [VR_ren, hcomp]
    exact (VR_ren _ _ _ _).1 h3
  · intro x o hx
    rcases ho x o hx with ⟨hxc, hxo⟩ | ⟨y, o0, rfl, hy1, rfl⟩
    · obtain ⟨p, hp, hob⟩ := hH.obj x o hxo
      exact ⟨p, hle x p hp, (hob.mono hle).world (hk p.b (hH.lt x p hp))⟩
    · obtain ⟨p, hp, hob⟩ := h4.obj _ _ hy1
      refine ⟨p, (hval y).trans hp, ?_⟩
      rw [ObjR_ren, hcomp]
      exact (ObjR_ren _ _ _ _ _).1 hob
  · intro x x' o o' p q hxx hx hx' hp hq hb
    have cross : ∀ x o p y q, H.get x = some o → ρ x = some p → ρ1 (c0 + y) = some q → p.b ≠ q.b := fun x o p y q hx hp hq hb => by
      have h1 := hH.lt x p hp
      have h2 := hnew _ q (by omega) hq
      omega
    rcases ho x o hx with ⟨hxc, hxo⟩ | ⟨y, o0, rfl, hy1, rfl⟩
    · replace hp : (if x < c then ρ x else ρ1 (c0 + (x - c))) = some p := hp
      rw [if_pos hxc] at hp
      rcases ho x' o' hx' with ⟨hxc', hxo'⟩ | ⟨y', o0', rfl, hy1', rfl⟩
      · replace hq : (if x' < c then ρ x' else ρ1 (c0 + (x' - c))) = some q := hq
        rw [if_pos hxc'] at hq
        exact hH.sep x x' o o' p q hxx hxo hxo' hp hq hb
      · exact absurd hb (cross x o p y' q hxo hp ((hval y').symm.trans hq))
    · rcases ho x' o' hx' with ⟨hxc', hxo'⟩ | ⟨y', o0', rfl, hy1', rfl⟩
      · replace hq : (if x' < c then ρ x' else ρ1 (c0 + (x' - c))) = some q := hq
        rw [if_pos hxc'] at hq
        exact absurd hb.symm (cross x' o' q y p hxo' hq ((hval y).symm.trans hp))
      · have g := h4.sep (c0 + y) (c0 + y') _ _ p q (fun e => hxx (by omega)) hy1 hy1' ((hval y).symm.trans hp) ((hval y').symm.trans hq) hb
        exact g.congr (by rw [AObj.ren_share, AObj.ren_share]) (by rw [AObj.ren_share, AObj.ren_share])
  · intro x hx
    show (if x < c then ρ x else ρ1 (c0 + (x - c))) = none
    rw [if_neg (by omega)]
    exact h4.fresh _ (by omega)
  · intro x p hp
    replace hp : (if x < c then ρ x else ρ1 (c0 + (x - c))) = some p := hp
    split at hp
    · exact Nat.lt_of_lt_of_le (hH.lt x p hp) h7.size
    · exact h4.lt _ p hp
  · intro g hg
    obtain ⟨j, hj⟩ := hH.glob g hg
    exact ⟨j, hle g _ hj⟩
  · intro x p hx hp
    replace hp : (if x < c then ρ x else ρ1 (c0 + (x - c))) = some p := hp
    split at hp
    · rw [hx] at hp; cases hp
    · exact .inl (hnew _ p (by omega) hp)
  · intro x p hx hp
    replace hp : (if x < c then ρ x else ρ1 (c0 + (x - c))) = some p := hp
    split at hp
    · rw [hx] at hp; cases hp
    · omega

end
end Go.Ev

/- Package claim: Wrong, for a book whose lists lie anywhere. -/
namespace Go.Proofs.Ytjncfddnphhofaa
open Go Go.Ev

/-- Where the list of the clocks that must be wrong lies, from the first new name on. -/
noncomputable def wrO (B : CBook) : Nat := 4 + (fwN (fwE B []) - 5)
end Go.Proofs.Ytjncfddnphhofaa

/- Package claim: which clocks must be wrong: plain facts. -/
namespace Go.Proofs.Ytjncfddnphhofaa
open Go Go.Ev

theorem or_has : ∀ a b : Fin 16, ∀ k : Fin 5, (andI ((orI a.1 b.1).fdiv (2 ^ k.1)) 1 = 1 ↔ (andI ((a.1 : Int).fdiv (2 ^ k.1)) 1 = 1 ∨ andI ((b.1 : Int).fdiv (2 ^ k.1)) 1 = 1)) ∧ 0 ≤ orI a.1 b.1 ∧ orI a.1 b.1 < 16 := by decide +kernel
theorem hasP_or {a b : Int} {k : Nat} (ha : 0 ≤ a ∧ a < 16) (hb : 0 ≤ b ∧ b < 16) (hk : k < 5) : (hasP (orI a b) k ↔ hasP a k ∨ hasP b k) ∧ 0 ≤ orI a b ∧ orI a b < 16 := by
  obtain ⟨n, rfl⟩ := Int.eq_ofNat_of_zero_le ha.1
  obtain ⟨j, rfl⟩ := Int.eq_ofNat_of_zero_le hb.1
  exact or_has ⟨n, by omega⟩ ⟨j, by omega⟩ ⟨k, hk⟩
theorem has_bit : ∀ j : Fin 4, ∀ k : Fin 5, (andI (((1 * 2 ^ j.1 : Int)).fdiv (2 ^ k.1)) 1 = 1 ↔ k.1 = j.1) ∧ (0 : Int) ≤ 1 * 2 ^ j.1 ∧ (1 : Int) * 2 ^ j.1 < 16 := by decide +kernel
theorem hasP_bit {j k : Nat} (hj : j < 4) (hk : k < 5) : (hasP (1 * 2 ^ j) k ↔ k = j) ∧ (0 : Int) ≤ 1 * 2 ^ j ∧ (1 : Int) * 2 ^ j < 16 := has_bit ⟨j, hj⟩ ⟨k, hk⟩
theorem has_0 : ∀ k : Fin 5, ¬ andI ((0 : Int).fdiv (2 ^ k.1)) 1 = 1 := by decide +kernel
theorem hasP_0 {k : Nat} (hk : k < 5) : ¬ hasP 0 k := has_0 ⟨k, hk⟩
theorem wrS_has (B : CBook) (s mi : Int) {k : Nat} (hk : k < 5) : ∀ n, n ≤ 4 → (hasP (wrS B s mi n) k ↔ k < n ∧ B.ck k = s ∧ ¬ (B.rd k - B.er k ≤ mi ∧ mi ≤ B.rd k + B.er k)) ∧ 0 ≤ wrS B s mi n ∧ wrS B s mi n < 16
  | 0, _ => ⟨⟨fun h => absurd h (hasP_0 hk), fun h => absurd h.1 (Nat.not_lt_zero k)⟩, Int.le_refl _, by show (0 : Int) < 16; decide⟩
  | n + 1, hn => by
    obtain ⟨ih, b0, b1⟩ := wrS_has B s mi hk n (by omega)
    rw [wrS]
    by_cases hp : B.ck n = s ∧ ¬ (B.rd n - B.er n ≤ mi ∧ mi ≤ B.rd n + B.er n)
    · rw [dB_tt hp, cond_true]
      obtain ⟨e1, e2, e3⟩ := hasP_bit (j := n) (by omega) hk
      obtain ⟨f1, f2, f3⟩ := hasP_or ⟨b0, b1⟩ ⟨e2, e3⟩ hk
      refine ⟨?_, f2, f3⟩
      rw [f1, ih, e1]
      constructor
      · rintro (⟨g1, g2⟩ | rfl)
        · exact ⟨by omega, g2⟩
        · exact ⟨by omega, hp⟩
      · rintro ⟨g1, g2⟩
        by_cases g : k = n
        · exact .inr g
        · exact .inl ⟨by omega, g2⟩
    · rw [dB_ff hp, cond_false]
      refine ⟨?_, b0, b1⟩
      rw [ih]
      constructor
      · rintro ⟨g1, g2⟩
        exact ⟨by omega, g2⟩
      · rintro ⟨g1, g2⟩
        refine ⟨?_, g2⟩
        by_cases g : k = n
        · subst g; exact absurd g2 hp
        · omega
/-- A clock is wrong in a truth. -/
def clkW (B : CBook) (t : Tru) (k : Nat) : Prop := ¬ (B.rd k - B.er k ≤ t.c (B.ck k).toNat ∧ t.c (B.ck k).toNat ≤ B.rd k + B.er k)
theorem dB_eq {p : Prop} : dB p = true ↔ p := by
  by_cases h : p
  · rw [dB_tt h]; exact iff_of_true rfl h
  · rw [dB_ff h]; exact iff_of_false (by decide) h
section
variable {B : CBook}
end
end Go.Proofs.Ytjncfddnphhofaa

/- ClaimMore: what it needs: Inner, the length of a list, what is known with a clock more. -/
namespace Go.Proofs.Ytjncfddnphhofaa
open Go Go.Ev

theorem eqBt (b : Bool) : eqA Try.prog 4 (.bool b) (.bool b) = some true := by cases b <;> kernel_rfl
section
variable {B B' : CBook}
end
end Go.Proofs.Ytjncfddnphhofaa

/- Lists of numbers in the reference: Place, Rising, Sooner, Fewer, All. -/
namespace Go.Proofs.Ytjncfddnphhofaa
open Go Go.Ev

open Classical in
/-- The first place of a number in a list, or -1. -/
noncomputable def plV (L : List Nat) (n : Nat) : Int := if h : ∃ k : Nat, L[k]? = some n ∧ ∀ j : Nat, j < k → L[j]? ≠ some n then (h.choose : Int) else -1
/-- Strictly increasing, below a number. -/
def RisL (L : List Nat) (n : Nat) : Prop := (∀ k x : Nat, L[k]? = some x → x < n) ∧ ∀ k x y : Nat, L[k]? = some x → L[k + 1]? = some y → x < y
def lastV (L : List Nat) : Nat → Int
  | 0 => -1
  | k + 1 => ((L[k]?.getD 0 : Nat) : Int)
end Go.Proofs.Ytjncfddnphhofaa

/- One number more, to an empty list that was just made. -/
namespace Go.Ev
open Go

section
variable {P : Program} {fl c : Nat} {m : List (Nat × Option AObj)} {y y' z : Ty} {t t' : Nat} {x1 x2 : Operand}
/-- One element more, to an empty list that was just made. -/
theorem S.append_e1I [Tab P] {ats : Array Nat} {x w : Nat} {news : List AV} (hat : ats.toList = [t, t']) (ht : ty P t = some y) (hk : y.kind = 5) (ht' : ty P t' = some y') (hk' : y'.kind = 5) (hz : ty P y.elem = some z) (hzk : z.kind = 0) (hzz : (Nat.beq z.zero.cells.length z.size && Nat.ble 1 z.size) = true)
    (hb : Nat.ble z.bytes 10000 = true) (hx : lookM m x = some (.cells [])) (ho : lookM m w = some (.cells news)) (hc : cut news 0 (1 * z.size) = some news) : OpE P fl (.call ⟨.builtin .append, #[x1, x2], ats⟩) [.sl x 0 0 0, .sl w 0 1 1] m c (.gs c 1) ((c, some (.grown news z.size)) :: m) (c + 1) := by
  obtain ⟨i, h1, h2, h3⟩ := info_sz hz
  have hb' : z.bytes ≤ 10000 := Nat.le_of_ble_eq_true hb
  have hbb : (Nat.ble ((2 * (0 + 1) + 1000) * i.bytes) (2 ^ 48) && Nat.ble (0 + 1) (2 ^ 62)) = true := by
    rw [h2]
    simp only [Bool.and_eq_true, Nat.ble_eq]
    omega
  have hcut0 : cut ([] : List AV) 0 (0 * i.size) = some [] := by rw [Nat.zero_mul]; rfl
  refine ⟨rfl, Nat.le_succ _, ?_⟩
  show opA P (ofM m) c fl _ _ = _
  simp only [opA, oCall, builtinA, hat, appendA, ty_slice ht hk, ty_slice ht' hk', h1, rowT hz hzz, sliceCells, getCells, ofM_get, hx, ho, cellsOf, Option.bind_some, h3, hc, hcut0, Option.map_some, show Nat.beq 1 0 = false from rfl, cond_false, hbb, cond_true, keptI hz hzk, growA, show Nat.ble (0 + 1) 0 = false from rfl, List.nil_append]
  have hcut1 : cut ([] : List AV) 0 (0 * z.size) = some [] := by rw [Nat.zero_mul]; rfl
  simp only [hcut1, Option.map_some, List.nil_append, show Nat.beq 1 0 = false from rfl, cond_false, hbb, cond_true, show Nat.ble (0 + 1) 0 = false from rfl]
  rfl
end
end Go.Ev

/- The numbers of a set in the reference; a book without some of its clocks: where they lie. -/
namespace Go.Proofs.Ytjncfddnphhofaa
open Go Go.Ev

/-- A list of numbers that was made empty and grows. -/
def alV (x : Nat) (L : List Nat) : AV := match L with | [] => .sl x 0 0 0 | _ :: _ => .gs x L.length
def alO (L : List Nat) : AObj := match L with | [] => .cells [] | _ :: _ => .grown (natV L) 1
/-- The numbers below one that are not of a list. -/
noncomputable def kpL (L : List Nat) (k : Nat) : List Nat := (List.range k).filter fun i => dB (i ∉ L)
def kpM (B : CBook) (x : Nat) (K : List Nat) : List (Nat × Option AObj) := match K with | [] => [] | _ :: _ => [(x, some (.grown (flat (ckE B) K) 3))]
def zbk : CBook := ⟨0, fun _ => 0, fun _ => 0, fun _ => 0, fun _ => 0, fun _ => 0, fun _ => 0, fun _ => 0, 0, fun _ => 0, 0, fun _ => 0, fun _ => 0, fun _ => 0, 0⟩
end Go.Proofs.Ytjncfddnphhofaa

/- What ClaimWrong needs: Wrong and without at any memory, the truths of a book without some clocks. -/
namespace Go.Proofs.Ytjncfddnphhofaa
open Go Go.Ev

def swT (a : Nat) (j : Nat) : Nat := if j = 0 then a else if j = a then 0 else j
theorem swT_inj {a : Nat} (i j : Nat) (h : swT a i = swT a j) : i = j := by
  unfold swT at h
  (repeat' split at h) <;> omega
/-- A window on a list of numbers, and its value seen through it. -/
structure Lw (m : List (Nat × Option AObj)) (v : AV) (L : List Nat) : Prop where
  ex : ∃ w : Wnd, (∃ o, (ofM m).get w.1 = some o ∧ (natV L = [] ∨ ∃ ca, cellsOf o = some ca ∧ cut ca w.2.1 (natV L).length = some (natV L))) ∧ ∀ (W : List Wnd) (i : Nat), W[i]? = some w → ∃ a, ArgW W v a ∧ IsSl a L.length i
/-- The book with some of its clocks alone. -/
noncomputable def woB (B : CBook) (K : List Nat) : CBook := { B with nc := K.length, ck := fun i => B.ck (K[i]?.getD 0), rd := fun i => B.rd (K[i]?.getD 0), er := fun i => B.er (K[i]?.getD 0) }
section
variable {B : CBook} {K : List Nat}
theorem bits_0 : ∀ a : Fin 16, (∀ k : Fin 5, ¬ andI ((a.1 : Int).fdiv (2 ^ k.1)) 1 = 1) → (a.1 : Int) = 0 := by decide +kernel
theorem wrV_0 (hB : B.nc ≤ 4) (q : Int × Int) : wrV B q = 0 ↔ ∀ k, k < B.nc → B.ck k = q.1 → B.rd k - B.er k ≤ q.2 ∧ q.2 ≤ B.rd k + B.er k := by
  constructor
  · intro h k hk he
    refine Classical.byContradiction fun hn => ?_
    have := (wrS_has B q.1 q.2 (k := k) (by omega) B.nc hB).1.2 ⟨hk, he, hn⟩
    rw [show wrS B q.1 q.2 B.nc = 0 from h] at this
    exact hasP_0 (by omega) this
  · intro h
    obtain ⟨_, b0, b1⟩ := wrS_has B q.1 q.2 (k := 0) (by omega) B.nc hB
    have hb : ∀ k : Fin 5, ¬ hasP (wrV B q) k.1 := fun k hk => by
      obtain ⟨k1, k2, k3⟩ := (wrS_has B q.1 q.2 k.2 B.nc hB).1.1 hk
      exact k3 (h k.1 k1 k2)
    show wrV B q = 0
    replace b0 : 0 ≤ wrV B q := b0
    replace b1 : wrV B q < 16 := b1
    generalize wrV B q = a at *
    obtain ⟨n, rfl⟩ := Int.eq_ofNat_of_zero_le b0
    exact bits_0 ⟨n, by omega⟩ hb
end
end Go.Proofs.Ytjncfddnphhofaa

/- Names of a memory below a number; look-ups behind lists that may be absent. -/
namespace Go.Proofs.Ytjncfddnphhofaa
open Go Go.Ev

/-- All names of a memory lie below a number. -/
def Kb (m : List (Nat × Option AObj)) (b : Nat) : Prop := ∀ e ∈ m, e.1 < b
end Go.Proofs.Ytjncfddnphhofaa

/- Numbers chosen by numbers: Wrap, Pick, From; Total, Holds. -/
namespace Go.Proofs.Ytjncfddnphhofaa
open Go Go.Ev

/-- A list of numbers, element by element. -/
abbrev fE (f : Nat → Int) (n : Nat) : List AV := flat (fun i => [f i]) (List.range n)
theorem fE_len (f : Nat → Int) (n : Nat) : (fE f n).length = n := by rw [flat_len (s := 1) (fun _ => rfl), List.length_range, Nat.mul_one]
theorem fE_succ (f : Nat → Int) (n : Nat) : fE f (n + 1) = fE f n ++ [.int .i64 (f n)] := by
  show flat _ (List.range (n + 1)) = _
  rw [List.range_succ, flat_append, flat_one]; rfl
theorem fE_at (f : Nat → Int) {n k : Nat} (h : k < n) : (fE f n)[k * 1]? = some (.int .i64 (f k)) := by
  rw [Nat.mul_one]
  unfold fE flat
  rw [show (List.map (fun e => List.map (AV.int IntKind.i64) ((fun i => [f i]) e)) (List.range n)) = (List.range n).map fun e => [AV.int .i64 (f e)] from rfl]
  rw [show ((List.range n).map fun e => [AV.int .i64 (f e)]).flatten = (List.range n).map fun e => AV.int .i64 (f e) from by
    induction List.range n with
    | nil => rfl
    | cons a r ih => simp [ih]]
  simp [h]
theorem fE_pls (f : Nat → Int) (n : Nat) : Pls (fE f n) := fun σ => rens_flat _ σ _

/-- The element that a number chooses. -/
def pkV (f : Nat → Int) (n : Nat) (p : Int) : Int := if n = 0 then 0 else f (wrapV p n).toNat
/-- A window on a list of numbers, and its value seen through it. -/
structure Li (m : List (Nat × Option AObj)) (v : AV) (f : Nat → Int) (n : Nat) : Prop where
  ex : ∃ w : Wnd, (∃ o, (ofM m).get w.1 = some o ∧ (fE f n = [] ∨ ∃ ca, cellsOf o = some ca ∧ cut ca w.2.1 (fE f n).length = some (fE f n))) ∧ ∀ (W : List Wnd) (i : Nat), W[i]? = some w → ∃ a, ArgW W v a ∧ IsSl a n i
theorem Li.sl {m : List (Nat × Option AObj)} {v : AV} {f : Nat → Int} {n x : Nat} {o : AObj} (h : IsSl v n x) (hx : lookM m x = some o) (hc : cellsOf o = some (fE f n)) : Li m v f n := by
  rcases h with rfl | ⟨rfl, rfl⟩
  · exact ⟨(x, 0, none), ⟨o, getM hx, .inr ⟨_, hc, cut_all rfl⟩⟩, fun W i h => ⟨.gs i n, ArgW.gs h, IsSl.gs i n⟩⟩
  · exact ⟨(x, 0, none), ⟨o, getM hx, .inl rfl⟩, fun W i h => ⟨.nils, .pl Pl.nils, IsSl.nils i⟩⟩
noncomputable def pickF (v : AV) (f : Nat → Int) (n : Nat) : CallFn := famA (α := Int) 84 (fun p => [v, .int .i64 p]) (fun p => .int .i64 (pkV f n p)) fun _ H _ => ∃ m, H = ofM m ∧ Li m v f n
/-- The number of a span that a number chooses. -/
def frV (lo hi p : Int) : Int := lo + wrapV p (hi - lo + 1)
noncomputable def fromF : CallFn := famA (α := Int × Int × Int) 85 (fun a => [.agg [.int .i64 a.1, .int .i64 a.2.1], .int .i64 a.2.2]) (fun a => .int .i64 (frV a.1 a.2.1 a.2.2)) fun a _ _ => -100000 ≤ a.1 ∧ a.2.1 ≤ 100000 ∧ a.1 ≤ a.2.1
def totV (f : Nat → Int) : Nat → Int
  | 0 => 0
  | k + 1 => totV f k + f k
end Go.Proofs.Ytjncfddnphhofaa

/- truly: what is so, as numbers choose it. -/
namespace Go.Proofs.Ytjncfddnphhofaa
open Go Go.Ev

theorem cost_at {B : CBook} {a1 a2 : AV} {w : Nat} (h : w < 3) : (bk B a1 a2).cells[2 + w * 1]? = some (.int .i64 (B.cost w)) := by
  obtain rfl | rfl | rfl : w = 0 ∨ w = 1 ∨ w = 2 := by omega
  all_goals rfl
section
variable (B : CBook) (bv : Nat → Int) (nb w : Nat)
def rT (i : Nat) : Int := frV (B.rl i) (B.rh i) (pkV bv nb ((i + 1 : Nat) : Int))
def dT (i : Nat) : Int := frV (B.dl i) (B.dh i) (pkV bv nb ((i : Int) + 2))
def sT (i : Nat) : Int := frV (B.sl i) (B.sh i) (pkV bv nb ((i : Int) + 3))
/-- When the coach departs, and when it comes. -/
def nowT : Nat → Int
  | 0 => 0
  | k + 1 => nowT k + (dT B bv nb k + rT B bv nb k + B.cost w) + sT B bv nb k
def coT (k : Nat) : Int := nowT B bv nb w k + (dT B bv nb k + rT B bv nb k + B.cost w)
end
def grI (x k : Nat) : AV := match k with | 0 => .nils | j + 1 => .gs x (j + 1)
def glM (r c : Nat → Int) (k : Nat) : List (Nat × Option AObj) := match k with | 0 => [] | j + 1 => [(7, some (.grown (fE r (j + 1)) 1)), (8, some (.grown (fE c (j + 1)) 1))]
theorem grI_ren (σ : Nat → Nat) {x y : Nat} (h : σ x = y) (k : Nat) : (grI x k).ren σ = grI y k := by
  cases k with
  | zero => rfl
  | succ j => show AV.gs (σ x) _ = _; rw [h]; rfl
section
variable {B : CBook} {bv : Nat → Int} {nb w : Nat}
theorem cost_bd (hB : bkOk B) (hw : w < 3) : 0 ≤ B.cost w ∧ B.cost w ≤ 30 := by
  obtain ⟨c0, c1, c2⟩ := hB.2.1.2
  obtain rfl | rfl | rfl : w = 0 ∨ w = 1 ∨ w = 2 := by omega
  · exact c0
  · exact c1
  · exact c2
end
end Go.Proofs.Ytjncfddnphhofaa

/- rightly: a book whose clocks are right, as a number lets them be. -/
namespace Go.Proofs.Ytjncfddnphhofaa
open Go Go.Ev

/-- What a clock reads. -/
def rdV (B : CBook) (e : Nat → Int) (n : Int) (k : Nat) : Int := e (B.ck k).toNat + frV (-(B.er k)) (B.er k) (IntKind.i64.wrap (n + (k : Int)))
def riE (B : CBook) (rv : Nat → Int) (k : Nat) : List Int := [B.ck k, rv k, B.er k]
noncomputable def riL (rv : Nat → Int) (k : Nat) : List Nat := (List.range k).filter fun i => dB (0 ≤ rv i ∧ rv i ≤ 600)
def rwM (enc : Nat → List Int) (x : Nat) (K : List Nat) : List (Nat × Option AObj) := match K with | [] => [] | _ :: _ => [(x, some (.grown (flat enc K) 3))]
end Go.Proofs.Ytjncfddnphhofaa

/- What ClaimTrue needs: truly and rightly at any memory; what is so is a truth of the book whose clocks are right. -/
namespace Go.Proofs.Ytjncfddnphhofaa
open Go Go.Ev

theorem grI_is {x n : Nat} : IsSl (grI x n) n x := by
  cases n with
  | zero => exact IsSl.nils x
  | succ j => exact IsSl.gs x _
theorem sl_arg {W : List Wnd} {v : AV} {n x : Nat} (hi : IsSl v n x) (hx : W[x]? = some (x, 0, none)) : ArgW W v v := by
  rcases hi with rfl | ⟨rfl, rfl⟩
  · exact ArgW.gs hx
  · exact .pl Pl.nils
theorem bk_arg {W : List Wnd} {B : CBook} {a1 a2 : AV} (h1 : IsSl a1 B.ns 0) (h2 : IsSl a2 B.nc 1) (w0 : W[0]? = some (0, 0, none)) (w1 : W[1]? = some (1, 0, none)) : ArgW W (bk B a1 a2) (bk B a1 a2) :=
  ArgW.agg (show ArgsW _ [a1, .int .i64 B.wea, .int .i64 (B.cost 0), .int .i64 (B.cost 1), .int .i64 (B.cost 2), a2, .int .i64 B.rate] [a1, .int .i64 B.wea, .int .i64 (B.cost 0), .int .i64 (B.cost 1), .int .i64 (B.cost 2), a2, .int .i64 B.rate] from
    ⟨sl_arg h1 w0, .pl (fun _ => rfl), .pl (fun _ => rfl), .pl (fun _ => rfl), .pl (fun _ => rfl), sl_arg h2 w1, .pl (fun _ => rfl), trivial⟩)
/-- The book with some of its clocks, read otherwise. -/
noncomputable def riB (B : CBook) (rv : Nat → Int) (K : List Nat) : CBook := { B with nc := K.length, ck := fun i => B.ck (K[i]?.getD 0), rd := fun i => rv (K[i]?.getD 0), er := fun i => B.er (K[i]?.getD 0) }
section
variable {B : CBook} {rv : Nat → Int} {K : List Nat}
/-- What is so. -/
noncomputable def trT (B : CBook) (bv : Nat → Int) (nb w : Nat) : Tru := toT (w : Int) B.ns (rT B bv nb) (coT B bv nb w)
end
end Go.Proofs.Ytjncfddnphhofaa

/- Look-ups behind rows that may be absent. -/
namespace Go.Proofs.Ytjncfddnphhofaa
open Go Go.Ev

theorem S.gtr_t {P : Program} {fl c t yt : Nat} {m : List (Nat × Option AObj)} {x1 x2 : Operand} {a b : Int} (h : b < a) : OpE P fl (.binOp .gtr t x1 x2 yt) [.int .i64 a, .int .i64 b] m c (.bool true) m c := by
  have := S.gtr (P := P) (fl := fl) (m := m) (c := c) (t := t) (yt := yt) (x1 := x1) (x2 := x2) (a := a) (b := b)
  rwa [decide_eq_true h] at this
noncomputable def holdF : CallFn := famA (α := Int × Int × Int) 40 (fun a => [.agg [.int .i64 a.1, .int .i64 a.2.1], .int .i64 a.2.2]) (fun _ => .bool true) fun a _ _ => a.1 ≤ a.2.2 ∧ a.2.2 ≤ a.2.1
noncomputable def totF (x : Nat) (f : Nat → Int) (n : Nat) : CallFn := one1 41 [grI x n] (.int .i64 (totV f n)) fun H _ => ∃ m, H = ofM m ∧ lookM m x = some (.grown (fE f n) 1)
theorem S.load1g {P : Program} [Tab P] {fl c t x off s : Nat} {y : Ty} {a : Operand} {v : AV} {m : List (Nat × Option AObj)} {cs : List AV} (ht : ty P t = some y) (hg : y.agg = false) (ho : lookM m x = some (.grown cs s)) (hv : cs[off]? = some v) : OpE P fl (.load t a) [.ptr x off] m c v m c := S.load1 ht hg ho rfl hv
end Go.Proofs.Ytjncfddnphhofaa

/- A call that leaves new names, not all of them used; append of lists of rows. -/
set_option linter.unusedVariables false
namespace Go.Ev
open Go

section
variable {G : Nat} {P : Program} {c k : Nat}

/-- The same; some of the new names may not be used. -/
theorem CanS.freshU (t : Nat → Nat) {f : Nat} {args args0 : List AV} {m0 : List (Nat × Option AObj)} {c0 : Nat} {Qf : AV → T AObj → Nat → Prop} {H H' : T AObj} {v0 : AV} (h : CanS G P f c0 args0 m0 c0 Qf) (ht1 : ∀ j, k ≤ j → k ≤ t j) (ht2 : ∀ i j, t i = t j → i = j) (he : Entry G H c args m0 c0 args0)
    (hout : ∀ v1 H1 c1, Qf v1 H1 c1 → v1 = v0.ren (fun y => c0 + t y) ∧ c1 ≤ c0 + k ∧ ∀ x o, H'.get x = some o → (x < c ∧ H.get x = some o) ∨ ∃ (y : Nat) (o0 : AObj), x = c + y ∧ H1.get (c0 + t y) = some (o0.ren fun y => c0 + t y) ∧ o = o0.ren fun y => c + y) (fl : Nat) :
    OkAt G P fl f args H c (v0.ren fun y => c + y) H' (c + k) := by
  refine ⟨h.1, fun ρ w us hH hargs r n => ?_⟩
  obtain ⟨ρ0, h0, ha⟩ := he ρ w us hH hargs
  refine (h.2 ρ0 w us h0 ha r n).mono ?_
  rintro e w' ⟨u, v1, H1, c1, ρ1, rfl, hq, h3, h4, h5, h6, h7⟩
  obtain ⟨rfl, hc1, ho⟩ := hout v1 H1 c1 hq
  have hlow : ∀ x p, ρ x = some p → x < c := fun x p hp => by
    rcases Nat.lt_or_ge x c with h | h
    · exact h
    · rw [hH.fresh x h] at hp; cases hp
  have hk : ∀ b, b < w.heap.size → w'.heap[b]? = w.heap[b]? := fun b hb => h7.keep b hb fun x p hx hp => by rw [h0.fresh x hx] at hp; cases hp
  -- new names speak of new blocks
  have hnew : ∀ y q, c0 ≤ y → ρ1 y = some q → w.heap.size ≤ q.b := fun y q hy hq => by
    rcases h6.2 y q hy hq with h | ⟨z, t, hz, ht, hzb⟩
    · exact h
    · rw [h0.fresh z hz] at ht; cases ht
  have hval : ∀ y, (fun x => if x < c then ρ x else ρ1 (c0 + t (x - c))) (c + y) = ρ1 (c0 + t y) := fun y => by
    show (if c + y < c then ρ (c + y) else ρ1 (c0 + t (c + y - c))) = _
    rw [if_neg (by omega), show c + y - c = y by omega]
  have hcomp : (fun y => (fun x => if x < c then ρ x else ρ1 (c0 + t (x - c))) (c + y)) = fun y => ρ1 (c0 + t y) := funext hval
  have hle : RLe ρ (fun x => if x < c then ρ x else ρ1 (c0 + t (x - c))) := fun x p hp => by
    show (if x < c then ρ x else _) = _
    rw [if_pos (hlow x p hp)]; exact hp
  refine ⟨u, rfl, fun x => if x < c then ρ x else ρ1 (c0 + t (x - c)), ?_, ⟨?_, ?_, ?_, ?_, ?_⟩, ⟨hle, ?_, ?_, by omega⟩, ⟨h7.os, h7.tape, h7.output, h7.size, fun b hb _ => hk b hb⟩⟩
  · rw [VR_ren, hcomp]
    exact (VR_ren _ _ _ _).1 h3
  · intro x o hx
    rcases ho x o hx with ⟨hxc, hxo⟩ | ⟨y, o0, rfl, hy1, rfl⟩
    · obtain ⟨p, hp, hob⟩ := hH.obj x o hxo
      exact ⟨p, hle x p hp, (hob.mono hle).world (hk p.b (hH.lt x p hp))⟩
    · obtain ⟨p, hp, hob⟩ := h4.obj _ _ hy1
      refine ⟨p, (hval y).trans hp, ?_⟩
      rw [ObjR_ren, hcomp]
      exact (ObjR_ren _ _ _ _ _).1 hob
  · intro x x' o o' p q hxx hx hx' hp hq hb
    have cross : ∀ x o p y q, H.get x = some o → ρ x = some p → ρ1 (c0 + t y) = some q → p.b ≠ q.b := fun x o p y q hx hp hq hb => by
      have h1 := hH.lt x p hp
      have h2 := hnew _ q (by omega) hq
      omega
    rcases ho x o hx with ⟨hxc, hxo⟩ | ⟨y, o0, rfl, hy1, rfl⟩
    · replace hp : (if x < c then ρ x else ρ1 (c0 + t (x - c))) = some p := hp
      rw [if_pos hxc] at hp
      rcases ho x' o' hx' with ⟨hxc', hxo'⟩ | ⟨y', o0', rfl, hy1', rfl⟩
      · replace hq : (if x' < c then ρ x' else ρ1 (c0 + t (x' - c))) = some q := hq
        rw [if_pos hxc'] at hq
        exact hH.sep x x' o o' p q hxx hxo hxo' hp hq hb
      · exact absurd hb (cross x o p y' q hxo hp ((hval y').symm.trans hq))
    · rcases ho x' o' hx' with ⟨hxc', hxo'⟩ | ⟨y', o0', rfl, hy1', rfl⟩
      · replace hq : (if x' < c then ρ x' else ρ1 (c0 + t (x' - c))) = some q := hq
        rw [if_pos hxc'] at hq
        exact absurd hb.symm (cross x' o' q y p hxo' hq ((hval y).symm.trans hp))
      · have g := h4.sep (c0 + t y) (c0 + t y') _ _ p q (fun e => hxx (by rw [ht2 y y' (by omega)])) hy1 hy1' ((hval y).symm.trans hp) ((hval y').symm.trans hq) hb
        exact g.congr (by rw [AObj.ren_share, AObj.ren_share]) (by rw [AObj.ren_share, AObj.ren_share])
  · intro x hx
    show (if x < c then ρ x else ρ1 (c0 + t (x - c))) = none
    rw [if_neg (by omega)]
    have := ht1 (x - c) (by omega)
    exact h4.fresh _ (by omega)
  · intro x p hp
    replace hp : (if x < c then ρ x else ρ1 (c0 + t (x - c))) = some p := hp
    split at hp
    · exact Nat.lt_of_lt_of_le (hH.lt x p hp) h7.size
    · exact h4.lt _ p hp
  · intro g hg
    obtain ⟨j, hj⟩ := hH.glob g hg
    exact ⟨j, hle g _ hj⟩
  · intro x p hx hp
    replace hp : (if x < c then ρ x else ρ1 (c0 + t (x - c))) = some p := hp
    split at hp
    · rw [hx] at hp; cases hp
    · exact .inl (hnew _ p (by omega) hp)
  · intro x p hx hp
    replace hp : (if x < c then ρ x else ρ1 (c0 + t (x - c))) = some p := hp
    split at hp
    · rw [hx] at hp; cases hp
    · omega


end
section
variable {P : Program} {fl c : Nat} {m : List (Nat × Option AObj)} {y y' z : Ty} {t t' : Nat} {x1 x2 : Operand}
/-- To an empty list that was just made. -/
theorem S.append_eI [Tab P] {ats : Array Nat} {v : AV} {x w n : Nat} {news : List AV} {ob : AObj} (hat : ats.toList = [t, t']) (ht : ty P t = some y) (hk : y.kind = 5) (ht' : ty P t' = some y') (hk' : y'.kind = 5) (hz : ty P y.elem = some z) (hzk : z.kind = 0) (hzz : (Nat.beq z.zero.cells.length z.size && Nat.ble 1 z.size) = true)
    (hb : Nat.ble z.bytes 10000 = true) (hx : lookM m x = some (.cells [])) (hv : IsSl v n w) (ho : lookM m w = some ob) (hcs : cellsOf ob = some news) (hl : news.length = n * z.size) (hn : n ≤ 1000000) (h0 : 0 < n) :
    OpE P fl (.call ⟨.builtin .append, #[x1, x2], ats⟩) [.sl x 0 0 0, v] m c (.gs c n) ((c, some (.grown news z.size)) :: m) (c + 1) := by
  obtain ⟨i, h1, h2, h3⟩ := info_sz hz
  have hb' : z.bytes ≤ 10000 := Nat.le_of_ble_eq_true hb
  have hbb : (Nat.ble ((2 * n + 1000) * i.bytes) (2 ^ 48) && Nat.ble n (2 ^ 62)) = true := by
    rw [h2]
    simp only [Bool.and_eq_true, Nat.ble_eq]
    refine ⟨?_, by omega⟩
    calc (2 * n + 1000) * z.bytes ≤ 3000000 * 10000 := Nat.mul_le_mul (by omega) hb'
      _ ≤ 2 ^ 48 := by decide
  rcases hv with rfl | ⟨rfl, rfl⟩
  · have hc0 : Nat.ble n 0 = false := Bool.eq_false_iff.2 fun h => by have := Nat.le_of_ble_eq_true h; omega
    have hn0 : Nat.beq n 0 = false := Bool.eq_false_iff.2 fun h => by have := Nat.eq_of_beq_eq_true h; omega
    have hcut0 : cut ([] : List AV) 0 (0 * z.size) = some [] := by rw [Nat.zero_mul]; rfl
    have hcut : cut news 0 (n * z.size) = some news := cut_all hl
    have hce : cellsOf (.cells []) = some [] := rfl
    rw [← h3] at hcut0 hcut
    refine ⟨rfl, Nat.le_succ _, ?_⟩
    show opA P (ofM m) c fl _ _ = _
    simp only [opA, oCall, builtinA, hat, appendA, ty_slice ht hk, ty_slice ht' hk', h1, rowT hz hzz, sliceCells, getCells, ofM_get, hx, ho, hcs, hce, Option.bind_some, hcut0, hcut, Option.map_some, hn0, cond_false, hbb, cond_true, hc0, keptI hz hzk, growA, Nat.zero_add, List.nil_append]
    rw [h3]
    rfl
  · omega
/-- The cells of a slice that may have grown. -/
structure SlC (m : List (Nat × Option AObj)) (v : AV) (n s : Nat) (cs : List AV) : Prop where
  ex : (∃ x cp ob ca, (v = .gs x n ∨ v = .sl x 0 n cp) ∧ lookM m x = some ob ∧ cellsOf ob = some ca ∧ cut ca 0 (n * s) = some cs)
theorem SlC.gs {x n s : Nat} {ob : AObj} {cs : List AV} (h : lookM m x = some ob) (hc : cellsOf ob = some cs) (hl : cs.length = n * s) : SlC m (.gs x n) n s cs := ⟨x, 0, ob, cs, .inl rfl, h, hc, cut_all hl⟩
theorem SlC.sl {x n s cp : Nat} {ob : AObj} {cs : List AV} (h : lookM m x = some ob) (hc : cellsOf ob = some cs) (hl : cs.length = n * s) : SlC m (.sl x 0 n cp) n s cs := ⟨x, cp, ob, cs, .inr rfl, h, hc, cut_all hl⟩
theorem SlC.cells {v : AV} {n s : Nat} {cs : List AV} (h : SlC m v n s cs) : sliceCells (ofM m) s v = some (n, cs) := by
  obtain ⟨x, cp, ob, ca, hv, h1, h2, h3⟩ := h.ex
  rcases hv with rfl | rfl
  all_goals simp only [sliceCells, getCells, ofM_get, h1, h2, Option.bind_some, h3, Option.map_some]
theorem S.append_n [Tab P] {ats : Array Nat} {v : AV} {n : Nat} {news : List AV} (hat : ats.toList = [t, t']) (ht : ty P t = some y) (hk : y.kind = 5) (ht' : ty P t' = some y') (hk' : y'.kind = 5) (hz : ty P y.elem = some z) (hzk : z.kind = 3) (hzz : (Nat.beq z.zero.cells.length z.size && Nat.ble 1 z.size) = true)
    (hb : Nat.ble z.bytes 10000 = true) (hv : SlC m v n z.size news) (hn : n ≤ 1000000) (h0 : 0 < n) :
    OpE P fl (.call ⟨.builtin .append, #[x1, x2], ats⟩) [.nils, v] m c (.gs c n) ((c, some (.grown news z.size)) :: m) (c + 1) := by
  obtain ⟨i, h1, h2, h3⟩ := info_sz hz
  have hb' : z.bytes ≤ 10000 := Nat.le_of_ble_eq_true hb
  have hbb : (Nat.ble ((2 * (0 + n) + 1000) * i.bytes) (2 ^ 48) && Nat.ble (0 + n) (2 ^ 62)) = true := by
    rw [h2]
    simp only [Bool.and_eq_true, Nat.ble_eq]
    refine ⟨?_, by omega⟩
    calc (2 * (0 + n) + 1000) * z.bytes ≤ 3000000 * 10000 := Nat.mul_le_mul (by omega) hb'
      _ ≤ 2 ^ 48 := by decide
  have hn0 : Nat.beq n 0 = false := Bool.eq_false_iff.2 fun h => by have := Nat.eq_of_beq_eq_true h; omega
  have hvc := hv.cells
  refine ⟨rfl, Nat.le_succ _, ?_⟩
  show opA P (ofM m) c fl _ _ = _
  have e0 : sliceCells (ofM m) z.size .nils = some (0, []) := rfl
  simp only [opA, oCall, builtinA, hat, appendA, ty_slice ht hk, ty_slice ht' hk', h1, rowT hz hzz, h3, hvc, e0, hn0, cond_false, hbb, cond_true, keptF hz hzk, growA]
  rfl
theorem S.append_g [Tab P] {ats : Array Nat} {v : AV} {a k n : Nat} {olds news : List AV} (hat : ats.toList = [t, t']) (ht : ty P t = some y) (hk : y.kind = 5) (ht' : ty P t' = some y') (hk' : y'.kind = 5) (hz : ty P y.elem = some z) (hzk : z.kind = 3) (hzz : (Nat.beq z.zero.cells.length z.size && Nat.ble 1 z.size) = true)
    (hb : Nat.ble z.bytes 10000 = true) (hv : SlC m v n z.size news) (hn : n ≤ 1000000) (h0 : 0 < n) (ha : lookM m a = some (.grown olds z.size)) (hf : Nat.ble fl a = true) (hca : cut olds 0 (k * z.size) = some olds) (hkn : k ≤ 1000000) (hone : news.all AV.one = true) :
    OpE P fl (.call ⟨.builtin .append, #[x1, x2], ats⟩) [.gs a k, v] m c (.gs c (k + n)) ((c, some (.grown (olds ++ news) z.size)) :: (a, none) :: m) (c + 1) := by
  obtain ⟨i, h1, h2, h3⟩ := info_sz hz
  have hb' : z.bytes ≤ 10000 := Nat.le_of_ble_eq_true hb
  have hbb : (Nat.ble ((2 * (k + n) + 1000) * i.bytes) (2 ^ 48) && Nat.ble (k + n) (2 ^ 62)) = true := by
    rw [h2]
    simp only [Bool.and_eq_true, Nat.ble_eq]
    refine ⟨?_, by omega⟩
    calc (2 * (k + n) + 1000) * z.bytes ≤ 5000000 * 10000 := Nat.mul_le_mul (by omega) hb'
      _ ≤ 2 ^ 48 := by decide
  have hn0 : Nat.beq n 0 = false := Bool.eq_false_iff.2 fun h => by have := Nat.eq_of_beq_eq_true h; omega
  have hvc := hv.cells
  have e0 : sliceCells (ofM m) z.size (.gs a k) = some (k, olds) := by simp only [sliceCells, getCells, ofM_get, ha, cellsOf, Option.bind_some, hca, Option.map_some]
  refine ⟨rfl, Nat.le_succ _, ?_⟩
  show opA P (ofM m) c fl _ _ = _
  simp only [opA, oCall, builtinA, hat, appendA, ty_slice ht hk, ty_slice ht' hk', h1, rowT hz hzz, h3, hvc, e0, hn0, cond_false, hbb, cond_true, ofM_get, ha, hf, hone, Nat.beq_refl, Bool.and_self]
  rfl
/-- Nothing is appended. -/
theorem S.append_z [Tab P] {ats : Array Nat} {v : AV} {n s : Nat} {cs : List AV} (hat : ats.toList = [t, t']) (ht : ty P t = some y) (hk : y.kind = 5) (ht' : ty P t' = some y') (hk' : y'.kind = 5) (hz : ty P y.elem = some z) (hzz : (Nat.beq z.zero.cells.length z.size && Nat.ble 1 z.size) = true)
    (hv : v = .nils ∨ ∃ a olds, v = .gs a n ∧ lookM m a = some (.grown olds z.size) ∧ cut olds 0 (n * z.size) = some olds) : OpE P fl (.call ⟨.builtin .append, #[x1, x2], ats⟩) [v, .nils] m c v m c := by
  obtain ⟨i, h1, h2, h3⟩ := info_sz hz
  have e0 : sliceCells (ofM m) z.size .nils = some (0, []) := rfl
  refine ⟨rfl, Nat.le_refl _, ?_⟩
  show opA P (ofM m) c fl _ _ = _
  rcases hv with rfl | ⟨a, olds, rfl, ha, hca⟩
  · simp only [opA, oCall, builtinA, hat, appendA, ty_slice ht hk, ty_slice ht' hk', h1, rowT hz hzz, h3, e0, Nat.beq_refl, cond_true]
    rfl
  · have e1 : sliceCells (ofM m) z.size (.gs a n) = some (n, olds) := by simp only [sliceCells, getCells, ofM_get, ha, cellsOf, Option.bind_some, hca, Option.map_some]
    simp only [opA, oCall, builtinA, hat, appendA, ty_slice ht hk, ty_slice ht' hk', h1, rowT hz hzz, h3, e0, e1, Nat.beq_refl, cond_true]
    rfl
end
end Go.Ev

/- The reference of layer 6: right; Put. -/
namespace Go.Proofs.Ytjncfddnphhofaa
open Go Go.Ev

/-- All clocks of a stage are right, if the coach comes there in a minute. -/
def rgtP (B : CBook) (s mi : Int) (n : Nat) : Prop := ∀ k, k < n → B.ck k = s → -(B.er k) ≤ B.rd k - mi ∧ B.rd k - mi ≤ B.er k
theorem rgtP_wr {B : CBook} (hB : B.nc ≤ 4) {s mi : Int} : rgtP B s mi B.nc ↔ wrV B (s, mi) = 0 := by
  rw [wrV_0 hB]
  exact ⟨fun h k hk e => by have := h k hk e; show B.rd k - B.er k ≤ mi ∧ mi ≤ B.rd k + B.er k; omega, fun h k hk e => by have : B.rd k - B.er k ≤ mi ∧ mi ≤ B.rd k + B.er k := h k hk e; omega⟩
set_option maxRecDepth 100000 in
set_option maxHeartbeats 4000000 in
theorem right_can6 (B : CBook) (a1 a2 : AV) (h1 : IsSl a1 B.ns 0) (h2 : IsSl a2 B.nc 1) (hck : cksOk B) (s mi : Int) (hmi : -100000 ≤ mi ∧ mi ≤ 100000) : CanS 0 Try.prog 112 2 [bk B a1 a2, .int .i64 s, .int .i64 mi] [(0, some (oSt B)), (1, some (oCk B))] 2 fun v _ _ => v = .bool (dB (rgtP B s mi B.nc)) := by
  have hnc := hck.1
  refine CanS.mk Try.func112 rfl rfl rfl ?_
  repeat' (first | refine RT.nil ?_ | refine sq_n ?_ | refine Tr.seq ?_ | refine Tr.region ?_ | refine Tr.block ?_ | (refine RT.goK rfl rfl rfl rfl ?_; apply Nx.of; (first | exact S.assign | exact S.box)))
  refine Tr.loop (fun k : Nat => stL Try.f112.ntmps [] [(1, .int .i64 s), (2, .int .i64 mi), (3, .ptr 2 0), (7, .int .i64 k)] [(2, some (.cells (bk B a1 a2).cells)), (0, some (oSt B)), (1, some (oCk B))] 3) (fun k => k ≤ B.nc ∧ rgtP B s mi k) (fun k => B.nc - k) 0 ⟨Nat.zero_le _, fun j hj => absurd hj (Nat.not_lt_zero j)⟩ (by (refine Wk.same (by decide) (by decide) (by decide) (by decide) ?_ ?_ rfl; all_goals ((try simp only [allL, allM]); (repeat' (first | exact trivial | refine And.intro ?_ ?_)); all_goals (first | rfl | exact ren_ro _ _ _ | exact bkc_ren h1 h2 (nm_lt (by decide)) (nm_lt (by decide)) | decide)))) (fun k ⟨hk, hp⟩ => ?_)
  by_cases hlt : k < B.nc
  · have hlt' : (k : Int) < B.nc := by omega
    have hc := hck.2 k hlt
    unfold ckOk at hc
    by_cases hs : B.ck k = s
    · by_cases ha : -(B.er k) ≤ B.rd k - mi ∧ B.rd k - mi ≤ B.er k
      · have hA : AV.bool (decide (-(B.er k) ≤ B.rd k - mi ∧ B.rd k - mi ≤ B.er k)) = .bool true := by rw [decide_eq_true ha]
        repeat' (first | refine RT.nil ?_ | refine sq_n ?_ | refine Tr.seq ?_ | refine Tr.region ?_ | refine Tr.cond_t rfl ?_ | refine Tr.cond_f rfl ?_ | refine Tr.skip ?_ | refine Tr.block ?_ | refine blk_n ?_ | (refine RT.goK rfl rfl rfl rfl ?_; first | refine Nx.of (S.lss_t hlt') ?_ | refine Nx.of (S.eql_t hs) ?_) | (refine RT.call rfl rfl rfl (val_is hA (Amid_at _ _ _ _ _ _)) rfl rfl (Nat.le_refl _) ?_) | (refine RT.goK rfl rfl rfl rfl ?_; apply Nx.of; (first | exact S.move | exact S.assign | exact S.load1c rfl rfl rfl rfl | exact S.fieldAddr rfl rfl rfl | exact S.not_t | exact S.pick_tt | exact S.alloc rfl | exact S.add_one (by omega) | exact S.sub (by unfold In64; omega) | exact S.neg (by unfold In64; omega))) | (refine RT.goK0 rfl rfl rfl ?_; apply Nx.of; (first | exact S.store rfl rfl rfl rfl rfl rfl)) | (refine RT.goK rfl rfl rfl rfl ?_; apply Nx.of; (first | exact S.idx_sl rfl rfl rfl (by assumption) (by omega) | exact S.rowN0 rfl rfl rfl (fun _ => rfl) (range_at (by omega)) rfl | exact S.len_sl rfl rfl rfl (by assumption))))
        refine lp_n (k + 1) ⟨hlt, fun j hj e => ?_⟩ (by omega) (by (refine Wk.same (by decide) (by decide) (by decide) (by decide) ?_ ?_ rfl; all_goals ((try simp only [allL, allM]); (repeat' (first | exact trivial | refine And.intro ?_ ?_)); all_goals (first | rfl | exact ren_ro _ _ _ | exact bkc_ren h1 h2 (nm_lt (by decide)) (nm_lt (by decide)) | decide))))
        by_cases g : j = k
        · subst g; exact ha
        · exact hp j (by omega) e
      · have hA : AV.bool (decide (-(B.er k) ≤ B.rd k - mi ∧ B.rd k - mi ≤ B.er k)) = .bool false := by rw [decide_eq_false ha]
        repeat' (first | refine RT.nil ?_ | refine sq_n ?_ | refine Tr.seq ?_ | refine Tr.region ?_ | refine Tr.cond_t rfl ?_ | refine Tr.skip ?_ | refine Tr.ret ?_ | refine sq_r ?_ | refine Tr.block ?_ | refine blk_r ?_ | refine lp_r ?_ | (refine RT.goK rfl rfl rfl rfl ?_; first | refine Nx.of (S.lss_t hlt') ?_ | refine Nx.of (S.eql_t hs) ?_) | (refine RT.call rfl rfl rfl (val_is hA (Amid_at _ _ _ _ _ _)) rfl rfl (Nat.le_refl _) ?_) | (refine RT.goK rfl rfl rfl rfl ?_; apply Nx.of; (first | exact S.move | exact S.assign | exact S.load1c rfl rfl rfl rfl | exact S.fieldAddr rfl rfl rfl | exact S.not_f | exact S.pick_tt | exact S.alloc rfl | exact S.sub (by unfold In64; omega) | exact S.neg (by unfold In64; omega))) | (refine RT.goK0 rfl rfl rfl ?_; apply Nx.of; (first | exact S.store rfl rfl rfl rfl rfl rfl)) | (refine RT.goK rfl rfl rfl rfl ?_; apply Nx.of; (first | exact S.idx_sl rfl rfl rfl (by assumption) (by omega) | exact S.rowN0 rfl rfl rfl (fun _ => rfl) (range_at (by omega)) rfl | exact S.len_sl rfl rfl rfl (by assumption))))
        (first | refine rt_go rfl ?_)
        rw [dB_ff fun g => ha (g k hlt hs)]
        rfl
    · repeat' (first | refine RT.nil ?_ | refine sq_n ?_ | refine Tr.seq ?_ | refine Tr.region ?_ | refine Tr.cond_t rfl ?_ | refine Tr.cond_f rfl ?_ | refine Tr.skip ?_ | refine Tr.block ?_ | refine blk_n ?_ | (refine RT.goK rfl rfl rfl rfl ?_; first | refine Nx.of (S.lss_t hlt') ?_ | refine Nx.of (S.eql_f hs) ?_) | (refine RT.goK rfl rfl rfl rfl ?_; apply Nx.of; (first | exact S.move | exact S.assign | exact S.load1c rfl rfl rfl rfl | exact S.fieldAddr rfl rfl rfl | exact S.pick_ff | exact S.alloc rfl | exact S.add_one (by omega))) | (refine RT.goK0 rfl rfl rfl ?_; apply Nx.of; (first | exact S.store rfl rfl rfl rfl rfl rfl)) | (refine RT.goK rfl rfl rfl rfl ?_; apply Nx.of; (first | exact S.idx_sl rfl rfl rfl (by assumption) (by omega) | exact S.rowN0 rfl rfl rfl (fun _ => rfl) (range_at (by omega)) rfl | exact S.len_sl rfl rfl rfl (by assumption))) | (refine RT.no rfl rfl rfl ?_))
      refine lp_n (k + 1) ⟨hlt, fun j hj e => ?_⟩ (by omega) (by (refine Wk.same (by decide) (by decide) (by decide) (by decide) ?_ ?_ rfl; all_goals ((try simp only [allL, allM]); (repeat' (first | exact trivial | refine And.intro ?_ ?_)); all_goals (first | rfl | exact ren_ro _ _ _ | exact bkc_ren h1 h2 (nm_lt (by decide)) (nm_lt (by decide)) | decide))))
      by_cases g : j = k
      · subst g; exact absurd e hs
      · exact hp j (by omega) e
  · obtain rfl : k = B.nc := by omega
    have hlt' : ¬ (B.nc : Int) < B.nc := by omega
    repeat' (first | refine RT.nil ?_ | refine sq_n ?_ | refine Tr.seq ?_ | refine Tr.region ?_ | refine Tr.cond_f rfl ?_ | refine Tr.ret ?_ | refine Tr.exit ?_ | refine sq_x ?_ | refine blk_hit rfl ?_ | refine lp_x ?_ | (refine RT.goK rfl rfl rfl rfl ?_; first | refine Nx.of (S.lss_f hlt') ?_) | (refine RT.goK rfl rfl rfl rfl ?_; apply Nx.of; (first | exact S.move | exact S.assign | exact S.load1c rfl rfl rfl rfl | exact S.fieldAddr rfl rfl rfl)) | (refine RT.goK rfl rfl rfl rfl ?_; apply Nx.of; (first | exact S.len_sl rfl rfl rfl (by assumption))))
    (first | refine rt_go rfl ?_)
    rw [dB_tt hp]
    rfl
theorem right6_at {B : CBook} {a1 a2 : AV} {m : List (Nat × Option AObj)} {c : Nat} (h : BkIn B a1 a2 m c) (hck : cksOk B) (s mi : Int) (hmi : -100000 ≤ mi ∧ mi ≤ 100000) (fl : Nat) : OkAt 0 Try.prog fl 112 [bk B a1 a2, .int .i64 s, .int .i64 mi] (ofM m) c (.bool (dB (rgtP B s mi B.nc))) (ofM m) c :=
  (right_can6 B a1 a2 h.h1 h.h2 hck s mi hmi).pure (.bool _) (h.entry _ fun _ => rfl) fl

/-- Where the longer list lies. -/
def puX (n : Nat) : Nat := if n = 0 then 2 else 3
def puF (f : Nat → Int) (n : Nat) (p : Int) : Nat → Int := fun i => if i = n then p else f i
theorem fE_congr {f g : Nat → Int} : ∀ {n : Nat}, (∀ i, i < n → f i = g i) → fE f n = fE g n
  | 0, _ => rfl
  | n + 1, h => by rw [fE_succ, fE_succ, fE_congr fun i hi => h i (by omega), h n (Nat.lt_succ_self n)]
theorem puF_E (f : Nat → Int) (n : Nat) (p : Int) : fE (puF f n p) (n + 1) = fE f n ++ [.int .i64 p] := by
  rw [fE_succ, fE_congr (f := puF f n p) (g := f) fun i hi => if_neg (by omega)]
  show _ ++ [AV.int .i64 (if n = n then p else f n)] = _
  rw [if_pos rfl]
set_option maxRecDepth 100000 in
set_option maxHeartbeats 4000000 in
theorem Put_can (f : Nat → Int) (n : Nat) (a : AV) (h1 : IsSl a n 0) (hn : n ≤ 1000) (p : Int) : CanS 0 Try.prog 113 1 [a, .int .i64 p] [(0, some (.ro (fE f n)))] 1 fun v H1 c1 => v = .gs (1 + puX n) (n + 1) ∧ c1 ≤ 1 + 4 ∧ H1.get (1 + puX n) = some (.grown (fE f n ++ [.int .i64 p]) 1) := by
  refine CanS.mk Try.func113 rfl rfl rfl ?_
  by_cases h0 : n = 0
  · have hw : puX n = 2 := by unfold puX; rw [if_pos h0]
    rw [hw, h0]
    rw [h0] at h1
    repeat' (first | refine RT.nil ?_ | refine sq_n ?_ | refine Tr.seq ?_ | refine Tr.region ?_ | refine Tr.ret ?_ | (refine RT.goK rfl rfl rfl rfl ?_; apply Nx.of; (first | exact S.append_e0 rfl rfl rfl rfl rfl rfl rfl rfl h1 rfl rfl | exact S.append_e1I rfl rfl rfl rfl rfl rfl rfl rfl rfl rfl rfl rfl)) | (refine RT.goK rfl rfl rfl rfl ?_; apply Nx.of; (first | exact S.move | exact S.assign | exact S.buildSlice0 rfl rfl rfl | exact S.buildSlice rfl rfl rfl rfl rfl rfl rfl)))
    (first | refine rt_go rfl ?_)
    exact ⟨rfl, by decide, getM rfl⟩
  · have hw : puX n = 3 := by unfold puX; rw [if_neg h0]
    rw [hw]
    repeat' (first | refine RT.nil ?_ | refine sq_n ?_ | refine Tr.seq ?_ | refine Tr.region ?_ | refine Tr.ret ?_ | (refine RT.goK rfl rfl rfl rfl ?_; apply Nx.of; (first | exact S.append_eI rfl rfl rfl rfl rfl rfl rfl rfl rfl rfl h1 rfl rfl (by rw [fE_len, Nat.mul_one]) (by omega) (by omega) | exact S.append_gsI rfl rfl rfl rfl rfl rfl rfl rfl rfl rfl rfl rfl rfl (cut_all (by rw [fE_len, Nat.mul_one])) (by omega) rfl)) | (refine RT.goK rfl rfl rfl rfl ?_; apply Nx.of; (first | exact S.move | exact S.assign | exact S.buildSlice0 rfl rfl rfl | exact S.buildSlice rfl rfl rfl rfl rfl rfl rfl)))
    (first | refine rt_go rfl ?_)
    exact ⟨rfl, by decide, getM rfl⟩
theorem Put_at {m : List (Nat × Option AObj)} {c : Nat} {v : AV} {f : Nat → Int} {n : Nat} (h : Li m v f n) (hm : ∀ x o, lookM m x = some o → x < c) (hn : n ≤ 1000) (p : Int) (fl : Nat) : OkAt 0 Try.prog fl 113 [v, .int .i64 p] (ofM m) c (.gs c (n + 1)) (ofM ((c, some (.grown (fE (puF f n p) (n + 1)) 1)) :: m)) (c + 4) := by
  obtain ⟨w, hw, ha⟩ := h.ex
  obtain ⟨a, h1, h2⟩ := ha [w] 0 rfl
  have hx : puX n = 2 ∨ puX n = 3 := by unfold puX; split <;> omega
  have e0 : ∀ (σ : Nat → Nat) (x k : Nat), (AV.gs x k).ren σ = .gs (σ x) k := fun _ _ _ => rfl
  have := CanS.freshU (swT (puX n)) (H' := ofM ((c, some (.grown (fE (puF f n p) (n + 1)) 1)) :: m)) (k := 4) (v0 := .gs 0 (n + 1)) (Put_can f n a h2 hn p) (fun j hj => by unfold swT; (repeat' split) <;> omega) swT_inj
    (Entry.win (H := ofM m) (c := c) (W := [w]) (CS := [fE f n]) rfl ⟨hw, fE_pls f n, trivial⟩ (show ArgsW [w] [v, .int .i64 p] [a, .int .i64 p] from ⟨h1, .pl (.int _ _), trivial⟩)) (fun v1 H1 c1 ⟨g1, g2, g3⟩ => ?_) fl
  · exact this
  · refine ⟨g1, g2, fun x o hxx => ?_⟩
    rw [ofM_get] at hxx
    by_cases e1 : x = c
    · subst e1
      rw [lookM_hd] at hxx
      cases hxx
      refine .inr ⟨0, .grown (fE (puF f n p) (n + 1)) 1, rfl, ?_, (ren_grown _ _ _ _).symm⟩
      rw [ren_grown]
      show H1.get (1 + puX n) = some (.grown (fE (puF f n p) (n + 1)) 1)
      rw [puF_E]
      exact g3
    · rw [lookM_tl e1] at hxx
      exact .inl ⟨hm x o hxx, getM hxx⟩
end Go.Proofs.Ytjncfddnphhofaa

/- Lists of truths of the reference: structs with lists, under names in a row. -/
namespace Go.Proofs.Ytjncfddnphhofaa
open Go Go.Ev

section
variable (f g : Nat → Nat) (k : Nat)
/-- The cells of a list of truths whose lists lie under these names. -/
def tcsF : Nat → List Tru → List AV
  | _, [] => []
  | i, t :: L => .int .i64 t.w :: grI (f i) k :: grI (g i) k :: tcsF (i + 1) L
def tmsF : Nat → List Tru → List (Nat × Option AObj)
  | _, [] => []
  | i, t :: L => (f i, some (.grown (fE t.r k) 1)) :: (g i, some (.grown (fE t.c k) 1)) :: tmsF (i + 1) L
end
def fA (i : Nat) : Nat := 100 + 2 * i
def gA (i : Nat) : Nat := 101 + 2 * i
section
variable {f g : Nat → Nat} {k : Nat}
theorem tcsF_len : ∀ (L : List Tru) (i : Nat), (tcsF f g k i L).length = L.length * 3
  | [], _ => rfl
  | t :: L, i => by
    show (tcsF f g k (i + 1) L).length + 1 + 1 + 1 = (L.length + 1) * 3
    rw [tcsF_len L (i + 1)]; omega
theorem tcsF_app : ∀ (L M : List Tru) (i : Nat), tcsF f g k i (L ++ M) = tcsF f g k i L ++ tcsF f g k (i + L.length) M
  | [], _, _ => rfl
  | t :: L, M, i => by
    show _ :: _ :: _ :: tcsF f g k (i + 1) (L ++ M) = _ :: _ :: _ :: (tcsF f g k (i + 1) L ++ _)
    rw [tcsF_app L M (i + 1), List.length_cons, show i + 1 + L.length = i + (L.length + 1) by omega]
theorem tcsF_ren (σ : Nat → Nat) : ∀ (L : List Tru) (i : Nat), AV.rens σ (tcsF f g k i L) = tcsF (fun j => σ (f j)) (fun j => σ (g j)) k i L
  | [], _ => rfl
  | t :: L, i => by simp only [tcsF, AV.rens, AV.ren, grI_ren σ rfl, tcsF_ren σ L (i + 1)]
theorem tcsF_congr {f' g' : Nat → Nat} : ∀ (L : List Tru) (i i' : Nat), (∀ j, j < L.length → f (i + j) = f' (i' + j) ∧ g (i + j) = g' (i' + j)) → tcsF f g k i L = tcsF f' g' k i' L
  | [], _, _, _ => rfl
  | t :: L, i, i', h => by
    have h0 := h 0 (by simp)
    simp only [Nat.add_zero] at h0
    rw [tcsF, tcsF, h0.1, h0.2, tcsF_congr L (i + 1) (i' + 1) fun j hj => by
      have := h (j + 1) (by simp; omega)
      rwa [show i + (j + 1) = i + 1 + j by omega, show i' + (j + 1) = i' + 1 + j by omega] at this]
theorem grI_one (x n : Nat) : (grI x n).one = true := by cases n <;> rfl
theorem tcsF_one : ∀ (L : List Tru) (i : Nat), (tcsF f g k i L).all AV.one = true
  | [], _ => rfl
  | t :: L, i => by simp only [tcsF, List.all_cons, grI_one, tcsF_one L (i + 1), Bool.and_true]; rfl
theorem tcsF_at : ∀ (L : List Tru) (i j : Nat) (t : Tru), L[j]? = some t → (tcsF f g k i L)[j * 3]? = some (.int .i64 t.w) ∧ (tcsF f g k i L)[j * 3 + 1]? = some (grI (f (i + j)) k) ∧ (tcsF f g k i L)[j * 3 + 2]? = some (grI (g (i + j)) k)
  | [], _, _, _, h => by simp at h
  | t :: L, i, 0, u, h => by
    simp only [List.getElem?_cons_zero, Option.some.injEq] at h
    subst h
    exact ⟨rfl, rfl, rfl⟩
  | t :: L, i, j + 1, u, h => by
    have := tcsF_at L (i + 1) j u (by simpa using h)
    rw [show i + 1 + j = i + (j + 1) by omega] at this
    have e : ∀ q, (tcsF f g k i (t :: L))[(j + 1) * 3 + q]? = (tcsF f g k (i + 1) L)[j * 3 + q]? := fun q => by
      rw [show (j + 1) * 3 + q = j * 3 + q + 1 + 1 + 1 by omega]
      rfl
    exact ⟨(e 0).trans this.1, (e 1).trans this.2.1, (e 2).trans this.2.2⟩
theorem allM_tms {p : Nat → AObj → Prop} : ∀ (L : List Tru) (i : Nat), (∀ j t, L[j]? = some t → p (f (i + j)) (.grown (fE t.r k) 1) ∧ p (g (i + j)) (.grown (fE t.c k) 1)) → allM p (tmsF f g k i L)
  | [], _, _ => trivial
  | t :: L, i, h => by
    have h0 := h 0 t rfl
    exact ⟨h0.1, h0.2, allM_tms L (i + 1) fun j u hu => by
      have := h (j + 1) u (by simpa using hu)
      rwa [show i + (j + 1) = i + 1 + j by omega] at this⟩
theorem allM_app {p : Nat → AObj → Prop} : ∀ {ms gs : List (Nat × Option AObj)}, allM p ms → allM p gs → allM p (ms ++ gs)
  | [], _, _, h => h
  | (x, some o) :: ms, gs, h, k => ⟨h.1, allM_app h.2 k⟩
  | (x, none) :: ms, gs, h, k => allM_app (ms := ms) h k
theorem look_skip {x : Nat} : ∀ {ms gs : List (Nat × Option AObj)}, (∀ e ∈ ms, e.1 ≠ x) → lookM (ms ++ gs) x = lookM gs x
  | [], _, _ => rfl
  | (y, o) :: ms, gs, h => by
    have hy : y ≠ x := h (y, o) List.mem_cons_self
    rw [List.cons_append, lookM_tl hy.symm]
    exact look_skip fun e he => h e (List.mem_cons_of_mem _ he)
/-- Families whose names go in steps of two. -/
structure Fam (f g : Nat → Nat) (n : Nat) : Prop where
  hf : ∀ i j, i < n → j < n → f i = f j → i = j
  hg : ∀ i j, i < n → j < n → g i = g j → i = j
  hd : ∀ i j, i < n → j < n → f i ≠ g j
theorem look_tms : ∀ (L : List Tru) (i j n : Nat) (t : Tru), Fam f g n → i + L.length ≤ n → L[j]? = some t → lookM (tmsF f g k i L) (f (i + j)) = some (.grown (fE t.r k) 1) ∧ lookM (tmsF f g k i L) (g (i + j)) = some (.grown (fE t.c k) 1)
  | [], _, _, _, _, _, _, h => by simp at h
  | t :: L, i, 0, n, u, hF, hn, h => by
    simp only [List.getElem?_cons_zero, Option.some.injEq] at h
    subst h
    simp only [List.length_cons] at hn
    refine ⟨lookM_hd, ?_⟩
    show lookM ((f i, _) :: (g i, _) :: _) (g i) = _
    rw [lookM_tl (hF.hd i i (by omega) (by omega)).symm]
    exact lookM_hd
  | t :: L, i, j + 1, n, u, hF, hn, h => by
    simp only [List.length_cons] at hn
    have hj : j < L.length := Classical.byContradiction fun q => by rw [List.getElem?_cons_succ, List.getElem?_eq_none (by omega)] at h; cases h
    have := look_tms L (i + 1) j n u hF (by omega) (by simpa using h)
    rw [show i + 1 + j = i + (j + 1) by omega] at this
    constructor
    · show lookM ((f i, _) :: (g i, _) :: _) (f (i + (j + 1))) = _
      rw [lookM_tl (fun e => by have := hF.hf _ _ (by omega) (by omega) e; omega), lookM_tl (hF.hd _ _ (by omega) (by omega))]
      exact this.1
    · show lookM ((f i, _) :: (g i, _) :: _) (g (i + (j + 1))) = _
      rw [lookM_tl (hF.hd i _ (by omega) (by omega)).symm, lookM_tl (fun e => by have := hF.hg _ _ (by omega) (by omega) e; omega)]
      exact this.2
theorem keys_tms : ∀ (L : List Tru) (i : Nat), ∀ e ∈ tmsF f g k i L, ∃ j, j < L.length ∧ (e.1 = f (i + j) ∨ e.1 = g (i + j))
  | [], _, e, h => by cases h
  | t :: L, i, e, h => by
    rcases List.mem_cons.1 h with rfl | h
    · exact ⟨0, by simp, .inl rfl⟩
    rcases List.mem_cons.1 h with rfl | h
    · exact ⟨0, by simp, .inr rfl⟩
    obtain ⟨j, hj, h1⟩ := keys_tms L (i + 1) e h
    exact ⟨j + 1, by simp; omega, by rwa [show i + (j + 1) = i + 1 + j by omega]⟩
end
theorem famA_ok (n : Nat) : Fam fA gA n := ⟨fun i j _ _ h => by unfold fA at h; omega, fun i j _ _ h => by unfold gA at h; omega, fun i j _ _ => by unfold fA gA; omega⟩
/-- A list of truths where it lies. -/
def ouM (f g : Nat → Nat) (n x : Nat) (L : List Tru) : List (Nat × Option AObj) := match L with | [] => [] | _ :: _ => [(x, some (.grown (tcsF f g n 0 L) 3))]
theorem pinX_nc {f : Nat} {args : List AV} {m m' : List (Nat × Option AObj)} {c c' c1 fl f1 : Nat} {v : AV} {args1 : List AV} {H1 : T AObj} (h : c1 ≠ c) : pinX f args m c v m' c' fl f1 args1 H1 c1 = none := by
  unfold pinX
  rw [if_neg fun q => h q.2.2.2]

/-- All truths that begin so: the reference's order. -/
noncomputable def gL (B : CBook) : Nat → Nat → Tru → Int → List Tru
  | 0, _, t, _ => [t]
  | rem + 1, i, t, fr => (ints (B.dl i) (B.dh i)).flatMap fun d => (ints (B.rl i) (B.rh i)).flatMap fun r =>
    if wrV B ((i : Int), fr + d + r + B.cost t.w.toNat) = 0 then (ints (B.sl i) (B.sh i)).flatMap fun s => gL B rem (i + 1) (tru2 t i r (fr + d + r + B.cost t.w.toNat)) (fr + d + r + B.cost t.w.toNat + s) else []
theorem flatMap_len {α β : Type} {f : α → List β} {K : Nat} : ∀ {l : List α}, (∀ a ∈ l, (f a).length ≤ K) → (l.flatMap f).length ≤ l.length * K
  | [], _ => by simp
  | a :: l, h => by
    rw [List.flatMap_cons, List.length_append, List.length_cons, Nat.succ_mul]
    have h1 := h a List.mem_cons_self
    have h2 := flatMap_len (l := l) fun b hb => h b (List.mem_cons_of_mem _ hb)
    omega
end Go.Proofs.Ytjncfddnphhofaa

/- The reference of layer 6: goes: its end, and how its lists are renamed. -/
namespace Go.Proofs.Ytjncfddnphhofaa
open Go Go.Ev

set_option maxRecDepth 100000 in
set_option maxHeartbeats 4000000 in
theorem leaf_can (B : CBook) (a1 a2 : AV) (w : Int) (h1 : IsSl a1 B.ns 0) (h2 : IsSl a2 B.nc 1) (fr : Int) : CanS 0 Try.prog 89 4 [bk B a1 a2, .agg [.int .i64 w, .gs 2 B.ns, .gs 3 B.ns], .int .i64 fr] [(0, some (oSt B))] 4 fun v H1 c1 => v = .sl 6 0 1 1 ∧ c1 = 7 ∧ H1.get 6 = some (.cells [.int .i64 w, .gs 2 B.ns, .gs 3 B.ns]) := by
  have hs := IsSl.gs 3 B.ns
  have he : (B.ns : Int) = B.ns := rfl
  refine CanS.mk Try.func89 rfl rfl rfl ?_
  repeat' (first | refine RT.nil ?_ | refine sq_n ?_ | refine Tr.seq ?_ | refine Tr.region ?_ | refine Tr.cond_t rfl ?_ | refine Tr.ret ?_ | refine sq_r ?_ | (refine RT.goK rfl rfl rfl rfl ?_; refine Nx.of (S.eql_t he) ?_) | (refine RT.goK rfl rfl rfl rfl ?_; apply Nx.of; (first | exact S.move | exact S.assign | exact S.load1c rfl rfl rfl rfl | exact S.loadNc rfl rfl rfl rfl | exact S.fieldAddr rfl rfl rfl | exact S.box | exact S.buildSlice rfl rfl rfl rfl rfl rfl rfl)) | (refine RT.goK rfl rfl rfl rfl ?_; apply Nx.of; (first | exact S.len_sl rfl rfl rfl (by assumption))))
  (first | refine rt_go rfl ?_)
  exact ⟨rfl, rfl, getM rfl⟩
theorem leaf_at {B : CBook} {a1 a2 : AV} {w : Int} (h1 : IsSl a1 B.ns 0) (h2 : IsSl a2 B.nc 1) (fr : Int) {m : List (Nat × Option AObj)} {c y z : Nat} (hm : ∀ x o, lookM m x = some o → x < c) (hc : 4 ≤ c) (hy : y < c) (hz : z < c) (m0 : lookM m 0 = some (oSt B)) (fl : Nat) :
    OkAt 0 Try.prog fl 89 [bk B a1 a2, .agg [.int .i64 w, .gs y B.ns, .gs z B.ns], .int .i64 fr] (ofM m) c (.sl (c + 2) 0 1 1) (ofM ((c + 2, some (.cells [.int .i64 w, .gs y B.ns, .gs z B.ns])) :: m)) (c + 3) := by
  let τ : Nat → Nat := fun q => if q = 0 then 0 else if q = 1 then 1 else if q = 2 then y else if q = 3 then z else c + (q - 4)
  have t0 : τ 0 = 0 := rfl
  have t1 : τ 1 = 1 := rfl
  have t2 : τ 2 = y := rfl
  have t3 : τ 3 = z := rfl
  have t6 : τ 6 = c + 2 := rfl
  have ha : AV.rens τ [bk B a1 a2, .agg [.int .i64 w, .gs 2 B.ns, .gs 3 B.ns], .int .i64 fr] = [bk B a1 a2, .agg [.int .i64 w, .gs y B.ns, .gs z B.ns], .int .i64 fr] := by
    simp only [bk, AV.ren, AV.rens, h1.ren t0, h2.ren t1, t2, t3]
  rw [← ha]
  have low : ∀ {u : Nat} {ob : AObj}, lookM [(0, some (oSt B))] u = some ob → u = 0 := fun {u ob} hu => by
    have := lookM_mem hu
    simpa using this
  refine CanS.inst (leaf_can B a1 a2 w h1 h2 fr) (Nat.zero_le _) (Nat.le_refl _) τ (fun g hg => by omega) (fun q hq => by simp only [τ]; (repeat' split) <;> omega) (fun q hq => by simp only [τ]; rw [if_neg (by omega), if_neg (by omega), if_neg (by omega), if_neg (by omega)]) (fun q o hq => ?_) (fun p q o o' hp hq hpq => ?_) (fun q hq hq' => by omega) (fun v1 H1 c1 hk _ => ?_)
  · obtain rfl := low hq
    cases hq
    rw [t0, ren_ro]
    exact getM m0
  · exact absurd ((low hp).trans (low hq).symm) hpq
  · obtain ⟨rfl, rfl, g1⟩ := hk
    refine ⟨by show AV.sl (τ 6) 0 1 1 = _; rw [t6], by omega, fun p o hp => ?_⟩
    rw [ofM_get] at hp
    by_cases e1 : p = c + 2
    · subst e1
      rw [lookM_hd] at hp
      cases hp
      refine .inr ⟨6, _, by omega, g1, t6.symm, ?_⟩
      simp only [AObj.ren, AV.ren, AV.rens, t2, t3]
    · rw [lookM_tl e1] at hp
      exact .inl ⟨hm p o hp, fun q hq hq' => by omega, getM hp⟩

/-- How names are moved, once a list is appended. -/
def gsg (a b A A' x c : Nat) (y : Nat) : Nat := if y = 7 then x else if y < 100 then y else if y < 100 + 2 * a then y else if y < 100 + 2 * (a + b) then (if y % 2 = 0 then A + (y - (100 + 2 * a)) else A' + (y - (101 + 2 * a))) else c + y
set_option maxHeartbeats 4000000 in
theorem go_wk {B : CBook} {a1 a2 a3 a4 : AV} {r e : Nat → Int} {w : Int} {k : Nat} (h1 : IsSl a1 B.ns 0) (h2 : IsSl a2 B.nc 1) (h3 : IsSl a3 k 2) (h4 : IsSl a4 k 3) {nt c x A A' n : Nat} {l l2 : List (Nat × AV)} {m : List (Nat × Option AObj)} {L L' : List Tru}
    (hN : L.length + L'.length ≤ 20000) (hA : 100000 ≤ A) (hA' : 100000 ≤ A') (hAA : A' = A + 1 ∨ (L'.length ≤ 1 ∧ A ≠ A')) (hx : x = 7 ∨ (A + 2 * L'.length ≤ x ∧ A' + 2 * L'.length ≤ x ∧ 100000 ≤ x))
    (hl : allL (fun t v => Go.Ev.look l t = some (v.ren (gsg L.length L'.length A A' x c))) l2) (t9 : Go.Ev.look l 9 = some (grI x (L ++ L').length))
    (g6 : lookM m 6 = some (.cells [.int .i64 (B.due k), .int .i64 (B.dl k), .int .i64 (B.dh k), .int .i64 (B.rl k), .int .i64 (B.rh k), .int .i64 (B.sl k), .int .i64 (B.sh k)])) (g5 : lookM m 5 = some (.cells [.int .i64 w, a3, a4])) (g4 : lookM m 4 = some (.cells (bk B a1 a2).cells)) (g0 : lookM m 0 = some (oSt B)) (g1 : lookM m 1 = some (oCk B)) (g2 : lookM m 2 = some (.ro (fE r k))) (g3 : lookM m 3 = some (.ro (fE e k)))
    (gO : L ++ L' ≠ [] → lookM m x = some (.grown (tcsF fA gA n 0 L ++ tcsF (fun j => A + 2 * j) (fun j => A' + 2 * j) n 0 L') 3))
    (gold : ∀ j t, L[j]? = some t → lookM m (fA j) = some (.grown (fE t.r n) 1) ∧ lookM m (gA j) = some (.grown (fE t.c n) 1))
    (gnew : ∀ j t, L'[j]? = some t → lookM m (A + 2 * j) = some (.grown (fE t.r n) 1) ∧ lookM m (A' + 2 * j) = some (.grown (fE t.c n) 1)) :
    Wk 0 4 4 (stL nt [] l m c) (stL nt [] ((9, grI 7 (L ++ L').length) :: l2) ([(6, some (.cells [.int .i64 (B.due k), .int .i64 (B.dl k), .int .i64 (B.dh k), .int .i64 (B.rl k), .int .i64 (B.rh k), .int .i64 (B.sl k), .int .i64 (B.sh k)])), (5, some (.cells [.int .i64 w, a3, a4])), (4, some (.cells (bk B a1 a2).cells)), (0, some (oSt B)), (1, some (oCk B)), (2, some (.ro (fE r k))), (3, some (.ro (fE e k)))] ++ (ouM fA gA n 7 (L ++ L') ++ tmsF fA gA n 0 (L ++ L'))) 100000) := by
  obtain ⟨σ, hσ⟩ : ∃ σ, gsg L.length L'.length A A' x c = σ := ⟨_, rfl⟩
  rw [hσ] at hl
  have s7 : σ 7 = x := by rw [← hσ]; rfl
  have sl : ∀ y, y < 7 → σ y = y := fun y hy => by rw [← hσ]; unfold gsg; rw [if_neg (by omega), if_pos (by omega)]
  have sold : ∀ j, j < L.length → σ (fA j) = fA j ∧ σ (gA j) = gA j := fun j hj => by
    rw [← hσ]
    unfold gsg fA gA
    refine ⟨?_, ?_⟩
    · rw [if_neg (by omega), if_neg (by omega), if_pos (by omega)]
    · rw [if_neg (by omega), if_neg (by omega), if_pos (by omega)]
  have snew : ∀ j, j < L'.length → σ (fA (L.length + j)) = A + 2 * j ∧ σ (gA (L.length + j)) = A' + 2 * j := fun j hj => by
    rw [← hσ]
    unfold gsg fA gA
    refine ⟨?_, ?_⟩
    · rw [if_neg (by omega), if_neg (by omega), if_neg (by omega), if_pos (by omega), if_pos (by omega)]; omega
    · rw [if_neg (by omega), if_neg (by omega), if_neg (by omega), if_pos (by omega), if_neg (by omega)]; omega
  have hm : allM (fun y o => lookM m (σ y) = some (o.ren σ)) ([(6, some (.cells [.int .i64 (B.due k), .int .i64 (B.dl k), .int .i64 (B.dh k), .int .i64 (B.rl k), .int .i64 (B.rh k), .int .i64 (B.sl k), .int .i64 (B.sh k)])), (5, some (.cells [.int .i64 w, a3, a4])), (4, some (.cells (bk B a1 a2).cells)), (0, some (oSt B)), (1, some (oCk B)), (2, some (.ro (fE r k))), (3, some (.ro (fE e k)))] ++ (ouM fA gA n 7 (L ++ L') ++ tmsF fA gA n 0 (L ++ L'))) := by
    refine allM_app ?_ (allM_app ?_ ?_)
    · have e5 : (AObj.cells [.int .i64 w, a3, a4]).ren σ = .cells [.int .i64 w, a3, a4] := by
        simp only [AObj.ren, AV.ren, AV.rens, h3.ren (sl 2 (by decide)), h4.ren (sl 3 (by decide))]
      refine ⟨?_, ?_, ?_, ?_, ?_, ?_, ?_, trivial⟩
      · show lookM m (σ 6) = _; rw [sl 6 (by decide), g6]; rfl
      · show lookM m (σ 5) = _; rw [sl 5 (by decide), g5, e5]
      · show lookM m (σ 4) = _; rw [sl 4 (by decide), g4, bkc_ren h1 h2 (sl 0 (by decide)) (sl 1 (by decide))]
      · show lookM m (σ 0) = _; rw [sl 0 (by decide), g0, ren_ro]
      · show lookM m (σ 1) = _; rw [sl 1 (by decide), g1, ren_ro]
      · show lookM m (σ 2) = _; rw [sl 2 (by decide), g2, ren_ro]
      · show lookM m (σ 3) = _; rw [sl 3 (by decide), g3, ren_ro]
    · by_cases hLL : L ++ L' = []
      · rw [hLL]; trivial
      · have e : ouM fA gA n 7 (L ++ L') = [(7, some (.grown (tcsF fA gA n 0 (L ++ L')) 3))] := by
          cases hq : L ++ L' with
          | nil => exact absurd hq hLL
          | cons a q => rfl
        rw [e]
        refine ⟨?_, trivial⟩
        show lookM m (σ 7) = some (AObj.grown (AV.rens σ (tcsF fA gA n 0 (L ++ L'))) 3)
        rw [s7, gO hLL, tcsF_ren, tcsF_app]
        refine congrArg some (congrArg (fun cs => AObj.grown cs 3) (congr (congrArg _ ?_) ?_))
        · exact tcsF_congr L 0 0 fun j hj => by
            rw [Nat.zero_add]
            exact ⟨(sold j hj).1.symm, (sold j hj).2.symm⟩
        · exact tcsF_congr L' 0 (0 + L.length) fun j hj => by
            rw [Nat.zero_add, Nat.zero_add]
            exact ⟨(snew j hj).1.symm, (snew j hj).2.symm⟩
    · refine allM_tms _ _ fun j t ht => ?_
      show lookM m (σ (fA (0 + j))) = some (AObj.ren σ _) ∧ lookM m (σ (gA (0 + j))) = some (AObj.ren σ _)
      rw [Nat.zero_add, ren_grown, ren_grown]
      by_cases hj : j < L.length
      · rw [List.getElem?_append_left hj] at ht
        rw [(sold j hj).1, (sold j hj).2]
        exact gold j t ht
      · rw [List.getElem?_append_right (by omega)] at ht
        have hj2 : j - L.length < L'.length := Classical.byContradiction fun q => by rw [List.getElem?_eq_none (by omega)] at ht; cases ht
        have := snew (j - L.length) hj2
        rw [show L.length + (j - L.length) = j by omega] at this
        rw [this.1, this.2]
        exact gnew _ t ht
  have t9' : Go.Ev.look l 9 = some ((grI 7 (L ++ L').length).ren σ) := by rw [grI_ren σ s7]; exact t9
  have keys : ∀ u, u ∈ ([(6, some (.cells [.int .i64 (B.due k), .int .i64 (B.dl k), .int .i64 (B.dh k), .int .i64 (B.rl k), .int .i64 (B.rh k), .int .i64 (B.sl k), .int .i64 (B.sh k)])), (5, some (.cells [.int .i64 w, a3, a4])), (4, some (.cells (bk B a1 a2).cells)), (0, some (oSt B)), (1, some (oCk B)), (2, some (.ro (fE r k))), (3, some (.ro (fE e k)))] ++ (ouM fA gA n 7 (L ++ L') ++ tmsF fA gA n 0 (L ++ L')) : List (Nat × Option AObj)).map (fun e => e.1) → u < 7 ∨ u = 7 ∨ (100 ≤ u ∧ u < 100 + 2 * (L.length + L'.length)) := fun u hu => by
    obtain ⟨q, hq, rfl⟩ := List.mem_map.1 hu
    rcases List.mem_append.1 hq with hq | hq
    · simp at hq
      rcases hq with rfl | rfl | rfl | rfl | rfl | rfl | rfl <;> simp
    rcases List.mem_append.1 hq with hq | hq
    · have : q.1 = 7 := by
        cases hq2 : L ++ L' with
        | nil => rw [hq2] at hq; cases hq
        | cons a s => rw [hq2] at hq; simp [ouM] at hq; rw [hq]
      exact .inr (.inl this)
    · obtain ⟨j, hj, h⟩ := keys_tms _ _ q hq
      rw [List.length_append] at hj
      unfold fA gA at h
      omega
  refine Wk.by σ (by decide) (by decide) (by decide) ⟨t9', hl⟩ hm rfl (fun u hu v hv huv ee => ?_) (fun u hu => ?_) (fun u hu => ?_) (fun u hu => ?_)
  · have q1 := keys u hu
    have q2 := keys v hv
    rw [← hσ] at ee
    unfold gsg at ee
    (repeat' split at ee) <;> omega
  · rw [← hσ]; unfold gsg; (repeat' split) <;> omega
  · exact sl u (by omega)
  · rw [← hσ]; unfold gsg; (repeat' split) <;> omega
end Go.Proofs.Ytjncfddnphhofaa

/- The reference of layer 6: what goes leaves behind, at any memory. -/
namespace Go.Proofs.Ytjncfddnphhofaa
open Go Go.Ev

/-- A list of what so many numbers give, from the first one on. -/
def preL {α : Type} (a : Int) (F : Int → List α) : Nat → List α
  | 0 => []
  | q + 1 => preL a F q ++ F (a + (q : Int))
theorem preL_range {α : Type} (a : Int) (F : Int → List α) : ∀ q, preL a F q = (List.range q).flatMap fun k : Nat => F (a + (k : Int))
  | 0 => rfl
  | q + 1 => by rw [preL, preL_range a F q, List.range_succ, List.flatMap_append]; simp
theorem preL_all {α : Type} (a b : Int) (F : Int → List α) {q : Nat} (h : q = (b - a + 1).toNat) : preL a F q = (ints a b).flatMap F := by
  rw [preL_range, h]
  unfold ints
  rw [List.flatMap_map]
theorem preL_len {α : Type} {a : Int} {F : Int → List α} {K : Nat} (h : ∀ d, (F d).length ≤ K) : ∀ q, (preL a F q).length ≤ q * K
  | 0 => by simp [preL]
  | q + 1 => by
    rw [preL, List.length_append, Nat.succ_mul]
    have := preL_len (a := a) h q
    have := h (a + (q : Int))
    omega
theorem gL_len {B : CBook} (hB : bkOk B) : ∀ (rem k : Nat) (t : Tru) (fr : Int), k + rem = B.ns → (gL B rem k t fr).length ≤ 27 ^ rem
  | 0, _, _, _, _ => by simp [gL]
  | rem + 1, k, t, fr, h => by
    have hs := hB.1.2 k (by omega)
    unfold stOk at hs
    have l3 : ∀ {a b : Int}, a ≤ b → b - a ≤ 2 → (ints a b).length ≤ 3 := fun {a b} h1 h2 => by rw [ints_len]; omega
    rw [gL]
    have h1 : ∀ d r, (if wrV B ((k : Int), fr + d + r + B.cost t.w.toNat) = 0 then (ints (B.sl k) (B.sh k)).flatMap fun s => gL B rem (k + 1) (tru2 t k r (fr + d + r + B.cost t.w.toNat)) (fr + d + r + B.cost t.w.toNat + s) else []).length ≤ 3 * 27 ^ rem := fun d r => by
      split
      · refine Nat.le_trans (flatMap_len fun s _ => gL_len hB rem (k + 1) _ _ (by omega)) ?_
        exact Nat.mul_le_mul_right _ (l3 (by omega) (by omega))
      · simp
    have h2 := fun d => flatMap_len (l := ints (B.rl k) (B.rh k)) fun r _ => h1 d r
    have h3 : ∀ d, ((ints (B.rl k) (B.rh k)).flatMap fun r => if wrV B ((k : Int), fr + d + r + B.cost t.w.toNat) = 0 then (ints (B.sl k) (B.sh k)).flatMap fun s => gL B rem (k + 1) (tru2 t k r (fr + d + r + B.cost t.w.toNat)) (fr + d + r + B.cost t.w.toNat + s) else []).length ≤ 3 * (3 * 27 ^ rem) := fun d =>
      Nat.le_trans (h2 d) (Nat.mul_le_mul_right _ (l3 (by omega) (by omega)))
    refine Nat.le_trans (flatMap_len fun d _ => h3 d) ?_
    refine Nat.le_trans (Nat.mul_le_mul_right _ (l3 (by omega) (by omega))) ?_
    rw [Nat.pow_succ]; omega

/-- Where a call leaves its lists. -/
def fC (c j : Nat) : Nat := c + 1 + 2 * j
def gC (c j : Nat) : Nat := c + 2 + 2 * j
theorem famC_ok (c n : Nat) : Fam (fC c) (gC c) n := ⟨fun i j _ _ h => by unfold fC at h; omega, fun i j _ _ h => by unfold gC at h; omega, fun i j _ _ => by unfold fC gC; omega⟩
noncomputable def goM (B : CBook) (c : Nat) (L : List Tru) : List (Nat × Option AObj) := ouM (fC c) (gC c) B.ns c L ++ tmsF (fC c) (gC c) B.ns 0 L
noncomputable def goA (B : CBook) (L : List Tru) : List (Nat × Option AObj) := ouM fA gA B.ns 7 L ++ tmsF fA gA B.ns 0 L
theorem ouM_keys {f g : Nat → Nat} {n x : Nat} {L : List Tru} : ∀ e ∈ ouM f g n x L, e.1 = x := fun e h => by
  cases L with
  | nil => cases h
  | cons a r => simp [ouM] at h; rw [h]
theorem ouM_hd {f g : Nat → Nat} {n x : Nat} {L : List Tru} (h : L ≠ []) : ouM f g n x L = [(x, some (.grown (tcsF f g n 0 L) 3))] := by
  cases L with
  | nil => exact absurd rfl h
  | cons a r => rfl
theorem look_app {ms gs : List (Nat × Option AObj)} {x : Nat} {o : AObj} (h : lookM ms x = some o) : lookM (ms ++ gs) x = some o := by
  induction ms with
  | nil => cases h
  | cons e ms ih =>
    obtain ⟨y, p⟩ := e
    by_cases hy : x = y
    · subst hy
      rw [lookM_hd] at h
      subst h
      exact lookM_hd
    · rw [lookM_tl hy] at h
      rw [List.cons_append, lookM_tl hy]
      exact ih h
theorem goM_keys {B : CBook} {c : Nat} {L : List Tru} : ∀ e ∈ goM B c L, c ≤ e.1 ∧ e.1 < c + 1 + 2 * L.length := fun e he => by
  rcases List.mem_append.1 he with h | h
  · rw [ouM_keys e h]; omega
  · obtain ⟨j, hj, h1⟩ := keys_tms _ _ e h
    unfold fC gC at h1
    omega
theorem goM_list {B : CBook} {c : Nat} {L : List Tru} (h : L ≠ []) : lookM (goM B c L) c = some (.grown (tcsF (fC c) (gC c) B.ns 0 L) 3) := by
  unfold goM
  rw [ouM_hd h]
  exact lookM_hd
theorem goM_tr {B : CBook} {c j : Nat} {L : List Tru} {t : Tru} (h : L[j]? = some t) : lookM (goM B c L) (fC c j) = some (.grown (fE t.r B.ns) 1) ∧ lookM (goM B c L) (gC c j) = some (.grown (fE t.c B.ns) 1) := by
  have := look_tms (k := B.ns) (f := fC c) (g := gC c) L 0 j L.length t (famC_ok c _) (by omega) h
  rw [Nat.zero_add] at this
  unfold goM
  rw [look_skip fun e he => by rw [ouM_keys e he]; unfold fC; omega, look_skip fun e he => by rw [ouM_keys e he]; unfold gC; omega]
  exact this
theorem goA_list {B : CBook} {L : List Tru} (h : L ≠ []) : lookM (goA B L) 7 = some (.grown (tcsF fA gA B.ns 0 L) 3) := by
  unfold goA
  rw [ouM_hd h]
  exact lookM_hd
theorem goA_tr {B : CBook} {j : Nat} {L : List Tru} {t : Tru} (h : L[j]? = some t) : lookM (goA B L) (fA j) = some (.grown (fE t.r B.ns) 1) ∧ lookM (goA B L) (gA j) = some (.grown (fE t.c B.ns) 1) := by
  have := look_tms (k := B.ns) (f := fA) (g := gA) L 0 j L.length t (famA_ok _) (by omega) h
  rw [Nat.zero_add] at this
  unfold goA
  rw [look_skip fun e he => by rw [ouM_keys e he]; unfold fA; omega, look_skip fun e he => by rw [ouM_keys e he]; unfold gA; omega]
  exact this
theorem goA_keys {B : CBook} {L : List Tru} : ∀ e ∈ goA B L, 7 ≤ e.1 ∧ e.1 < 100 + 2 * L.length := fun e he => by
  rcases List.mem_append.1 he with h | h
  · rw [ouM_keys e h]; omega
  · obtain ⟨j, hj, h1⟩ := keys_tms _ _ e h
    unfold fA gA at h1
    omega
/-- Every object of what a call leaves. -/
theorem goM_look {B : CBook} {c x : Nat} {L : List Tru} {o : AObj} (h : lookM (goM B c L) x = some o) : (x = c ∧ L ≠ [] ∧ o = .grown (tcsF (fC c) (gC c) B.ns 0 L) 3) ∨ ∃ j t, L[j]? = some t ∧ ((x = fC c j ∧ o = .grown (fE t.r B.ns) 1) ∨ (x = gC c j ∧ o = .grown (fE t.c B.ns) 1)) := by
  have hk := lookM_mem h
  obtain ⟨e, he, hx⟩ := List.mem_map.1 hk
  rcases List.mem_append.1 he with h1 | h1
  · have hL : L ≠ [] := fun q => by rw [q] at h1; cases h1
    have := ouM_keys e h1
    rw [hx] at this
    subst this
    rw [goM_list hL] at h
    exact .inl ⟨rfl, hL, (Option.some.inj h).symm⟩
  · obtain ⟨j, hj, h2⟩ := keys_tms _ _ e h1
    rw [hx, Nat.zero_add] at h2
    obtain ⟨t, ht⟩ : ∃ t, L[j]? = some t := ⟨_, List.getElem?_eq_getElem hj⟩
    have := goM_tr (B := B) (c := c) ht
    rcases h2 with rfl | rfl
    · rw [this.1] at h; exact .inr ⟨j, t, ht, .inl ⟨rfl, (Option.some.inj h).symm⟩⟩
    · rw [this.2] at h; exact .inr ⟨j, t, ht, .inr ⟨rfl, (Option.some.inj h).symm⟩⟩
theorem good_app {fl c c' : Nat} {mm mN : List (Nat × Option AObj)} (hc : c ≤ c') (h : ∀ e ∈ mN, c ≤ e.1 ∧ e.1 < c') : Go.Ev.Good fl c (ofM mm) c' (ofM (mN ++ mm)) := by
  refine ⟨hc, fun x h1 h2 => ?_, fun hd x hx => ?_⟩
  · rw [ofM_get, ofM_get]
    exact look_skip fun e he => by have := h e he; omega
  · by_cases hk : ∀ e ∈ mN, e.1 ≠ x
    · have := hd x (by rwa [ofM_get, look_skip hk, ← ofM_get] at hx)
      omega
    · obtain ⟨e, he⟩ := Classical.not_forall.1 hk
      obtain ⟨he1, he2⟩ := Classical.not_imp.1 he
      have := h e he1
      have : e.1 = x := Classical.byContradiction he2
      omega

def tGo (j : Nat) : Nat := if j = 0 then 3 else 95 + j
theorem tGo_inj : ∀ i j, tGo i = tGo j → i = j := fun i j h => by unfold tGo at h; (repeat' split at h) <;> omega
theorem goes_at {B : CBook} {a1 a2 : AV} {w k : Nat} {fr : Int} {t : Tru} {L : List Tru} (h1 : IsSl a1 B.ns 0) (h2 : IsSl a2 B.nc 1) (hL : L.length ≤ 20000)
    (hcan : CanS 0 Try.prog 89 4 [bk B a1 a2, .agg [.int .i64 (w : Int), .gs 2 k, .gs 3 k], .int .i64 fr] [(0, some (oSt B)), (1, some (oCk B)), (2, some (.ro (fE t.r k))), (3, some (.ro (fE t.c k)))] 4 fun v H1 c1 => v = grI 7 L.length ∧ c1 ≤ 100000 ∧ ∀ x o, lookM (goA B L) x = some o → H1.get x = some o)
    {m : List (Nat × Option AObj)} {c y z : Nat} (hm : ∀ x o, lookM m x = some o → x < c) (m0 : lookM m 0 = some (oSt B)) (m1 : lookM m 1 = some (oCk B)) (my : lookM m y = some (.grown (fE t.r k) 1)) (mz : lookM m z = some (.grown (fE t.c k) 1)) (fl : Nat) :
    OkAt 0 Try.prog fl 89 [bk B a1 a2, .agg [.int .i64 (w : Int), .gs y k, .gs z k], .int .i64 fr] (ofM m) c (grI c L.length) (ofM (goM B c L ++ m)) (c + 100000) := by
  have := CanS.freshU tGo (H' := ofM (goM B c L ++ m)) (k := 100000) (v0 := grI 0 L.length) hcan (fun j hj => by unfold tGo; split <;> omega) tGo_inj
    (Entry.win (H := ofM m) (c := c) (W := [(0, 0, none), (1, 0, none), (y, 0, none), (z, 0, none)]) (CS := [flat (stE B) (List.range B.ns), flat (ckE B) (List.range B.nc), fE t.r k, fE t.c k]) rfl
      ⟨⟨_, getM m0, .inr ⟨_, rfl, cut_all rfl⟩⟩, pls_flat _ _, ⟨_, getM m1, .inr ⟨_, rfl, cut_all rfl⟩⟩, pls_flat _ _, ⟨_, getM my, .inr ⟨_, rfl, cut_all rfl⟩⟩, fE_pls _ _, ⟨_, getM mz, .inr ⟨_, rfl, cut_all rfl⟩⟩, fE_pls _ _, trivial⟩
      (args := [bk B a1 a2, .agg [.int .i64 (w : Int), .gs y k, .gs z k], .int .i64 fr]) (args0 := [bk B a1 a2, .agg [.int .i64 (w : Int), .gs 2 k, .gs 3 k], .int .i64 fr])
      ⟨bk_arg h1 h2 rfl rfl, ArgW.agg (show ArgsW _ [.int .i64 (w : Int), .gs y k, .gs z k] [.int .i64 (w : Int), .gs 2 k, .gs 3 k] from ⟨.pl (fun _ => rfl), ArgW.gs rfl, ArgW.gs rfl, trivial⟩), .pl (fun _ => rfl), trivial⟩) (fun v1 H1 c1 ⟨g1, g2, g3⟩ => ?_) fl
  · rw [grI_ren (fun y => c + y) (y := c) rfl] at this
    exact this
  · refine ⟨by rw [g1, grI_ren (fun y => 4 + tGo y) (y := 7) rfl], by omega, fun x o hx => ?_⟩
    rw [ofM_get] at hx
    by_cases hk : ∀ e ∈ goM B c L, e.1 ≠ x
    · rw [look_skip hk] at hx
      exact .inl ⟨hm x o hx, getM hx⟩
    · obtain ⟨e, he⟩ := Classical.not_forall.1 hk
      obtain ⟨he1, he2⟩ := Classical.not_imp.1 he
      have hex : e.1 = x := Classical.byContradiction he2
      refine .inr ?_
      have h5 : ∃ o2, lookM (goM B c L) x = some o2 := by
        rcases List.mem_append.1 he1 with h | h
        · have hL : L ≠ [] := fun q => by rw [q] at h; cases h
          have := ouM_keys e h
          rw [hex] at this
          subst this
          exact ⟨_, goM_list hL⟩
        · obtain ⟨j, hj, h2⟩ := keys_tms _ _ e h
          rw [hex, Nat.zero_add] at h2
          have := goM_tr (B := B) (c := c) (List.getElem?_eq_getElem hj)
          rcases h2 with rfl | rfl
          · exact ⟨_, this.1⟩
          · exact ⟨_, this.2⟩
      obtain ⟨o2, h5⟩ := h5
      have h6 := look_app (gs := m) h5
      rw [hx] at h6
      cases h6
      have eA : ∀ j, j < L.length → 4 + tGo (1 + 2 * j) = fA j ∧ 4 + tGo (2 + 2 * j) = gA j := fun j hj => by
        unfold tGo fA gA
        rw [if_neg (by omega), if_neg (by omega)]; omega
      have eC : ∀ j, c + (1 + 2 * j) = fC c j ∧ c + (2 + 2 * j) = gC c j := fun j => by unfold fC gC; omega
      rcases goM_look h5 with ⟨rfl, hne, rfl⟩ | ⟨j, u, hj, h | h⟩
      · refine ⟨0, .grown (tcsF (fun j => 1 + 2 * j) (fun j => 2 + 2 * j) B.ns 0 L) 3, by omega, ?_, ?_⟩
        · show H1.get 7 = some (AObj.grown (AV.rens _ (tcsF _ _ B.ns 0 L)) 3)
          rw [tcsF_ren, g3 7 _ (goA_list hne)]
          refine congrArg some (congrArg (fun cs => AObj.grown cs 3) ?_)
          exact tcsF_congr L 0 0 fun j hj => by
            rw [Nat.zero_add]
            exact ⟨(eA j hj).1.symm, (eA j hj).2.symm⟩
        · show _ = AObj.grown (AV.rens _ (tcsF _ _ B.ns 0 L)) 3
          rw [tcsF_ren]
          refine congrArg (fun cs => AObj.grown cs 3) ?_
          exact tcsF_congr L 0 0 fun j hj => by
            rw [Nat.zero_add]
            exact ⟨(eC j).1.symm, (eC j).2.symm⟩
      · obtain ⟨rfl, rfl⟩ := h
        have hjl : j < L.length := Classical.byContradiction fun q => by rw [List.getElem?_eq_none (by omega)] at hj; cases hj
        refine ⟨1 + 2 * j, .grown (fE u.r B.ns) 1, (eC j).1.symm, ?_, (ren_grown _ _ _ _).symm⟩
        rw [ren_grown, (eA j hjl).1]
        exact g3 _ _ (goA_tr hj).1
      · obtain ⟨rfl, rfl⟩ := h
        have hjl : j < L.length := Classical.byContradiction fun q => by rw [List.getElem?_eq_none (by omega)] at hj; cases hj
        refine ⟨2 + 2 * j, .grown (fE u.c B.ns) 1, (eC j).2.symm, ?_, (ren_grown _ _ _ _).symm⟩
        rw [ren_grown, (eA j hjl).2]
        exact g3 _ _ (goA_tr hj).2
/-- What a call of goes leaves behind, as its caller sees it. -/
structure GoRes (B : CBook) (a1 a2 : AV) (w k : Nat) (fr : Int) (mm : List (Nat × Option AObj)) (L : List Tru) : Prop where
  ex : ∃ (v : AV) (mN : List (Nat × Option AObj)) (c' A A' : Nat), (∀ fl, OkAt 0 Try.prog fl 89 [bk B a1 a2, .agg [.int .i64 (w : Int), .gs 100000 (k + 1), .gs 100004 (k + 1)], .int .i64 fr] (ofM mm) 100008 v (ofM (mN ++ mm)) c') ∧ 100008 ≤ c' ∧ (∀ e ∈ mN, 100008 ≤ e.1 ∧ e.1 < c') ∧
    (L = [] → v = .nils ∧ mN = []) ∧ (L ≠ [] → SlC (mN ++ mm) v L.length 3 (tcsF (fun j => A + 2 * j) (fun j => A' + 2 * j) B.ns 0 L)) ∧ 100000 ≤ A ∧ 100000 ≤ A' ∧ (A' = A + 1 ∨ (L.length ≤ 1 ∧ A ≠ A')) ∧ A + 2 * L.length ≤ c' ∧ A' + 2 * L.length ≤ c' ∧
    ∀ j t, L[j]? = some t → lookM (mN ++ mm) (A + 2 * j) = some (.grown (fE t.r B.ns) 1) ∧ lookM (mN ++ mm) (A' + 2 * j) = some (.grown (fE t.c B.ns) 1)
theorem GoRes.leaf {B : CBook} {a1 a2 : AV} {w k : Nat} {fr : Int} {t : Tru} (h1 : IsSl a1 B.ns 0) (h2 : IsSl a2 B.nc 1) (hk : k + 1 = B.ns) (htw : t.w = (w : Int)) {mm : List (Nat × Option AObj)} (hm : ∀ x o, lookM mm x = some o → x < 100008) (m0 : lookM mm 0 = some (oSt B))
    (my : lookM mm 100000 = some (.grown (fE t.r (k + 1)) 1)) (mz : lookM mm 100004 = some (.grown (fE t.c (k + 1)) 1)) : GoRes B a1 a2 w k fr mm [t] := by
  refine ⟨.sl 100010 0 1 1, [(100010, some (.cells [.int .i64 (w : Int), .gs 100000 (k + 1), .gs 100004 (k + 1)]))], 100011, 100000, 100004, fun fl => ?_, by decide, fun e he => ?_, fun h => absurd h (by simp), fun _ => ?_, by decide, by decide, .inr ⟨by simp, by decide⟩, by simp, by simp, fun j u hu => ?_⟩
  · have := leaf_at (c := 100008) (y := 100000) (z := 100004) h1 h2 fr hm (by decide) (by decide) (by decide) m0 fl (w := (w : Int))
    rw [hk]
    exact this
  · simp only [List.mem_singleton] at he
    subst he
    exact ⟨show 100008 ≤ 100010 by decide, show 100010 < 100011 by decide⟩
  · have : tcsF (fun j => 100000 + 2 * j) (fun j => 100004 + 2 * j) B.ns 0 [t] = [.int .i64 (w : Int), .gs 100000 (k + 1), .gs 100004 (k + 1)] := by
      rw [← hk]; show [AV.int .i64 t.w, _, _] = _; rw [htw]; rfl
    rw [this]
    exact SlC.sl lookM_hd rfl rfl
  · cases j with
    | zero =>
      simp only [List.getElem?_cons_zero, Option.some.injEq] at hu
      subst hu
      rw [← hk]
      exact ⟨(lookM_tl (by decide)).trans my, (lookM_tl (by decide)).trans mz⟩
    | succ j => simp at hu
theorem GoRes.node {B : CBook} {a1 a2 : AV} {w k : Nat} {fr : Int} {t : Tru} {L : List Tru} (h1 : IsSl a1 B.ns 0) (h2 : IsSl a2 B.nc 1) (hL : L.length ≤ 20000)
    (hcan : CanS 0 Try.prog 89 4 [bk B a1 a2, .agg [.int .i64 (w : Int), .gs 2 (k + 1), .gs 3 (k + 1)], .int .i64 fr] [(0, some (oSt B)), (1, some (oCk B)), (2, some (.ro (fE t.r (k + 1)))), (3, some (.ro (fE t.c (k + 1))))] 4 fun v H1 c1 => v = grI 7 L.length ∧ c1 ≤ 100000 ∧ ∀ x o, lookM (goA B L) x = some o → H1.get x = some o)
    {mm : List (Nat × Option AObj)} (hm : ∀ x o, lookM mm x = some o → x < 100008) (m0 : lookM mm 0 = some (oSt B)) (m1 : lookM mm 1 = some (oCk B))
    (my : lookM mm 100000 = some (.grown (fE t.r (k + 1)) 1)) (mz : lookM mm 100004 = some (.grown (fE t.c (k + 1)) 1)) : GoRes B a1 a2 w k fr mm L := by
  refine ⟨grI 100008 L.length, goM B 100008 L, 200008, 100009, 100010, fun fl => goes_at h1 h2 hL hcan hm m0 m1 my mz fl, by decide, fun e he => ?_, fun h => ?_, fun h => ?_, by decide, by decide, .inl rfl, by omega, by omega, fun j u hu => ?_⟩
  · have := goM_keys e he
    omega
  · subst h
    exact ⟨rfl, rfl⟩
  · have e : grI 100008 L.length = .gs 100008 L.length := by
      cases L with
      | nil => exact absurd rfl h
      | cons a r => rfl
    rw [e]
    refine SlC.gs (look_app (goM_list h)) (congrArg some ?_) (tcsF_len _ _)
    exact tcsF_congr L 0 0 fun j hj => by unfold fC gC; omega
  · have := goM_tr (B := B) (c := 100008) hu
    unfold fC gC at this
    exact ⟨look_app this.1, look_app this.2⟩
end Go.Proofs.Ytjncfddnphhofaa
