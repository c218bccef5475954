/- Texts of one kind, one behind the other: Cm, Cn, Co, Cp, SyV, Cq, Cr, Cs, Ct, Cu, Cv, SyX, Cw, SyY, Cx, Cy, Cz, SyZ, Da, Db, Dc, SyNr, SyOi, Dd, De, SyW2, Df, Dg, Dh, Di, Dj, SyFr, Dk, Dl, Dm, Dn, SyOj, Do, Dp, Du, Dq, Dr, Ds, Dt, Dv, SyFu. -/
import Derived.Test.YtlnmcadbmpiopaaQj3
set_option linter.unusedVariables false
set_option linter.unusedSimpArgs false
/- Package claim: span, answer. -/
namespace Go.Proofs.Ytlnmcadbmpiopaa
open Go Go.Ev

/-- A function's call that answers with a number of a truth. -/
def NumOK (B : CBook) (a1 a2 : AV) (f : Nat) (cap : List AV) (xs : List AV) (num : Tru → Int) : Prop := ∀ t ∈ Ws B, ∀ m c, PbIn B a1 a2 2 3 m c → 6 ≤ c → lookM m 5 = some (.cells xs) → ∀ fl, OkAt 0 Try.prog fl f ([.ptr 2 0, trV t] ++ cap) (ofM m) c (.int .i64 (num t)) (ofM m) c

set_option maxRecDepth 100000 in
set_option maxHeartbeats 4000000 in
theorem span_can (B : CBook) (a1 a2 : AV) (h1 : IsSl a1 B.ns 0) (h2 : IsSl a2 B.nc 1) (hW : Ws B ≠ []) (hlen : (Ws B).length ≤ 5184) (b : Bool) (f : Nat) (cap xs : List AV) (hx : ∀ σ : Nat → Nat, (∀ y, y < 5 → σ y = y) → AV.rens σ xs = xs) (hr : rfVs xs = true) (hc : ∀ σ : Nat → Nat, (∀ y, y < 6 → σ y = y) → AV.rens σ cap = cap) (hrc : rfVs cap = true)
    (num : Tru → Int) (hnum : NumOK B a1 a2 f cap xs num) : CanS 0 Try.prog 94 6 [.agg [.ptr 2 0, .gs 4 (wths B 0).length], .agg [.bool b, .fn f [] cap]] [(0, some (oSt B)), (1, some (oCk B)), (2, some (.cells (pbC B a1 a2 3))), (4, some (oWs B)), (5, some (.cells xs))] 6 fun v _ _ => v = .agg [.int .i64 (spL num (Ws B)), .int .i64 (spH num (Ws B))] := by
  have hpos : 0 < (Ws B).length := List.length_pos_iff.2 hW
  obtain ⟨t0, ht0, hm0⟩ := at_some hpos
  have htk := ht0
  have hs := IsSl.gs 4 (wths B 0).length
  refine CanS.mk Try.func94 rfl rfl rfl ?_
  repeat' (first | refine RT.nil ?_ | refine sq_n ?_ | refine Tr.seq ?_ | refine Tr.region ?_ | (refine RT.goK rfl rfl rfl rfl ?_; apply Nx.of; (first | exact S.box | exact S.alloc rfl)))
  refine Tr.openK un94_1 (by kernel_rfl) (by kernel_rfl) (one1 f ([.ptr 2 0, trV t0] ++ cap) (.int .i64 (num t0)) fun H c => ∃ m, H = ofM m ∧ PbIn B a1 a2 2 3 m c ∧ 6 ≤ c ∧ lookM m 5 = some (.cells xs)) (one1_calm fun fl H c ⟨m, hm, h, h6, hx⟩ => by subst hm; exact hnum t0 hm0 m c h h6 hx fl) ?_
  repeat' (first | (refine RD.free rfl rfl rfl rfl rfl rfl ?_; apply Nx.of; (first | exact S.assign | exact S.fieldAddr rfl rfl rfl | exact S.idx_sl rfl rfl rfl (by assumption) (by omega))) | (refine RD.load rfl rfl rfl rfl rfl rfl rfl rfl ?_; apply Nx.of; (first | exact S.load1c rfl rfl rfl rfl | exact S.rowG rfl rfl rfl (fun _ => rfl) ht0 rfl rfl)) | (refine RD.callN rfl rfl rfl rfl rfl rfl rfl rfl rfl (one1_at ⟨_, rfl, ⟨h1, h2, rfl, rfl, rfl, by decide, by decide, by decide⟩, by decide, rfl⟩) (fun _ => by refine srOk_all ?_; simp only [srOk]; (repeat' (first | exact trivial | refine And.intro ?_ ?_)); all_goals (first | exact trivial | (refine ⟨_, rfl, ?_⟩; (first | rfl | (simp [rfO, rfVs, rfV, rfVs_flat]; done) | (simp [pbC, rfO, rfVs, rfV, h1.rf, h2.rf, hr, hrc]; done))))) ?_) | refine RD.nil ⟨Nat.le_of_ble_eq_true rfl, ?_⟩)
  repeat' (first | refine RT.nil ?_ | refine sq_n ?_ | refine Tr.seq ?_ | refine Tr.region ?_ | refine Tr.block ?_ | (refine RT.goK rfl rfl rfl rfl ?_; apply Nx.of; (first | exact S.move | exact S.load1c rfl rfl rfl rfl | exact S.fieldAddr rfl rfl rfl | exact S.alloc rfl | exact S.build rfl rfl rfl)) | (refine RT.goK0 rfl rfl rfl ?_; apply Nx.of; (first | exact S.store rfl rfl rfl rfl rfl rfl)) | (refine RT.goK rfl rfl rfl rfl ?_; apply Nx.of; (first | exact S.len_sl rfl rfl rfl (by assumption))))
  refine Tr.loop (fun k : Nat => stL Try.f94.ntmps [] [(2, .ptr 6 0), (3, .ptr 7 0), (4, .ptr 8 0), (6, .ptr 9 0), (23, .gs 4 (wths B 0).length), (24, .int .i64 (wths B 0).length), (25, .int .i64 k)] ([(9, some (.cells [.int .i64 (loK num (Ws B) (num t0) k), .int .i64 (hiK num (Ws B) (num t0) k)])), (8, some (.cells [.int .i64 0, .int .i64 0])), (7, some (.cells [.bool b, .fn f [] cap])), (6, some (.cells [.ptr 2 0, .gs 4 (wths B 0).length]))] ++ [(0, some (oSt B)), (1, some (oCk B)), (2, some (.cells (pbC B a1 a2 3))), (4, some (oWs B)), (5, some (.cells xs))]) 10) (fun k => k ≤ (Ws B).length) (fun k => (Ws B).length - k) 0 (Nat.zero_le _) (by (refine Wk.same (by decide) (by decide) (by decide) (by decide) ?_ ?_ rfl; all_goals ((try simp only [allL, allM]); (repeat' (first | exact trivial | refine And.intro ?_ ?_)); all_goals (first | rfl | exact ren_ro _ _ _ | exact ren_grown _ _ _ _ | exact pbc_ren h1 h2 (nm_lt (by decide)) (nm_lt (by decide)) (nm_lt (by decide)) | exact congrArg AObj.cells (hx _ (fun y hy => nm_lt (by omega))) | (simp only [AObj.ren, AV.rens, AV.ren, hc _ (fun y hy => nm_lt (show y < 10 by omega))]; done) | decide)))) (fun k hk => ?_)
  by_cases hlt : k < (Ws B).length
  · obtain ⟨tk, htk, hmk⟩ := at_some hlt
    have e1 := loK_succ (f := num) (a := num t0) htk
    have e2 := hiK_succ (f := num) (a := num t0) htk
    have hlt' : (k : Int) < (wths B 0).length := by have := hlt; have hw : (Ws B).length = (wths B 0).length := rfl; omega
    repeat' (first | refine RT.nil ?_ | refine sq_n ?_ | refine Tr.seq ?_ | refine Tr.region ?_ | refine Tr.cond_t rfl ?_ | refine Tr.skip ?_ | refine Tr.block ?_ | refine blk_n ?_ | (refine RT.call rfl rfl rfl (hnum tk hmk _ _ ⟨h1, h2, rfl, rfl, rfl, by decide, by decide, by decide⟩ (by decide) rfl _) rfl rfl (Nat.le_refl _) ?_) | (refine RT.goK rfl rfl rfl rfl ?_; (refine Nx.of (S.lss_t hlt') ?_)) | (refine RT.goK rfl rfl rfl rfl ?_; apply Nx.of; (first | exact S.move | exact S.assign | exact S.load1c rfl rfl rfl rfl | exact S.loadNc rfl rfl rfl rfl | exact S.fieldAddr rfl rfl rfl | exact S.alloc rfl | exact S.add_one (by omega) | exact S.min2 | exact S.max2 | exact S.build rfl rfl rfl | exact S.rowG rfl rfl rfl (fun _ => rfl) htk rfl rfl)) | (refine RT.goK0 rfl rfl rfl ?_; apply Nx.of; (first | exact S.store rfl rfl rfl rfl rfl rfl)) | (refine RT.goK rfl rfl rfl rfl ?_; apply Nx.of; (first | exact S.idx_sl rfl rfl rfl (by assumption) (by omega))))
    refine lp_n (k + 1) hlt (by omega) (by (refine Wk.same (by decide) (by decide) (by decide) (by decide) ?_ ?_ rfl; all_goals ((try simp only [allL, allM]); (repeat' (first | exact trivial | refine And.intro ?_ ?_)); all_goals (first | rfl | exact ren_ro _ _ _ | exact ren_grown _ _ _ _ | exact pbc_ren h1 h2 (nm_lt (by decide)) (nm_lt (by decide)) (nm_lt (by decide)) | (rw [← e1, ← e2]; rfl) | exact congrArg AObj.cells (hx _ (fun y hy => nm_lt (by omega))) | (simp only [AObj.ren, AV.rens, AV.ren, hc _ (fun y hy => nm_lt (show y < 10 by omega))]; done) | decide))))
  · have hlt' : ¬ (k : Int) < (wths B 0).length := by have := hlt; have hw : (Ws B).length = (wths B 0).length := rfl; omega
    have hke : k = (Ws B).length := by omega
    have e3 := loK_end (f := num) ht0
    have e4 := hiK_end (f := num) ht0
    rw [← hke] at e3 e4
    repeat' (first | refine RT.nil ?_ | refine sq_n ?_ | refine Tr.seq ?_ | refine Tr.region ?_ | refine Tr.cond_f rfl ?_ | refine Tr.ret ?_ | refine Tr.exit ?_ | refine sq_x ?_ | refine blk_hit rfl ?_ | refine lp_x ?_ | (refine RT.goK rfl rfl rfl rfl ?_; (refine Nx.of (S.lss_f hlt') ?_)) | (refine RT.goK rfl rfl rfl rfl ?_; apply Nx.of; (first | exact S.loadNc rfl rfl rfl rfl)) | (refine RT.goK0 rfl rfl rfl ?_; apply Nx.of; (first | exact S.store rfl rfl rfl rfl rfl rfl)))
    (first | refine rt_go rfl ?_)
    rw [← e3, ← e4]
    rfl

/-- What is known of a book, in memory, with one object more. -/
structure KnIn (B : CBook) (a1 a2 : AV) (p q x z : Nat) (ys : List AV) (m : List (Nat × Option AObj)) (c : Nat) : Prop where
  pb : PbIn B a1 a2 p q m c
  mx : lookM m x = some (oWs B)
  hx : x < c
  mz : lookM m z = some (.cells ys)
  hz : z < c
  pz : p ≠ z

theorem KnIn.entry {B : CBook} {a1 a2 : AV} {p q x z : Nat} {ys : List AV} {m : List (Nat × Option AObj)} {c : Nat} (h : KnIn B a1 a2 p q x z ys m c) (xs vs vs' : List AV) (hxs : AV.rens (tau [0, 1, p, q, x, z] c) xs = ys) (hvs : AV.rens (tau [0, 1, p, q, x, z] c) vs = vs') : Entry 0 (ofM m) c vs' [(0, some (oSt B)), (1, some (oCk B)), (2, some (.cells (pbC B a1 a2 3))), (4, some (oWs B)), (5, some (.cells xs))] 6 vs := by
  have e0 : tau [0, 1, p, q, x, z] c 0 = 0 := rfl
  have e1 : tau [0, 1, p, q, x, z] c 1 = 1 := rfl
  have e2 : tau [0, 1, p, q, x, z] c 2 = p := rfl
  have e3 : tau [0, 1, p, q, x, z] c 3 = q := rfl
  have e4 : tau [0, 1, p, q, x, z] c 4 = x := rfl
  have e5 : tau [0, 1, p, q, x, z] c 5 = z := rfl
  have hb := h.pb
  have low : ∀ {u : Nat} {ob : AObj}, lookM [(0, some (oSt B)), (1, some (oCk B)), (2, some (.cells (pbC B a1 a2 3))), (4, some (oWs B)), (5, some (.cells xs))] u = some ob → u = 0 ∨ u = 1 ∨ u = 2 ∨ u = 4 ∨ u = 5 := fun {u ob} hz => by
    have := lookM_mem hz
    simpa using this
  have hobj : ∀ u o, lookM [(0, some (oSt B)), (1, some (oCk B)), (2, some (.cells (pbC B a1 a2 3))), (4, some (oWs B)), (5, some (.cells xs))] u = some o → lookM m (tau [0, 1, p, q, x, z] c u) = some (o.ren (tau [0, 1, p, q, x, z] c)) := fun u o hu => by
    rcases low hu with rfl | rfl | rfl | rfl | rfl
    · cases hu; rw [e0, ren_ro]; exact hb.m1
    · cases hu; rw [e1, ren_ro]; exact hb.m2
    · cases hu
      have : (AObj.cells (pbC B a1 a2 3)).ren (tau [0, 1, p, q, x, z] c) = .cells (pbC B a1 a2 q) := by simp only [pbC, AObj.ren, AV.ren, AV.rens, hb.h1.ren e0, hb.h2.ren e1, e3]
      rw [e2, this]; exact hb.m3
    · cases hu; rw [e4, ren_grown]; exact h.mx
    · cases hu; rw [e5, AObj.ren, hxs]; exact h.mz
  rw [← hvs]
  refine Entry.ren _ (fun g hg => by omega) (fun y hy => by rw [tau_ge hy]; omega) ⟨getM (hobj 0 _ rfl), getM (hobj 1 _ rfl), getM (hobj 2 _ rfl), getM (hobj 4 _ rfl), getM (hobj 5 _ rfl), trivial⟩ (fun u u' o o' hu hu' hne => .inl fun e => ?_)
  have g1 := hobj u o hu
  have g2 := hobj u' o' hu'
  rw [e] at g1
  rw [g1] at g2
  have hpz := h.pz
  rcases low hu with rfl | rfl | rfl | rfl | rfl <;> rcases low hu' with rfl | rfl | rfl | rfl | rfl <;> first | exact absurd rfl hne | exact absurd (show (0 : Nat) = 1 from e) (by decide) | exact absurd (show (1 : Nat) = 0 from e) (by decide) | exact absurd (show p = z from e) hpz | exact absurd (show z = p from e) hpz.symm | (cases hu; cases hu'; simp [AObj.ren, AV.rens, AV.ren, pbC, oSt, oCk] at g2)

theorem span_at {B : CBook} {a1 a2 : AV} {p q x z : Nat} {ys : List AV} {m : List (Nat × Option AObj)} {c : Nat} (h : KnIn B a1 a2 p q x z ys m c) (hW : Ws B ≠ []) (hlen : (Ws B).length ≤ 5184) (b : Bool) (f : Nat) (cap xs cap' : List AV) (hxs : AV.rens (tau [0, 1, p, q, x, z] c) xs = ys) (hcap : AV.rens (tau [0, 1, p, q, x, z] c) cap = cap')
    (hx : ∀ σ : Nat → Nat, (∀ y, y < 5 → σ y = y) → AV.rens σ xs = xs) (hr : rfVs xs = true) (hc : ∀ σ : Nat → Nat, (∀ y, y < 6 → σ y = y) → AV.rens σ cap = cap) (hrc : rfVs cap = true) (num : Tru → Int) (hnum : NumOK B a1 a2 f cap xs num) (fl : Nat) :
    OkAt 0 Try.prog fl 94 [.agg [.ptr p 0, .gs x (wths B 0).length], .agg [.bool b, .fn f [] cap']] (ofM m) c (.agg [.int .i64 (spL num (Ws B)), .int .i64 (spH num (Ws B))]) (ofM m) c :=
  (span_can B a1 a2 h.pb.h1 h.pb.h2 hW hlen b f cap xs hx hr hc hrc num hnum).pure (fun _ => rfl) (h.entry xs _ _ hxs (by
    show [AV.agg [.ptr p 0, .gs x _], AV.agg [.bool b, .fn f [] (AV.rens _ cap)]] = _
    rw [hcap])) fl

end Go.Proofs.Ytlnmcadbmpiopaa

/- Package claim: what a truth is. -/
namespace Go.Proofs.Ytlnmcadbmpiopaa
open Go Go.Ev

theorem ints_iff {a b x : Int} : x ∈ ints a b ↔ a ≤ x ∧ x ≤ b := by
  refine ⟨ints_mem, fun h => ?_⟩
  unfold ints
  exact List.mem_map.2 ⟨(x - a).toNat, List.mem_range.2 (by omega), by omega⟩
theorem tru2_rj {t : Tru} {i j : Nat} {a b : Int} (hi : i < 3) (hj : j < 3) : (tru2 t i a b).r j = if j = i then a else t.r j := by
  obtain rfl | rfl | rfl : i = 0 ∨ i = 1 ∨ i = 2 := by omega
  all_goals (obtain rfl | rfl | rfl : j = 0 ∨ j = 1 ∨ j = 2 := by omega)
  all_goals rfl
theorem tru2_cj {t : Tru} {i j : Nat} {a b : Int} (hi : i < 3) (hj : j < 3) : (tru2 t i a b).c j = if j = i then b else t.c j := by
  obtain rfl | rfl | rfl : i = 0 ∨ i = 1 ∨ i = 2 := by omega
  all_goals (obtain rfl | rfl | rfl : j = 0 ∨ j = 1 ∨ j = 2 := by omega)
  all_goals rfl
theorem Tru.ext3 {t u : Tru} (hw : t.w = u.w) (h : ∀ j, j < 3 → t.r j = u.r j ∧ t.c j = u.c j) : t = u := by
  have h0 := h 0 (by omega)
  have h1 := h 1 (by omega)
  have h2 := h 2 (by omega)
  obtain ⟨w, r0, r1, r2, c0, c1, c2⟩ := t
  obtain ⟨w', r0', r1', r2', c0', c1', c2'⟩ := u
  simp only [Tru.r, Tru.c] at h0 h1 h2
  simp at h0 h1 h2 hw
  simp [hw, h0, h1, h2]

/-- When a stage that is smooth ends, in a truth, at least and at most. -/
def dlo (B : CBook) (t : Tru) (i : Nat) : Int := (if i = 0 then 0 else t.c (i - 1) + B.sl (i - 1)) + B.dl i + B.cost t.w.toNat
def dhi (B : CBook) (t : Tru) (i : Nat) : Int := (if i = 0 then 0 else t.c (i - 1) + B.sh (i - 1)) + B.dh i + B.cost t.w.toNat
def StT (B : CBook) (t : Tru) (i : Nat) : Prop := (B.rl i ≤ t.r i ∧ t.r i ≤ B.rh i) ∧ (dlo B t i + t.r i ≤ t.c i ∧ t.c i ≤ dhi B t i + t.r i) ∧ wrV B (i, t.c i) = 0
structure IsT (B : CBook) (t : Tru) : Prop where
  w : 0 ≤ t.w ∧ t.w < 3 ∧ hasP B.wea t.w.toNat
  st : ∀ i, i < B.ns → StT B t i
  z : ∀ i, B.ns ≤ i → i < 3 → t.r i = 0 ∧ t.c i = 0

theorem sm_dlo {B : CBook} {t0 t : Tru} {i : Nat} (hi : i < 3) (hd : drvOk t0 i) (hw : t.w = t0.w) (hc : ∀ j, j < i → t.c j = t0.c j) : smL B t0 i = dlo B t i ∧ smH B t0 i = dhi B t i := by
  unfold smL smH dlo dhi depL depH
  unfold drvOk at hd
  rw [hw]
  rcases hd with ⟨rfl, h1, h2, h3⟩ | ⟨h1, h2, h3⟩
  · simp [h1, h2, h3]
  · have hne : ¬ (t0.c0 = 0 ∧ t0.c1 = 0 ∧ t0.c2 = 0) := fun ⟨e0, e1, e2⟩ => by
      have : t0.c (i - 1) = 0 := by unfold Tru.c; split <;> (try split) <;> assumption
      omega
    rw [if_neg hne, if_neg hne, if_neg (by omega), if_neg (by omega), hc (i - 1) (by omega)]
    exact ⟨rfl, rfl⟩

theorem mem_trs {B : CBook} (hok : stsOk B) (hw : weaOk B) {t : Tru} : ∀ (k i : Nat) (t0 : Tru), i + k = B.ns → drvOk t0 i → 0 ≤ t0.w ∧ t0.w < 3 → (∀ j, i ≤ j → j < 3 → t0.r j = 0 ∧ t0.c j = 0) →
    (t ∈ trs B k i t0 ↔ t.w = t0.w ∧ (∀ j, j < i → t.r j = t0.r j ∧ t.c j = t0.c j) ∧ (∀ j, i ≤ j → j < B.ns → StT B t j) ∧ ∀ j, B.ns ≤ j → j < 3 → t.r j = 0 ∧ t.c j = 0)
  | 0, i, t0, e, hd, hwt, hz => by
    have hi : i = B.ns := by omega
    show t ∈ [t0] ↔ _
    rw [List.mem_singleton]
    refine ⟨fun h => by subst h; exact ⟨rfl, fun j _ => ⟨rfl, rfl⟩, fun j h1 h2 => by omega, fun j h1 h2 => hz j (by omega) h2⟩, fun ⟨h1, h2, _, h4⟩ => Tru.ext3 h1 fun j hj => ?_⟩
    by_cases hji : j < i
    · exact h2 j hji
    · rw [(h4 j (by omega) hj).1, (h4 j (by omega) hj).2, (hz j (by omega) hj).1, (hz j (by omega) hj).2]; exact ⟨rfl, rfl⟩
  | k + 1, i, t0, e, hd, hwt, hz => by
    have hn := hok.1
    have hi : i < B.ns := by omega
    have hi3 : i < 3 := by omega
    have hst := hok.2 i hi
    unfold stOk at hst
    have hb := sm_bd hok hw hi hd hwt
    have step : ∀ r mi, B.rl i ≤ r → r ≤ B.rh i → smL B t0 i + r ≤ mi → mi ≤ smH B t0 i + r → (t ∈ trs B k (i + 1) (tru2 t0 i r mi) ↔ t.w = t0.w ∧ (∀ j, j < i + 1 → t.r j = (tru2 t0 i r mi).r j ∧ t.c j = (tru2 t0 i r mi).c j) ∧ (∀ j, i + 1 ≤ j → j < B.ns → StT B t j) ∧ ∀ j, B.ns ≤ j → j < 3 → t.r j = 0 ∧ t.c j = 0) := fun r mi h1 h2 h3 h4 => by
      have := mem_trs hok hw (t := t) k (i + 1) (tru2 t0 i r mi) (by omega) (.inr ⟨by omega, by rw [Nat.add_sub_cancel, tru2_cj hi3 hi3, if_pos rfl]; omega, by rw [Nat.add_sub_cancel, tru2_cj hi3 hi3, if_pos rfl]; omega⟩) (by rw [tru2_w hi3]; exact hwt) (fun j h5 h6 => by
        rw [tru2_rj hi3 h6, tru2_cj hi3 h6, if_neg (by omega), if_neg (by omega)]; exact hz j (by omega) h6)
      rw [tru2_w hi3] at this
      exact this
    show t ∈ (ints (B.rl i) (B.rh i)).flatMap _ ↔ _
    simp only [List.mem_flatMap, ints_iff]
    constructor
    · rintro ⟨r, ⟨h1, h2⟩, mi, ⟨h3, h4⟩, h5⟩
      split at h5
      · rename_i h6
        obtain ⟨g1, g2, g3, g4⟩ := (step r mi h1 h2 h3 h4).1 h5
        have gi := g2 i (by omega)
        rw [tru2_rj hi3 hi3, tru2_cj hi3 hi3, if_pos rfl, if_pos rfl] at gi
        have gl : ∀ j, j < i → t.r j = t0.r j ∧ t.c j = t0.c j := fun j hj => by
          have := g2 j (by omega)
          rw [tru2_rj hi3 (by omega), tru2_cj hi3 (by omega), if_neg (by omega), if_neg (by omega)] at this
          exact this
        have gd := sm_dlo (B := B) hi3 hd g1 fun j hj => (gl j hj).2
        refine ⟨g1, gl, fun j hj hjn => ?_, g4⟩
        by_cases hji : j = i
        · subst hji
          refine ⟨by omega, by omega, by rw [gi.2]; exact h6⟩
        · exact g3 j (by omega) hjn
      · cases h5
    · rintro ⟨g1, g2, g3, g4⟩
      have gi := g3 i (Nat.le_refl _) hi
      have gd := sm_dlo (B := B) hi3 hd g1 fun j hj => (g2 j hj).2
      refine ⟨t.r i, gi.1, t.c i, by have := gi.2.1; omega, ?_⟩
      rw [if_pos gi.2.2]
      refine (step (t.r i) (t.c i) gi.1.1 gi.1.2 (by have := gi.2.1; omega) (by have := gi.2.1; omega)).2 ⟨g1, fun j hj => ?_, fun j h1 h2 => g3 j (by omega) h2, g4⟩
      rw [tru2_rj hi3 (by omega), tru2_cj hi3 (by omega)]
      by_cases hji : j = i
      · subst hji; rw [if_pos rfl, if_pos rfl]; exact ⟨rfl, rfl⟩
      · rw [if_neg hji, if_neg hji]; exact g2 j (by omega)

theorem mem_Ws {B : CBook} (hok : stsOk B) (hw : weaOk B) {t : Tru} : t ∈ Ws B ↔ IsT B t := by
  have key : ∀ k, k < 3 → (t ∈ wth B k ↔ hasP B.wea k ∧ t.w = k ∧ (∀ j, j < B.ns → StT B t j) ∧ ∀ j, B.ns ≤ j → j < 3 → t.r j = 0 ∧ t.c j = 0) := fun k hk => by
    have hm := mem_trs hok hw (t := t) B.ns 0 (tru0 k) (by omega) (.inl ⟨rfl, rfl, rfl, rfl⟩) (by show 0 ≤ (k : Int) ∧ (k : Int) < 3; omega) (fun j _ hj => by
      obtain rfl | rfl | rfl : j = 0 ∨ j = 1 ∨ j = 2 := by omega
      all_goals exact ⟨rfl, rfl⟩)
    unfold wth
    by_cases h : hasP B.wea k
    · rw [dB_tt h]
      show t ∈ trs B B.ns 0 (tru0 k) ↔ _
      rw [hm]
      exact ⟨fun ⟨a, _, b, d⟩ => ⟨h, a, fun j hj => b j (Nat.zero_le _) hj, d⟩, fun ⟨_, a, b, d⟩ => ⟨a, fun j hj => by omega, fun j _ hj => b j hj, d⟩⟩
    · rw [dB_ff h]
      exact ⟨fun hh => (by cases hh), fun hh => absurd hh.1 h⟩
  have hall : t ∈ wths B 0 ↔ t ∈ wth B 0 ∨ t ∈ wth B 1 ∨ t ∈ wth B 2 := by
    rw [wths_cons (by omega), wths_cons (by omega), wths_cons (by omega), List.mem_append, List.mem_append, List.mem_append]
    have : wths B 3 = [] := rfl
    rw [show 0 + 1 + 1 + 1 = 3 from rfl, this]
    simp
  show t ∈ wths B 0 ↔ _
  rw [hall, key 0 (by omega), key 1 (by omega), key 2 (by omega)]
  constructor
  · rintro (⟨a, b, d, e⟩ | ⟨a, b, d, e⟩ | ⟨a, b, d, e⟩)
    all_goals exact ⟨⟨by omega, by omega, by rw [b]; exact a⟩, d, e⟩
  · rintro ⟨⟨a, b, d⟩, e, f⟩
    obtain h | h | h : t.w = 0 ∨ t.w = 1 ∨ t.w = 2 := by omega
    · rw [h] at d; exact .inl ⟨d, h, e, f⟩
    · rw [h] at d; exact .inr (.inl ⟨d, h, e, f⟩)
    · rw [h] at d; exact .inr (.inr ⟨d, h, e, f⟩)

/-- Within limits. -/
theorem IsT.bd {B : CBook} (hok : stsOk B) (hw : weaOk B) {t : Tru} (h : IsT B t) : ∀ i, i < B.ns → (1 ≤ t.c i ∧ t.c i ≤ 200 * (i + 1)) ∧ 0 ≤ t.r i ∧ t.r i ≤ 30
  | 0, hi => by
    have hs := hok.2 0 hi
    have ht := h.st 0 hi
    unfold stOk at hs
    unfold StT dlo dhi at ht
    unfold weaOk at hw
    have hc : 0 ≤ B.cost t.w.toNat ∧ B.cost t.w.toNat ≤ 30 := by
      have := h.w
      obtain h | h | h : t.w.toNat = 0 ∨ t.w.toNat = 1 ∨ t.w.toNat = 2 := by omega
      all_goals (rw [h]; omega)
    rw [if_pos rfl, if_pos rfl] at ht
    omega
  | i + 1, hi => by
    have ih := IsT.bd hok hw h i (by omega)
    have hs := hok.2 (i + 1) hi
    have hs' := hok.2 i (by omega)
    have ht := h.st (i + 1) hi
    unfold stOk at hs hs'
    unfold StT dlo dhi at ht
    unfold weaOk at hw
    have hc : 0 ≤ B.cost t.w.toNat ∧ B.cost t.w.toNat ≤ 30 := by
      have := h.w
      obtain h | h | h : t.w.toNat = 0 ∨ t.w.toNat = 1 ∨ t.w.toNat = 2 := by omega
      all_goals (rw [h]; omega)
    rw [if_neg (by omega), if_neg (by omega), Nat.add_sub_cancel] at ht
    omega
theorem IsT.bd0 {B : CBook} (hok : stsOk B) (hw : weaOk B) {t : Tru} (h : IsT B t) {i : Nat} (hi : i < 3) : (0 ≤ t.c i ∧ t.c i ≤ 600) ∧ 0 ≤ t.r i ∧ t.r i ≤ 30 := by
  by_cases hn : i < B.ns
  · have := h.bd hok hw i hn
    omega
  · have := h.z i (by omega) hi
    omega
theorem TruB.of {B : CBook} (hok : stsOk B) (hw : weaOk B) {t : Tru} (h : t ∈ Ws B) : TruB t := by
  have h' := (mem_Ws hok hw).1 h
  have h0 := h'.bd0 hok hw (i := 0) (by omega)
  have h1 := h'.bd0 hok hw (i := 1) (by omega)
  have h2 := h'.bd0 hok hw (i := 2) (by omega)
  simp only [Tru.r, Tru.c] at h0 h1 h2
  simp at h0 h1 h2
  refine ⟨fun i => ?_, fun i => ?_, h'.w.1, h'.w.2.1⟩
  · unfold Tru.c; split <;> (try split) <;> omega
  · unfold Tru.r; split <;> (try split) <;> omega
end Go.Proofs.Ytlnmcadbmpiopaa

/- Package claim: what is answered of stages, and what the road owes. -/
namespace Go.Proofs.Ytlnmcadbmpiopaa
open Go Go.Ev

theorem owes_num (B : CBook) (a1 a2 : AV) (hok : stsOk B) (hw : weaOk B) (hr : 0 ≤ B.rate ∧ B.rate ≤ 99) (xs : List AV) : NumOK B a1 a2 76 [] xs (owV B) := fun t ht m c hp _ _ fl => owes_at hp hok hr t (TruB.of hok hw ht) fl

/-- What is answered: an error, and both ends. -/
noncomputable def ansE (B : CBook) (q : Prop) : Int := if dB (bkOk B) = false then 60 else if dB q = false then 61 else if dB (Ws B = []) = true then 62 else 0
noncomputable def ansL (B : CBook) (q : Prop) (num : Tru → Int) : Int := if ansE B q = 0 then spL num (Ws B) else 0
noncomputable def ansH (B : CBook) (q : Prop) (num : Tru → Int) : Int := if ansE B q = 0 then spH num (Ws B) else 0
noncomputable def ansV (B : CBook) (q : Prop) (num : Tru → Int) : AV := .tup [.agg [.int .i64 (ansL B q num), .int .i64 (ansH B q num)], .int .i64 (ansE B q)]
theorem ansE_no {B : CBook} {q : Prop} (h : ¬ bkOk B) : ansE B q = 60 := by unfold ansE; rw [dB_ff h, if_pos rfl]
theorem ansE_false {B : CBook} {q : Prop} (h : bkOk B) (hq : q) (hW : Ws B = []) : ansE B q = 62 := by unfold ansE; rw [dB_tt h, if_neg (by decide), dB_tt hq, if_neg (by decide), dB_tt hW, if_pos rfl]
theorem ansE_ok {B : CBook} {q : Prop} (h : bkOk B) (hq : q) (hW : Ws B ≠ []) : ansE B q = 0 := by unfold ansE; rw [dB_tt h, if_neg (by decide), dB_tt hq, if_neg (by decide), dB_ff hW, if_neg (by decide)]
theorem ansV_err {B : CBook} {q : Prop} {num : Tru → Int} {e : Int} (h : ansE B q = e) (he : e ≠ 0) : ansV B q num = .tup [.agg [.int .i64 0, .int .i64 0], .int .i64 e] := by unfold ansV ansL ansH; rw [h, if_neg he, if_neg he]
theorem ansV_ok {B : CBook} {q : Prop} {num : Tru → Int} (h : ansE B q = 0) : ansV B q num = .tup [.agg [.int .i64 (spL num (Ws B)), .int .i64 (spH num (Ws B))], .int .i64 0] := by unfold ansV ansL ansH; rw [h, if_pos rfl, if_pos rfl]

set_option maxRecDepth 100000 in
set_option maxHeartbeats 4000000 in
theorem answer0_can (B : CBook) (a1 a2 : AV) (h1 : IsSl a1 B.ns 0) (h2 : IsSl a2 B.nc 1) (hn : B.ns ≤ 9223372036854775807) (f : Nat) (num : Tru → Int) (hnum : bkOk B → ∀ xs, NumOK B a1 a2 f [] xs num) : CanS 0 Try.prog 55 2 [bk B a1 a2, .agg [.bool true, .fn f [] []]] [(0, some (oSt B)), (1, some (oCk B))] 2 fun v _ _ => v = ansV B True num := by
  by_cases hB : bkOk B
  · by_cases hW : Ws B = []
    · rw [ansV_err (ansE_false hB trivial hW) (by decide)]
      refine CanS.mk Try.func55 rfl rfl rfl ?_
      repeat' (first | refine RT.nil ?_ | refine sq_n ?_ | refine Tr.seq ?_ | refine Tr.region ?_ | refine Tr.cond_t rfl ?_ | refine Tr.ret ?_ | refine sq_r ?_ | (refine RT.call rfl rfl rfl (learn_false_at ⟨h1, h2, rfl, rfl, by decide⟩ hn hB hW _) rfl rfl (Nat.le_refl _) ?_) | (refine RT.goK rfl rfl rfl rfl ?_; apply Nx.of; (first | exact S.move | exact S.assign | exact S.load1c rfl rfl rfl rfl | exact S.loadNc rfl rfl rfl rfl | exact S.fieldAddr rfl rfl rfl | exact S.neq | exact S.box | exact S.alloc rfl | exact S.build rfl rfl rfl | exact S.extract rfl)) | (refine RT.goK0 rfl rfl rfl ?_; apply Nx.of; (first | exact S.store rfl rfl rfl rfl rfl rfl)))
      (first | refine rt_go rfl ?_)
      rfl
    · rw [ansV_ok (ansE_ok hB trivial hW)]
      refine CanS.mk Try.func55 rfl rfl rfl ?_
      repeat' (first | refine RT.nil ?_ | refine sq_n ?_ | refine Tr.seq ?_ | refine Tr.region ?_ | refine Tr.cond_f rfl ?_ | refine Tr.skip ?_ | refine Tr.ret ?_ | (refine RT.call rfl rfl rfl (learn_at ⟨h1, h2, rfl, rfl, by decide⟩ (fun x o hx => by have := lookM_mem hx; simp at this; omega) hn hB hW _) rfl rfl (by decide) ?_) | (refine RT.call rfl rfl rfl (span_at (p := 8) (q := 9) (x := 13) (z := 4) (ys := [.int .i64 0, .int .i64 0]) ⟨⟨h1, h2, rfl, rfl, rfl, by decide, by decide, by decide⟩, rfl, by decide, rfl, by decide, by decide⟩ hW (wths_len hB.1) true f [] [.int .i64 0, .int .i64 0] [] rfl rfl (fun _ _ => rfl) rfl (fun σ hσ => rfl) rfl num (hnum hB _) _) rfl rfl (Nat.le_refl _) ?_) | (refine RT.goK rfl rfl rfl rfl ?_; apply Nx.of; (first | exact S.move | exact S.assign | exact S.load1c rfl rfl rfl rfl | exact S.loadNc rfl rfl rfl rfl | exact S.fieldAddr rfl rfl rfl | exact S.neq | exact S.box | exact S.alloc rfl | exact S.extract rfl)) | (refine RT.goK0 rfl rfl rfl ?_; apply Nx.of; (first | exact S.store rfl rfl rfl rfl rfl rfl)))
      (first | refine rt_go rfl ?_)
      rfl
  · rw [ansV_err (ansE_no hB) (by decide)]
    refine CanS.mk Try.func55 rfl rfl rfl ?_
    repeat' (first | refine RT.nil ?_ | refine sq_n ?_ | refine Tr.seq ?_ | refine Tr.region ?_ | refine Tr.cond_t rfl ?_ | refine Tr.ret ?_ | refine sq_r ?_ | (refine RT.call rfl rfl rfl (learn_no_at ⟨h1, h2, rfl, rfl, by decide⟩ hn hB _ _) rfl rfl (Nat.le_refl _) ?_) | (refine RT.goK rfl rfl rfl rfl ?_; apply Nx.of; (first | exact S.move | exact S.assign | exact S.load1c rfl rfl rfl rfl | exact S.loadNc rfl rfl rfl rfl | exact S.fieldAddr rfl rfl rfl | exact S.neq | exact S.box | exact S.alloc rfl | exact S.build rfl rfl rfl | exact S.extract rfl)) | (refine RT.goK0 rfl rfl rfl ?_; apply Nx.of; (first | exact S.store rfl rfl rfl rfl rfl rfl)))
    (first | refine rt_go rfl ?_)
    rfl
end Go.Proofs.Ytlnmcadbmpiopaa

/- Package claim: Right, Comes, Late, Rough, Owes. -/
namespace Go.Proofs.Ytlnmcadbmpiopaa
open Go Go.Ev

theorem answer0_at {B : CBook} {a1 a2 : AV} {m : List (Nat × Option AObj)} {c : Nat} (h : BkIn B a1 a2 m c) (hn : B.ns ≤ 9223372036854775807) (f : Nat) (num : Tru → Int) (hnum : bkOk B → ∀ xs, NumOK B a1 a2 f [] xs num) (fl : Nat) :
    OkAt 0 Try.prog fl 55 [bk B a1 a2, .agg [.bool true, .fn f [] []]] (ofM m) c (ansV B True num) (ofM m) c :=
  (answer0_can B a1 a2 h.h1 h.h2 hn f num hnum).pure (fun _ => rfl) (h.entry _ fun _ => rfl) fl

/-- A stage's number. -/
def stQ (B : CBook) (n : Int) : Prop := 0 ≤ n ∧ n ≤ (B.ns : Int) - 1
noncomputable def stF (B : CBook) (a1 a2 : AV) (n : Int) : CallFn := one1 56 [bk B a1 a2, .int .i64 n] (.bool (decide (0 ≤ n ∧ n ≤ (B.ns : Int) - 1))) fun H c => ∃ m, H = ofM m ∧ BkIn B a1 a2 m c
noncomputable def anF (B : CBook) (a1 a2 : AV) (f : Nat) (n : Int) (num : Tru → Int) : CallFn := one1 55 [bk B a1 a2, .agg [.bool (decide (0 ≤ n ∧ n ≤ (B.ns : Int) - 1)), .fn f [] [.ptr 3 0]]] (ansV B (stQ B n) num) fun H c => ∃ m, H = ofM m ∧ BkIn B a1 a2 m c ∧ lookM m 3 = some (.cells [.int .i64 n]) ∧ 3 < c
set_option maxRecDepth 100000 in
set_option maxHeartbeats 4000000 in
theorem Owes_can (B : CBook) (a1 a2 : AV) (h1 : IsSl a1 B.ns 0) (h2 : IsSl a2 B.nc 1) (hn : B.ns ≤ 9223372036854775807) : CanS 0 Try.prog 24 2 [bk B a1 a2] [(0, some (oSt B)), (1, some (oCk B))] 2 fun v _ _ => v = ansV B True (owV B) := by
  refine CanS.mk Try.func24 rfl rfl rfl ?_
  repeat' (first | refine RT.nil ?_ | refine sq_n ?_ | refine Tr.seq ?_ | refine Tr.region ?_ | refine Tr.ret ?_ | (refine RT.call rfl rfl rfl (answer0_at ⟨h1, h2, rfl, rfl, by decide⟩ hn _ (owV B) (fun hB xs => owes_num B a1 a2 hB.1 hB.2.1 hB.2.2.2 xs) _) rfl rfl (Nat.le_refl _) ?_) | (refine RT.goK rfl rfl rfl rfl ?_; apply Nx.of; (first | exact S.assign | exact S.loadNc rfl rfl rfl rfl | exact S.box | exact S.alloc rfl | exact S.build rfl rfl rfl | exact S.extract rfl)) | (refine RT.goK0 rfl rfl rfl ?_; apply Nx.of; (first | exact S.store rfl rfl rfl rfl rfl rfl)))
  (first | refine rt_go rfl ?_)
  rfl

theorem Owes_at {B : CBook} {a1 a2 : AV} {m : List (Nat × Option AObj)} {c : Nat} (h : BkIn B a1 a2 m c) (hn : B.ns ≤ 9223372036854775807) (fl : Nat) : OkAt 0 Try.prog fl 24 [bk B a1 a2] (ofM m) c (ansV B True (owV B)) (ofM m) c :=
  (Owes_can B a1 a2 h.h1 h.h2 hn).pure (fun _ => rfl) (h.entry _ fun _ => rfl) fl
end Go.Proofs.Ytlnmcadbmpiopaa

/- Loads and stores near the top of a memory whose names are not literal. -/
namespace Go.Ev
open Go
section
variable {P : Program} {fl c t x off : Nat} {m : List (Nat × Option AObj)} {y : Ty} {cs cs' vs : List AV} {v : AV} {a b : Operand}
theorem S.l1_0 [Tab P] (ht : ty P t = some y) (hg : y.agg = false) (hv : cs[off]? = some v) : OpE P fl (.load t a) [.ptr x off] ((x, some (.cells cs)) :: m) c v ((x, some (.cells cs)) :: m) c := S.load1c ht hg lookM_hd hv
theorem S.lN_0 [Tab P] (ht : ty P t = some y) (hg : y.agg = true) (hv : cut cs off y.size = some vs) : OpE P fl (.load t a) [.ptr x off] ((x, some (.cells cs)) :: m) c (.agg vs) ((x, some (.cells cs)) :: m) c := S.loadNc ht hg lookM_hd hv
theorem S.st_0 [Tab P] (ht : ty P t = some y) (h1 : (v.cells.all AV.one) = true) (hl : Nat.beq v.cells.length y.size = true) (hs : splice cs off v.cells = some cs') (hf : fl ≤ x) : OpE P fl (.store t a b) [.ptr x off, v] ((x, some (.cells cs)) :: m) c undefA ((x, some (.cells cs')) :: (x, some (.cells cs)) :: m) c := S.store ht (Nat.ble_eq_true_of_le hf) h1 hl lookM_hd hs
theorem S.lN_1 [Tab P] {d0 : Nat} {o0 : Option AObj} (ht : ty P t = some y) (hg : y.agg = true) (hv : cut cs off y.size = some vs) (n0 : x ≠ d0) : OpE P fl (.load t a) [.ptr x off] ((d0, o0) :: (x, some (.cells cs)) :: m) c (.agg vs) ((d0, o0) :: (x, some (.cells cs)) :: m) c := S.loadNc ht hg ((lookM_tl n0).trans lookM_hd) hv
theorem S.lN_2 [Tab P] {d0 d1 : Nat} {o0 o1 : Option AObj} (ht : ty P t = some y) (hg : y.agg = true) (hv : cut cs off y.size = some vs) (n0 : x ≠ d0) (n1 : x ≠ d1) : OpE P fl (.load t a) [.ptr x off] ((d0, o0) :: (d1, o1) :: (x, some (.cells cs)) :: m) c (.agg vs) ((d0, o0) :: (d1, o1) :: (x, some (.cells cs)) :: m) c := S.loadNc ht hg ((lookM_tl n0).trans ((lookM_tl n1).trans lookM_hd)) hv
theorem S.lN_4 [Tab P] {d0 d1 d2 d3 : Nat} {o0 o1 o2 o3 : Option AObj} (ht : ty P t = some y) (hg : y.agg = true) (hv : cut cs off y.size = some vs) (n0 : x ≠ d0) (n1 : x ≠ d1) (n2 : x ≠ d2) (n3 : x ≠ d3) : OpE P fl (.load t a) [.ptr x off] ((d0, o0) :: (d1, o1) :: (d2, o2) :: (d3, o3) :: (x, some (.cells cs)) :: m) c (.agg vs) ((d0, o0) :: (d1, o1) :: (d2, o2) :: (d3, o3) :: (x, some (.cells cs)) :: m) c := S.loadNc ht hg ((lookM_tl n0).trans ((lookM_tl n1).trans ((lookM_tl n2).trans ((lookM_tl n3).trans lookM_hd)))) hv
theorem S.lN_6 [Tab P] {d0 d1 d2 d3 d4 d5 : Nat} {o0 o1 o2 o3 o4 o5 : Option AObj} (ht : ty P t = some y) (hg : y.agg = true) (hv : cut cs off y.size = some vs) (n0 : x ≠ d0) (n1 : x ≠ d1) (n2 : x ≠ d2) (n3 : x ≠ d3) (n4 : x ≠ d4) (n5 : x ≠ d5) : OpE P fl (.load t a) [.ptr x off] ((d0, o0) :: (d1, o1) :: (d2, o2) :: (d3, o3) :: (d4, o4) :: (d5, o5) :: (x, some (.cells cs)) :: m) c (.agg vs) ((d0, o0) :: (d1, o1) :: (d2, o2) :: (d3, o3) :: (d4, o4) :: (d5, o5) :: (x, some (.cells cs)) :: m) c := S.loadNc ht hg ((lookM_tl n0).trans ((lookM_tl n1).trans ((lookM_tl n2).trans ((lookM_tl n3).trans ((lookM_tl n4).trans ((lookM_tl n5).trans lookM_hd)))))) hv
/-- A field of a struct that is at hand: a single cell; several. -/
theorem S.field1 [Tab P] {x1 : Operand} {f fo fs ft : Nat} {z : Ty} (ht : ty P t = some y) (hk : y.kind = 3) (hp : y.places[f]? = some (fo, fs)) (hf : y.ftys[f]? = some ft) (hz : ty P ft = some z) (hg : z.agg = false) (hv : cs[fo]? = some v) : OpE P fl (.field t x1 f) [.agg cs] m c v m c := by
  obtain ⟨fields, h1, h2, h3⟩ := ty_struct ht hk
  obtain ⟨fd, h4, h5⟩ := mapM_get h2 f _ hp
  simp only [Option.map_eq_some_iff, Prod.mk.injEq] at h5
  obtain ⟨i, h6, h7, h8⟩ := h5
  have h9 : fields[f]? = some fd := by simpa using h4
  have h10 : fd.type = ft := by
    rw [← h3, List.getElem?_map, h4] at hf
    simpa using hf
  refine ⟨rfl, Nat.le_refl _, ?_⟩
  have h11 : aggB P fd.type = some false := by rw [h10, ty_agg hz, hg]
  simp only [opA, oField, fieldA, h1, h9, partA, h11, h7, hv, opt1, Option.map_some]
end
end Go.Ev

/- Package claim: in which truths something is so. -/
namespace Go.Proofs.Ytlnmcadbmpiopaa
open Go Go.Ev

/-- A function's call that tells whether something is so in a truth, in all memory that holds another one's. -/
def PrOK (B : CBook) (g : Nat) (first cap : List AV) (m : List (Nat × Option AObj)) (c : Nat) (pr : Tru → Prop) : Prop := ∀ t ∈ Ws B, ∀ m' c', Sub m c m' c' → ∀ fl, OkAt 0 Try.prog fl g (first ++ [trV t] ++ cap) (ofM m') c' (.bool (dB (pr t))) (ofM m') c'
theorem PrOK.sub {B : CBook} {g : Nat} {first cap : List AV} {m m2 : List (Nat × Option AObj)} {c c2 : Nat} {pr : Tru → Prop} (h : PrOK B g first cap m c pr) (k : Sub m c m2 c2) : PrOK B g first cap m2 c2 pr := fun t ht m' c' hs fl => h t ht m' c' (k.trans hs) fl

section
variable {B : CBook} {g x : Nat} {first cap : List AV} {m : List (Nat × Option AObj)} {c : Nat} {pr : Tru → Prop}

set_option maxRecDepth 100000 in
set_option maxHeartbeats 4000000 in
theorem index_at (hx : lookM m x = some (oWs B)) (hlen : (Ws B).length ≤ 5184) (hp : PrOK B g first cap m c pr) (fl : Nat) : OkAt 0 Try.prog fl 127 [.gs x (wths B 0).length, .fn g first cap] (ofM m) c (.int .i64 (ixV pr (Ws B))) (ofM m) c := by
  refine CanS.here (CanS.mk Try.func127 rfl rfl rfl ?_) (.int _ _) fl
  have hs := IsSl.gs x (wths B 0).length
  repeat' (first | refine RT.nil ?_ | refine sq_n ?_ | refine Tr.seq ?_ | refine Tr.region ?_ | refine Tr.block ?_ | (refine RT.goK rfl rfl rfl rfl ?_; apply Nx.of; (first | exact S.move | exact S.assign)) | (refine RT.goK rfl rfl rfl rfl ?_; apply Nx.of; (first | exact S.len_sl rfl rfl rfl (by assumption))))
  refine Tr.loop (fun k : Nat => stL Try.f127.ntmps [] [(0, .gs x (wths B 0).length), (1, .fn g first cap), (7, .int .i64 (wths B 0).length), (8, .int .i64 k)] m c) (fun k => k ≤ (Ws B).length ∧ ∀ i u, i < k → (Ws B)[i]? = some u → ¬ pr u) (fun k => (Ws B).length - k) 0 ⟨Nat.zero_le _, fun i u hi => by omega⟩ (Wk.temps (Nat.le_refl _) (Nat.zero_le _) (Nat.le_refl _) ⟨rfl, rfl, rfl, rfl, trivial⟩) (fun k hk => ?_)
  obtain ⟨hk, hno⟩ := hk
  by_cases hlt : k < (Ws B).length
  · obtain ⟨tk, htk, hmk⟩ := at_some hlt
    have hlt' : (k : Int) < (wths B 0).length := by have := hlt; have hw : (Ws B).length = (wths B 0).length := rfl; omega
    repeat' (first | refine RT.nil ?_ | refine sq_n ?_ | refine Tr.seq ?_ | refine Tr.region ?_ | refine Tr.cond_t rfl ?_ | refine Tr.cond_d rfl (fun _ => ?_) (fun _ => ?_) | refine Tr.skip ?_ | refine Tr.ret ?_ | refine sq_r ?_ | refine Tr.block ?_ | refine blk_n ?_ | refine blk_r ?_ | refine lp_r ?_ | (refine RT.goK rfl rfl rfl rfl ?_; (refine Nx.of (S.lss_t hlt') ?_)) | (refine RT.call rfl rfl rfl (hp tk hmk _ _ .refl _) rfl rfl (Nat.le_refl _) ?_) | (refine RT.goK rfl rfl rfl rfl ?_; refine Nx.of (S.rowG rfl rfl hx (fun _ => rfl) htk rfl rfl) ?_) | (refine RT.goK rfl rfl rfl rfl ?_; apply Nx.of; (first | exact S.move | exact S.assign | exact S.add_one (by omega))) | (refine RT.goK rfl rfl rfl rfl ?_; apply Nx.of; (first | exact S.idx_sl rfl rfl rfl (by assumption) (by omega))))
    · (first | refine rt_go rfl ?_)
      exact congrArg (AV.int .i64) (ixV_at hno htk (by assumption)).symm
    · refine lp_n (k + 1) ⟨hlt, fun i u hi hu => ?_⟩ (by omega) (Wk.temps (Nat.le_refl _) (Nat.zero_le _) (Nat.le_refl _) ⟨rfl, rfl, rfl, rfl, trivial⟩)
      rcases Nat.lt_succ_iff_lt_or_eq.1 hi with h | rfl
      · exact hno i u h hu
      · rw [htk] at hu; cases hu; assumption
  · have hlt' : ¬ (k : Int) < (wths B 0).length := by have := hlt; have hw : (Ws B).length = (wths B 0).length := rfl; omega
    repeat' (first | refine RT.nil ?_ | refine sq_n ?_ | refine Tr.seq ?_ | refine Tr.region ?_ | refine Tr.cond_f rfl ?_ | refine Tr.ret ?_ | refine Tr.exit ?_ | refine sq_x ?_ | refine blk_hit rfl ?_ | refine lp_x ?_ | (refine RT.goK rfl rfl rfl rfl ?_; (refine Nx.of (S.lss_f hlt') ?_)) | (refine RT.goK rfl rfl rfl rfl ?_; apply Nx.of; (first | exact S.assign)))
    (first | refine rt_go rfl ?_)
    exact congrArg (AV.int .i64) (ixV_none fun i u hi hu => hno i u (by omega) hu).symm

set_option maxRecDepth 100000 in
set_option maxHeartbeats 4000000 in
theorem contains_at (hx : lookM m x = some (oWs B)) (hlen : (Ws B).length ≤ 5184) (hp : PrOK B g first cap m c pr) (fl : Nat) : OkAt 0 Try.prog fl 125 [.gs x (wths B 0).length, .fn g first cap] (ofM m) c (.bool (dB (∃ t ∈ Ws B, pr t))) (ofM m) c := by
  refine CanS.here (CanS.mk Try.func125 rfl rfl rfl ?_) (.bool _) fl
  repeat' (first | refine RT.nil ?_ | refine sq_n ?_ | refine Tr.seq ?_ | refine Tr.region ?_ | refine Tr.ret ?_ | (refine RT.call rfl rfl rfl (index_at hx hlen hp _) rfl rfl (Nat.le_refl _) ?_) | (refine RT.goK rfl rfl rfl rfl ?_; apply Nx.of; (first | exact S.move | exact S.assign | exact S.geq)))
  (first | refine rt_go rfl ?_)
  exact dB_iff ixV_nn

set_option maxRecDepth 100000 in
set_option maxHeartbeats 4000000 in
theorem some_at {p : Nat} (hx : lookM m x = some (oWs B)) (hxc : x < c) (hlen : (Ws B).length ≤ 5184) (hp : PrOK B g first cap m c pr) (fl : Nat) : OkAt 0 Try.prog fl 117 [.agg [.ptr p 0, .gs x (wths B 0).length], .fn g first cap] (ofM m) c (.bool (dB (∃ t ∈ Ws B, pr t))) (ofM m) c := by
  refine CanS.here (CanS.mk Try.func117 rfl rfl rfl ?_) (.bool _) fl
  repeat' (first | refine RT.nil ?_ | refine sq_n ?_ | refine Tr.seq ?_ | refine Tr.region ?_ | refine Tr.ret ?_ | (refine RT.goK rfl rfl rfl rfl ?_; apply Nx.of; (first | exact S.l1_0 rfl rfl rfl)) | (refine RT.call rfl rfl rfl (contains_at ((lookM_tl (by omega)).trans hx) hlen (hp.sub (Sub.refl.cons (Nat.le_refl _) (by omega))) _) rfl rfl (Nat.le_refl _) ?_) | (refine RT.goK rfl rfl rfl rfl ?_; apply Nx.of; (first | exact S.move | exact S.assign | exact S.fieldAddr rfl rfl rfl | exact S.box)))
  (first | refine rt_go rfl ?_)
  rfl
set_option maxRecDepth 100000 in
set_option maxHeartbeats 4000000 in
theorem none_at {p : Nat} (hx : lookM m x = some (oWs B)) (hxc : x < c) (hlen : (Ws B).length ≤ 5184) (hp : PrOK B g first cap m c pr) (fl : Nat) : OkAt 0 Try.prog fl 118 [.agg [.ptr p 0, .gs x (wths B 0).length], .fn g first cap] (ofM m) c (.bool (dB (¬ ∃ t ∈ Ws B, pr t))) (ofM m) c := by
  refine CanS.here (CanS.mk Try.func118 rfl rfl rfl ?_) (.bool _) fl
  repeat' (first | refine RT.nil ?_ | refine sq_n ?_ | refine Tr.seq ?_ | refine Tr.region ?_ | refine Tr.ret ?_ | (refine RT.goK rfl rfl rfl rfl ?_; apply Nx.of; (first | exact S.lN_0 rfl rfl rfl)) | (refine RT.call rfl rfl rfl (some_at ((lookM_tl (by omega)).trans hx) (by omega) hlen (hp.sub (Sub.refl.cons (Nat.le_refl _) (by omega))) _) rfl rfl (Nat.le_refl _) ?_) | (refine RT.goK rfl rfl rfl rfl ?_; apply Nx.of; (first | exact S.move | exact S.assign | exact S.not_d | exact S.box)))
  (first | refine rt_go rfl ?_)
  first | exact dB_iff Iff.rfl
set_option maxRecDepth 100000 in
set_option maxHeartbeats 4000000 in
theorem each1_ok {y : Nat} (hy : lookM m y = some (.cells [.fn g first cap])) (hyc : y < c) (hp : PrOK B g first cap m c pr) : PrOK B 124 [] [.ptr y 0] m c (fun t => ¬ pr t) := fun t ht m' c' hs fl => by
  have hy' : lookM m' y = some (.cells [.fn g first cap]) := (hs.eq y hyc).trans hy
  have hle := hs.le
  refine CanS.here (CanS.mk Try.func124 rfl rfl rfl ?_) (.bool _) fl
  repeat' (first | refine RT.nil ?_ | refine sq_n ?_ | refine Tr.seq ?_ | refine Tr.region ?_ | refine Tr.ret ?_ | (refine RT.goK rfl rfl rfl rfl ?_; apply Nx.of; (first | exact S.lN_0 rfl rfl rfl)) | (refine RT.goK rfl rfl rfl rfl ?_; refine Nx.of (S.load1c rfl rfl ((lookM_tl (by omega)).trans hy') rfl) ?_) | (refine RT.call rfl rfl rfl (hp t ht _ _ (hs.cons (by omega) (by omega)) _) rfl rfl (Nat.le_refl _) ?_) | (refine RT.goK rfl rfl rfl rfl ?_; apply Nx.of; (first | exact S.assign | exact S.not_d | exact S.box)))
  (first | refine rt_go rfl ?_)
  first | exact dB_iff Iff.rfl
set_option maxRecDepth 100000 in
set_option maxHeartbeats 4000000 in
theorem each_at {p : Nat} (hx : lookM m x = some (oWs B)) (hxc : x < c) (hlen : (Ws B).length ≤ 5184) (hp : PrOK B g first cap m c pr) (fl : Nat) : OkAt 0 Try.prog fl 116 [.agg [.ptr p 0, .gs x (wths B 0).length], .fn g first cap] (ofM m) c (.bool (dB (∀ t ∈ Ws B, pr t))) (ofM m) c := by
  refine CanS.here (CanS.mk Try.func116 rfl rfl rfl ?_) (.bool _) fl
  repeat' (first | refine RT.nil ?_ | refine sq_n ?_ | refine Tr.seq ?_ | refine Tr.region ?_ | refine Tr.ret ?_ | (refine RT.goK rfl rfl rfl rfl ?_; apply Nx.of; (first | exact S.lN_1 rfl rfl rfl (by omega))) | (refine RT.call rfl rfl rfl (some_at (pr := fun t => ¬ pr t) ((lookM_tl (by omega)).trans ((lookM_tl (by omega)).trans hx)) (by omega) hlen (each1_ok lookM_hd (by omega) (hp.sub ((Sub.refl.cons (c2 := c + 1) (Nat.le_refl _) (by omega)).cons (by omega) (by omega)))) _) rfl rfl (Nat.le_refl _) ?_) | (refine RT.goK rfl rfl rfl rfl ?_; apply Nx.of; (first | exact S.assign | exact S.not_d | exact S.box | exact S.makeFunc)))
  (first | refine rt_go rfl ?_)
  refine dB_iff ?_
  simp
end
end Go.Proofs.Ytlnmcadbmpiopaa

/- Package claim: where; the weathers, the blame, what is paid, the first stage. -/
namespace Go.Proofs.Ytlnmcadbmpiopaa
open Go Go.Ev

abbrev exV : AV := .agg [.int .i64 2, .fn 116 [] [], .int .i64 1, .fn 117 [] [], .int .i64 0, .fn 118 [] []]
set_option maxRecDepth 100000 in
set_option maxHeartbeats 4000000 in
theorem extents_can : CanS 0 Try.prog 99 0 [] [] 0 fun v _ _ => v = exV := by
  refine CanS.mk Try.func99 rfl rfl rfl ?_
  repeat' (first | refine RT.nil ?_ | refine sq_n ?_ | refine Tr.seq ?_ | refine Tr.region ?_ | refine Tr.ret ?_ | (refine RT.goK rfl rfl rfl rfl ?_; apply Nx.of; (first | exact S.alloc rfl | exact S.build rfl rfl rfl | exact S.buildA rfl rfl rfl rfl)) | (refine RT.goK0 rfl rfl rfl ?_; apply Nx.of; (first | exact S.store rfl rfl rfl rfl rfl rfl)))
  (first | refine rt_go rfl ?_)
  rfl
theorem extents_at (H : T AObj) (c fl : Nat) : OkAt 0 Try.prog fl 99 [] H c exV H c := extents_can.pure (fun _ => rfl) (.plain fun _ => rfl) fl

/-- In which truths something is so. -/
noncomputable def whV (B : CBook) (pr : Tru → Prop) : Int := bif dB (∀ t ∈ Ws B, pr t) then 2 else bif dB (∃ t ∈ Ws B, pr t) then 1 else 0
theorem whV_2 {B : CBook} {pr : Tru → Prop} (h : ∀ t ∈ Ws B, pr t) : whV B pr = 2 := by unfold whV; rw [dB_tt h]; rfl
theorem whV_1 {B : CBook} {pr : Tru → Prop} (h : ¬ ∀ t ∈ Ws B, pr t) (h' : ∃ t ∈ Ws B, pr t) : whV B pr = 1 := by unfold whV; rw [dB_ff h, dB_tt h']; rfl
theorem whV_0 {B : CBook} {pr : Tru → Prop} (h : ¬ ∀ t ∈ Ws B, pr t) (h' : ¬ ∃ t ∈ Ws B, pr t) : whV B pr = 0 := by unfold whV; rw [dB_ff h, dB_ff h']; rfl

section
variable {B : CBook} {g x p : Nat} {first cap : List AV} {m : List (Nat × Option AObj)} {c : Nat} {pr : Tru → Prop}
/-- The list, behind what was laid on top. -/
theorem sub_hx {m' : List (Nat × Option AObj)} {c' : Nat} (h : Sub m c m' c') (hxc : x < c) (hx : lookM m x = some (oWs B)) : lookM m' x = some (oWs B) ∧ x < c' := ⟨(h.eq x hxc).trans hx, Nat.lt_of_lt_of_le hxc h.le⟩
theorem each_at' {m' : List (Nat × Option AObj)} {c' : Nat} (h : Sub m c m' c') (hx : lookM m x = some (oWs B)) (hxc : x < c) (hlen : (Ws B).length ≤ 5184) (hp : PrOK B g first cap m c pr) (fl : Nat) : OkAt 0 Try.prog fl 116 [.agg [.ptr p 0, .gs x (wths B 0).length], .fn g first cap] (ofM m') c' (.bool (dB (∀ t ∈ Ws B, pr t))) (ofM m') c' := each_at (sub_hx h hxc hx).1 (sub_hx h hxc hx).2 hlen (hp.sub h) fl
theorem some_at' {m' : List (Nat × Option AObj)} {c' : Nat} (h : Sub m c m' c') (hx : lookM m x = some (oWs B)) (hxc : x < c) (hlen : (Ws B).length ≤ 5184) (hp : PrOK B g first cap m c pr) (fl : Nat) : OkAt 0 Try.prog fl 117 [.agg [.ptr p 0, .gs x (wths B 0).length], .fn g first cap] (ofM m') c' (.bool (dB (∃ t ∈ Ws B, pr t))) (ofM m') c' := some_at (sub_hx h hxc hx).1 (sub_hx h hxc hx).2 hlen (hp.sub h) fl
theorem none_at' {m' : List (Nat × Option AObj)} {c' : Nat} (h : Sub m c m' c') (hx : lookM m x = some (oWs B)) (hxc : x < c) (hlen : (Ws B).length ≤ 5184) (hp : PrOK B g first cap m c pr) (fl : Nat) : OkAt 0 Try.prog fl 118 [.agg [.ptr p 0, .gs x (wths B 0).length], .fn g first cap] (ofM m') c' (.bool (dB (¬ ∃ t ∈ Ws B, pr t))) (ofM m') c' := none_at (sub_hx h hxc hx).1 (sub_hx h hxc hx).2 hlen (hp.sub h) fl

set_option maxRecDepth 100000 in
set_option maxHeartbeats 4000000 in
theorem where_at (hx : lookM m x = some (oWs B)) (hxc : x < c) (hlen : (Ws B).length ≤ 5184) (hp : PrOK B g first cap m c pr) (fl : Nat) : OkAt 0 Try.prog fl 73 [.agg [.ptr p 0, .gs x (wths B 0).length], .fn g first cap] (ofM m) c (.int .i64 (whV B pr)) (ofM m) c := by
  refine CanS.here (CanS.mk Try.func73 rfl rfl rfl ?_) (.int _ _) fl
  repeat' (first | refine RT.nil ?_ | refine sq_n ?_ | refine Tr.seq ?_ | refine Tr.region ?_ | refine Tr.block ?_ | (refine RT.call rfl rfl rfl (extents_at _ _ _) rfl rfl (Nat.le_refl _) ?_) | (refine RT.goK rfl rfl rfl rfl ?_; apply Nx.of; (first | exact S.move | exact S.assign | exact S.box)))
  refine Tr.unroll 4 ?_
  repeat' (first | refine RT.nil ?_ | refine sq_n ?_ | refine Tr.seq ?_ | refine Tr.region ?_ | refine Tr.cond_t rfl ?_ | refine Tr.cond_f rfl ?_ | refine Tr.cond_d rfl (fun _ => ?_) (fun _ => ?_) | refine Tr.skip ?_ | refine Tr.ret ?_ | refine sq_r ?_ | refine Tr.exit ?_ | refine sq_x ?_ | refine Tr.block ?_ | refine blk_n ?_ | refine blk_r ?_ | refine blk_hit rfl ?_ | refine un_n ?_ | refine un_r ?_ | refine un_x ?_ | (refine RT.call rfl rfl rfl (each_at' (by repeat' (first | exact Sub.refl | refine Sub.cons ?_ (by omega) (Nat.le_succ _) | refine Sub.cons ?_ (by omega) (Nat.le_refl _))) hx hxc hlen hp _) rfl rfl (Nat.le_refl _) ?_) | (refine RT.call rfl rfl rfl (some_at' (by repeat' (first | exact Sub.refl | refine Sub.cons ?_ (by omega) (Nat.le_succ _) | refine Sub.cons ?_ (by omega) (Nat.le_refl _))) hx hxc hlen hp _) rfl rfl (Nat.le_refl _) ?_) | (refine RT.call rfl rfl rfl (none_at' (by repeat' (first | exact Sub.refl | refine Sub.cons ?_ (by omega) (Nat.le_succ _) | refine Sub.cons ?_ (by omega) (Nat.le_refl _))) hx hxc hlen hp _) rfl rfl (Nat.le_refl _) ?_) | (refine RT.goK rfl rfl rfl rfl ?_; apply Nx.of; (first | exact S.l1_0 rfl rfl rfl | exact S.lN_2 rfl rfl rfl (by omega) (by omega) | exact S.lN_4 rfl rfl rfl (by omega) (by omega) (by omega) (by omega) | exact S.lN_6 rfl rfl rfl (by omega) (by omega) (by omega) (by omega) (by omega) (by omega))) | (refine RT.goK0 rfl rfl rfl ?_; apply Nx.of; (first | exact S.st_0 rfl rfl rfl rfl (by omega))) | (refine RT.goK rfl rfl rfl rfl ?_; apply Nx.of; (first | exact S.lss_t (by decide) | exact S.lss_f (by decide))) | (refine RT.goK rfl rfl rfl rfl ?_; apply Nx.of; (first | exact S.move | exact S.assign | exact S.fieldAddr rfl rfl rfl | exact S.alloc rfl | exact S.add (by unfold In64; omega) | exact S.indexN rfl rfl rfl rfl (by decide) (by decide) rfl)))
  all_goals (first | refine rt_go rfl ?_)
  · exact congrArg (AV.int .i64) (whV_2 (by assumption)).symm
  · exact congrArg (AV.int .i64) (whV_1 (by assumption) (by assumption)).symm
  · exact congrArg (AV.int .i64) (whV_0 (by assumption) (by assumption)).symm
  · exact congrArg (AV.int .i64) (whV_0 (by assumption) (by assumption)).symm
end
end Go.Proofs.Ytlnmcadbmpiopaa

/- Package claim: the weathers, what is paid, the first stage: what is known answers. -/
namespace Go.Proofs.Ytlnmcadbmpiopaa
open Go Go.Ev

theorem PbIn.sub {B : CBook} {a1 a2 : AV} {p q : Nat} {m m' : List (Nat × Option AObj)} {c c' : Nat} (h : PbIn B a1 a2 p q m c) (k : Sub m c m' c') : PbIn B a1 a2 p q m' c' := by
  have := h.hc
  have := k.le
  exact ⟨h.h1, h.h2, (k.eq 0 (by omega)).trans h.m1, (k.eq 1 (by omega)).trans h.m2, (k.eq p h.hp).trans h.m3, by omega, by have := h.hp; omega, by have := h.hq; omega⟩

section
variable {B : CBook} {a1 a2 : AV} {p q : Nat} {m : List (Nat × Option AObj)} {c : Nat}
set_option maxRecDepth 100000 in
set_option maxHeartbeats 4000000 in
theorem weathers1_ok {y : Nat} {k : Int} (hy : lookM m y = some (.cells [.int .i64 k])) (hyc : y < c) : PrOK B 98 [] [.ptr y 0] m c (fun t => t.w = k) := fun t ht m' c' hs fl => by
  have hy' : lookM m' y = some (.cells [.int .i64 k]) := (hs.eq y hyc).trans hy
  have hle := hs.le
  refine CanS.here (CanS.mk Try.func98 rfl rfl rfl ?_) (.bool _) fl
  repeat' (first | refine RT.nil ?_ | refine sq_n ?_ | refine Tr.seq ?_ | refine Tr.region ?_ | refine Tr.ret ?_ | (refine RT.goK rfl rfl rfl rfl ?_; apply Nx.of; (first | exact S.l1_0 rfl rfl rfl)) | (refine RT.goK rfl rfl rfl rfl ?_; refine Nx.of (S.load1c rfl rfl ((lookM_tl (by omega)).trans hy') rfl) ?_) | (refine RT.goK rfl rfl rfl rfl ?_; apply Nx.of; (first | exact S.assign | exact S.fieldAddr rfl rfl rfl | exact S.eql | exact S.box)))
  (first | refine rt_go rfl ?_)
  exact dB_iff Iff.rfl
theorem blame_ok (h : PbIn B a1 a2 p q m c) (hok : stsOk B) (hw : weaOk B) : PrOK B 74 [.ptr p 0] [] m c (blP B) := fun t ht m' c' hs fl => blame_at (h.sub hs) hok t (TruB.of hok hw ht) fl
set_option maxRecDepth 100000 in
set_option maxHeartbeats 4000000 in
theorem first1_ok {y z x : Nat} {i n : Nat} (h : PbIn B a1 a2 p q m c) (hok : stsOk B) (hw : weaOk B) (hi : i < B.ns) (hy : lookM m y = some (.cells [.ptr p 0, .gs x n])) (hyc : y < c) (hz : lookM m z = some (.cells [.int .i64 (i : Int)])) (hzc : z < c) : PrOK B 102 [] [.ptr y 0, .ptr z 0] m c (fun t => 0 < ltV B i t) := fun t ht m' c' hs fl => by
  have hy' : lookM m' y = some (.cells [.ptr p 0, .gs x n]) := (hs.eq y hyc).trans hy
  have hz' : lookM m' z = some (.cells [.int .i64 (i : Int)]) := (hs.eq z hzc).trans hz
  have hle := hs.le
  have hb := (h.sub hs).sub (Sub.refl.cons (o := some (.cells (trV t).cells)) (Nat.le_refl _) (Nat.le_succ _))
  refine CanS.here (CanS.mk Try.func102 rfl rfl rfl ?_) (.bool _) fl
  repeat' (first | refine RT.nil ?_ | refine sq_n ?_ | refine Tr.seq ?_ | refine Tr.region ?_ | refine Tr.ret ?_ | (refine RT.goK rfl rfl rfl rfl ?_; apply Nx.of; (first | exact S.lN_0 rfl rfl rfl)) | (refine RT.goK rfl rfl rfl rfl ?_; refine Nx.of (S.load1c rfl rfl ((lookM_tl (by omega)).trans hy') rfl) ?_) | (refine RT.goK rfl rfl rfl rfl ?_; refine Nx.of (S.load1c rfl rfl ((lookM_tl (by omega)).trans hz') rfl) ?_) | (refine RT.call rfl rfl rfl (late_at hb hok t (TruB.of hok hw ht) i hi _) rfl rfl (Nat.le_refl _) ?_) | (refine RT.goK rfl rfl rfl rfl ?_; apply Nx.of; (first | exact S.assign | exact S.fieldAddr rfl rfl rfl | exact S.gtr | exact S.box)))
  (first | refine rt_go rfl ?_)
  exact dB_iff Iff.rfl
end

theorem whV_ne {B : CBook} {pr : Tru → Prop} (hW : Ws B ≠ []) : whV B pr ≠ 0 ↔ ∃ t ∈ Ws B, pr t := by
  by_cases h : ∀ t ∈ Ws B, pr t
  · rw [whV_2 h]
    obtain ⟨t, ht⟩ := List.exists_mem_of_ne_nil _ hW
    exact ⟨fun _ => ⟨t, ht, h t ht⟩, fun _ => by decide⟩
  · by_cases h' : ∃ t ∈ Ws B, pr t
    · rw [whV_1 h h']; exact ⟨fun _ => h', fun _ => by decide⟩
    · rw [whV_0 h h']; exact ⟨fun k => absurd rfl k, fun k => absurd k h'⟩
theorem whV_all {B : CBook} {pr : Tru → Prop} : whV B pr = 2 ↔ ∀ t ∈ Ws B, pr t := by
  by_cases h : ∀ t ∈ Ws B, pr t
  · exact ⟨fun _ => h, fun _ => whV_2 h⟩
  · by_cases h' : ∃ t ∈ Ws B, pr t
    · rw [whV_1 h h']; exact ⟨fun k => (by cases k), fun k => absurd k h⟩
    · rw [whV_0 h h']; exact ⟨fun k => (by cases k), fun k => absurd k h⟩

/-- A set, number by number. -/
noncomputable def setV (p : Nat → Prop) : Nat → Int
  | 0 => 0
  | k + 1 => bif dB (p k) then orI (setV p k) (1 * 2 ^ k) else setV p k
theorem setV_t {p : Nat → Prop} {k : Nat} (h : p k) : orI (setV p k) (1 * 2 ^ k) = setV p (k + 1) := by rw [setV, dB_tt h]; rfl
theorem setV_f {p : Nat → Prop} {k : Nat} (h : ¬ p k) : setV p k = setV p (k + 1) := by rw [setV, dB_ff h]; rfl
def weaP (B : CBook) (k : Nat) : Prop := ∃ t ∈ Ws B, t.w = k

set_option maxRecDepth 100000 in
set_option maxHeartbeats 4000000 in
theorem weathers_can (B : CBook) (a1 a2 : AV) (h1 : IsSl a1 B.ns 0) (h2 : IsSl a2 B.nc 1) (hW : Ws B ≠ []) (hlen : (Ws B).length ≤ 5184) : CanS 0 Try.prog 72 6 [.agg [.ptr 2 0, .gs 4 (wths B 0).length]] [(0, some (oSt B)), (1, some (oCk B)), (2, some (.cells (pbC B a1 a2 3))), (4, some (oWs B)), (5, some (.cells [.ptr 2 0, .gs 4 (wths B 0).length]))] 6 fun v _ _ => v = .int .i64 (setV (weaP B) 3) := by
  refine CanS.mk Try.func72 rfl rfl rfl ?_
  repeat' (first | refine RT.nil ?_ | refine sq_n ?_ | refine Tr.seq ?_ | refine Tr.region ?_ | refine Tr.block ?_ | (refine RT.goK rfl rfl rfl rfl ?_; apply Nx.of; (first | exact S.move | exact S.assign | exact S.box)))
  refine Tr.loop (fun k : Nat => stL Try.f72.ntmps [] [(1, .ptr 6 0), (3, .int .i64 (setV (weaP B) k)), (5, .int .i64 k)] ((6, some (.cells [.ptr 2 0, .gs 4 (wths B 0).length])) :: [(0, some (oSt B)), (1, some (oCk B)), (2, some (.cells (pbC B a1 a2 3))), (4, some (oWs B)), (5, some (.cells [.ptr 2 0, .gs 4 (wths B 0).length]))]) 7) (fun k => k ≤ 3) (fun k => 3 - k) 0 (Nat.zero_le _) (by (refine Wk.same (by decide) (by decide) (by decide) (by decide) ?_ ?_ rfl; all_goals ((try simp only [allL, allM]); (repeat' (first | exact trivial | refine And.intro ?_ ?_)); all_goals (first | rfl | exact ren_ro _ _ _ | exact ren_grown _ _ _ _ | exact pbc_ren h1 h2 (nm_lt (by decide)) (nm_lt (by decide)) (nm_lt (by decide)) | decide)))) (fun k hk => ?_)
  by_cases hlt : k < 3
  · have hlt' : (k : Int) < 3 := by omega
    have hs64 : In64 (1 * 2 ^ k) := by
      obtain rfl | rfl | rfl : k = 0 ∨ k = 1 ∨ k = 2 := by omega
      all_goals (unfold In64; decide)
    repeat' (first | refine RT.nil ?_ | refine sq_n ?_ | refine Tr.seq ?_ | refine Tr.region ?_ | refine Tr.cond_t rfl ?_ | refine Tr.cond_d rfl (fun _ => ?_) (fun _ => ?_) | refine Tr.skip ?_ | refine Tr.block ?_ | refine blk_n ?_ | (refine RT.goK rfl rfl rfl rfl ?_; apply Nx.of; (first | exact S.lss_t hlt' | exact S.shl (by omega) hs64 | exact S.or)) | (refine RT.call rfl rfl rfl (where_at (p := 2) (x := 4) rfl (by decide) hlen (weathers1_ok (y := 7) (k := (k : Int)) rfl (by decide)) _) rfl rfl (Nat.le_refl _) ?_) | (refine RT.goK rfl rfl rfl rfl ?_; apply Nx.of; (first | exact S.move | exact S.assign | exact S.load1c rfl rfl rfl rfl | exact S.loadNc rfl rfl rfl rfl | exact S.neq | exact S.alloc rfl | exact S.add_one (by omega) | exact S.makeFunc)) | (refine RT.goK0 rfl rfl rfl ?_; apply Nx.of; (first | exact S.store rfl rfl rfl rfl rfl rfl)))
    · have e1 := setV_t (p := weaP B) (k := k) ((whV_ne hW).1 (by assumption))
      refine lp_n (k + 1) hlt (by omega) (by (refine Wk.same (by decide) (by decide) (by decide) (by decide) ?_ ?_ rfl; all_goals ((try simp only [allL, allM]); (repeat' (first | exact trivial | refine And.intro ?_ ?_)); all_goals (first | rfl | exact congrArg some (congrArg (AV.int .i64) (by omega)) | exact ren_ro _ _ _ | exact ren_grown _ _ _ _ | exact pbc_ren h1 h2 (nm_lt (by decide)) (nm_lt (by decide)) (nm_lt (by decide)) | decide))))
    · have e1 := setV_f (p := weaP B) (k := k) (fun hp => absurd ((whV_ne hW).2 hp) (by assumption))
      refine lp_n (k + 1) hlt (by omega) (by (refine Wk.same (by decide) (by decide) (by decide) (by decide) ?_ ?_ rfl; all_goals ((try simp only [allL, allM]); (repeat' (first | exact trivial | refine And.intro ?_ ?_)); all_goals (first | rfl | exact congrArg some (congrArg (AV.int .i64) (by omega)) | exact ren_ro _ _ _ | exact ren_grown _ _ _ _ | exact pbc_ren h1 h2 (nm_lt (by decide)) (nm_lt (by decide)) (nm_lt (by decide)) | decide))))
  · have hlt' : ¬ (k : Int) < 3 := by omega
    obtain rfl : k = 3 := by omega
    repeat' (first | refine RT.nil ?_ | refine sq_n ?_ | refine Tr.seq ?_ | refine Tr.region ?_ | refine Tr.cond_f rfl ?_ | refine Tr.ret ?_ | refine Tr.exit ?_ | refine sq_x ?_ | refine blk_hit rfl ?_ | refine lp_x ?_ | (refine RT.goK rfl rfl rfl rfl ?_; (refine Nx.of (S.lss_f hlt') ?_)) | (refine RT.goK rfl rfl rfl rfl ?_; apply Nx.of; (first | exact S.move | exact S.assign)))
    (first | refine rt_go rfl ?_)
    rfl
end Go.Proofs.Ytlnmcadbmpiopaa

/- Package claim: Weather, Blame, Pays, First, Fits, Right. -/
namespace Go.Proofs.Ytlnmcadbmpiopaa
open Go Go.Ev

theorem KnIn.k {B : CBook} {a1 a2 : AV} {p q x z : Nat} {m : List (Nat × Option AObj)} {c : Nat} (h : KnIn B a1 a2 p q x z [.ptr p 0, .gs x (wths B 0).length] m c) : Entry 0 (ofM m) c [.agg [.ptr p 0, .gs x (wths B 0).length]] [(0, some (oSt B)), (1, some (oCk B)), (2, some (.cells (pbC B a1 a2 3))), (4, some (oWs B)), (5, some (.cells [.ptr 2 0, .gs 4 (wths B 0).length]))] 6 [.agg [.ptr 2 0, .gs 4 (wths B 0).length]] :=
  h.entry [.ptr 2 0, .gs 4 (wths B 0).length] [.agg [.ptr 2 0, .gs 4 (wths B 0).length]] _ rfl rfl
theorem weathers_at {B : CBook} {a1 a2 : AV} {p q x z : Nat} {m : List (Nat × Option AObj)} {c : Nat} (h : KnIn B a1 a2 p q x z [.ptr p 0, .gs x (wths B 0).length] m c) (hW : Ws B ≠ []) (hlen : (Ws B).length ≤ 5184) (fl : Nat) : OkAt 0 Try.prog fl 72 [.agg [.ptr p 0, .gs x (wths B 0).length]] (ofM m) c (.int .i64 (setV (weaP B) 3)) (ofM m) c :=
  (weathers_can B a1 a2 h.pb.h1 h.pb.h2 hW hlen).pure (.int _ _) h.k fl

noncomputable def paV (B : CBook) : Int := if whV B (blP B) = 2 then spL (owV B) (Ws B) else 0
set_option maxRecDepth 100000 in
set_option maxHeartbeats 4000000 in
theorem pays_can (B : CBook) (a1 a2 : AV) (h1 : IsSl a1 B.ns 0) (h2 : IsSl a2 B.nc 1) (hB : bkOk B) (hW : Ws B ≠ []) : CanS 0 Try.prog 77 6 [.agg [.ptr 2 0, .gs 4 (wths B 0).length]] [(0, some (oSt B)), (1, some (oCk B)), (2, some (.cells (pbC B a1 a2 3))), (4, some (oWs B)), (5, some (.cells [.ptr 2 0, .gs 4 (wths B 0).length]))] 6 fun v _ _ => v = .int .i64 (paV B) := by
  have hlen := wths_len hB.1
  refine CanS.mk Try.func77 rfl rfl rfl ?_
  repeat' (first | refine RT.nil ?_ | refine sq_n ?_ | refine Tr.seq ?_ | refine Tr.region ?_ | refine Tr.cond_d rfl (fun _ => ?_) (fun _ => ?_) | refine Tr.skip ?_ | refine Tr.ret ?_ | refine sq_r ?_ | (refine RT.call rfl rfl rfl (where_at (p := 2) (x := 4) rfl (by decide) hlen (blame_ok (p := 2) (q := 3) ⟨h1, h2, rfl, rfl, rfl, by decide, by decide, by decide⟩ hB.1 hB.2.1) _) rfl rfl (Nat.le_refl _) ?_) | (refine RT.call rfl rfl rfl (span_at (p := 2) (q := 3) (x := 4) (z := 5) (ys := [.ptr 2 0, .gs 4 (wths B 0).length]) ⟨⟨h1, h2, rfl, rfl, rfl, by decide, by decide, by decide⟩, rfl, by decide, rfl, by decide, by decide⟩ hW hlen false _ [] [.ptr 2 0, .gs 4 (wths B 0).length] [] rfl rfl (fun σ hσ => by simp only [AV.rens, AV.ren, hσ 2 (by omega), hσ 4 (by omega)]) rfl (fun _ _ => rfl) rfl (owV B) (owes_num B a1 a2 hB.1 hB.2.1 hB.2.2.2 _) _) rfl rfl (Nat.le_refl _) ?_) | (refine RT.goK rfl rfl rfl rfl ?_; apply Nx.of; (first | exact S.assign | exact S.load1c rfl rfl rfl rfl | exact S.loadNc rfl rfl rfl rfl | exact S.fieldAddr rfl rfl rfl | exact S.neq | exact S.box | exact S.build rfl rfl rfl | exact S.makeFunc | exact S.field1 rfl rfl rfl rfl rfl rfl rfl)))
  · (first | refine rt_go rfl ?_)
    unfold paV
    rw [if_neg (by assumption)]
    rfl
  · (first | refine rt_go rfl ?_)
    have : whV B (blP B) = 2 := Classical.byContradiction fun k => (by assumption : ¬ ¬ whV B (blP B) = 2) k
    unfold paV
    rw [if_pos this]
    rfl
theorem pays_at {B : CBook} {a1 a2 : AV} {p q x z : Nat} {m : List (Nat × Option AObj)} {c : Nat} (h : KnIn B a1 a2 p q x z [.ptr p 0, .gs x (wths B 0).length] m c) (hB : bkOk B) (hW : Ws B ≠ []) (fl : Nat) : OkAt 0 Try.prog fl 77 [.agg [.ptr p 0, .gs x (wths B 0).length]] (ofM m) c (.int .i64 (paV B)) (ofM m) c :=
  (pays_can B a1 a2 h.pb.h1 h.pb.h2 hB hW).pure (.int _ _) h.k fl

/-- The first stage at which the coach surely is late. -/
def fsP (B : CBook) (i : Nat) : Prop := ∀ t ∈ Ws B, 0 < ltV B i t
noncomputable def fsN (B : CBook) : Nat := fstN (fsP B) B.ns B.ns
noncomputable def fsV (B : CBook) : Int := if fsN B < B.ns then fsN B else 0
noncomputable def fsE (B : CBook) : Int := if fsN B < B.ns then 0 else 4
set_option maxRecDepth 100000 in
set_option maxHeartbeats 4000000 in
theorem first_can (B : CBook) (a1 a2 : AV) (h1 : IsSl a1 B.ns 0) (h2 : IsSl a2 B.nc 1) (hB : bkOk B) (hW : Ws B ≠ []) : CanS 0 Try.prog 78 6 [.agg [.ptr 2 0, .gs 4 (wths B 0).length]] [(0, some (oSt B)), (1, some (oCk B)), (2, some (.cells (pbC B a1 a2 3))), (4, some (oWs B)), (5, some (.cells [.ptr 2 0, .gs 4 (wths B 0).length]))] 6 fun v _ _ => v = .tup [.int .i64 (fsV B), .int .i64 (fsE B)] := by
  have hlen := wths_len hB.1
  have hn := hB.1.1
  refine CanS.mk Try.func78 rfl rfl rfl ?_
  repeat' (first | refine RT.nil ?_ | refine sq_n ?_ | refine Tr.seq ?_ | refine Tr.region ?_ | refine Tr.block ?_ | (refine RT.goK rfl rfl rfl rfl ?_; apply Nx.of; (first | exact S.move | exact S.assign | exact S.load1c rfl rfl rfl rfl | exact S.fieldAddr rfl rfl rfl | exact S.box | exact S.nilCheck)) | (refine RT.goK rfl rfl rfl rfl ?_; apply Nx.of; (first | exact S.len_sl rfl rfl rfl (by assumption))))
  refine Tr.loop (fun k : Nat => stL Try.f78.ntmps [] [(1, .ptr 6 0), (11, .int .i64 B.ns), (12, .int .i64 k)] ((6, some (.cells [.ptr 2 0, .gs 4 (wths B 0).length])) :: [(0, some (oSt B)), (1, some (oCk B)), (2, some (.cells (pbC B a1 a2 3))), (4, some (oWs B)), (5, some (.cells [.ptr 2 0, .gs 4 (wths B 0).length]))]) 7) (fun k => k ≤ B.ns ∧ ∀ i, i < k → ¬ fsP B i) (fun k => B.ns - k) 0 ⟨Nat.zero_le _, fun i hi => by omega⟩ (by (refine Wk.same (by decide) (by decide) (by decide) (by decide) ?_ ?_ rfl; all_goals ((try simp only [allL, allM]); (repeat' (first | exact trivial | refine And.intro ?_ ?_)); all_goals (first | rfl | exact ren_ro _ _ _ | exact ren_grown _ _ _ _ | exact pbc_ren h1 h2 (nm_lt (by decide)) (nm_lt (by decide)) (nm_lt (by decide)) | decide)))) (fun k hk => ?_)
  obtain ⟨hk, hno⟩ := hk
  by_cases hlt : k < B.ns
  · have hlt' : (k : Int) < B.ns := by omega
    repeat' (first | refine RT.nil ?_ | refine sq_n ?_ | refine Tr.seq ?_ | refine Tr.region ?_ | refine Tr.cond_t rfl ?_ | refine Tr.cond_d rfl (fun _ => ?_) (fun _ => ?_) | refine Tr.skip ?_ | refine Tr.ret ?_ | refine sq_r ?_ | refine Tr.block ?_ | refine blk_n ?_ | refine blk_r ?_ | refine lp_r ?_ | (refine RT.goK rfl rfl rfl rfl ?_; refine Nx.of (S.lss_t hlt') ?_) | (refine RT.call rfl rfl rfl (where_at (p := 2) (x := 4) rfl (by decide) hlen (first1_ok (p := 2) (q := 3) (y := 6) (z := 7) (i := k) ⟨h1, h2, rfl, rfl, rfl, by decide, by decide, by decide⟩ hB.1 hB.2.1 hlt rfl (by decide) rfl (by decide)) _) rfl rfl (Nat.le_refl _) ?_) | (refine RT.goK rfl rfl rfl rfl ?_; apply Nx.of; (first | exact S.move | exact S.assign | exact S.load1c rfl rfl rfl rfl | exact S.loadNc rfl rfl rfl rfl | exact S.eql | exact S.alloc rfl | exact S.add_one (by omega) | exact S.makeFunc)) | (refine RT.goK0 rfl rfl rfl ?_; apply Nx.of; (first | exact S.store rfl rfl rfl rfl rfl rfl)))
    · (first | refine rt_go rfl ?_)
      have h3 : fsP B k := whV_all.1 (by assumption)
      have h4 : fsN B = k := fst_eq hlt hno h3
      unfold fsV fsE
      rw [h4, if_pos hlt, if_pos hlt]
      rfl
    · refine lp_n (k + 1) ⟨hlt, fun i hi => ?_⟩ (by omega) (by (refine Wk.same (by decide) (by decide) (by decide) (by decide) ?_ ?_ rfl; all_goals ((try simp only [allL, allM]); (repeat' (first | exact trivial | refine And.intro ?_ ?_)); all_goals (first | rfl | exact ren_ro _ _ _ | exact ren_grown _ _ _ _ | exact pbc_ren h1 h2 (nm_lt (by decide)) (nm_lt (by decide)) (nm_lt (by decide)) | decide))))
      rcases Nat.lt_succ_iff_lt_or_eq.1 hi with h | rfl
      · exact hno i h
      · exact fun h3 => absurd (whV_all.2 h3) (by assumption)
  · have hlt' : ¬ (k : Int) < B.ns := by omega
    repeat' (first | refine RT.nil ?_ | refine sq_n ?_ | refine Tr.seq ?_ | refine Tr.region ?_ | refine Tr.cond_f rfl ?_ | refine Tr.ret ?_ | refine Tr.exit ?_ | refine sq_x ?_ | refine blk_hit rfl ?_ | refine lp_x ?_ | (refine RT.goK rfl rfl rfl rfl ?_; refine Nx.of (S.lss_f hlt') ?_) | (refine RT.goK rfl rfl rfl rfl ?_; apply Nx.of; (first | exact S.assign)))
    (first | refine rt_go rfl ?_)
    have h4 : fsN B = B.ns := fst_none fun i hi => hno i (by omega)
    unfold fsV fsE
    rw [h4, if_neg (by omega), if_neg (by omega)]
    rfl
theorem first_at {B : CBook} {a1 a2 : AV} {p q x z : Nat} {m : List (Nat × Option AObj)} {c : Nat} (h : KnIn B a1 a2 p q x z [.ptr p 0, .gs x (wths B 0).length] m c) (hB : bkOk B) (hW : Ws B ≠ []) (fl : Nat) : OkAt 0 Try.prog fl 78 [.agg [.ptr p 0, .gs x (wths B 0).length]] (ofM m) c (.tup [.int .i64 (fsV B), .int .i64 (fsE B)]) (ofM m) c :=
  (first_can B a1 a2 h.pb.h1 h.pb.h2 hB hW).pure (fun _ => rfl) h.k fl

/-! What is exported. -/
/-- A number that is answered, of a valid book that can be true. -/
noncomputable def numA (B : CBook) (n : Int) : AV := if ansE B True = 0 then .tup [.int .i64 n, .int .i64 0] else .tup [.int .i64 0, .int .i64 (ansE B True)]
theorem numA_err {B : CBook} {n e : Int} (h : ansE B True = e) (he : e ≠ 0) : numA B n = .tup [.int .i64 0, .int .i64 e] := by unfold numA; rw [h, if_neg he]
theorem numA_ok {B : CBook} {n : Int} (h : ansE B True = 0) : numA B n = .tup [.int .i64 n, .int .i64 0] := by unfold numA; rw [if_pos h]
set_option maxRecDepth 100000 in
set_option maxHeartbeats 4000000 in
theorem Weather_can (B : CBook) (a1 a2 : AV) (h1 : IsSl a1 B.ns 0) (h2 : IsSl a2 B.nc 1) (hn : B.ns ≤ 9223372036854775807) : CanS 0 Try.prog 20 2 [bk B a1 a2] [(0, some (oSt B)), (1, some (oCk B))] 2 fun v _ _ => v = numA B (setV (weaP B) 3) := by
  refine CanS.mk Try.func20 rfl rfl rfl ?_
  by_cases hB : bkOk B
  · by_cases hW : Ws B = []
    · rw [numA_err (ansE_false hB trivial hW) (by decide)]
      repeat' (first | refine RT.nil ?_ | refine sq_n ?_ | refine Tr.seq ?_ | refine Tr.region ?_ | refine Tr.cond_t rfl ?_ | refine Tr.ret ?_ | refine sq_r ?_ | (refine RT.call rfl rfl rfl (learn_false_at ⟨h1, h2, rfl, rfl, by decide⟩ hn hB hW _) rfl rfl (Nat.le_refl _) ?_) | (refine RT.goK rfl rfl rfl rfl ?_; apply Nx.of; (first | exact S.move | exact S.assign | exact S.loadNc rfl rfl rfl rfl | exact S.neq | exact S.box | exact S.alloc rfl | exact S.extract rfl)) | (refine RT.goK0 rfl rfl rfl ?_; apply Nx.of; (first | exact S.store rfl rfl rfl rfl rfl rfl)))
      (first | refine rt_go rfl ?_)
      rfl
    · rw [numA_ok (ansE_ok hB trivial hW)]
      repeat' (first | refine RT.nil ?_ | refine sq_n ?_ | refine Tr.seq ?_ | refine Tr.region ?_ | refine Tr.cond_f rfl ?_ | refine Tr.skip ?_ | refine Tr.ret ?_ | (refine RT.call rfl rfl rfl (learn_at ⟨h1, h2, rfl, rfl, by decide⟩ (fun x o hx => by have := lookM_mem hx; simp at this; omega) hn hB hW _) rfl rfl (by decide) ?_) | (refine RT.call rfl rfl rfl (weathers_at (p := 6) (q := 7) (x := 11) (z := 12) ⟨⟨h1, h2, rfl, rfl, rfl, by decide, by decide, by decide⟩, rfl, by decide, rfl, by decide, by decide⟩ hW (wths_len hB.1) _) rfl rfl (Nat.le_refl _) ?_) | (refine RT.goK rfl rfl rfl rfl ?_; apply Nx.of; (first | exact S.move | exact S.assign | exact S.loadNc rfl rfl rfl rfl | exact S.neq | exact S.box | exact S.alloc rfl | exact S.extract rfl)) | (refine RT.goK0 rfl rfl rfl ?_; apply Nx.of; (first | exact S.store rfl rfl rfl rfl rfl rfl)))
      (first | refine rt_go rfl ?_)
      rfl
  · rw [numA_err (ansE_no hB) (by decide)]
    repeat' (first | refine RT.nil ?_ | refine sq_n ?_ | refine Tr.seq ?_ | refine Tr.region ?_ | refine Tr.cond_t rfl ?_ | refine Tr.ret ?_ | refine sq_r ?_ | (refine RT.call rfl rfl rfl (learn_no_at ⟨h1, h2, rfl, rfl, by decide⟩ hn hB _ _) rfl rfl (Nat.le_refl _) ?_) | (refine RT.goK rfl rfl rfl rfl ?_; apply Nx.of; (first | exact S.move | exact S.assign | exact S.loadNc rfl rfl rfl rfl | exact S.neq | exact S.box | exact S.alloc rfl | exact S.extract rfl)) | (refine RT.goK0 rfl rfl rfl ?_; apply Nx.of; (first | exact S.store rfl rfl rfl rfl rfl rfl)))
    (first | refine rt_go rfl ?_)
    rfl
set_option maxRecDepth 100000 in
set_option maxHeartbeats 4000000 in
theorem Blame_can (B : CBook) (a1 a2 : AV) (h1 : IsSl a1 B.ns 0) (h2 : IsSl a2 B.nc 1) (hn : B.ns ≤ 9223372036854775807) : CanS 0 Try.prog 22 2 [bk B a1 a2] [(0, some (oSt B)), (1, some (oCk B))] 2 fun v _ _ => v = numA B (whV B (blP B)) := by
  refine CanS.mk Try.func22 rfl rfl rfl ?_
  by_cases hB : bkOk B
  · by_cases hW : Ws B = []
    · rw [numA_err (ansE_false hB trivial hW) (by decide)]
      repeat' (first | refine RT.nil ?_ | refine sq_n ?_ | refine Tr.seq ?_ | refine Tr.region ?_ | refine Tr.cond_t rfl ?_ | refine Tr.ret ?_ | refine sq_r ?_ | (refine RT.call rfl rfl rfl (learn_false_at ⟨h1, h2, rfl, rfl, by decide⟩ hn hB hW _) rfl rfl (Nat.le_refl _) ?_) | (refine RT.goK rfl rfl rfl rfl ?_; apply Nx.of; (first | exact S.move | exact S.assign | exact S.loadNc rfl rfl rfl rfl | exact S.neq | exact S.box | exact S.alloc rfl | exact S.extract rfl)) | (refine RT.goK0 rfl rfl rfl ?_; apply Nx.of; (first | exact S.store rfl rfl rfl rfl rfl rfl)))
      (first | refine rt_go rfl ?_)
      rfl
    · rw [numA_ok (ansE_ok hB trivial hW)]
      repeat' (first | refine RT.nil ?_ | refine sq_n ?_ | refine Tr.seq ?_ | refine Tr.region ?_ | refine Tr.cond_f rfl ?_ | refine Tr.skip ?_ | refine Tr.ret ?_ | (refine RT.call rfl rfl rfl (learn_at ⟨h1, h2, rfl, rfl, by decide⟩ (fun x o hx => by have := lookM_mem hx; simp at this; omega) hn hB hW _) rfl rfl (by decide) ?_) | (refine RT.call rfl rfl rfl (where_at (p := 6) (x := 11) rfl (by decide) (wths_len hB.1) (blame_ok (p := 6) (q := 7) ⟨h1, h2, rfl, rfl, rfl, by decide, by decide, by decide⟩ hB.1 hB.2.1) _) rfl rfl (Nat.le_refl _) ?_) | (refine RT.goK rfl rfl rfl rfl ?_; apply Nx.of; (first | exact S.move | exact S.assign | exact S.load1c rfl rfl rfl rfl | exact S.loadNc rfl rfl rfl rfl | exact S.fieldAddr rfl rfl rfl | exact S.neq | exact S.box | exact S.alloc rfl | exact S.extract rfl | exact S.makeFunc)) | (refine RT.goK0 rfl rfl rfl ?_; apply Nx.of; (first | exact S.store rfl rfl rfl rfl rfl rfl)))
      (first | refine rt_go rfl ?_)
      rfl
  · rw [numA_err (ansE_no hB) (by decide)]
    repeat' (first | refine RT.nil ?_ | refine sq_n ?_ | refine Tr.seq ?_ | refine Tr.region ?_ | refine Tr.cond_t rfl ?_ | refine Tr.ret ?_ | refine sq_r ?_ | (refine RT.call rfl rfl rfl (learn_no_at ⟨h1, h2, rfl, rfl, by decide⟩ hn hB _ _) rfl rfl (Nat.le_refl _) ?_) | (refine RT.goK rfl rfl rfl rfl ?_; apply Nx.of; (first | exact S.move | exact S.assign | exact S.loadNc rfl rfl rfl rfl | exact S.neq | exact S.box | exact S.alloc rfl | exact S.extract rfl)) | (refine RT.goK0 rfl rfl rfl ?_; apply Nx.of; (first | exact S.store rfl rfl rfl rfl rfl rfl)))
    (first | refine rt_go rfl ?_)
    rfl
set_option maxRecDepth 100000 in
set_option maxHeartbeats 4000000 in
theorem Pays_can (B : CBook) (a1 a2 : AV) (h1 : IsSl a1 B.ns 0) (h2 : IsSl a2 B.nc 1) (hn : B.ns ≤ 9223372036854775807) : CanS 0 Try.prog 26 2 [bk B a1 a2] [(0, some (oSt B)), (1, some (oCk B))] 2 fun v _ _ => v = numA B (paV B) := by
  refine CanS.mk Try.func26 rfl rfl rfl ?_
  by_cases hB : bkOk B
  · by_cases hW : Ws B = []
    · rw [numA_err (ansE_false hB trivial hW) (by decide)]
      repeat' (first | refine RT.nil ?_ | refine sq_n ?_ | refine Tr.seq ?_ | refine Tr.region ?_ | refine Tr.cond_t rfl ?_ | refine Tr.ret ?_ | refine sq_r ?_ | (refine RT.call rfl rfl rfl (learn_false_at ⟨h1, h2, rfl, rfl, by decide⟩ hn hB hW _) rfl rfl (Nat.le_refl _) ?_) | (refine RT.goK rfl rfl rfl rfl ?_; apply Nx.of; (first | exact S.move | exact S.assign | exact S.loadNc rfl rfl rfl rfl | exact S.neq | exact S.box | exact S.alloc rfl | exact S.extract rfl)) | (refine RT.goK0 rfl rfl rfl ?_; apply Nx.of; (first | exact S.store rfl rfl rfl rfl rfl rfl)))
      (first | refine rt_go rfl ?_)
      rfl
    · rw [numA_ok (ansE_ok hB trivial hW)]
      repeat' (first | refine RT.nil ?_ | refine sq_n ?_ | refine Tr.seq ?_ | refine Tr.region ?_ | refine Tr.cond_f rfl ?_ | refine Tr.skip ?_ | refine Tr.ret ?_ | (refine RT.call rfl rfl rfl (learn_at ⟨h1, h2, rfl, rfl, by decide⟩ (fun x o hx => by have := lookM_mem hx; simp at this; omega) hn hB hW _) rfl rfl (by decide) ?_) | (refine RT.call rfl rfl rfl (pays_at (p := 6) (q := 7) (x := 11) (z := 12) ⟨⟨h1, h2, rfl, rfl, rfl, by decide, by decide, by decide⟩, rfl, by decide, rfl, by decide, by decide⟩ hB hW _) rfl rfl (Nat.le_refl _) ?_) | (refine RT.goK rfl rfl rfl rfl ?_; apply Nx.of; (first | exact S.move | exact S.assign | exact S.loadNc rfl rfl rfl rfl | exact S.neq | exact S.box | exact S.alloc rfl | exact S.extract rfl)) | (refine RT.goK0 rfl rfl rfl ?_; apply Nx.of; (first | exact S.store rfl rfl rfl rfl rfl rfl)))
      (first | refine rt_go rfl ?_)
      rfl
  · rw [numA_err (ansE_no hB) (by decide)]
    repeat' (first | refine RT.nil ?_ | refine sq_n ?_ | refine Tr.seq ?_ | refine Tr.region ?_ | refine Tr.cond_t rfl ?_ | refine Tr.ret ?_ | refine sq_r ?_ | (refine RT.call rfl rfl rfl (learn_no_at ⟨h1, h2, rfl, rfl, by decide⟩ hn hB _ _) rfl rfl (Nat.le_refl _) ?_) | (refine RT.goK rfl rfl rfl rfl ?_; apply Nx.of; (first | exact S.move | exact S.assign | exact S.loadNc rfl rfl rfl rfl | exact S.neq | exact S.box | exact S.alloc rfl | exact S.extract rfl)) | (refine RT.goK0 rfl rfl rfl ?_; apply Nx.of; (first | exact S.store rfl rfl rfl rfl rfl rfl)))
    (first | refine rt_go rfl ?_)
    rfl
noncomputable def fsA (B : CBook) : AV := if ansE B True = 0 then .tup [.int .i64 (fsV B), .int .i64 (fsE B)] else .tup [.int .i64 0, .int .i64 (ansE B True)]
theorem fsA_err {B : CBook} {e : Int} (h : ansE B True = e) (he : e ≠ 0) : fsA B = .tup [.int .i64 0, .int .i64 e] := by unfold fsA; rw [h, if_neg he]
theorem fsA_ok {B : CBook} (h : ansE B True = 0) : fsA B = .tup [.int .i64 (fsV B), .int .i64 (fsE B)] := by unfold fsA; rw [if_pos h]
set_option maxRecDepth 100000 in
set_option maxHeartbeats 4000000 in
theorem First_can (B : CBook) (a1 a2 : AV) (h1 : IsSl a1 B.ns 0) (h2 : IsSl a2 B.nc 1) (hn : B.ns ≤ 9223372036854775807) : CanS 0 Try.prog 28 2 [bk B a1 a2] [(0, some (oSt B)), (1, some (oCk B))] 2 fun v _ _ => v = fsA B := by
  refine CanS.mk Try.func28 rfl rfl rfl ?_
  by_cases hB : bkOk B
  · by_cases hW : Ws B = []
    · rw [fsA_err (ansE_false hB trivial hW) (by decide)]
      repeat' (first | refine RT.nil ?_ | refine sq_n ?_ | refine Tr.seq ?_ | refine Tr.region ?_ | refine Tr.cond_t rfl ?_ | refine Tr.ret ?_ | refine sq_r ?_ | (refine RT.call rfl rfl rfl (learn_false_at ⟨h1, h2, rfl, rfl, by decide⟩ hn hB hW _) rfl rfl (Nat.le_refl _) ?_) | (refine RT.goK rfl rfl rfl rfl ?_; apply Nx.of; (first | exact S.move | exact S.assign | exact S.loadNc rfl rfl rfl rfl | exact S.neq | exact S.box | exact S.alloc rfl | exact S.extract rfl)) | (refine RT.goK0 rfl rfl rfl ?_; apply Nx.of; (first | exact S.store rfl rfl rfl rfl rfl rfl)))
      (first | refine rt_go rfl ?_)
      rfl
    · rw [fsA_ok (ansE_ok hB trivial hW)]
      repeat' (first | refine RT.nil ?_ | refine sq_n ?_ | refine Tr.seq ?_ | refine Tr.region ?_ | refine Tr.cond_f rfl ?_ | refine Tr.skip ?_ | refine Tr.ret ?_ | (refine RT.call rfl rfl rfl (learn_at ⟨h1, h2, rfl, rfl, by decide⟩ (fun x o hx => by have := lookM_mem hx; simp at this; omega) hn hB hW _) rfl rfl (by decide) ?_) | (refine RT.call rfl rfl rfl (first_at (p := 6) (q := 7) (x := 11) (z := 12) ⟨⟨h1, h2, rfl, rfl, rfl, by decide, by decide, by decide⟩, rfl, by decide, rfl, by decide, by decide⟩ hB hW _) rfl rfl (Nat.le_refl _) ?_) | (refine RT.goK rfl rfl rfl rfl ?_; apply Nx.of; (first | exact S.move | exact S.assign | exact S.loadNc rfl rfl rfl rfl | exact S.neq | exact S.box | exact S.alloc rfl | exact S.extract rfl)) | (refine RT.goK0 rfl rfl rfl ?_; apply Nx.of; (first | exact S.store rfl rfl rfl rfl rfl rfl)))
      (first | refine rt_go rfl ?_)
      rfl
  · rw [fsA_err (ansE_no hB) (by decide)]
    repeat' (first | refine RT.nil ?_ | refine sq_n ?_ | refine Tr.seq ?_ | refine Tr.region ?_ | refine Tr.cond_t rfl ?_ | refine Tr.ret ?_ | refine sq_r ?_ | (refine RT.call rfl rfl rfl (learn_no_at ⟨h1, h2, rfl, rfl, by decide⟩ hn hB _ _) rfl rfl (Nat.le_refl _) ?_) | (refine RT.goK rfl rfl rfl rfl ?_; apply Nx.of; (first | exact S.move | exact S.assign | exact S.loadNc rfl rfl rfl rfl | exact S.neq | exact S.box | exact S.alloc rfl | exact S.extract rfl)) | (refine RT.goK0 rfl rfl rfl ?_; apply Nx.of; (first | exact S.store rfl rfl rfl rfl rfl rfl)))
    (first | refine rt_go rfl ?_)
    rfl
theorem Weather_at {B : CBook} {a1 a2 : AV} {m : List (Nat × Option AObj)} {c : Nat} (h : BkIn B a1 a2 m c) (hn : B.ns ≤ 9223372036854775807) (fl : Nat) : OkAt 0 Try.prog fl 20 [bk B a1 a2] (ofM m) c (numA B (setV (weaP B) 3)) (ofM m) c :=
  (Weather_can B a1 a2 h.h1 h.h2 hn).pure (by unfold numA; split <;> exact fun _ => rfl) (h.entry _ fun _ => rfl) fl
theorem Blame_at {B : CBook} {a1 a2 : AV} {m : List (Nat × Option AObj)} {c : Nat} (h : BkIn B a1 a2 m c) (hn : B.ns ≤ 9223372036854775807) (fl : Nat) : OkAt 0 Try.prog fl 22 [bk B a1 a2] (ofM m) c (numA B (whV B (blP B))) (ofM m) c :=
  (Blame_can B a1 a2 h.h1 h.h2 hn).pure (by unfold numA; split <;> exact fun _ => rfl) (h.entry _ fun _ => rfl) fl
theorem Pays_at {B : CBook} {a1 a2 : AV} {m : List (Nat × Option AObj)} {c : Nat} (h : BkIn B a1 a2 m c) (hn : B.ns ≤ 9223372036854775807) (fl : Nat) : OkAt 0 Try.prog fl 26 [bk B a1 a2] (ofM m) c (numA B (paV B)) (ofM m) c :=
  (Pays_can B a1 a2 h.h1 h.h2 hn).pure (by unfold numA; split <;> exact fun _ => rfl) (h.entry _ fun _ => rfl) fl
theorem First_at {B : CBook} {a1 a2 : AV} {m : List (Nat × Option AObj)} {c : Nat} (h : BkIn B a1 a2 m c) (hn : B.ns ≤ 9223372036854775807) (fl : Nat) : OkAt 0 Try.prog fl 28 [bk B a1 a2] (ofM m) c (fsA B) (ofM m) c :=
  (First_can B a1 a2 h.h1 h.h2 hn).pure (by unfold fsA; split <;> exact fun _ => rfl) (h.entry _ fun _ => rfl) fl
end Go.Proofs.Ytlnmcadbmpiopaa

/- What the laws on package claim share: the base's small functions, and whether there is a book. -/
namespace Go.Proofs.Ytlnmcadbmpiopaa
open Go Go.Ev

set_option maxRecDepth 100000 in
theorem Amid_can (n lo hi : Int) : CanS 0 Try.prog 39 0 [.int .i64 n, .int .i64 lo, .int .i64 hi] [] 0 fun v _ _ => v = .bool (decide (lo ≤ n ∧ n ≤ hi)) := by
  refine CanS.mk Try.func39 rfl rfl rfl ?_
  repeat' (first | refine RT.nil ?_ | refine sq_n ?_ | refine Tr.seq ?_ | refine Tr.region ?_ | refine Tr.ret ?_ | (refine RT.splitd rfl rfl (fun _ => ?_) (fun _ => ?_)) | (refine RT.goK rfl rfl rfl rfl ?_; apply Nx.of; (first | exact S.move | exact S.assign | exact S.leq | exact S.pick_tt | exact S.pick_ff)) | (refine RT.no rfl rfl rfl ?_))
  all_goals
    (first | refine rt_go rfl ?_)
    simp [*, retV]
theorem Amid_at (n lo hi : Int) (H : T AObj) (c fl : Nat) : OkAt 0 Try.prog fl 39 [.int .i64 n, .int .i64 lo, .int .i64 hi] H c (.bool (decide (lo ≤ n ∧ n ≤ hi))) H c :=
  (Amid_can n lo hi).pure (.bool _) (.plain fun _ => rfl) fl
set_option maxRecDepth 100000 in
theorem Reach_can (a b : Int) : CanS 0 Try.prog 68 0 [.int .i64 a, .int .i64 b] [] 0 fun v _ _ => v = .agg [.int .i64 a, .int .i64 b] := by
  refine CanS.mk Try.func68 rfl rfl rfl ?_
  repeat' (first | refine RT.nil ?_ | refine sq_n ?_ | refine Tr.seq ?_ | refine Tr.region ?_ | refine Tr.ret ?_ | (refine RT.goK rfl rfl rfl rfl ?_; apply Nx.of; (first | exact S.move | exact S.alloc rfl | exact S.build rfl rfl rfl)) | (refine RT.goK0 rfl rfl rfl ?_; apply Nx.of; (first | exact S.store rfl rfl rfl rfl rfl rfl)))
  (first | refine rt_go rfl ?_)
  rfl
theorem Reach_at (a b : Int) (H : T AObj) (c fl : Nat) : OkAt 0 Try.prog fl 68 [.int .i64 a, .int .i64 b] H c (.agg [.int .i64 a, .int .i64 b]) H c :=
  (Reach_can a b).pure (fun _ => rfl) (.plain fun _ => rfl) fl

/-- Any number, brought below another one. -/
def wrapV (n k : Int) : Int := if k ≤ 0 then 0 else if n.tmod k < 0 then n.tmod k + k else n.tmod k
set_option maxRecDepth 100000 in
theorem Sane_can (lo hi a b d : Int) (h : -100000 ≤ a ∧ b ≤ 100000) : CanS 0 Try.prog 53 0 [.agg [.int .i64 lo, .int .i64 hi], .int .i64 a, .int .i64 b, .int .i64 d] [] 0 fun v _ _ => v = .bool (decide (a ≤ lo ∧ lo ≤ hi ∧ hi ≤ b ∧ hi - lo ≤ d)) := by
  refine CanS.mk Try.func53 rfl rfl rfl ?_
  repeat' (first | refine RT.nil ?_ | refine sq_n ?_ | refine Tr.seq ?_ | refine Tr.region ?_ | refine Tr.ret ?_ | (refine RT.splitd rfl rfl (fun _ => ?_) (fun _ => ?_)) | (refine RT.goK rfl rfl rfl rfl ?_; apply Nx.of; (first | exact S.move | exact S.assign | exact S.load1c rfl rfl rfl rfl | exact S.fieldAddr rfl rfl rfl | exact S.leq | exact S.pick_tt | exact S.pick_ff | exact S.box | exact S.sub (by unfold In64; omega))) | (refine RT.no rfl rfl rfl ?_))
  all_goals
    (first | refine rt_go rfl ?_)
    simp [*, retV]
theorem Sane_at (lo hi a b d : Int) (h : -100000 ≤ a ∧ b ≤ 100000) (H : T AObj) (c fl : Nat) : OkAt 0 Try.prog fl 53 [.agg [.int .i64 lo, .int .i64 hi], .int .i64 a, .int .i64 b, .int .i64 d] H c (.bool (decide (a ≤ lo ∧ lo ≤ hi ∧ hi ≤ b ∧ hi - lo ≤ d))) H c :=
  (Sane_can lo hi a b d h).pure (.bool _) (.plain fun _ => rfl) fl
end Go.Proofs.Ytlnmcadbmpiopaa

/- Whether there is a book of claims, as the laws ask it. -/
namespace Go.Proofs.Ytlnmcadbmpiopaa
open Go Go.Ev

end Go.Proofs.Ytlnmcadbmpiopaa

/- Lists that are copied and changed: append to an empty list, stores into rows that have grown; slices as windows. -/
namespace Go.Ev
open Go

section
variable {P : Program} {fl c : Nat} {m : List (Nat × Option AObj)} {y y' z : Ty} {t t' : Nat} {x1 x2 : Operand} {v : AV}

theorem S.buildSlice0 [Tab P] (ht : ty P t = some y) (hk : y.kind = 5) (he : ty P y.elem = some z) : OpE P fl (.buildSlice t 0 #[]) [] m c (.sl c 0 0 0) ((c, some (.cells [])) :: m) (c + 1) := by
  refine ⟨rfl, Nat.le_succ _, ?_⟩
  have h0 : Nat.ble (0 * z.size) (2 ^ 24) = true := by simp
  simp only [opA, oBuildSlice, ty_slice ht hk, ty_size he, h0, cond_true, Nat.beq_refl, List.map_nil, List.zip_nil_left, fillA]
  rfl

theorem cut_all {cs : List AV} {k : Nat} (h : cs.length = k) : cut cs 0 k = some cs := by
  unfold cut
  simp only [List.drop_zero, List.take_of_length_le (Nat.le_of_eq h), h, Nat.beq_refl, cond_true]

/-- Nothing, to an empty list. -/
theorem S.append_e0 [Tab P] {ats : Array Nat} {x w : Nat} {ob : AObj} {news : List AV} (hat : ats.toList = [t, t']) (ht : ty P t = some y) (hk : y.kind = 5) (ht' : ty P t' = some y') (hk' : y'.kind = 5) (hz : ty P y.elem = some z) (hzz : (Nat.beq z.zero.cells.length z.size && Nat.ble 1 z.size) = true)
    (hx : lookM m x = some (.cells [])) (hv : IsSl v 0 w) (ho : lookM m w = some ob) (hcs : cellsOf ob = some news) : OpE P fl (.call ⟨.builtin .append, #[x1, x2], ats⟩) [.sl x 0 0 0, v] m c (.sl x 0 0 0) m c := by
  obtain ⟨i, h1, h2, h3⟩ := info_sz hz
  have hcut0 : ∀ cs : List AV, cut cs 0 (0 * i.size) = some [] := fun cs => by rw [Nat.zero_mul]; rfl
  have hce : cellsOf (.cells []) = some [] := rfl
  refine ⟨rfl, Nat.le_refl _, ?_⟩
  show opA P (ofM m) c fl _ _ = _
  rcases hv with rfl | ⟨rfl, _⟩
  · simp only [opA, oCall, builtinA, hat, appendA, ty_slice ht hk, ty_slice ht' hk', h1, rowT hz hzz, sliceCells, getCells, ofM_get, hx, ho, hcs, hce, Option.bind_some, hcut0, Option.map_some, Nat.beq_refl, cond_true]
    rfl
  · simp only [opA, oCall, builtinA, hat, appendA, ty_slice ht hk, ty_slice ht' hk', h1, rowT hz hzz, sliceCells, getCells, ofM_get, hx, hce, Option.bind_some, hcut0, Option.map_some, Nat.beq_refl, cond_true]
    rfl

end
end Go.Ev

/- Package claim: books whose lists lie elsewhere. -/
namespace Go.Proofs.Ytlnmcadbmpiopaa
open Go Go.Ev

/-- A book whose lists lie anywhere in memory. -/
structure BkX (B : CBook) (v1 v2 : AV) (m : List (Nat × Option AObj)) (c : Nat) : Prop where
  ex : ∃ (W : List Wnd) (a1 a2 : AV), W.length = 2 ∧ winOk (ofM m) W [flat (stE B) (List.range B.ns), flat (ckE B) (List.range B.nc)] ∧ ArgW W v1 a1 ∧ ArgW W v2 a2 ∧ IsSl a1 B.ns 0 ∧ IsSl a2 B.nc 1

theorem pls_flat {τ : Type} (enc : τ → List Int) (L : List τ) : Pls (flat enc L) := fun σ => rens_flat enc σ L
/-- One list, where it lies. -/
abbrev LiesAt (m : List (Nat × Option AObj)) (v : AV) (n x : Nat) (cs : List AV) : Prop := IsSl v n x ∧ ∃ o, lookM m x = some o ∧ (cs = [] ∨ cellsOf o = some cs)
section
variable {B : CBook} {v1 v2 : AV} {m : List (Nat × Option AObj)} {c : Nat}
end
end Go.Proofs.Ytlnmcadbmpiopaa

/- Calls that spoil one object; calls that leave new names behind, in regions whose order is open. -/
namespace Go.Ev
open Go

section
variable {G : Nat} {P : Program} {ρ ρ1 : Rho} {fl c c' : Nat} {w w' : World}

theorem Good.cons {H : T AObj} {m : List (Nat × Option AObj)} {c1 c2 d : Nat} {o : AObj} (h : Good fl c H c1 (ofM m)) (hd : c ≤ d) (hd2 : d < c2) (hc : c1 ≤ c2) : Good fl c H c2 (ofM ((d, some o) :: m)) := by
  refine ⟨Nat.le_trans h.count hc, fun x h1 h2 => ?_, fun hdm x hx => ?_⟩
  · have := h.keep x h1 h2
    rw [ofM_get] at this ⊢
    rw [lookM_tl (by omega)]
    exact this
  · by_cases e : x = d
    · omega
    · have := h.dom hdm x (by rw [ofM_get] at hx ⊢; rwa [lookM_tl e] at hx)
      omega
open Classical in
/-- One call, in one memory. -/
noncomputable def pinX (f : Nat) (args : List AV) (m : List (Nat × Option AObj)) (c : Nat) (v : AV) (m' : List (Nat × Option AObj)) (c' : Nat) : CallFn := fun _ f1 args1 H1 c1 =>
  if f1 = f ∧ args1 = args ∧ H1 = ofM m ∧ c1 = c then some (v, ofM m', c') else none
theorem pinX_at (f : Nat) (args : List AV) (m : List (Nat × Option AObj)) (c : Nat) (v : AV) (m' : List (Nat × Option AObj)) (c' fl : Nat) : pinX f args m c v m' c' fl f args (ofM m) c = some (v, ofM m', c') := by
  unfold pinX; rw [if_pos ⟨rfl, rfl, rfl, rfl⟩]
theorem pinX_calm {f : Nat} {args : List AV} {m m' : List (Nat × Option AObj)} {v : AV} (h : ∀ fl, OkAt G P fl f args (ofM m) c v (ofM m') c') (hg : ∀ fl, Good fl c (ofM m) c' (ofM m')) : CalmC G P (pinX f args m c v m' c') := by
  refine ⟨fun fl f1 args1 H1 c1 v' H' c2 e => ?_, fun fl f1 args1 H1 c1 v' H' c2 e => ?_⟩
  · unfold pinX at e
    split at e
    · rename_i hh
      obtain ⟨rfl, rfl, rfl, rfl⟩ := hh
      simp only [Option.some.injEq, Prod.mk.injEq] at e
      obtain ⟨rfl, rfl, rfl⟩ := e
      exact h _
    · cases e
  · unfold pinX at e
    split at e
    · rename_i hh
      obtain ⟨rfl, rfl, rfl, rfl⟩ := hh
      simp only [Option.some.injEq, Prod.mk.injEq] at e
      obtain ⟨rfl, rfl, rfl⟩ := e
      exact hg _
    · cases e

variable {n : Nat} {dfs : List Nat} {l : List (Nat × AV)} {o : Oper} {call round : CallFn} {ops : List Oper} {is : List OpI} {rs us : List Rec} {un : List Nat} {wd : Bool} {v : AV} {d : Nat} {K : St → Prop} {m m' : List (Nat × Option AObj)}
theorem RD.callX [hP : PG P G] {f : Nat} {first cap args : List AV} (hk : kindA o.op = .heavy) (hc : isCall o.op = true) (hr : recL rs un = some us) (hw : wantedL ops o l = some true) (hv : operandsL G l (opArgs o.op) = some (.fn f first cap :: args)) (hd : o.dst = some d) (hn : Nat.blt d n = true)
    (hu : us.all (fun r => !r.heavy && r.st.isNone) = true) (hh : (us.flatMap fun r => (List.range (r.hi - r.lo)).map (r.lo + ·)) = [])
    (hs : ∀ fl', call fl' f (first ++ args ++ cap) (ofM m) c = some (v, ofM m', c')) (hsame : wd = true → us.all (sameR P (ofM m) (ofM m')) = true)
    (h : RD G P fl call round ops is (⟨true, none, c, c', none, bif wd then some (ofM m, ofM m') else none, none⟩ :: rs) (stL n dfs ((d, v) :: l) m' c') K) : RD G P fl call round ops (⟨o, un, wd⟩ :: is) rs (stL n dfs l m c) K := by
  refine RD.step (v := v) (m' := m') (c' := c') (rc := ⟨true, none, c, c', none, bif wd then some (ofM m, ofM m') else none, none⟩) hr hw hv ?_ (put_some hn hd) (by rw [hd]; exact h)
  rw [hk]; unfold stD
  have hst : ∀ fl', stepA P call round fl' o.op (.fn f first cap :: args) (ofM m) c = some (v, ofM m', c') := fun fl' => by
    unfold stepA; rw [hc]; exact hs fl'
  simp only [hu, hh, hideA, cond_true]
  cases wd with
  | true => simp only [cond_true, hst, backA, List.foldl_nil, hsame rfl]
  | false => simp only [cond_false, hst, backA, List.foldl_nil]
/-- What was read is still there, where a call adds names. -/
def srOkX (m m' : List (Nat × Option AObj)) : List Rec → Prop
  | [] => True
  | r :: us => (match r.reads with | none => True | some x => ∃ ob, lookM m x = some ob ∧ lookM m' x = some ob ∧ rfO ob = true) ∧ srOkX m m' us
theorem srOkX_all : ∀ {us : List Rec}, srOkX m m' us → us.all (sameR P (ofM m) (ofM m')) = true
  | [], _ => rfl
  | r :: us, h => by
    obtain ⟨h1, h2⟩ := h
    have h3 : sameR P (ofM m) (ofM m') r = true := by
      unfold sameR
      split at h1
      · rename_i e; rw [e]
      · rename_i x e
        obtain ⟨ob, h4, h4', h5⟩ := h1
        rw [e]
        simp only [same_get (getM h4) (getM h4') h5, Bool.true_or]
    rw [List.all_cons, h3, srOkX_all h2]
    rfl
end
end Go.Ev

/- Package claim: Right, Fits. -/
namespace Go.Proofs.Ytlnmcadbmpiopaa
open Go Go.Ev

/-- Whether a book can be true, as it is answered. -/
noncomputable def rtV (B : CBook) : AV := if dB (bkOk B) = true then .tup [.bool (dB (Ws B ≠ [])), .int .i64 0] else .tup [.bool false, .int .i64 60]
/-- Whether a further clock can be right. -/
def ftP (B : CBook) (s r e : Int) : Prop := ∃ t ∈ Ws B, r - e ≤ t.c s.toNat ∧ t.c s.toNat ≤ r + e
noncomputable def ftV (B : CBook) (s r e : Int) : AV := if ansE B (ckOk B s r e) = 0 then .tup [.bool (dB (ftP B s r e)), .int .i64 0] else .tup [.bool false, .int .i64 (ansE B (ckOk B s r e))]
noncomputable def clF (B : CBook) (a1 a2 : AV) (s r e : Int) (v : Bool) : CallFn := one1 79 [bk B a1 a2, .agg [.int .i64 s, .int .i64 r, .int .i64 e]] (.bool v) fun H c => ∃ m, H = ofM m ∧ BkIn B a1 a2 m c
noncomputable def lnF (B : CBook) (a1 a2 : AV) (q : Bool) (x : Int) : CallFn := one1 71 [bk B a1 a2, .bool q] (.tup [.agg [.nilp, .nils], .int .i64 x]) fun H c => ∃ m, H = ofM m ∧ BkIn B a1 a2 m c
end Go.Proofs.Ytlnmcadbmpiopaa

/- What the laws on package claim share, beside the book: spans compared, Reach, Just, Wrap in open regions; a book whose road is smooth. -/
namespace Go.Proofs.Ytlnmcadbmpiopaa
open Go Go.Ev

theorem eqSp (a b e d : Int) : eqA Try.prog 32 (.agg [.int .i64 a, .int .i64 b]) (.agg [.int .i64 e, .int .i64 d]) = some (decide (a = e ∧ b = d)) := by
  have : eqA Try.prog 32 (.agg [.int .i64 a, .int .i64 b]) (.agg [.int .i64 e, .int .i64 d]) = andV (some (decide (a = e))) (andV (some (decide (b = d))) (some true)) := by kernel_rfl
  rw [this, andV1, andV2]
theorem S.neqA_f {P : Program} {fl c t yt : Nat} {m : List (Nat × Option AObj)} {x1 x2 : Operand} {l1 l2 : List AV} {p : Prop} {inst : Decidable p} (h : eqA P t (.agg l1) (.agg l2) = some (@decide p inst)) (hp : p) : OpE P fl (.binOp .neq t x1 x2 yt) [.agg l1, .agg l2] m c (.bool false) m c := by
  have := S.neqA (fl := fl) (c := c) (m := m) (x1 := x1) (x2 := x2) (yt := yt) h
  rwa [show decide (¬ p) = false from decide_eq_false (fun k => k hp)] at this
theorem val_is {u v : AV} {H : T AObj} {c fl f : Nat} {args : List AV} (e : u = v) (h : OkAt 0 Try.prog fl f args H c u H c) : OkAt 0 Try.prog fl f args H c v H c := e ▸ h
/-- The chapter's examples say true. -/
abbrev BillOK : Prop := CanS 0 Try.prog 19 0 [] [] 0 fun v _ _ => v = .bool true

set_option maxRecDepth 100000 in
theorem Just_can (a : Int) : CanS 0 Try.prog 95 0 [.int .i64 a] [] 0 fun v _ _ => v = .agg [.int .i64 a, .int .i64 a] := by
  refine CanS.mk Try.func95 rfl rfl rfl ?_
  repeat' (first | refine RT.nil ?_ | refine sq_n ?_ | refine Tr.seq ?_ | refine Tr.region ?_ | refine Tr.ret ?_ | (refine RT.call rfl rfl rfl (Reach_at _ _ _ _ _) rfl rfl (Nat.le_refl _) ?_) | (refine RT.goK rfl rfl rfl rfl ?_; apply Nx.of; (first | exact S.move | exact S.alloc rfl)) | (refine RT.goK0 rfl rfl rfl ?_; apply Nx.of; (first | exact S.store rfl rfl rfl rfl rfl rfl)))
  (first | refine rt_go rfl ?_)
  rfl
theorem Just_at (a : Int) (H : T AObj) (c fl : Nat) : OkAt 0 Try.prog fl 95 [.int .i64 a] H c (.agg [.int .i64 a, .int .i64 a]) H c :=
  (Just_can a).pure (fun _ => rfl) (.plain fun _ => rfl) fl

noncomputable def reachF : CallFn := famA (α := Int × Int) 68 (fun a => [.int .i64 a.1, .int .i64 a.2]) (fun a => .agg [.int .i64 a.1, .int .i64 a.2]) fun _ _ _ => True
noncomputable def justF : CallFn := famA (α := Int) 95 (fun a => [.int .i64 a]) (fun a => .agg [.int .i64 a, .int .i64 a]) fun _ _ _ => True
theorem justF_calm : CalmC 0 Try.prog justF := famA_calm fun a fl H c _ => Just_at a H c fl
theorem justF_at (a : Int) (fl0 : Nat) (H : T AObj) (c : Nat) : justF fl0 95 [.int .i64 a] H c = some (.agg [.int .i64 a, .int .i64 a], H, c) :=
  famA_at (α := Int) fl0 a trivial fun x h => by
    simp only [List.cons.injEq, AV.int.injEq, true_and, and_true] at h
    subst h
    rfl
noncomputable def wrapF : CallFn := famA (α := Int × Int) 43 (fun a => [.int .i64 a.1, .int .i64 a.2]) (fun a => .int .i64 (wrapV a.1 a.2)) fun a _ _ => a.2 ≤ 1000000
/-- A book whose road costs nothing on the first stages. -/
def smB (B : CBook) (k : Nat) : CBook := { B with rl := fun i => if i < k then 0 else B.rl i, rh := fun i => if i < k then 0 else B.rh i }
end Go.Proofs.Ytlnmcadbmpiopaa

/- A book whose road is smooth: where it lies, and what its truths are. -/
namespace Go.Proofs.Ytlnmcadbmpiopaa
open Go Go.Ev

/-- A book without its clocks. -/
def ncB (B : CBook) : CBook := { B with nc := 0 }
/-- A truth by its parts. -/
def toT (w : Int) (n : Nat) (r c : Nat → Int) : Tru := ⟨w, if 0 < n then r 0 else 0, if 1 < n then r 1 else 0, if 2 < n then r 2 else 0, if 0 < n then c 0 else 0, if 1 < n then c 1 else 0, if 2 < n then c 2 else 0⟩
def sumN (f : Nat → Int) : Nat → Int
  | 0 => 0
  | k + 1 => sumN f k + f k
def chn (B : CBook) (w : Nat) : Nat → Int
  | 0 => B.dl 0 + B.cost w + B.rl 0
  | k + 1 => chn B w k + B.sl k + B.dl (k + 1) + B.cost w + B.rl (k + 1)
end Go.Proofs.Ytlnmcadbmpiopaa

/- Heavy operations that are not calls, whose order beside others is open; and-not. -/
namespace Go.Ev
open Go

section
variable {G : Nat} {P : Program} {fl c c' : Nat} {n : Nat} {dfs : List Nat} {l : List (Nat × AV)} {o : Oper} {call round : CallFn} {ops : List Oper} {is : List OpI} {rs us : List Rec} {un : List Nat} {v : AV} {vs : List AV} {d : Nat} {K : St → Prop} {m m' : List (Nat × Option AObj)}
def andnI (a b : Int) : Int := IntKind.i64.wrap (BitVec.ofInt 64 a &&& ~~~(BitVec.ofInt 64 b)).toNat
theorem S.gtr_f {t s : Nat} {x1 x2 : Operand} {a b : Int} (h : ¬ b < a) : OpE P fl (.binOp .gtr t x1 x2 s) [.int .i64 a, .int .i64 b] m c (.bool false) m c := by
  have := S.gtr (P := P) (fl := fl) (m := m) (c := c) (t := t) (yt := s) (x1 := x1) (x2 := x2) (a := a) (b := b)
  rwa [decide_eq_false h] at this
end
end Go.Ev

/- A book with a further clock: where it lies. -/
namespace Go.Proofs.Ytlnmcadbmpiopaa
open Go Go.Ev

set_option maxRecDepth 100000 in
theorem In_can (s : Int) (n : Nat) (h : n ≤ 62) : CanS 0 Try.prog 38 0 [.int .i64 s, .int .i64 (n : Int)] [] 0 fun v _ _ => v = .bool (dB (hasP s n)) := by
  refine CanS.mk Try.func38 rfl rfl rfl ?_
  repeat' (first | refine RT.nil ?_ | refine sq_n ?_ | refine Tr.seq ?_ | refine Tr.region ?_ | refine Tr.ret ?_ | (refine RT.goK rfl rfl rfl rfl ?_; refine Nx.of (S.shr h) ?_) | (refine RT.goK rfl rfl rfl rfl ?_; apply Nx.of; (first | exact S.move | exact S.assign | exact S.eql | exact S.and)))
  (first | refine rt_go rfl ?_)
  exact dB_iff Iff.rfl
theorem In_at (s : Int) (n : Nat) (h : n ≤ 62) (H : T AObj) (c fl : Nat) : OkAt 0 Try.prog fl 38 [.int .i64 s, .int .i64 (n : Int)] H c (.bool (dB (hasP s n))) H c :=
  (In_can s n h).pure (.bool _) (.plain fun _ => rfl) fl

/-- A book with one clock more. -/
def wiB (B : CBook) (s r e : Int) : CBook := { B with nc := B.nc + 1, ck := fun i => if i < B.nc then B.ck i else s, rd := fun i => if i < B.nc then B.rd i else r, er := fun i => if i < B.nc then B.er i else e }
/-- The name under which the longer list lies. -/
def wiX (B : CBook) : Nat := if B.nc = 0 then 8 else 9
end Go.Proofs.Ytlnmcadbmpiopaa

/- A book with a further clock, a book with one weather: their truths. -/
namespace Go.Proofs.Ytlnmcadbmpiopaa
open Go Go.Ev

/-- A book with one weather. -/
def weB (B : CBook) (w : Nat) : CBook := { B with wea := 1 * 2 ^ w }
end Go.Proofs.Ytlnmcadbmpiopaa

/- Package claim: wrongIn, numbers: what fewest holds against a truth. -/
namespace Go.Proofs.Ytlnmcadbmpiopaa
open Go Go.Ev

/-- The clocks that are wrong in a truth, on the first stages. -/
noncomputable def wnS (B : CBook) (t : Tru) : Nat → Int
  | 0 => 0
  | k + 1 => orI (wnS B t k) (wrV B ((k : Int), t.c k))
def lsS (t : Tru) (L : List (Int × Int)) : Nat → List (Int × Int)
  | 0 => L
  | k + 1 => insL (lsS t L k) ((k : Int), t.c k)
end Go.Proofs.Ytlnmcadbmpiopaa

/- A range over a function whose rounds also read what lies beneath: Tr.range, but that the rounds' memory may name things below their floor. -/
namespace Go.Ev
open Go

/-- What of a memory lies above a floor. -/
def upM (f : Nat) (m : List (Nat × Option AObj)) : List (Nat × Option AObj) := m.filter fun e => Nat.ble f e.1
section
variable {P : Program} {ρ : Rho} {fl cb c cc n p : Nat} {w : World} {l lC : List (Nat × AV)} {ags bd : Code} {m memT : List (Nat × Option AObj)}
variable {σ : Type} {M : σ → List (Nat × Option AObj)} {ok : σ → List AV → Prop} {stp : σ → List AV → σ × Option Code}

end
end Go.Ev

/- Lists of numbers: append, cut to their length. -/
namespace Go.Ev
open Go

section
variable {P : Program} {fl c : Nat} {m : List (Nat × Option AObj)} {y y' z : Ty} {t t' : Nat} {x1 x2 : Operand}

theorem keptI [Tab P] {e : Nat} (h : ty P e = some z) (hk : z.kind = 0) : keptA P e = false := by
  have h1 := ty_kind h
  unfold kindOk at h1
  rw [hk] at h1
  unfold keptA
  split
  · rename_i h2
    replace h1 : okInt P e = true := h1
    unfold okInt at h1
    rw [h2] at h1
    simp at h1
  · rfl
theorem S.append_gsI [Tab P] {ats : Array Nat} {x a n : Nat} {olds news : List AV} (hat : ats.toList = [t, t']) (ht : ty P t = some y) (hk : y.kind = 5) (ht' : ty P t' = some y') (hk' : y'.kind = 5) (hz : ty P y.elem = some z) (hzk : z.kind = 0) (hzz : (Nat.beq z.zero.cells.length z.size && Nat.ble 1 z.size) = true)
    (hb : Nat.ble z.bytes 10000 = true) (ho : lookM m x = some (.cells news)) (hc : cut news 0 (1 * z.size) = some news) (ha : lookM m a = some (.grown olds z.size)) (hf : Nat.ble fl a = true) (hca : cut olds 0 (n * z.size) = some olds) (hn : n ≤ 1000000) (hone : news.all AV.one = true) :
    OpE P fl (.call ⟨.builtin .append, #[x1, x2], ats⟩) [.gs a n, .sl x 0 1 1] m c (.gs c (n + 1)) ((c, some (.grown (olds ++ news) z.size)) :: (a, none) :: m) (c + 1) := by
  obtain ⟨i, h1, h2, h3⟩ := info_sz hz
  have hb' : z.bytes ≤ 10000 := Nat.le_of_ble_eq_true hb
  have hbb : (Nat.ble ((2 * (n + 1) + 1000) * i.bytes) (2 ^ 48) && Nat.ble (n + 1) (2 ^ 62)) = true := by
    rw [h2]
    simp only [Bool.and_eq_true, Nat.ble_eq]
    refine ⟨?_, by omega⟩
    calc (2 * (n + 1) + 1000) * z.bytes ≤ 3000000 * 10000 := Nat.mul_le_mul (by omega) hb'
      _ ≤ 2 ^ 48 := by decide
  refine ⟨rfl, Nat.le_succ _, ?_⟩
  show opA P (ofM m) c fl _ _ = _
  simp only [opA, oCall, builtinA, hat, appendA, ty_slice ht hk, ty_slice ht' hk', h1, rowT hz hzz, sliceCells, getCells, ofM_get, ho, ha, cellsOf, Option.bind_some, h3, hc, hca, Option.map_some, show Nat.beq 1 0 = false from rfl, cond_false, hbb, cond_true, hf, hone, Nat.beq_refl, Bool.and_self]
  rfl
end
end Go.Ev

/- Package claim: the numbers of a set. -/
namespace Go.Proofs.Ytlnmcadbmpiopaa
open Go Go.Ev

/-- The numbers of a set, below a number. -/
noncomputable def numsL (s : Int) : Nat → List Nat
  | 0 => []
  | k + 1 => bif dB (hasP s k) then numsL s k ++ [k] else numsL s k
def natV (l : List Nat) : List AV := (l.map fun k : Nat => (k : Int)).map (AV.int .i64)
/-- A list of numbers that grows under a name. -/
def grV (x : Nat) (l : List Nat) : AV := match l with | [] => .nils | _ :: _ => .gs x l.length
def grM (x : Nat) (l : List Nat) : List (Nat × Option AObj) := match l with | [] => [] | _ :: _ => [(x, some (.grown (natV l) 1))]
/-- A list of numbers that is full. -/
def fuV (x : Nat) (l : List Nat) : AV := match l with | [] => .nils | _ :: _ => .sl x 0 l.length l.length

end Go.Proofs.Ytlnmcadbmpiopaa

/- Lists of numbers compared: by length, then in order. -/
namespace Go.Proofs.Ytlnmcadbmpiopaa
open Go Go.Ev

def cmpI (a b : Int) : Int := if a < b then -1 else if b < a then 1 else 0
def lexC : List Nat → List Nat → Int
  | [], [] => 0
  | [], _ :: _ => -1
  | _ :: _, [] => 1
  | a :: r, b :: q => if cmpI a b = 0 then lexC r q else cmpI a b
/-- How two lists stand to one another: by length, then in order. -/
def cmpL (l q : List Nat) : Int := if cmpI l.length q.length = 0 then lexC l q else cmpI l.length q.length
/-- A full list, where it lies. -/
def LiesF (m : List (Nat × Option AObj)) (x : Nat) (l : List Nat) : Prop := l = [] ∨ lookM m x = some (.grown (natV l) 1)
def winF (x z : Nat) (l : List Nat) : Wnd := match l with | [] => (z, 0, none) | _ :: _ => (x, 0, some l.length)
def argF (i : Nat) (l : List Nat) : AV := match l with | [] => .nils | _ :: _ => .gs i l.length
end Go.Proofs.Ytlnmcadbmpiopaa

/- A call that writes, in one memory, in a region whose order is open. -/
namespace Go.Ev
open Go

section
variable {G : Nat} {P : Program} {fl c c' : Nat} {n : Nat} {dfs : List Nat} {l : List (Nat × AV)} {o : Oper} {call round : CallFn} {ops : List Oper} {is : List OpI} {rs us : List Rec} {un : List Nat} {v : AV} {d : Nat} {K : St → Prop} {m m' : List (Nat × Option AObj)}
open Classical in
/-- One call, in one memory, that writes at the name q and above. -/
noncomputable def pinW (q f : Nat) (args : List AV) (m : List (Nat × Option AObj)) (c : Nat) (v : AV) (m' : List (Nat × Option AObj)) (c' : Nat) : CallFn := fun fl f1 args1 H1 c1 =>
  if f1 = f ∧ args1 = args ∧ H1 = ofM m ∧ c1 = c ∧ fl ≤ q then some (v, ofM m', c') else none
end
end Go.Ev

/- Package claim: wrongIn and numbers at any memory. -/
namespace Go.Proofs.Ytlnmcadbmpiopaa
open Go Go.Ev

end Go.Proofs.Ytlnmcadbmpiopaa

/- Package claim: fewest. -/
namespace Go.Proofs.Ytlnmcadbmpiopaa
open Go Go.Ev

end Go.Proofs.Ytlnmcadbmpiopaa

/- Package claim: the book without its clocks, and its truths: its empty list of clocks lies under any name. -/
namespace Go.Proofs.Ytlnmcadbmpiopaa
open Go Go.Ev

structure PbZ (B : CBook) (a1 : AV) (z p q : Nat) (m : List (Nat × Option AObj)) (c : Nat) : Prop where
  h1 : IsSl a1 B.ns 0
  hn : B.nc = 0
  m1 : lookM m 0 = some (oSt B)
  m2 : lookM m z = some (oCk B)
  m3 : lookM m p = some (.cells (pbC B a1 .nils q))
  hc : 2 ≤ c
  hp : p < c
  hq : q < c
end Go.Proofs.Ytlnmcadbmpiopaa

/- Package claim: fewest. -/
namespace Go.Proofs.Ytlnmcadbmpiopaa
open Go Go.Ev

/-- What the rounds have: whether the list was replaced, the best list, which moments were asked for. -/
abbrev FwS := Bool × List Nat × List (Int × Int)
def fwN (s : FwS) : Nat := if s.1 then 14 else 7
noncomputable def fwM (B : CBook) (a1 a2 : AV) (s : FwS) : List (Nat × Option AObj) := [(8, some (.cells [fuV (fwN s) s.2.1])), (5, some (.cells [.ptr 3 0])), (0, some (oSt B)), (1, some (oCk B)), (3, some (.cells (pbC B a1 a2 4))), (4, some (oMap B s.2.2)), (12, some .dfr)] ++ grM (fwN s) s.2.1
noncomputable def fwL (B : CBook) (t : Tru) : List Nat := numsL (wnS B t B.ns) B.nc
noncomputable def fwS (B : CBook) (s : FwS) (ags : List AV) : FwS × Option Code :=
  (if cmpL (fwL B (decT ags)) s.2.1 < 0 then (true, fwL B (decT ags), lsS (decT ags) s.2.2 B.ns) else (s.1, s.2.1, lsS (decT ags) s.2.2 B.ns), none)
section
variable {B : CBook} {a1 a2 : AV} {n c : Nat} {l : List (Nat × AV)} {m : List (Nat × Option AObj)} {t : Tru} {bs : Bool} {best W : List Nat} {asked : List (Int × Int)} {lo : AObj}
end
/-- What is left of all rounds. -/
noncomputable def fwE (B : CBook) (L0 : List (Int × Int)) : FwS := (foldS (fwS B) ((false, numsL (1 * 2 ^ B.nc - 1) B.nc, L0), none) (Ws (ncB B))).1
end Go.Proofs.Ytlnmcadbmpiopaa

/- Package claim: Wrong. -/
namespace Go.Proofs.Ytlnmcadbmpiopaa
open Go Go.Ev

/-- The clocks that must be wrong. -/
noncomputable def wrongL (B : CBook) : List Nat := (fwE B []).2.1
end Go.Proofs.Ytlnmcadbmpiopaa

/- A call that writes nothing of what was, and leaves new names: from what it looks at. -/
set_option linter.unusedVariables false
namespace Go.Ev
open Go

section
variable {G : Nat} {P : Program} {c k : Nat}

/-- A call that leaves new names alone: its own are counted from where it began. -/
theorem CanS.fresh {f : Nat} {args args0 : List AV} {m0 : List (Nat × Option AObj)} {c0 : Nat} {Qf : AV → T AObj → Nat → Prop} {H H' : T AObj} {v0 : AV} (h : CanS G P f c0 args0 m0 c0 Qf) (he : Entry G H c args m0 c0 args0)
    (hout : ∀ v1 H1 c1, Qf v1 H1 c1 → v1 = v0.ren (fun y => c0 + y) ∧ c1 = c0 + k ∧ ∀ x o, H'.get x = some o → (x < c ∧ H.get x = some o) ∨ ∃ (y : Nat) (o0 : AObj), x = c + y ∧ H1.get (c0 + y) = some (o0.ren fun y => c0 + y) ∧ o = o0.ren fun y => c + y) (fl : Nat) :
    OkAt G P fl f args H c (v0.ren fun y => c + y) H' (c + k) := by
  refine ⟨h.1, fun ρ w us hH hargs r n => ?_⟩
  obtain ⟨ρ0, h0, ha⟩ := he ρ w us hH hargs
  refine (h.2 ρ0 w us h0 ha r n).mono ?_
  rintro e w' ⟨u, v1, H1, c1, ρ1, rfl, hq, h3, h4, h5, h6, h7⟩
  obtain ⟨rfl, rfl, ho⟩ := hout v1 H1 c1 hq
  have hlow : ∀ x p, ρ x = some p → x < c := fun x p hp => by
    rcases Nat.lt_or_ge x c with h | h
    · exact h
    · rw [hH.fresh x h] at hp; cases hp
  have hk : ∀ b, b < w.heap.size → w'.heap[b]? = w.heap[b]? := fun b hb => h7.keep b hb fun x p hx hp => by rw [h0.fresh x hx] at hp; cases hp
  -- new names speak of new blocks
  have hnew : ∀ y q, c0 ≤ y → ρ1 y = some q → w.heap.size ≤ q.b := fun y q hy hq => by
    rcases h6.2 y q hy hq with h | ⟨z, t, hz, ht, hzb⟩
    · exact h
    · rw [h0.fresh z hz] at ht; cases ht
  have hval : ∀ y, (fun x => if x < c then ρ x else ρ1 (c0 + (x - c))) (c + y) = ρ1 (c0 + y) := fun y => by
    show (if c + y < c then ρ (c + y) else ρ1 (c0 + (c + y - c))) = _
    rw [if_neg (by omega), show c0 + (c + y - c) = c0 + y by omega]
  have hcomp : (fun y => (fun x => if x < c then ρ x else ρ1 (c0 + (x - c))) (c + y)) = fun y => ρ1 (c0 + y) := funext hval
  have hle : RLe ρ (fun x => if x < c then ρ x else ρ1 (c0 + (x - c))) := fun x p hp => by
    show (if x < c then ρ x else _) = _
    rw [if_pos (hlow x p hp)]; exact hp
  refine ⟨u, rfl, fun x => if x < c then ρ x else ρ1 (c0 + (x - c)), ?_, ⟨?_, ?_, ?_, ?_, ?_⟩, ⟨hle, ?_, ?_, by omega⟩, ⟨h7.os, h7.tape, h7.output, h7.size, fun b hb _ => hk b hb⟩⟩
  · rw [VR_ren, hcomp]
    exact (VR_ren _ _ _ _).1 h3
  · intro x o hx
    rcases ho x o hx with ⟨hxc, hxo⟩ | ⟨y, o0, rfl, hy1, rfl⟩
    · obtain ⟨p, hp, hob⟩ := hH.obj x o hxo
      exact ⟨p, hle x p hp, (hob.mono hle).world (hk p.b (hH.lt x p hp))⟩
    · obtain ⟨p, hp, hob⟩ := h4.obj _ _ hy1
      refine ⟨p, (hval y).trans hp, ?_⟩
      rw [ObjR_ren, hcomp]
      exact (ObjR_ren _ _ _ _ _).1 hob
  · intro x x' o o' p q hxx hx hx' hp hq hb
    have cross : ∀ x o p y q, H.get x = some o → ρ x = some p → ρ1 (c0 + y) = some q → p.b ≠ q.b := fun x o p y q hx hp hq hb => by
      have h1 := hH.lt x p hp
      have h2 := hnew _ q (by omega) hq
      omega
    rcases ho x o hx with ⟨hxc, hxo⟩ | ⟨y, o0, rfl, hy1, rfl⟩
    · replace hp : (if x < c then ρ x else ρ1 (c0 + (x - c))) = some p := hp
      rw [if_pos hxc] at hp
      rcases ho x' o' hx' with ⟨hxc', hxo'⟩ | ⟨y', o0', rfl, hy1', rfl⟩
      · replace hq : (if x' < c then ρ x' else ρ1 (c0 + (x' - c))) = some q := hq
        rw [if_pos hxc'] at hq
        exact hH.sep x x' o o' p q hxx hxo hxo' hp hq hb
      · exact absurd hb (cross x o p y' q hxo hp ((hval y').symm.trans hq))
    · rcases ho x' o' hx' with ⟨hxc', hxo'⟩ | ⟨y', o0', rfl, hy1', rfl⟩
      · replace hq : (if x' < c then ρ x' else ρ1 (c0 + (x' - c))) = some q := hq
        rw [if_pos hxc'] at hq
        exact absurd hb.symm (cross x' o' q y p hxo' hq ((hval y).symm.trans hp))
      · have g := h4.sep (c0 + y) (c0 + y') _ _ p q (fun e => hxx (by omega)) hy1 hy1' ((hval y).symm.trans hp) ((hval y').symm.trans hq) hb
        exact g.congr (by rw [AObj.ren_share, AObj.ren_share]) (by rw [AObj.ren_share, AObj.ren_share])
  · intro x hx
    show (if x < c then ρ x else ρ1 (c0 + (x - c))) = none
    rw [if_neg (by omega)]
    exact h4.fresh _ (by omega)
  · intro x p hp
    replace hp : (if x < c then ρ x else ρ1 (c0 + (x - c))) = some p := hp
    split at hp
    · exact Nat.lt_of_lt_of_le (hH.lt x p hp) h7.size
    · exact h4.lt _ p hp
  · intro g hg
    obtain ⟨j, hj⟩ := hH.glob g hg
    exact ⟨j, hle g _ hj⟩
  · intro x p hx hp
    replace hp : (if x < c then ρ x else ρ1 (c0 + (x - c))) = some p := hp
    split at hp
    · rw [hx] at hp; cases hp
    · exact .inl (hnew _ p (by omega) hp)
  · intro x p hx hp
    replace hp : (if x < c then ρ x else ρ1 (c0 + (x - c))) = some p := hp
    split at hp
    · rw [hx] at hp; cases hp
    · omega

end
end Go.Ev

/- Package claim: Wrong, for a book whose lists lie anywhere. -/
namespace Go.Proofs.Ytlnmcadbmpiopaa
open Go Go.Ev

/-- Where the list of the clocks that must be wrong lies, from the first new name on. -/
noncomputable def wrO (B : CBook) : Nat := 4 + (fwN (fwE B []) - 5)
end Go.Proofs.Ytlnmcadbmpiopaa

/- Package claim: which clocks must be wrong: plain facts. -/
namespace Go.Proofs.Ytlnmcadbmpiopaa
open Go Go.Ev

/-- A clock is wrong in a truth. -/
def clkW (B : CBook) (t : Tru) (k : Nat) : Prop := ¬ (B.rd k - B.er k ≤ t.c (B.ck k).toNat ∧ t.c (B.ck k).toNat ≤ B.rd k + B.er k)
theorem dB_eq {p : Prop} : dB p = true ↔ p := by
  by_cases h : p
  · rw [dB_tt h]; exact iff_of_true rfl h
  · rw [dB_ff h]; exact iff_of_false (by decide) h
section
variable {B : CBook}
end
end Go.Proofs.Ytlnmcadbmpiopaa

/- ClaimMore: what it needs: Inner, the length of a list, what is known with a clock more. -/
namespace Go.Proofs.Ytlnmcadbmpiopaa
open Go Go.Ev

section
variable {B B' : CBook}
end
end Go.Proofs.Ytlnmcadbmpiopaa

/- Lists of numbers in the reference: Place, Rising, Sooner, Fewer, All. -/
namespace Go.Proofs.Ytlnmcadbmpiopaa
open Go Go.Ev

open Classical in
/-- The first place of a number in a list, or -1. -/
noncomputable def plV (L : List Nat) (n : Nat) : Int := if h : ∃ k : Nat, L[k]? = some n ∧ ∀ j : Nat, j < k → L[j]? ≠ some n then (h.choose : Int) else -1
/-- Strictly increasing, below a number. -/
def RisL (L : List Nat) (n : Nat) : Prop := (∀ k x : Nat, L[k]? = some x → x < n) ∧ ∀ k x y : Nat, L[k]? = some x → L[k + 1]? = some y → x < y
def lastV (L : List Nat) : Nat → Int
  | 0 => -1
  | k + 1 => ((L[k]?.getD 0 : Nat) : Int)
end Go.Proofs.Ytlnmcadbmpiopaa

/- One number more, to an empty list that was just made. -/
namespace Go.Ev
open Go

section
variable {P : Program} {fl c : Nat} {m : List (Nat × Option AObj)} {y y' z : Ty} {t t' : Nat} {x1 x2 : Operand}
/-- One element more, to an empty list that was just made. -/
theorem S.append_e1I [Tab P] {ats : Array Nat} {x w : Nat} {news : List AV} (hat : ats.toList = [t, t']) (ht : ty P t = some y) (hk : y.kind = 5) (ht' : ty P t' = some y') (hk' : y'.kind = 5) (hz : ty P y.elem = some z) (hzk : z.kind = 0) (hzz : (Nat.beq z.zero.cells.length z.size && Nat.ble 1 z.size) = true)
    (hb : Nat.ble z.bytes 10000 = true) (hx : lookM m x = some (.cells [])) (ho : lookM m w = some (.cells news)) (hc : cut news 0 (1 * z.size) = some news) : OpE P fl (.call ⟨.builtin .append, #[x1, x2], ats⟩) [.sl x 0 0 0, .sl w 0 1 1] m c (.gs c 1) ((c, some (.grown news z.size)) :: m) (c + 1) := by
  obtain ⟨i, h1, h2, h3⟩ := info_sz hz
  have hb' : z.bytes ≤ 10000 := Nat.le_of_ble_eq_true hb
  have hbb : (Nat.ble ((2 * (0 + 1) + 1000) * i.bytes) (2 ^ 48) && Nat.ble (0 + 1) (2 ^ 62)) = true := by
    rw [h2]
    simp only [Bool.and_eq_true, Nat.ble_eq]
    omega
  have hcut0 : cut ([] : List AV) 0 (0 * i.size) = some [] := by rw [Nat.zero_mul]; rfl
  refine ⟨rfl, Nat.le_succ _, ?_⟩
  show opA P (ofM m) c fl _ _ = _
  simp only [opA, oCall, builtinA, hat, appendA, ty_slice ht hk, ty_slice ht' hk', h1, rowT hz hzz, sliceCells, getCells, ofM_get, hx, ho, cellsOf, Option.bind_some, h3, hc, hcut0, Option.map_some, show Nat.beq 1 0 = false from rfl, cond_false, hbb, cond_true, keptI hz hzk, growA, show Nat.ble (0 + 1) 0 = false from rfl, List.nil_append]
  have hcut1 : cut ([] : List AV) 0 (0 * z.size) = some [] := by rw [Nat.zero_mul]; rfl
  simp only [hcut1, Option.map_some, List.nil_append, show Nat.beq 1 0 = false from rfl, cond_false, hbb, cond_true, show Nat.ble (0 + 1) 0 = false from rfl]
  rfl
end
end Go.Ev

/- The numbers of a set in the reference; a book without some of its clocks: where they lie. -/
namespace Go.Proofs.Ytlnmcadbmpiopaa
open Go Go.Ev

/-- A list of numbers that was made empty and grows. -/
def alV (x : Nat) (L : List Nat) : AV := match L with | [] => .sl x 0 0 0 | _ :: _ => .gs x L.length
def alO (L : List Nat) : AObj := match L with | [] => .cells [] | _ :: _ => .grown (natV L) 1
/-- The numbers below one that are not of a list. -/
noncomputable def kpL (L : List Nat) (k : Nat) : List Nat := (List.range k).filter fun i => dB (i ∉ L)
def kpM (B : CBook) (x : Nat) (K : List Nat) : List (Nat × Option AObj) := match K with | [] => [] | _ :: _ => [(x, some (.grown (flat (ckE B) K) 3))]
def zbk : CBook := ⟨0, fun _ => 0, fun _ => 0, fun _ => 0, fun _ => 0, fun _ => 0, fun _ => 0, fun _ => 0, 0, fun _ => 0, 0, fun _ => 0, fun _ => 0, fun _ => 0, 0⟩
end Go.Proofs.Ytlnmcadbmpiopaa

/- What ClaimWrong needs: Wrong and without at any memory, the truths of a book without some clocks. -/
namespace Go.Proofs.Ytlnmcadbmpiopaa
open Go Go.Ev

def swT (a : Nat) (j : Nat) : Nat := if j = 0 then a else if j = a then 0 else j
theorem swT_inj {a : Nat} (i j : Nat) (h : swT a i = swT a j) : i = j := by
  unfold swT at h
  (repeat' split at h) <;> omega
/-- A window on a list of numbers, and its value seen through it. -/
structure Lw (m : List (Nat × Option AObj)) (v : AV) (L : List Nat) : Prop where
  ex : ∃ w : Wnd, (∃ o, (ofM m).get w.1 = some o ∧ (natV L = [] ∨ ∃ ca, cellsOf o = some ca ∧ cut ca w.2.1 (natV L).length = some (natV L))) ∧ ∀ (W : List Wnd) (i : Nat), W[i]? = some w → ∃ a, ArgW W v a ∧ IsSl a L.length i
/-- The book with some of its clocks alone. -/
noncomputable def woB (B : CBook) (K : List Nat) : CBook := { B with nc := K.length, ck := fun i => B.ck (K[i]?.getD 0), rd := fun i => B.rd (K[i]?.getD 0), er := fun i => B.er (K[i]?.getD 0) }
section
variable {B : CBook} {K : List Nat}
end
end Go.Proofs.Ytlnmcadbmpiopaa

/- Names of a memory below a number; look-ups behind lists that may be absent. -/
namespace Go.Proofs.Ytlnmcadbmpiopaa
open Go Go.Ev

/-- All names of a memory lie below a number. -/
def Kb (m : List (Nat × Option AObj)) (b : Nat) : Prop := ∀ e ∈ m, e.1 < b
end Go.Proofs.Ytlnmcadbmpiopaa

/- Numbers chosen by numbers: Wrap, Pick, From; Total, Holds. -/
namespace Go.Proofs.Ytlnmcadbmpiopaa
open Go Go.Ev

/-- A list of numbers, element by element. -/
abbrev fE (f : Nat → Int) (n : Nat) : List AV := flat (fun i => [f i]) (List.range n)
theorem fE_len (f : Nat → Int) (n : Nat) : (fE f n).length = n := by rw [flat_len (s := 1) (fun _ => rfl), List.length_range, Nat.mul_one]
theorem fE_succ (f : Nat → Int) (n : Nat) : fE f (n + 1) = fE f n ++ [.int .i64 (f n)] := by
  show flat _ (List.range (n + 1)) = _
  rw [List.range_succ, flat_append, flat_one]; rfl
theorem fE_at (f : Nat → Int) {n k : Nat} (h : k < n) : (fE f n)[k * 1]? = some (.int .i64 (f k)) := by
  rw [Nat.mul_one]
  unfold fE flat
  rw [show (List.map (fun e => List.map (AV.int IntKind.i64) ((fun i => [f i]) e)) (List.range n)) = (List.range n).map fun e => [AV.int .i64 (f e)] from rfl]
  rw [show ((List.range n).map fun e => [AV.int .i64 (f e)]).flatten = (List.range n).map fun e => AV.int .i64 (f e) from by
    induction List.range n with
    | nil => rfl
    | cons a r ih => simp [ih]]
  simp [h]
theorem fE_pls (f : Nat → Int) (n : Nat) : Pls (fE f n) := fun σ => rens_flat _ σ _

/-- The element that a number chooses. -/
def pkV (f : Nat → Int) (n : Nat) (p : Int) : Int := if n = 0 then 0 else f (wrapV p n).toNat
/-- A window on a list of numbers, and its value seen through it. -/
structure Li (m : List (Nat × Option AObj)) (v : AV) (f : Nat → Int) (n : Nat) : Prop where
  ex : ∃ w : Wnd, (∃ o, (ofM m).get w.1 = some o ∧ (fE f n = [] ∨ ∃ ca, cellsOf o = some ca ∧ cut ca w.2.1 (fE f n).length = some (fE f n))) ∧ ∀ (W : List Wnd) (i : Nat), W[i]? = some w → ∃ a, ArgW W v a ∧ IsSl a n i
theorem Li.sl {m : List (Nat × Option AObj)} {v : AV} {f : Nat → Int} {n x : Nat} {o : AObj} (h : IsSl v n x) (hx : lookM m x = some o) (hc : cellsOf o = some (fE f n)) : Li m v f n := by
  rcases h with rfl | ⟨rfl, rfl⟩
  · exact ⟨(x, 0, none), ⟨o, getM hx, .inr ⟨_, hc, cut_all rfl⟩⟩, fun W i h => ⟨.gs i n, ArgW.gs h, IsSl.gs i n⟩⟩
  · exact ⟨(x, 0, none), ⟨o, getM hx, .inl rfl⟩, fun W i h => ⟨.nils, .pl Pl.nils, IsSl.nils i⟩⟩
noncomputable def pickF (v : AV) (f : Nat → Int) (n : Nat) : CallFn := famA (α := Int) 84 (fun p => [v, .int .i64 p]) (fun p => .int .i64 (pkV f n p)) fun _ H _ => ∃ m, H = ofM m ∧ Li m v f n
/-- The number of a span that a number chooses. -/
def frV (lo hi p : Int) : Int := lo + wrapV p (hi - lo + 1)
noncomputable def fromF : CallFn := famA (α := Int × Int × Int) 85 (fun a => [.agg [.int .i64 a.1, .int .i64 a.2.1], .int .i64 a.2.2]) (fun a => .int .i64 (frV a.1 a.2.1 a.2.2)) fun a _ _ => -100000 ≤ a.1 ∧ a.2.1 ≤ 100000 ∧ a.1 ≤ a.2.1
def totV (f : Nat → Int) : Nat → Int
  | 0 => 0
  | k + 1 => totV f k + f k
set_option maxRecDepth 100000 in
set_option maxHeartbeats 4000000 in
theorem Total_can (f : Nat → Int) (n : Nat) (a : AV) (h1 : IsSl a n 0) (hn : n ≤ 1000) (hf : ∀ k, k ≤ n → -1000000 ≤ totV f k ∧ totV f k ≤ 1000000) : CanS 0 Try.prog 41 1 [a] [(0, some (.ro (fE f n)))] 1 fun v _ _ => v = .int .i64 (totV f n) := by
  refine CanS.mk Try.func41 rfl rfl rfl ?_
  repeat' (first | refine RT.nil ?_ | refine sq_n ?_ | refine Tr.seq ?_ | refine Tr.region ?_ | refine Tr.block ?_ | (refine RT.goK rfl rfl rfl rfl ?_; apply Nx.of; (first | exact S.assign)))
  refine Tr.loop (fun k : Nat => stL Try.f41.ntmps [] [(0, a), (3, .int .i64 (totV f k)), (4, .int .i64 k)] [(0, some (.ro (fE f n)))] 1) (fun k => k ≤ n) (fun k => n - k) 0 (Nat.zero_le _) (by (refine Wk.same (by decide) (by decide) (by decide) (by decide) ?_ ?_ rfl; all_goals ((try simp only [allL, allM]); (repeat' (first | exact trivial | refine And.intro ?_ ?_)); all_goals (first | rfl | exact IsSl.ren (by assumption) (nm_lt (by decide)) | exact ren_ro _ _ _ | decide)))) (fun k hk => ?_)
  by_cases hlt : k < n
  · have hlt' : (k : Int) < n := by omega
    have x1 := fE_at f hlt
    have b1 := hf k (by omega)
    have b2 := hf (k + 1) hlt
    have e1 : totV f (k + 1) = totV f k + f k := rfl
    rw [e1] at b2
    repeat' (first | refine RT.nil ?_ | refine sq_n ?_ | refine Tr.seq ?_ | refine Tr.region ?_ | refine Tr.cond_t rfl ?_ | refine Tr.skip ?_ | refine Tr.block ?_ | refine blk_n ?_ | (refine RT.goK rfl rfl rfl rfl ?_; first | refine Nx.of (S.lss_t hlt') ?_ | refine Nx.of (S.load1r rfl rfl rfl x1) ?_) | (refine RT.goK rfl rfl rfl rfl ?_; apply Nx.of; (first | exact S.move | exact S.assign | exact S.add_one (by omega) | exact S.add (by unfold In64; omega))) | (refine RT.goK rfl rfl rfl rfl ?_; apply Nx.of; (first | exact S.idx_sl rfl rfl rfl (by assumption) (by omega) | exact S.len_sl rfl rfl rfl (by assumption))))
    refine lp_n (k + 1) hlt (by omega) (by (refine Wk.same (by decide) (by decide) (by decide) (by decide) ?_ ?_ rfl; all_goals ((try simp only [allL, allM]); (repeat' (first | exact trivial | refine And.intro ?_ ?_)); all_goals (first | rfl | exact IsSl.ren (by assumption) (nm_lt (by decide)) | exact ren_ro _ _ _ | decide))))
  · obtain rfl : k = n := by omega
    have hlt' : ¬ (k : Int) < k := by omega
    repeat' (first | refine RT.nil ?_ | refine sq_n ?_ | refine Tr.seq ?_ | refine Tr.region ?_ | refine Tr.cond_f rfl ?_ | refine Tr.ret ?_ | refine Tr.exit ?_ | refine sq_x ?_ | refine blk_hit rfl ?_ | refine lp_x ?_ | (refine RT.goK rfl rfl rfl rfl ?_; first | refine Nx.of (S.lss_f hlt') ?_) | (refine RT.goK rfl rfl rfl rfl ?_; apply Nx.of; (first | exact S.move | exact S.assign)) | (refine RT.goK rfl rfl rfl rfl ?_; apply Nx.of; (first | exact S.len_sl rfl rfl rfl (by assumption))))
    (first | refine rt_go rfl ?_)
    rfl
theorem Total_at {m : List (Nat × Option AObj)} {c : Nat} {v : AV} {f : Nat → Int} {n : Nat} (h : Li m v f n) (hn : n ≤ 1000) (hf : ∀ k, k ≤ n → -1000000 ≤ totV f k ∧ totV f k ≤ 1000000) (fl : Nat) : OkAt 0 Try.prog fl 41 [v] (ofM m) c (.int .i64 (totV f n)) (ofM m) c := by
  obtain ⟨w, hw, ha⟩ := h.ex
  obtain ⟨a, h1, h2⟩ := ha [w] 0 rfl
  exact (Total_can f n a h2 hn hf).pure (.int _ _) (Entry.win (W := [w]) (CS := [fE f n]) rfl ⟨hw, fE_pls f n, trivial⟩ (show ArgsW [w] [v] [a] from ⟨h1, trivial⟩)) fl
end Go.Proofs.Ytlnmcadbmpiopaa

/- truly: what is so, as numbers choose it. -/
namespace Go.Proofs.Ytlnmcadbmpiopaa
open Go Go.Ev

theorem cost_at {B : CBook} {a1 a2 : AV} {w : Nat} (h : w < 3) : (bk B a1 a2).cells[2 + w * 1]? = some (.int .i64 (B.cost w)) := by
  obtain rfl | rfl | rfl : w = 0 ∨ w = 1 ∨ w = 2 := by omega
  all_goals rfl
section
variable (B : CBook) (bv : Nat → Int) (nb w : Nat)
def rT (i : Nat) : Int := frV (B.rl i) (B.rh i) (pkV bv nb ((i + 1 : Nat) : Int))
def dT (i : Nat) : Int := frV (B.dl i) (B.dh i) (pkV bv nb ((i : Int) + 2))
def sT (i : Nat) : Int := frV (B.sl i) (B.sh i) (pkV bv nb ((i : Int) + 3))
/-- When the coach departs, and when it comes. -/
def nowT : Nat → Int
  | 0 => 0
  | k + 1 => nowT k + (dT B bv nb k + rT B bv nb k + B.cost w) + sT B bv nb k
def coT (k : Nat) : Int := nowT B bv nb w k + (dT B bv nb k + rT B bv nb k + B.cost w)
end
def grI (x k : Nat) : AV := match k with | 0 => .nils | j + 1 => .gs x (j + 1)
def glM (r c : Nat → Int) (k : Nat) : List (Nat × Option AObj) := match k with | 0 => [] | j + 1 => [(7, some (.grown (fE r (j + 1)) 1)), (8, some (.grown (fE c (j + 1)) 1))]
theorem grI_ren (σ : Nat → Nat) {x y : Nat} (h : σ x = y) (k : Nat) : (grI x k).ren σ = grI y k := by
  cases k with
  | zero => rfl
  | succ j => show AV.gs (σ x) _ = _; rw [h]; rfl
section
variable {B : CBook} {bv : Nat → Int} {nb w : Nat}
end
end Go.Proofs.Ytlnmcadbmpiopaa

/- rightly: a book whose clocks are right, as a number lets them be. -/
namespace Go.Proofs.Ytlnmcadbmpiopaa
open Go Go.Ev

/-- What a clock reads. -/
def rdV (B : CBook) (e : Nat → Int) (n : Int) (k : Nat) : Int := e (B.ck k).toNat + frV (-(B.er k)) (B.er k) (IntKind.i64.wrap (n + (k : Int)))
def riE (B : CBook) (rv : Nat → Int) (k : Nat) : List Int := [B.ck k, rv k, B.er k]
noncomputable def riL (rv : Nat → Int) (k : Nat) : List Nat := (List.range k).filter fun i => dB (0 ≤ rv i ∧ rv i ≤ 600)
def rwM (enc : Nat → List Int) (x : Nat) (K : List Nat) : List (Nat × Option AObj) := match K with | [] => [] | _ :: _ => [(x, some (.grown (flat enc K) 3))]
end Go.Proofs.Ytlnmcadbmpiopaa

/- What ClaimTrue needs: truly and rightly at any memory; what is so is a truth of the book whose clocks are right. -/
namespace Go.Proofs.Ytlnmcadbmpiopaa
open Go Go.Ev

theorem sl_arg {W : List Wnd} {v : AV} {n x : Nat} (hi : IsSl v n x) (hx : W[x]? = some (x, 0, none)) : ArgW W v v := by
  rcases hi with rfl | ⟨rfl, rfl⟩
  · exact ArgW.gs hx
  · exact .pl Pl.nils
theorem bk_arg {W : List Wnd} {B : CBook} {a1 a2 : AV} (h1 : IsSl a1 B.ns 0) (h2 : IsSl a2 B.nc 1) (w0 : W[0]? = some (0, 0, none)) (w1 : W[1]? = some (1, 0, none)) : ArgW W (bk B a1 a2) (bk B a1 a2) :=
  ArgW.agg (show ArgsW _ [a1, .int .i64 B.wea, .int .i64 (B.cost 0), .int .i64 (B.cost 1), .int .i64 (B.cost 2), a2, .int .i64 B.rate] [a1, .int .i64 B.wea, .int .i64 (B.cost 0), .int .i64 (B.cost 1), .int .i64 (B.cost 2), a2, .int .i64 B.rate] from
    ⟨sl_arg h1 w0, .pl (fun _ => rfl), .pl (fun _ => rfl), .pl (fun _ => rfl), .pl (fun _ => rfl), sl_arg h2 w1, .pl (fun _ => rfl), trivial⟩)
/-- The book with some of its clocks, read otherwise. -/
noncomputable def riB (B : CBook) (rv : Nat → Int) (K : List Nat) : CBook := { B with nc := K.length, ck := fun i => B.ck (K[i]?.getD 0), rd := fun i => rv (K[i]?.getD 0), er := fun i => B.er (K[i]?.getD 0) }
section
variable {B : CBook} {rv : Nat → Int} {K : List Nat}
/-- What is so. -/
noncomputable def trT (B : CBook) (bv : Nat → Int) (nb w : Nat) : Tru := toT (w : Int) B.ns (rT B bv nb) (coT B bv nb w)
end
end Go.Proofs.Ytlnmcadbmpiopaa

/- Look-ups behind rows that may be absent. -/
namespace Go.Proofs.Ytlnmcadbmpiopaa
open Go Go.Ev

theorem S.gtr_t {P : Program} {fl c t yt : Nat} {m : List (Nat × Option AObj)} {x1 x2 : Operand} {a b : Int} (h : b < a) : OpE P fl (.binOp .gtr t x1 x2 yt) [.int .i64 a, .int .i64 b] m c (.bool true) m c := by
  have := S.gtr (P := P) (fl := fl) (m := m) (c := c) (t := t) (yt := yt) (x1 := x1) (x2 := x2) (a := a) (b := b)
  rwa [decide_eq_true h] at this
noncomputable def holdF : CallFn := famA (α := Int × Int × Int) 40 (fun a => [.agg [.int .i64 a.1, .int .i64 a.2.1], .int .i64 a.2.2]) (fun _ => .bool true) fun a _ _ => a.1 ≤ a.2.2 ∧ a.2.2 ≤ a.2.1
noncomputable def totF (x : Nat) (f : Nat → Int) (n : Nat) : CallFn := one1 41 [grI x n] (.int .i64 (totV f n)) fun H _ => ∃ m, H = ofM m ∧ lookM m x = some (.grown (fE f n) 1)
theorem S.load1g {P : Program} [Tab P] {fl c t x off s : Nat} {y : Ty} {a : Operand} {v : AV} {m : List (Nat × Option AObj)} {cs : List AV} (ht : ty P t = some y) (hg : y.agg = false) (ho : lookM m x = some (.grown cs s)) (hv : cs[off]? = some v) : OpE P fl (.load t a) [.ptr x off] m c v m c := S.load1 ht hg ho rfl hv
end Go.Proofs.Ytlnmcadbmpiopaa

/- A call that leaves new names, not all of them used; append of lists of rows. -/
set_option linter.unusedVariables false
namespace Go.Ev
open Go

section
variable {G : Nat} {P : Program} {c k : Nat}

/-- The same; some of the new names may not be used. -/
theorem CanS.freshU (t : Nat → Nat) {f : Nat} {args args0 : List AV} {m0 : List (Nat × Option AObj)} {c0 : Nat} {Qf : AV → T AObj → Nat → Prop} {H H' : T AObj} {v0 : AV} (h : CanS G P f c0 args0 m0 c0 Qf) (ht1 : ∀ j, k ≤ j → k ≤ t j) (ht2 : ∀ i j, t i = t j → i = j) (he : Entry G H c args m0 c0 args0)
    (hout : ∀ v1 H1 c1, Qf v1 H1 c1 → v1 = v0.ren (fun y => c0 + t y) ∧ c1 ≤ c0 + k ∧ ∀ x o, H'.get x = some o → (x < c ∧ H.get x = some o) ∨ ∃ (y : Nat) (o0 : AObj), x = c + y ∧ H1.get (c0 + t y) = some (o0.ren fun y => c0 + t y) ∧ o = o0.ren fun y => c + y) (fl : Nat) :
    OkAt G P fl f args H c (v0.ren fun y => c + y) H' (c + k) := by
  refine ⟨h.1, fun ρ w us hH hargs r n => ?_⟩
  obtain ⟨ρ0, h0, ha⟩ := he ρ w us hH hargs
  refine (h.2 ρ0 w us h0 ha r n).mono ?_
  rintro e w' ⟨u, v1, H1, c1, ρ1, rfl, hq, h3, h4, h5, h6, h7⟩
  obtain ⟨rfl, hc1, ho⟩ := hout v1 H1 c1 hq
  have hlow : ∀ x p, ρ x = some p → x < c := fun x p hp => by
    rcases Nat.lt_or_ge x c with h | h
    · exact h
    · rw [hH.fresh x h] at hp; cases hp
  have hk : ∀ b, b < w.heap.size → w'.heap[b]? = w.heap[b]? := fun b hb => h7.keep b hb fun x p hx hp => by rw [h0.fresh x hx] at hp; cases hp
  -- new names speak of new blocks
  have hnew : ∀ y q, c0 ≤ y → ρ1 y = some q → w.heap.size ≤ q.b := fun y q hy hq => by
    rcases h6.2 y q hy hq with h | ⟨z, t, hz, ht, hzb⟩
    · exact h
    · rw [h0.fresh z hz] at ht; cases ht
  have hval : ∀ y, (fun x => if x < c then ρ x else ρ1 (c0 + t (x - c))) (c + y) = ρ1 (c0 + t y) := fun y => by
    show (if c + y < c then ρ (c + y) else ρ1 (c0 + t (c + y - c))) = _
    rw [if_neg (by omega), show c + y - c = y by omega]
  have hcomp : (fun y => (fun x => if x < c then ρ x else ρ1 (c0 + t (x - c))) (c + y)) = fun y => ρ1 (c0 + t y) := funext hval
  have hle : RLe ρ (fun x => if x < c then ρ x else ρ1 (c0 + t (x - c))) := fun x p hp => by
    show (if x < c then ρ x else _) = _
    rw [if_pos (hlow x p hp)]; exact hp
  refine ⟨u, rfl, fun x => if x < c then ρ x else ρ1 (c0 + t (x - c)), ?_, ⟨?_, ?_, ?_, ?_, ?_⟩, ⟨hle, ?_, ?_, by omega⟩, ⟨h7.os, h7.tape, h7.output, h7.size, fun b hb _ => hk b hb⟩⟩
  · rw [VR_ren, hcomp]
    exact (VR_ren _ _ _ _).1 h3
  · intro x o hx
    rcases ho x o hx with ⟨hxc, hxo⟩ | ⟨y, o0, rfl, hy1, rfl⟩
    · obtain ⟨p, hp, hob⟩ := hH.obj x o hxo
      exact ⟨p, hle x p hp, (hob.mono hle).world (hk p.b (hH.lt x p hp))⟩
    · obtain ⟨p, hp, hob⟩ := h4.obj _ _ hy1
      refine ⟨p, (hval y).trans hp, ?_⟩
      rw [ObjR_ren, hcomp]
      exact (ObjR_ren _ _ _ _ _).1 hob
  · intro x x' o o' p q hxx hx hx' hp hq hb
    have cross : ∀ x o p y q, H.get x = some o → ρ x = some p → ρ1 (c0 + t y) = some q → p.b ≠ q.b := fun x o p y q hx hp hq hb => by
      have h1 := hH.lt x p hp
      have h2 := hnew _ q (by omega) hq
      omega
    rcases ho x o hx with ⟨hxc, hxo⟩ | ⟨y, o0, rfl, hy1, rfl⟩
    · replace hp : (if x < c then ρ x else ρ1 (c0 + t (x - c))) = some p := hp
      rw [if_pos hxc] at hp
      rcases ho x' o' hx' with ⟨hxc', hxo'⟩ | ⟨y', o0', rfl, hy1', rfl⟩
      · replace hq : (if x' < c then ρ x' else ρ1 (c0 + t (x' - c))) = some q := hq
        rw [if_pos hxc'] at hq
        exact hH.sep x x' o o' p q hxx hxo hxo' hp hq hb
      · exact absurd hb (cross x o p y' q hxo hp ((hval y').symm.trans hq))
    · rcases ho x' o' hx' with ⟨hxc', hxo'⟩ | ⟨y', o0', rfl, hy1', rfl⟩
      · replace hq : (if x' < c then ρ x' else ρ1 (c0 + t (x' - c))) = some q := hq
        rw [if_pos hxc'] at hq
        exact absurd hb.symm (cross x' o' q y p hxo' hq ((hval y).symm.trans hp))
      · have g := h4.sep (c0 + t y) (c0 + t y') _ _ p q (fun e => hxx (by rw [ht2 y y' (by omega)])) hy1 hy1' ((hval y).symm.trans hp) ((hval y').symm.trans hq) hb
        exact g.congr (by rw [AObj.ren_share, AObj.ren_share]) (by rw [AObj.ren_share, AObj.ren_share])
  · intro x hx
    show (if x < c then ρ x else ρ1 (c0 + t (x - c))) = none
    rw [if_neg (by omega)]
    have := ht1 (x - c) (by omega)
    exact h4.fresh _ (by omega)
  · intro x p hp
    replace hp : (if x < c then ρ x else ρ1 (c0 + t (x - c))) = some p := hp
    split at hp
    · exact Nat.lt_of_lt_of_le (hH.lt x p hp) h7.size
    · exact h4.lt _ p hp
  · intro g hg
    obtain ⟨j, hj⟩ := hH.glob g hg
    exact ⟨j, hle g _ hj⟩
  · intro x p hx hp
    replace hp : (if x < c then ρ x else ρ1 (c0 + t (x - c))) = some p := hp
    split at hp
    · rw [hx] at hp; cases hp
    · exact .inl (hnew _ p (by omega) hp)
  · intro x p hx hp
    replace hp : (if x < c then ρ x else ρ1 (c0 + t (x - c))) = some p := hp
    split at hp
    · rw [hx] at hp; cases hp
    · omega


end
section
variable {P : Program} {fl c : Nat} {m : List (Nat × Option AObj)} {y y' z : Ty} {t t' : Nat} {x1 x2 : Operand}
/-- To an empty list that was just made. -/
theorem S.append_eI [Tab P] {ats : Array Nat} {v : AV} {x w n : Nat} {news : List AV} {ob : AObj} (hat : ats.toList = [t, t']) (ht : ty P t = some y) (hk : y.kind = 5) (ht' : ty P t' = some y') (hk' : y'.kind = 5) (hz : ty P y.elem = some z) (hzk : z.kind = 0) (hzz : (Nat.beq z.zero.cells.length z.size && Nat.ble 1 z.size) = true)
    (hb : Nat.ble z.bytes 10000 = true) (hx : lookM m x = some (.cells [])) (hv : IsSl v n w) (ho : lookM m w = some ob) (hcs : cellsOf ob = some news) (hl : news.length = n * z.size) (hn : n ≤ 1000000) (h0 : 0 < n) :
    OpE P fl (.call ⟨.builtin .append, #[x1, x2], ats⟩) [.sl x 0 0 0, v] m c (.gs c n) ((c, some (.grown news z.size)) :: m) (c + 1) := by
  obtain ⟨i, h1, h2, h3⟩ := info_sz hz
  have hb' : z.bytes ≤ 10000 := Nat.le_of_ble_eq_true hb
  have hbb : (Nat.ble ((2 * n + 1000) * i.bytes) (2 ^ 48) && Nat.ble n (2 ^ 62)) = true := by
    rw [h2]
    simp only [Bool.and_eq_true, Nat.ble_eq]
    refine ⟨?_, by omega⟩
    calc (2 * n + 1000) * z.bytes ≤ 3000000 * 10000 := Nat.mul_le_mul (by omega) hb'
      _ ≤ 2 ^ 48 := by decide
  rcases hv with rfl | ⟨rfl, rfl⟩
  · have hc0 : Nat.ble n 0 = false := Bool.eq_false_iff.2 fun h => by have := Nat.le_of_ble_eq_true h; omega
    have hn0 : Nat.beq n 0 = false := Bool.eq_false_iff.2 fun h => by have := Nat.eq_of_beq_eq_true h; omega
    have hcut0 : cut ([] : List AV) 0 (0 * z.size) = some [] := by rw [Nat.zero_mul]; rfl
    have hcut : cut news 0 (n * z.size) = some news := cut_all hl
    have hce : cellsOf (.cells []) = some [] := rfl
    rw [← h3] at hcut0 hcut
    refine ⟨rfl, Nat.le_succ _, ?_⟩
    show opA P (ofM m) c fl _ _ = _
    simp only [opA, oCall, builtinA, hat, appendA, ty_slice ht hk, ty_slice ht' hk', h1, rowT hz hzz, sliceCells, getCells, ofM_get, hx, ho, hcs, hce, Option.bind_some, hcut0, hcut, Option.map_some, hn0, cond_false, hbb, cond_true, hc0, keptI hz hzk, growA, Nat.zero_add, List.nil_append]
    rw [h3]
    rfl
  · omega
/-- The cells of a slice that may have grown. -/
structure SlC (m : List (Nat × Option AObj)) (v : AV) (n s : Nat) (cs : List AV) : Prop where
  ex : (∃ x cp ob ca, (v = .gs x n ∨ v = .sl x 0 n cp) ∧ lookM m x = some ob ∧ cellsOf ob = some ca ∧ cut ca 0 (n * s) = some cs)
theorem SlC.gs {x n s : Nat} {ob : AObj} {cs : List AV} (h : lookM m x = some ob) (hc : cellsOf ob = some cs) (hl : cs.length = n * s) : SlC m (.gs x n) n s cs := ⟨x, 0, ob, cs, .inl rfl, h, hc, cut_all hl⟩
theorem SlC.sl {x n s cp : Nat} {ob : AObj} {cs : List AV} (h : lookM m x = some ob) (hc : cellsOf ob = some cs) (hl : cs.length = n * s) : SlC m (.sl x 0 n cp) n s cs := ⟨x, cp, ob, cs, .inr rfl, h, hc, cut_all hl⟩
theorem SlC.cells {v : AV} {n s : Nat} {cs : List AV} (h : SlC m v n s cs) : sliceCells (ofM m) s v = some (n, cs) := by
  obtain ⟨x, cp, ob, ca, hv, h1, h2, h3⟩ := h.ex
  rcases hv with rfl | rfl
  all_goals simp only [sliceCells, getCells, ofM_get, h1, h2, Option.bind_some, h3, Option.map_some]
theorem S.append_n [Tab P] {ats : Array Nat} {v : AV} {n : Nat} {news : List AV} (hat : ats.toList = [t, t']) (ht : ty P t = some y) (hk : y.kind = 5) (ht' : ty P t' = some y') (hk' : y'.kind = 5) (hz : ty P y.elem = some z) (hzk : z.kind = 3) (hzz : (Nat.beq z.zero.cells.length z.size && Nat.ble 1 z.size) = true)
    (hb : Nat.ble z.bytes 10000 = true) (hv : SlC m v n z.size news) (hn : n ≤ 1000000) (h0 : 0 < n) :
    OpE P fl (.call ⟨.builtin .append, #[x1, x2], ats⟩) [.nils, v] m c (.gs c n) ((c, some (.grown news z.size)) :: m) (c + 1) := by
  obtain ⟨i, h1, h2, h3⟩ := info_sz hz
  have hb' : z.bytes ≤ 10000 := Nat.le_of_ble_eq_true hb
  have hbb : (Nat.ble ((2 * (0 + n) + 1000) * i.bytes) (2 ^ 48) && Nat.ble (0 + n) (2 ^ 62)) = true := by
    rw [h2]
    simp only [Bool.and_eq_true, Nat.ble_eq]
    refine ⟨?_, by omega⟩
    calc (2 * (0 + n) + 1000) * z.bytes ≤ 3000000 * 10000 := Nat.mul_le_mul (by omega) hb'
      _ ≤ 2 ^ 48 := by decide
  have hn0 : Nat.beq n 0 = false := Bool.eq_false_iff.2 fun h => by have := Nat.eq_of_beq_eq_true h; omega
  have hvc := hv.cells
  refine ⟨rfl, Nat.le_succ _, ?_⟩
  show opA P (ofM m) c fl _ _ = _
  have e0 : sliceCells (ofM m) z.size .nils = some (0, []) := rfl
  simp only [opA, oCall, builtinA, hat, appendA, ty_slice ht hk, ty_slice ht' hk', h1, rowT hz hzz, h3, hvc, e0, hn0, cond_false, hbb, cond_true, keptF hz hzk, growA]
  rfl
theorem S.append_g [Tab P] {ats : Array Nat} {v : AV} {a k n : Nat} {olds news : List AV} (hat : ats.toList = [t, t']) (ht : ty P t = some y) (hk : y.kind = 5) (ht' : ty P t' = some y') (hk' : y'.kind = 5) (hz : ty P y.elem = some z) (hzk : z.kind = 3) (hzz : (Nat.beq z.zero.cells.length z.size && Nat.ble 1 z.size) = true)
    (hb : Nat.ble z.bytes 10000 = true) (hv : SlC m v n z.size news) (hn : n ≤ 1000000) (h0 : 0 < n) (ha : lookM m a = some (.grown olds z.size)) (hf : Nat.ble fl a = true) (hca : cut olds 0 (k * z.size) = some olds) (hkn : k ≤ 1000000) (hone : news.all AV.one = true) :
    OpE P fl (.call ⟨.builtin .append, #[x1, x2], ats⟩) [.gs a k, v] m c (.gs c (k + n)) ((c, some (.grown (olds ++ news) z.size)) :: (a, none) :: m) (c + 1) := by
  obtain ⟨i, h1, h2, h3⟩ := info_sz hz
  have hb' : z.bytes ≤ 10000 := Nat.le_of_ble_eq_true hb
  have hbb : (Nat.ble ((2 * (k + n) + 1000) * i.bytes) (2 ^ 48) && Nat.ble (k + n) (2 ^ 62)) = true := by
    rw [h2]
    simp only [Bool.and_eq_true, Nat.ble_eq]
    refine ⟨?_, by omega⟩
    calc (2 * (k + n) + 1000) * z.bytes ≤ 5000000 * 10000 := Nat.mul_le_mul (by omega) hb'
      _ ≤ 2 ^ 48 := by decide
  have hn0 : Nat.beq n 0 = false := Bool.eq_false_iff.2 fun h => by have := Nat.eq_of_beq_eq_true h; omega
  have hvc := hv.cells
  have e0 : sliceCells (ofM m) z.size (.gs a k) = some (k, olds) := by simp only [sliceCells, getCells, ofM_get, ha, cellsOf, Option.bind_some, hca, Option.map_some]
  refine ⟨rfl, Nat.le_succ _, ?_⟩
  show opA P (ofM m) c fl _ _ = _
  simp only [opA, oCall, builtinA, hat, appendA, ty_slice ht hk, ty_slice ht' hk', h1, rowT hz hzz, h3, hvc, e0, hn0, cond_false, hbb, cond_true, ofM_get, ha, hf, hone, Nat.beq_refl, Bool.and_self]
  rfl
/-- Nothing is appended. -/
theorem S.append_z [Tab P] {ats : Array Nat} {v : AV} {n s : Nat} {cs : List AV} (hat : ats.toList = [t, t']) (ht : ty P t = some y) (hk : y.kind = 5) (ht' : ty P t' = some y') (hk' : y'.kind = 5) (hz : ty P y.elem = some z) (hzz : (Nat.beq z.zero.cells.length z.size && Nat.ble 1 z.size) = true)
    (hv : v = .nils ∨ ∃ a olds, v = .gs a n ∧ lookM m a = some (.grown olds z.size) ∧ cut olds 0 (n * z.size) = some olds) : OpE P fl (.call ⟨.builtin .append, #[x1, x2], ats⟩) [v, .nils] m c v m c := by
  obtain ⟨i, h1, h2, h3⟩ := info_sz hz
  have e0 : sliceCells (ofM m) z.size .nils = some (0, []) := rfl
  refine ⟨rfl, Nat.le_refl _, ?_⟩
  show opA P (ofM m) c fl _ _ = _
  rcases hv with rfl | ⟨a, olds, rfl, ha, hca⟩
  · simp only [opA, oCall, builtinA, hat, appendA, ty_slice ht hk, ty_slice ht' hk', h1, rowT hz hzz, h3, e0, Nat.beq_refl, cond_true]
    rfl
  · have e1 : sliceCells (ofM m) z.size (.gs a n) = some (n, olds) := by simp only [sliceCells, getCells, ofM_get, ha, cellsOf, Option.bind_some, hca, Option.map_some]
    simp only [opA, oCall, builtinA, hat, appendA, ty_slice ht hk, ty_slice ht' hk', h1, rowT hz hzz, h3, e0, e1, Nat.beq_refl, cond_true]
    rfl
end
end Go.Ev
