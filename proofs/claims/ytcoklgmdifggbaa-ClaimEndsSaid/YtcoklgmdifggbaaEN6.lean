/- Texts of one kind, one behind the other: SyY, Cx, Cy, Cz, SyZ, Da, Db. -/
import Derived.Test.YtcoklgmdifggbaaEN5
set_option linter.unusedVariables false
set_option linter.unusedSimpArgs false
/- Calls that spoil one object; calls that leave new names behind, in regions whose order is open. -/
namespace Go.Ev
open Go

section
variable {G : Nat} {P : Program} {ρ ρ1 : Rho} {fl c c' : Nat} {w w' : World}

theorem del_get {m : List (Nat × Option AObj)} {q x : Nat} {o : AObj} (h : (ofM ((q, none) :: m)).get x = some o) : x ≠ q ∧ (ofM m).get x = some o := by
  rw [ofM_get] at h ⊢
  by_cases e : x = q
  · subst e; rw [lookM_hd] at h; cases h
  · rw [lookM_tl e] at h; exact ⟨e, h⟩

/-- A call that spoils one object, and leaves nothing else behind. -/
theorem CanS.spoil {f q fl0 : Nat} {args0 : List AV} {m0 m : List (Nat × Option AObj)} {v0 : AV} {o0 : AObj} (h : CanS G P f fl0 args0 m0 (fl0 + 1) fun v _ _ => v = v0) (hv : Pl v0)
    (τ : Nat → Nat) (hτg : ∀ g, g < G → τ g = g) (hτ2 : ∀ y, fl0 + 1 ≤ y → c ≤ τ y) (hobj : ∀ y o, lookM m0 y = some o → (ofM m).get (τ y) = some (o.ren τ))
    (hinj : ∀ x y o o', lookM m0 x = some o → lookM m0 y = some o' → x ≠ y → τ x ≠ τ y ∨ ∃ n m, o.share = some (false, n) ∧ o'.share = some (false, m))
    (hq : τ fl0 = q) (hfl : fl ≤ q) (ho0 : lookM m0 fl0 = some o0) (hs0 : o0.share = none) : OkAt G P fl f (AV.rens τ args0) (ofM m) c v0 (ofM ((q, none) :: m)) c := by
  refine ⟨h.1, fun ρ w us hH hargs r n => ?_⟩
  have h0 : Holds G (fun x => ρ (τ x)) (ofM m0) (fl0 + 1) w := hH.ren τ (fun x o hx => hobj x o (by rw [← ofM_get]; exact hx)) (fun x y o o' hx hy => hinj x y o o' (by rw [← ofM_get]; exact hx) (by rw [← ofM_get]; exact hy)) hτ2 hτg
  refine (h.2 _ w us h0 ((VRs_ren ρ τ args0 us).1 hargs) r n).mono ?_
  rintro e w' ⟨u, v1, H1, c1, ρ1, rfl, rfl, h3, h4, h5, h6, h7⟩
  have hfr : ∃ x, ρ1 x = none := ⟨c1, h4.fresh c1 (Nat.le_refl _)⟩
  have hqo : (ofM m).get q = some (o0.ren τ) := by rw [← hq]; exact hobj _ _ ho0
  have hqs : (o0.ren τ).share = none := by rw [AObj.ren_share]; exact hs0
  obtain ⟨pq, hρq, _⟩ := hH.obj _ _ hqo
  have hown : ∀ y t, fl0 ≤ y → ρ (τ y) = some t → y = fl0 := fun y t hy ht => by
    rcases Nat.lt_or_ge y (fl0 + 1) with h | h
    · omega
    · have := h0.fresh y h
      replace this : ρ (τ y) = none := this
      rw [this] at ht; cases ht
  have hap : ∀ x o p, (ofM m).get x = some o → ρ x = some p → x ≠ q → p.b ≠ pq.b := fun x o p hx hp hn hb => by
    have := (hH.sep x q o _ p pq hn hx hqo hp hρq hb).ro
    unfold AObj.isRo at this
    rw [hqs] at this
    simp at this
  have hkeep : ∀ b, b < w.heap.size → b ≠ pq.b → w'.heap[b]? = w.heap[b]? := fun b hb hne => h7.keep b hb fun y t hy ht => by
    have e := hown y t hy ht
    subst e
    rw [hq] at ht
    rw [hρq] at ht
    cases ht
    exact fun e => hne e.symm
  refine ⟨u, rfl, ρ, hv.vr hfr h3, ⟨fun x o hx => ?_, fun x y o o' p p' hxy hx hy hp hp' hb => ?_, hH.fresh, fun x p hp => Nat.lt_of_lt_of_le (hH.lt x p hp) h7.size, hH.glob⟩, .refl _ _ _ _, ⟨h7.os, h7.tape, h7.output, h7.size, fun b hb hn => hkeep b hb fun e => hn q pq hfl hρq e.symm⟩⟩
  · obtain ⟨e, hx⟩ := del_get hx
    obtain ⟨p, h1, h2⟩ := hH.obj x o hx
    exact ⟨p, h1, h2.world (hkeep p.b (hH.lt x p h1) (hap x o p hx h1 e))⟩
  · exact hH.sep x y o o' p p' hxy (del_get hx).2 (del_get hy).2 hp hp' hb

theorem Good.cons {H : T AObj} {m : List (Nat × Option AObj)} {c1 c2 d : Nat} {o : AObj} (h : Good fl c H c1 (ofM m)) (hd : c ≤ d) (hd2 : d < c2) (hc : c1 ≤ c2) : Good fl c H c2 (ofM ((d, some o) :: m)) := by
  refine ⟨Nat.le_trans h.count hc, fun x h1 h2 => ?_, fun hdm x hx => ?_⟩
  · have := h.keep x h1 h2
    rw [ofM_get] at this ⊢
    rw [lookM_tl (by omega)]
    exact this
  · by_cases e : x = d
    · omega
    · have := h.dom hdm x (by rw [ofM_get] at hx ⊢; rwa [lookM_tl e] at hx)
      omega
open Classical in
/-- One call, in one memory. -/
noncomputable def pinX (f : Nat) (args : List AV) (m : List (Nat × Option AObj)) (c : Nat) (v : AV) (m' : List (Nat × Option AObj)) (c' : Nat) : CallFn := fun _ f1 args1 H1 c1 =>
  if f1 = f ∧ args1 = args ∧ H1 = ofM m ∧ c1 = c then some (v, ofM m', c') else none
theorem pinX_at (f : Nat) (args : List AV) (m : List (Nat × Option AObj)) (c : Nat) (v : AV) (m' : List (Nat × Option AObj)) (c' fl : Nat) : pinX f args m c v m' c' fl f args (ofM m) c = some (v, ofM m', c') := by
  unfold pinX; rw [if_pos ⟨rfl, rfl, rfl, rfl⟩]
theorem pinX_calm {f : Nat} {args : List AV} {m m' : List (Nat × Option AObj)} {v : AV} (h : ∀ fl, OkAt G P fl f args (ofM m) c v (ofM m') c') (hg : ∀ fl, Good fl c (ofM m) c' (ofM m')) : CalmC G P (pinX f args m c v m' c') := by
  refine ⟨fun fl f1 args1 H1 c1 v' H' c2 e => ?_, fun fl f1 args1 H1 c1 v' H' c2 e => ?_⟩
  · unfold pinX at e
    split at e
    · rename_i hh
      obtain ⟨rfl, rfl, rfl, rfl⟩ := hh
      simp only [Option.some.injEq, Prod.mk.injEq] at e
      obtain ⟨rfl, rfl, rfl⟩ := e
      exact h _
    · cases e
  · unfold pinX at e
    split at e
    · rename_i hh
      obtain ⟨rfl, rfl, rfl, rfl⟩ := hh
      simp only [Option.some.injEq, Prod.mk.injEq] at e
      obtain ⟨rfl, rfl, rfl⟩ := e
      exact hg _
    · cases e

variable {n : Nat} {dfs : List Nat} {l : List (Nat × AV)} {o : Oper} {call round : CallFn} {ops : List Oper} {is : List OpI} {rs us : List Rec} {un : List Nat} {wd : Bool} {v : AV} {d : Nat} {K : St → Prop} {m m' : List (Nat × Option AObj)}
theorem RD.callX [hP : PG P G] {f : Nat} {first cap args : List AV} (hk : kindA o.op = .heavy) (hc : isCall o.op = true) (hr : recL rs un = some us) (hw : wantedL ops o l = some true) (hv : operandsL G l (opArgs o.op) = some (.fn f first cap :: args)) (hd : o.dst = some d) (hn : Nat.blt d n = true)
    (hu : us.all (fun r => !r.heavy && r.st.isNone) = true) (hh : (us.flatMap fun r => (List.range (r.hi - r.lo)).map (r.lo + ·)) = [])
    (hs : ∀ fl', call fl' f (first ++ args ++ cap) (ofM m) c = some (v, ofM m', c')) (hsame : wd = true → us.all (sameR P (ofM m) (ofM m')) = true)
    (h : RD G P fl call round ops is (⟨true, none, c, c', none, bif wd then some (ofM m, ofM m') else none, none⟩ :: rs) (stL n dfs ((d, v) :: l) m' c') K) : RD G P fl call round ops (⟨o, un, wd⟩ :: is) rs (stL n dfs l m c) K := by
  refine RD.step (v := v) (m' := m') (c' := c') (rc := ⟨true, none, c, c', none, bif wd then some (ofM m, ofM m') else none, none⟩) hr hw hv ?_ (put_some hn hd) (by rw [hd]; exact h)
  rw [hk]; unfold stD
  have hst : ∀ fl', stepA P call round fl' o.op (.fn f first cap :: args) (ofM m) c = some (v, ofM m', c') := fun fl' => by
    unfold stepA; rw [hc]; exact hs fl'
  simp only [hu, hh, hideA, cond_true]
  cases wd with
  | true => simp only [cond_true, hst, backA, List.foldl_nil, hsame rfl]
  | false => simp only [cond_false, hst, backA, List.foldl_nil]
/-- What was read is still there, where a call adds names. -/
def srOkX (m m' : List (Nat × Option AObj)) : List Rec → Prop
  | [] => True
  | r :: us => (match r.reads with | none => True | some x => ∃ ob, lookM m x = some ob ∧ lookM m' x = some ob ∧ rfO ob = true) ∧ srOkX m m' us
theorem srOkX_all : ∀ {us : List Rec}, srOkX m m' us → us.all (sameR P (ofM m) (ofM m')) = true
  | [], _ => rfl
  | r :: us, h => by
    obtain ⟨h1, h2⟩ := h
    have h3 : sameR P (ofM m) (ofM m') r = true := by
      unfold sameR
      split at h1
      · rename_i e; rw [e]
      · rename_i x e
        obtain ⟨ob, h4, h4', h5⟩ := h1
        rw [e]
        simp only [same_get (getM h4) (getM h4') h5, Bool.true_or]
    rw [List.all_cons, h3, srOkX_all h2]
    rfl
end
end Go.Ev

/- Package claim: Right, Fits. -/
namespace Go.Proofs.Ytcoklgmdifggbaa
open Go Go.Ev

theorem right_at {B : CBook} {a1 a2 : AV} {p q : Nat} {L : List (Int × Int)} {m : List (Nat × Option AObj)} {c : Nat} (h : PbIn B a1 a2 p q m c) (hq : lookM m q = some (oMap B L)) (hok : stsOk B) (hw : weaOk B) (hck : cksOk B) (fl : Nat) (hfl : fl ≤ q) : OkAt 0 Try.prog fl 59 [.ptr p 0] (ofM m) c (.bool (!(wths B 0).isEmpty)) (ofM ((q, none) :: m)) c := by
  have e0 : tau [0, 1, p, q] c 0 = 0 := rfl
  have e1 : tau [0, 1, p, q] c 1 = 1 := rfl
  have e2 : tau [0, 1, p, q] c 2 = p := rfl
  have e3 : tau [0, 1, p, q] c 3 = q := rfl
  have low : ∀ {u : Nat} {ob : AObj}, lookM [(0, some (oSt B)), (1, some (oCk B)), (2, some (.cells (pbC B a1 a2 3))), (3, some (oMap B L))] u = some ob → u = 0 ∨ u = 1 ∨ u = 2 ∨ u = 3 := fun {u ob} hz => by
    have := lookM_mem hz
    simpa using this
  have hobj : ∀ u o, lookM [(0, some (oSt B)), (1, some (oCk B)), (2, some (.cells (pbC B a1 a2 3))), (3, some (oMap B L))] u = some o → lookM m (tau [0, 1, p, q] c u) = some (o.ren (tau [0, 1, p, q] c)) := fun u o hu => by
    rcases low hu with rfl | rfl | rfl | rfl
    · cases hu; rw [e0, ren_ro]; exact h.m1
    · cases hu; rw [e1, ren_ro]; exact h.m2
    · cases hu
      have : (AObj.cells (pbC B a1 a2 3)).ren (tau [0, 1, p, q] c) = .cells (pbC B a1 a2 q) := by simp only [pbC, AObj.ren, AV.ren, AV.rens, h.h1.ren e0, h.h2.ren e1, e3]
      rw [e2, this]; exact h.m3
    · cases hu; rw [e3, ren_mapA]; exact hq
  have ha : AV.rens (tau [0, 1, p, q] c) [.ptr 2 0] = [.ptr p 0] := rfl
  rw [← ha]
  refine CanS.spoil (o0 := oMap B L) (right_can B a1 a2 h.h1 h.h2 hok hw hck L) (.bool _) (tau [0, 1, p, q] c) (fun g hg => by omega) (fun u hu => by rw [tau_ge hu]; omega) (fun u o hu => getM (hobj u o hu)) (fun u u' o o' hu hu' hne => .inl fun e => ?_) rfl hfl rfl rfl
  have g1 := hobj u o hu
  have g2 := hobj u' o' hu'
  rw [e] at g1
  rw [g1] at g2
  rcases low hu with rfl | rfl | rfl | rfl <;> rcases low hu' with rfl | rfl | rfl | rfl <;> first | exact absurd rfl hne | exact absurd (show (0 : Nat) = 1 from e) (by decide) | exact absurd (show (1 : Nat) = 0 from e) (by decide) | (cases hu; cases hu'; simp [AObj.ren, AV.rens, AV.ren, pbC, oSt, oCk] at g2)

/-- Whether a book can be true, as it is answered. -/
noncomputable def rtV (B : CBook) : AV := if dB (bkOk B) = true then .tup [.bool (dB (Ws B ≠ [])), .int .i64 0] else .tup [.bool false, .int .i64 60]
theorem rtV_no {B : CBook} (h : ¬ bkOk B) : rtV B = .tup [.bool false, .int .i64 60] := by unfold rtV; rw [dB_ff h, if_neg (by decide)]
theorem rtV_t {B : CBook} (h : bkOk B) (hW : Ws B ≠ []) : rtV B = .tup [.bool true, .int .i64 0] := by unfold rtV; rw [dB_tt h, if_pos rfl, dB_tt hW]
theorem rtV_f {B : CBook} (h : bkOk B) (hW : Ws B = []) : rtV B = .tup [.bool false, .int .i64 0] := by unfold rtV; rw [dB_tt h, if_pos rfl, dB_ff (fun k => k hW)]
set_option maxRecDepth 100000 in
set_option maxHeartbeats 4000000 in
theorem Right_can (B : CBook) (a1 a2 : AV) (h1 : IsSl a1 B.ns 0) (h2 : IsSl a2 B.nc 1) (hn : B.ns ≤ 9223372036854775807) : CanS 0 Try.prog 14 2 [bk B a1 a2] [(0, some (oSt B)), (1, some (oCk B))] 2 fun v _ _ => v = rtV B := by
  refine CanS.mk Try.func14 rfl rfl rfl ?_
  by_cases hB : bkOk B
  · have he : rtV B = .tup [.bool (!(wths B 0).isEmpty), .int .i64 0] := by
      by_cases hW : Ws B = []
      · have : (wths B 0).isEmpty = true := by show (Ws B).isEmpty = true; rw [hW]; rfl
        rw [rtV_f hB hW, this]; rfl
      · have : (wths B 0).isEmpty = false := by
          show (Ws B).isEmpty = false
          cases h : Ws B with
          | nil => exact absurd h hW
          | cons _ _ => rfl
        rw [rtV_t hB hW, this]; rfl
    rw [he]
    repeat' (first | refine RT.nil ?_ | refine sq_n ?_ | refine Tr.seq ?_ | refine Tr.region ?_ | refine Tr.cond_t rfl ?_ | refine Tr.cond_f rfl ?_ | refine Tr.cond_d rfl (fun _ => ?_) (fun _ => ?_) | refine Tr.skip ?_ | refine Tr.ret ?_ | refine sq_r ?_ | refine Tr.exit ?_ | refine sq_x ?_ | refine Tr.block ?_ | refine blk_n ?_ | refine blk_r ?_ | refine blk_hit rfl ?_ | refine blk_pass rfl ?_ | refine Tr.label ?_ | refine Tr.scope ?_ | refine scp_n ?_ | refine scp_r ?_ | refine scp_x ?_ | refine lp_r ?_ | refine lp_x ?_ | (refine RT.call rfl rfl rfl (Check_ok ⟨h1, h2, rfl, rfl, by decide⟩ hn hB _) rfl rfl (Nat.le_refl _) ?_) | (refine RT.call rfl rfl rfl (prepare_at ⟨h1, h2, rfl, rfl, by decide⟩ (fun x o hx => by have := lookM_mem hx; simp at this; omega) _) rfl rfl (by decide) ?_) | (refine RT.call rfl rfl rfl (right_at (p := 5) (q := 4) (L := []) ⟨h1, h2, rfl, rfl, rfl, by decide, by decide, by decide⟩ rfl hB.1 hB.2.1 hB.2.2.1 _ (by decide)) rfl rfl (Nat.le_refl _) ?_) | (refine RT.goK rfl rfl rfl rfl ?_; apply Nx.of; (first | exact S.lss_t (by decide) | exact S.lss_f (by decide) | exact S.leq_t (by decide) | exact S.leq_f (by decide) | exact S.eql_t (by decide) | exact S.eql_f (by decide) | exact S.neq_t (by decide) | exact S.neq_f (by decide) | exact S.index_arrI rfl rfl rfl rfl (by decide) (by decide) rfl | exact S.idx_arrI rfl rfl rfl (by decide) (by decide))) | (refine RT.goK rfl rfl rfl rfl ?_; apply Nx.of; (first | exact S.move | exact S.assign | exact S.load1c rfl rfl rfl rfl | exact S.loadNc rfl rfl rfl rfl | exact S.fieldAddr rfl rfl rfl | exact S.leq | exact S.lss | exact S.eql | exact S.neq | exact S.geq | exact S.gtr | exact S.not_t | exact S.not_f | exact S.not_d | exact S.pick_tt | exact S.pick_ff | exact S.pick_td (by assumption) | exact S.pick_fd (by assumption) | exact S.pick_b | exact S.box | exact S.alloc rfl | exact S.add_one (by omega) | exact S.sub_one (by omega) (by omega) | exact S.add (by unfold In64; omega) | exact S.sub (by unfold In64; omega) | exact S.mul (by unfold In64; omega) | exact S.add_w | exact S.sub_w | exact S.mul_w | exact S.min2 | exact S.max2 | exact S.build rfl rfl rfl | exact S.buildA rfl rfl rfl rfl | exact S.nilCheck | exact S.extract rfl | exact S.makeFunc)) | (refine RT.goK0 rfl rfl rfl ?_; apply Nx.of; (first | exact S.store rfl rfl rfl rfl rfl rfl | exact S.makeFunc)))
    (first | refine rt_go rfl ?_ | refine rt_go (by exact rfl) ?_)
    rfl
  · rw [rtV_no hB]
    repeat' (first | refine RT.nil ?_ | refine sq_n ?_ | refine Tr.seq ?_ | refine Tr.region ?_ | refine Tr.cond_t rfl ?_ | refine Tr.cond_f rfl ?_ | refine Tr.cond_d rfl (fun _ => ?_) (fun _ => ?_) | refine Tr.skip ?_ | refine Tr.ret ?_ | refine sq_r ?_ | refine Tr.exit ?_ | refine sq_x ?_ | refine Tr.block ?_ | refine blk_n ?_ | refine blk_r ?_ | refine blk_hit rfl ?_ | refine blk_pass rfl ?_ | refine Tr.label ?_ | refine Tr.scope ?_ | refine scp_n ?_ | refine scp_r ?_ | refine scp_x ?_ | refine lp_r ?_ | refine lp_x ?_ | (refine RT.call rfl rfl rfl (Check_no ⟨h1, h2, rfl, rfl, by decide⟩ hn hB _) rfl rfl (Nat.le_refl _) ?_) | (refine RT.goK rfl rfl rfl rfl ?_; apply Nx.of; (first | exact S.lss_t (by decide) | exact S.lss_f (by decide) | exact S.leq_t (by decide) | exact S.leq_f (by decide) | exact S.eql_t (by decide) | exact S.eql_f (by decide) | exact S.neq_t (by decide) | exact S.neq_f (by decide) | exact S.index_arrI rfl rfl rfl rfl (by decide) (by decide) rfl | exact S.idx_arrI rfl rfl rfl (by decide) (by decide))) | (refine RT.goK rfl rfl rfl rfl ?_; apply Nx.of; (first | exact S.move | exact S.assign | exact S.load1c rfl rfl rfl rfl | exact S.loadNc rfl rfl rfl rfl | exact S.fieldAddr rfl rfl rfl | exact S.leq | exact S.lss | exact S.eql | exact S.neq | exact S.geq | exact S.gtr | exact S.not_t | exact S.not_f | exact S.not_d | exact S.pick_tt | exact S.pick_ff | exact S.pick_td (by assumption) | exact S.pick_fd (by assumption) | exact S.pick_b | exact S.box | exact S.alloc rfl | exact S.add_one (by omega) | exact S.sub_one (by omega) (by omega) | exact S.add (by unfold In64; omega) | exact S.sub (by unfold In64; omega) | exact S.mul (by unfold In64; omega) | exact S.add_w | exact S.sub_w | exact S.mul_w | exact S.min2 | exact S.max2 | exact S.build rfl rfl rfl | exact S.buildA rfl rfl rfl rfl | exact S.nilCheck | exact S.extract rfl | exact S.makeFunc)) | (refine RT.goK0 rfl rfl rfl ?_; apply Nx.of; (first | exact S.store rfl rfl rfl rfl rfl rfl | exact S.makeFunc)))
    (first | refine rt_go rfl ?_ | refine rt_go (by exact rfl) ?_)
    rfl
theorem rtV_pl (B : CBook) : Pl (rtV B) := by unfold rtV; split <;> exact fun _ => rfl
theorem Right_x {B : CBook} {v1 v2 : AV} {m : List (Nat × Option AObj)} {c : Nat} (h : BkX B v1 v2 m c) (hn : B.ns ≤ 9223372036854775807) (fl : Nat) : OkAt 0 Try.prog fl 14 [bk B v1 v2] (ofM m) c (rtV B) (ofM m) c := h.use [] .nil (rtV_pl B) (fun a1 a2 i1 i2 => Right_can B a1 a2 i1 i2 hn) fl

/-- Whether a further clock can be right. -/
def ftP (B : CBook) (s r e : Int) : Prop := ∃ t ∈ Ws B, r - e ≤ t.c s.toNat ∧ t.c s.toNat ≤ r + e
noncomputable def ftV (B : CBook) (s r e : Int) : AV := if ansE B (ckOk B s r e) = 0 then .tup [.bool (dB (ftP B s r e)), .int .i64 0] else .tup [.bool false, .int .i64 (ansE B (ckOk B s r e))]
theorem ftV_err {B : CBook} {s r e x : Int} (h : ansE B (ckOk B s r e) = x) (hx : x ≠ 0) : ftV B s r e = .tup [.bool false, .int .i64 x] := by unfold ftV; rw [h, if_neg hx]
theorem ftV_ok {B : CBook} {s r e : Int} (h : ansE B (ckOk B s r e) = 0) : ftV B s r e = .tup [.bool (dB (ftP B s r e)), .int .i64 0] := by unfold ftV; rw [if_pos h]
noncomputable def clF (B : CBook) (a1 a2 : AV) (s r e : Int) (v : Bool) : CallFn := one1 86 [bk B a1 a2, .agg [.int .i64 s, .int .i64 r, .int .i64 e]] (.bool v) fun H c => ∃ m, H = ofM m ∧ BkIn B a1 a2 m c
noncomputable def lnF (B : CBook) (a1 a2 : AV) (q : Bool) (x : Int) : CallFn := one1 78 [bk B a1 a2, .bool q] (.tup [.agg [.nilp, .nils], .int .i64 x]) fun H c => ∃ m, H = ofM m ∧ BkIn B a1 a2 m c
theorem clF_calm {B : CBook} {a1 a2 : AV} (hn : B.ns ≤ 9223372036854775807) (s r e : Int) (v : Bool) (hv : dB (ckOk B s r e) = v) : CalmC 0 Try.prog (clF B a1 a2 s r e v) := one1_calm fun fl H c ⟨m, hm, h⟩ => by subst hm hv; exact isClock_at h hn s r e fl
set_option maxRecDepth 100000 in
set_option maxHeartbeats 4000000 in
theorem Fits_can (B : CBook) (a1 a2 : AV) (h1 : IsSl a1 B.ns 0) (h2 : IsSl a2 B.nc 1) (hn : B.ns ≤ 9223372036854775807) (s r e : Int) : CanS 0 Try.prog 35 2 [bk B a1 a2, .agg [.int .i64 s, .int .i64 r, .int .i64 e]] [(0, some (oSt B)), (1, some (oCk B))] 2 fun v _ _ => v = ftV B s r e := by
  refine CanS.mk Try.func35 rfl rfl rfl ?_
  by_cases hB : bkOk B
  · by_cases hq : ckOk B s r e
    · by_cases hW : Ws B = []
      · rw [ftV_err (ansE_false hB hq hW) (by decide)]
        repeat' (first | refine RT.nil ?_ | refine sq_n ?_ | refine Tr.seq ?_ | refine Tr.region ?_ | refine Tr.cond_t rfl ?_ | refine Tr.cond_f rfl ?_ | refine Tr.cond_d rfl (fun _ => ?_) (fun _ => ?_) | refine Tr.skip ?_ | refine Tr.ret ?_ | refine sq_r ?_ | refine Tr.exit ?_ | refine sq_x ?_ | refine Tr.block ?_ | refine blk_n ?_ | refine blk_r ?_ | refine blk_hit rfl ?_ | refine blk_pass rfl ?_ | refine Tr.label ?_ | refine Tr.scope ?_ | refine scp_n ?_ | refine scp_r ?_ | refine scp_x ?_ | refine lp_r ?_ | refine lp_x ?_ | (refine RT.goK rfl rfl rfl rfl ?_; apply Nx.of; (first | exact S.move | exact S.assign | exact S.load1c rfl rfl rfl rfl | exact S.loadNc rfl rfl rfl rfl | exact S.fieldAddr rfl rfl rfl | exact S.leq | exact S.lss | exact S.eql | exact S.neq | exact S.geq | exact S.gtr | exact S.not_t | exact S.not_f | exact S.not_d | exact S.pick_tt | exact S.pick_ff | exact S.pick_td (by assumption) | exact S.pick_fd (by assumption) | exact S.pick_b | exact S.box | exact S.alloc rfl | exact S.add_one (by omega) | exact S.sub_one (by omega) (by omega) | exact S.add (by unfold In64; omega) | exact S.sub (by unfold In64; omega) | exact S.mul (by unfold In64; omega) | exact S.add_w | exact S.sub_w | exact S.mul_w | exact S.min2 | exact S.max2 | exact S.build rfl rfl rfl | exact S.buildA rfl rfl rfl rfl | exact S.nilCheck | exact S.extract rfl | exact S.makeFunc)) | (refine RT.goK0 rfl rfl rfl ?_; apply Nx.of; (first | exact S.store rfl rfl rfl rfl rfl rfl | exact S.makeFunc)))
        refine Tr.openK un35_1 (by kernel_rfl) (by kernel_rfl) (alts [clF B a1 a2 s r e true, lnF B a1 a2 true 62]) (alts_calm fun g hg => by
          simp only [List.mem_cons, List.not_mem_nil, or_false] at hg
          rcases hg with rfl | rfl
          · exact clF_calm hn s r e _ (dB_tt hq)
          · exact one1_calm fun fl H c ⟨m, hm, h⟩ => by subst hm; exact learn_false_at h hn hB hW fl) ?_
        repeat' (first | (refine RD.free rfl rfl rfl rfl rfl rfl ?_; apply Nx.of; (first | exact S.move | exact S.assign | exact S.fieldAddr rfl rfl rfl | exact S.leq | exact S.lss | exact S.eql | exact S.neq | exact S.geq | exact S.gtr | exact S.not_t | exact S.not_f | exact S.not_d | exact S.pick_tt | exact S.pick_ff | exact S.pick_td (by assumption) | exact S.pick_fd (by assumption) | exact S.pick_b | exact S.add_one (by omega) | exact S.sub_one (by omega) (by omega) | exact S.add (by unfold In64; omega) | exact S.sub (by unfold In64; omega) | exact S.mul (by unfold In64; omega) | exact S.add_w | exact S.sub_w | exact S.mul_w | exact S.min2 | exact S.max2 | exact S.build rfl rfl rfl | exact S.buildA rfl rfl rfl rfl | exact S.nilCheck | exact S.extract rfl | exact S.makeFunc | exact S.idx_sl rfl rfl rfl (by assumption) (by omega) | exact S.idx_slI rfl rfl rfl (by assumption) (by omega) (by omega) | exact S.rowN0 rfl rfl rfl (fun _ => rfl) (range_at (by omega)) rfl | exact S.rowN rfl rfl rfl (fun _ => rfl) (range_at (by omega)) rfl | exact S.row0 rfl rfl rfl (fun _ => rfl) (range_at (by omega)) rfl | exact S.row rfl rfl rfl (fun _ => rfl) (range_at (by omega)) rfl | exact S.row2 rfl rfl rfl (fun _ => rfl) (range_at (by omega)) rfl | exact S.len_sl rfl rfl rfl (by assumption) | exact S.index_arrI rfl rfl rfl rfl (by decide) (by decide) rfl | exact S.idx_arrI rfl rfl rfl (by decide) (by decide))) | (refine RD.new rfl rfl rfl rfl rfl rfl ?_; apply Nx.of; (first | exact S.box | exact S.alloc rfl | exact S.makeFunc)) | (refine RD.load rfl rfl rfl rfl rfl rfl rfl rfl ?_; apply Nx.of; (first | exact S.load1c rfl rfl rfl rfl | exact S.loadNc rfl rfl rfl rfl | exact S.makeFunc | exact S.idx_sl rfl rfl rfl (by assumption) (by omega) | exact S.idx_slI rfl rfl rfl (by assumption) (by omega) (by omega) | exact S.rowN0 rfl rfl rfl (fun _ => rfl) (range_at (by omega)) rfl | exact S.rowN rfl rfl rfl (fun _ => rfl) (range_at (by omega)) rfl | exact S.row0 rfl rfl rfl (fun _ => rfl) (range_at (by omega)) rfl | exact S.row rfl rfl rfl (fun _ => rfl) (range_at (by omega)) rfl | exact S.row2 rfl rfl rfl (fun _ => rfl) (range_at (by omega)) rfl | exact S.len_sl rfl rfl rfl (by assumption))) | (refine RD.store rfl rfl rfl rfl rfl rfl rfl ?_; apply Nx.of; (first | exact S.store rfl rfl rfl rfl rfl rfl | exact S.makeFunc)) | (refine RD.no rfl rfl rfl rfl ?_) | (refine RD.load rfl rfl rfl rfl rfl rfl rfl (by refine us_all ?_; simp only [usOk, cond_true, cond_false]; (repeat' (first | exact trivial | refine And.intro ?_ ?_)); all_goals (first | rfl | exact .inl trivial | exact .inl rfl | (refine Or.inr (was_same rfl ?_); (first | (exact ⟨_, rfl, rfl⟩) | (exact ⟨_, rfl, by simp [rfO, rfVs, rfV, rfVs_flat]⟩))))) ?_; apply Nx.of; (first | exact S.load1c rfl rfl rfl rfl | exact S.loadNc rfl rfl rfl rfl | exact S.makeFunc | exact S.idx_sl rfl rfl rfl (by assumption) (by omega) | exact S.idx_slI rfl rfl rfl (by assumption) (by omega) (by omega) | exact S.rowN0 rfl rfl rfl (fun _ => rfl) (range_at (by omega)) rfl | exact S.rowN rfl rfl rfl (fun _ => rfl) (range_at (by omega)) rfl | exact S.row0 rfl rfl rfl (fun _ => rfl) (range_at (by omega)) rfl | exact S.row rfl rfl rfl (fun _ => rfl) (range_at (by omega)) rfl | exact S.row2 rfl rfl rfl (fun _ => rfl) (range_at (by omega)) rfl | exact S.len_sl rfl rfl rfl (by assumption))) | (refine RD.callN rfl rfl rfl rfl rfl rfl rfl rfl rfl (fun fl' => alts_hd (one1_at ⟨_, rfl, ⟨h1, h2, rfl, rfl, by decide⟩⟩ fl')) (fun _ => by refine srOk_all ?_; simp only [srOk]; (repeat' (first | exact trivial | refine And.intro ?_ ?_)); all_goals (first | exact trivial | (refine ⟨_, rfl, ?_⟩; (first | rfl | (simp [rfO, rfVs, rfV, rfVs_flat]; done) | (simp [bk, AV.cells, pbC, rfO, rfVs, rfV, h1.rf, h2.rf]; done))))) ?_) | (refine RD.callN rfl rfl rfl rfl rfl rfl rfl rfl rfl (fun fl' => (alts_tl (famA_ne _ (by decide))).trans (alts_hd (one1_at ⟨_, rfl, ⟨h1, h2, rfl, rfl, by decide⟩⟩ fl'))) (fun _ => by refine srOk_all ?_; simp only [srOk]; (repeat' (first | exact trivial | refine And.intro ?_ ?_)); all_goals (first | exact trivial | (refine ⟨_, rfl, ?_⟩; (first | rfl | (simp [rfO, rfVs, rfV, rfVs_flat]; done) | (simp [bk, AV.cells, pbC, rfO, rfVs, rfV, h1.rf, h2.rf]; done))))) ?_) | refine RD.nil ⟨Nat.le_of_ble_eq_true rfl, ?_⟩)
        repeat' (first | refine RT.nil ?_ | refine sq_n ?_ | refine Tr.seq ?_ | refine Tr.region ?_ | refine Tr.cond_t rfl ?_ | refine Tr.cond_f rfl ?_ | refine Tr.cond_d rfl (fun _ => ?_) (fun _ => ?_) | refine Tr.skip ?_ | refine Tr.ret ?_ | refine sq_r ?_ | refine Tr.exit ?_ | refine sq_x ?_ | refine Tr.block ?_ | refine blk_n ?_ | refine blk_r ?_ | refine blk_hit rfl ?_ | refine blk_pass rfl ?_ | refine Tr.label ?_ | refine Tr.scope ?_ | refine scp_n ?_ | refine scp_r ?_ | refine scp_x ?_ | refine lp_r ?_ | refine lp_x ?_ | (refine RT.goK rfl rfl rfl rfl ?_; apply Nx.of; (first | exact S.lss_t (by decide) | exact S.lss_f (by decide) | exact S.leq_t (by decide) | exact S.leq_f (by decide) | exact S.eql_t (by decide) | exact S.eql_f (by decide) | exact S.neq_t (by decide) | exact S.neq_f (by decide) | exact S.index_arrI rfl rfl rfl rfl (by decide) (by decide) rfl | exact S.idx_arrI rfl rfl rfl (by decide) (by decide))) | (refine RT.goK rfl rfl rfl rfl ?_; apply Nx.of; (first | exact S.move | exact S.assign | exact S.load1c rfl rfl rfl rfl | exact S.loadNc rfl rfl rfl rfl | exact S.fieldAddr rfl rfl rfl | exact S.leq | exact S.lss | exact S.eql | exact S.neq | exact S.geq | exact S.gtr | exact S.not_t | exact S.not_f | exact S.not_d | exact S.pick_tt | exact S.pick_ff | exact S.pick_td (by assumption) | exact S.pick_fd (by assumption) | exact S.pick_b | exact S.box | exact S.alloc rfl | exact S.add_one (by omega) | exact S.sub_one (by omega) (by omega) | exact S.add (by unfold In64; omega) | exact S.sub (by unfold In64; omega) | exact S.mul (by unfold In64; omega) | exact S.add_w | exact S.sub_w | exact S.mul_w | exact S.min2 | exact S.max2 | exact S.build rfl rfl rfl | exact S.buildA rfl rfl rfl rfl | exact S.nilCheck | exact S.extract rfl | exact S.makeFunc)) | (refine RT.goK0 rfl rfl rfl ?_; apply Nx.of; (first | exact S.store rfl rfl rfl rfl rfl rfl | exact S.makeFunc)))
        (first | refine rt_go rfl ?_ | refine rt_go (by exact rfl) ?_)
        rfl
      · rw [ftV_ok (ansE_ok hB hq hW)]
        repeat' (first | refine RT.nil ?_ | refine sq_n ?_ | refine Tr.seq ?_ | refine Tr.region ?_ | refine Tr.cond_t rfl ?_ | refine Tr.cond_f rfl ?_ | refine Tr.cond_d rfl (fun _ => ?_) (fun _ => ?_) | refine Tr.skip ?_ | refine Tr.ret ?_ | refine sq_r ?_ | refine Tr.exit ?_ | refine sq_x ?_ | refine Tr.block ?_ | refine blk_n ?_ | refine blk_r ?_ | refine blk_hit rfl ?_ | refine blk_pass rfl ?_ | refine Tr.label ?_ | refine Tr.scope ?_ | refine scp_n ?_ | refine scp_r ?_ | refine scp_x ?_ | refine lp_r ?_ | refine lp_x ?_ | (refine RT.goK rfl rfl rfl rfl ?_; apply Nx.of; (first | exact S.move | exact S.assign | exact S.load1c rfl rfl rfl rfl | exact S.loadNc rfl rfl rfl rfl | exact S.fieldAddr rfl rfl rfl | exact S.leq | exact S.lss | exact S.eql | exact S.neq | exact S.geq | exact S.gtr | exact S.not_t | exact S.not_f | exact S.not_d | exact S.pick_tt | exact S.pick_ff | exact S.pick_td (by assumption) | exact S.pick_fd (by assumption) | exact S.pick_b | exact S.box | exact S.alloc rfl | exact S.add_one (by omega) | exact S.sub_one (by omega) (by omega) | exact S.add (by unfold In64; omega) | exact S.sub (by unfold In64; omega) | exact S.mul (by unfold In64; omega) | exact S.add_w | exact S.sub_w | exact S.mul_w | exact S.min2 | exact S.max2 | exact S.build rfl rfl rfl | exact S.buildA rfl rfl rfl rfl | exact S.nilCheck | exact S.extract rfl | exact S.makeFunc)) | (refine RT.goK0 rfl rfl rfl ?_; apply Nx.of; (first | exact S.store rfl rfl rfl rfl rfl rfl | exact S.makeFunc)))
        refine Tr.openK un35_1 (by kernel_rfl) (by kernel_rfl) (alts [clF B a1 a2 s r e true, pinX 78 [bk B a1 a2, .bool true] [(3, some (.cells [.int .i64 s, .int .i64 r, .int .i64 e])), (2, some (.cells (bk B a1 a2).cells)), (0, some (oSt B)), (1, some (oCk B))] 4 (.tup [.agg [.ptr 7 0, .gs 12 (wths B 0).length], .int .i64 0]) ((7, some (.cells (pbC B a1 a2 8))) :: (12, some (oWs B)) :: [(3, some (.cells [.int .i64 s, .int .i64 r, .int .i64 e])), (2, some (.cells (bk B a1 a2).cells)), (0, some (oSt B)), (1, some (oCk B))]) 13]) (alts_calm fun g hg => by
          simp only [List.mem_cons, List.not_mem_nil, or_false] at hg
          rcases hg with rfl | rfl
          · exact clF_calm hn s r e _ (dB_tt hq)
          · exact pinX_calm (fun fl => learn_at (c := 4) ⟨h1, h2, rfl, rfl, by decide⟩ (fun x o hx => by have := lookM_mem hx; simp at this; omega) hn hB hW fl) (fun fl => ((Good.refl fl 4 (ofM [(3, some (.cells [.int .i64 s, .int .i64 r, .int .i64 e])), (2, some (.cells (bk B a1 a2).cells)), (0, some (oSt B)), (1, some (oCk B))])).cons (c2 := 13) (by decide) (by decide) (by decide)).cons (by decide) (by decide) (by decide))) ?_
        repeat' (first | (refine RD.free rfl rfl rfl rfl rfl rfl ?_; apply Nx.of; (first | exact S.move | exact S.assign | exact S.fieldAddr rfl rfl rfl | exact S.leq | exact S.lss | exact S.eql | exact S.neq | exact S.geq | exact S.gtr | exact S.not_t | exact S.not_f | exact S.not_d | exact S.pick_tt | exact S.pick_ff | exact S.pick_td (by assumption) | exact S.pick_fd (by assumption) | exact S.pick_b | exact S.add_one (by omega) | exact S.sub_one (by omega) (by omega) | exact S.add (by unfold In64; omega) | exact S.sub (by unfold In64; omega) | exact S.mul (by unfold In64; omega) | exact S.add_w | exact S.sub_w | exact S.mul_w | exact S.min2 | exact S.max2 | exact S.build rfl rfl rfl | exact S.buildA rfl rfl rfl rfl | exact S.nilCheck | exact S.extract rfl | exact S.makeFunc | exact S.idx_sl rfl rfl rfl (by assumption) (by omega) | exact S.idx_slI rfl rfl rfl (by assumption) (by omega) (by omega) | exact S.rowN0 rfl rfl rfl (fun _ => rfl) (range_at (by omega)) rfl | exact S.rowN rfl rfl rfl (fun _ => rfl) (range_at (by omega)) rfl | exact S.row0 rfl rfl rfl (fun _ => rfl) (range_at (by omega)) rfl | exact S.row rfl rfl rfl (fun _ => rfl) (range_at (by omega)) rfl | exact S.row2 rfl rfl rfl (fun _ => rfl) (range_at (by omega)) rfl | exact S.len_sl rfl rfl rfl (by assumption) | exact S.index_arrI rfl rfl rfl rfl (by decide) (by decide) rfl | exact S.idx_arrI rfl rfl rfl (by decide) (by decide))) | (refine RD.new rfl rfl rfl rfl rfl rfl ?_; apply Nx.of; (first | exact S.box | exact S.alloc rfl | exact S.makeFunc)) | (refine RD.load rfl rfl rfl rfl rfl rfl rfl rfl ?_; apply Nx.of; (first | exact S.load1c rfl rfl rfl rfl | exact S.loadNc rfl rfl rfl rfl | exact S.makeFunc | exact S.idx_sl rfl rfl rfl (by assumption) (by omega) | exact S.idx_slI rfl rfl rfl (by assumption) (by omega) (by omega) | exact S.rowN0 rfl rfl rfl (fun _ => rfl) (range_at (by omega)) rfl | exact S.rowN rfl rfl rfl (fun _ => rfl) (range_at (by omega)) rfl | exact S.row0 rfl rfl rfl (fun _ => rfl) (range_at (by omega)) rfl | exact S.row rfl rfl rfl (fun _ => rfl) (range_at (by omega)) rfl | exact S.row2 rfl rfl rfl (fun _ => rfl) (range_at (by omega)) rfl | exact S.len_sl rfl rfl rfl (by assumption))) | (refine RD.store rfl rfl rfl rfl rfl rfl rfl ?_; apply Nx.of; (first | exact S.store rfl rfl rfl rfl rfl rfl | exact S.makeFunc)) | (refine RD.no rfl rfl rfl rfl ?_) | (refine RD.load rfl rfl rfl rfl rfl rfl rfl (by refine us_all ?_; simp only [usOk, cond_true, cond_false]; (repeat' (first | exact trivial | refine And.intro ?_ ?_)); all_goals (first | rfl | exact .inl trivial | exact .inl rfl | (refine Or.inr (was_same rfl ?_); (first | (exact ⟨_, rfl, rfl⟩) | (exact ⟨_, rfl, by simp [rfO, rfVs, rfV, rfVs_flat]⟩))))) ?_; apply Nx.of; (first | exact S.load1c rfl rfl rfl rfl | exact S.loadNc rfl rfl rfl rfl | exact S.makeFunc | exact S.idx_sl rfl rfl rfl (by assumption) (by omega) | exact S.idx_slI rfl rfl rfl (by assumption) (by omega) (by omega) | exact S.rowN0 rfl rfl rfl (fun _ => rfl) (range_at (by omega)) rfl | exact S.rowN rfl rfl rfl (fun _ => rfl) (range_at (by omega)) rfl | exact S.row0 rfl rfl rfl (fun _ => rfl) (range_at (by omega)) rfl | exact S.row rfl rfl rfl (fun _ => rfl) (range_at (by omega)) rfl | exact S.row2 rfl rfl rfl (fun _ => rfl) (range_at (by omega)) rfl | exact S.len_sl rfl rfl rfl (by assumption))) | (refine RD.callN rfl rfl rfl rfl rfl rfl rfl rfl rfl (fun fl' => alts_hd (one1_at ⟨_, rfl, ⟨h1, h2, rfl, rfl, by decide⟩⟩ fl')) (fun _ => by refine srOk_all ?_; simp only [srOk]; (repeat' (first | exact trivial | refine And.intro ?_ ?_)); all_goals (first | exact trivial | (refine ⟨_, rfl, ?_⟩; (first | rfl | (simp [rfO, rfVs, rfV, rfVs_flat]; done) | (simp [bk, AV.cells, pbC, rfO, rfVs, rfV, h1.rf, h2.rf]; done))))) ?_) | (refine RD.callX rfl rfl rfl rfl rfl rfl rfl rfl rfl (fun fl' => (alts_tl (famA_ne _ (by decide))).trans (alts_hd (pinX_at _ _ _ _ _ _ _ fl'))) (fun _ => by refine srOkX_all ?_; simp only [srOkX]; (repeat' (first | exact trivial | refine And.intro ?_ ?_)); all_goals (first | exact trivial | (refine ⟨_, rfl, rfl, ?_⟩; (first | rfl | (simp [rfO, rfVs, rfV, rfVs_flat]; done) | (simp [bk, AV.cells, pbC, rfO, rfVs, rfV, h1.rf, h2.rf]; done))))) ?_) | refine RD.nil ⟨Nat.le_of_ble_eq_true rfl, ?_⟩)
        repeat' (first | refine RT.nil ?_ | refine sq_n ?_ | refine Tr.seq ?_ | refine Tr.region ?_ | refine Tr.cond_t rfl ?_ | refine Tr.cond_f rfl ?_ | refine Tr.cond_d rfl (fun _ => ?_) (fun _ => ?_) | refine Tr.skip ?_ | refine Tr.ret ?_ | refine sq_r ?_ | refine Tr.exit ?_ | refine sq_x ?_ | refine Tr.block ?_ | refine blk_n ?_ | refine blk_r ?_ | refine blk_hit rfl ?_ | refine blk_pass rfl ?_ | refine Tr.label ?_ | refine Tr.scope ?_ | refine scp_n ?_ | refine scp_r ?_ | refine scp_x ?_ | refine lp_r ?_ | refine lp_x ?_ | (refine RT.call rfl rfl rfl (where_at (p := 7) (x := 12) rfl (by decide) (wths_len hB.1) (right1_ok hB.1 hq) _) rfl rfl (Nat.le_refl _) ?_) | (refine RT.goK rfl rfl rfl rfl ?_; apply Nx.of; (first | exact S.lss_t (by decide) | exact S.lss_f (by decide) | exact S.leq_t (by decide) | exact S.leq_f (by decide) | exact S.eql_t (by decide) | exact S.eql_f (by decide) | exact S.neq_t (by decide) | exact S.neq_f (by decide) | exact S.index_arrI rfl rfl rfl rfl (by decide) (by decide) rfl | exact S.idx_arrI rfl rfl rfl (by decide) (by decide))) | (refine RT.goK rfl rfl rfl rfl ?_; apply Nx.of; (first | exact S.move | exact S.assign | exact S.load1c rfl rfl rfl rfl | exact S.loadNc rfl rfl rfl rfl | exact S.fieldAddr rfl rfl rfl | exact S.leq | exact S.lss | exact S.eql | exact S.neq | exact S.geq | exact S.gtr | exact S.not_t | exact S.not_f | exact S.not_d | exact S.pick_tt | exact S.pick_ff | exact S.pick_td (by assumption) | exact S.pick_fd (by assumption) | exact S.pick_b | exact S.box | exact S.alloc rfl | exact S.add_one (by omega) | exact S.sub_one (by omega) (by omega) | exact S.add (by unfold In64; omega) | exact S.sub (by unfold In64; omega) | exact S.mul (by unfold In64; omega) | exact S.add_w | exact S.sub_w | exact S.mul_w | exact S.min2 | exact S.max2 | exact S.build rfl rfl rfl | exact S.buildA rfl rfl rfl rfl | exact S.nilCheck | exact S.extract rfl | exact S.makeFunc)) | (refine RT.goK0 rfl rfl rfl ?_; apply Nx.of; (first | exact S.store rfl rfl rfl rfl rfl rfl | exact S.makeFunc)))
        (first | refine rt_go rfl ?_ | refine rt_go (by exact rfl) ?_)
        refine congrArg (fun v => AV.tup [v, .int .i64 0]) ?_
        exact dB_iff (whV_ne hW)
    · rw [ftV_err (ansE_ask hB hq) (by decide)]
      repeat' (first | refine RT.nil ?_ | refine sq_n ?_ | refine Tr.seq ?_ | refine Tr.region ?_ | refine Tr.cond_t rfl ?_ | refine Tr.cond_f rfl ?_ | refine Tr.cond_d rfl (fun _ => ?_) (fun _ => ?_) | refine Tr.skip ?_ | refine Tr.ret ?_ | refine sq_r ?_ | refine Tr.exit ?_ | refine sq_x ?_ | refine Tr.block ?_ | refine blk_n ?_ | refine blk_r ?_ | refine blk_hit rfl ?_ | refine blk_pass rfl ?_ | refine Tr.label ?_ | refine Tr.scope ?_ | refine scp_n ?_ | refine scp_r ?_ | refine scp_x ?_ | refine lp_r ?_ | refine lp_x ?_ | (refine RT.goK rfl rfl rfl rfl ?_; apply Nx.of; (first | exact S.move | exact S.assign | exact S.load1c rfl rfl rfl rfl | exact S.loadNc rfl rfl rfl rfl | exact S.fieldAddr rfl rfl rfl | exact S.leq | exact S.lss | exact S.eql | exact S.neq | exact S.geq | exact S.gtr | exact S.not_t | exact S.not_f | exact S.not_d | exact S.pick_tt | exact S.pick_ff | exact S.pick_td (by assumption) | exact S.pick_fd (by assumption) | exact S.pick_b | exact S.box | exact S.alloc rfl | exact S.add_one (by omega) | exact S.sub_one (by omega) (by omega) | exact S.add (by unfold In64; omega) | exact S.sub (by unfold In64; omega) | exact S.mul (by unfold In64; omega) | exact S.add_w | exact S.sub_w | exact S.mul_w | exact S.min2 | exact S.max2 | exact S.build rfl rfl rfl | exact S.buildA rfl rfl rfl rfl | exact S.nilCheck | exact S.extract rfl | exact S.makeFunc)) | (refine RT.goK0 rfl rfl rfl ?_; apply Nx.of; (first | exact S.store rfl rfl rfl rfl rfl rfl | exact S.makeFunc)))
      refine Tr.openK un35_1 (by kernel_rfl) (by kernel_rfl) (alts [clF B a1 a2 s r e false, lnF B a1 a2 false 61]) (alts_calm fun g hg => by
        simp only [List.mem_cons, List.not_mem_nil, or_false] at hg
        rcases hg with rfl | rfl
        · exact clF_calm hn s r e _ (dB_ff hq)
        · exact one1_calm fun fl H c ⟨m, hm, h⟩ => by subst hm; exact learn_ask_at h hn hB fl) ?_
      repeat' (first | (refine RD.free rfl rfl rfl rfl rfl rfl ?_; apply Nx.of; (first | exact S.move | exact S.assign | exact S.fieldAddr rfl rfl rfl | exact S.leq | exact S.lss | exact S.eql | exact S.neq | exact S.geq | exact S.gtr | exact S.not_t | exact S.not_f | exact S.not_d | exact S.pick_tt | exact S.pick_ff | exact S.pick_td (by assumption) | exact S.pick_fd (by assumption) | exact S.pick_b | exact S.add_one (by omega) | exact S.sub_one (by omega) (by omega) | exact S.add (by unfold In64; omega) | exact S.sub (by unfold In64; omega) | exact S.mul (by unfold In64; omega) | exact S.add_w | exact S.sub_w | exact S.mul_w | exact S.min2 | exact S.max2 | exact S.build rfl rfl rfl | exact S.buildA rfl rfl rfl rfl | exact S.nilCheck | exact S.extract rfl | exact S.makeFunc | exact S.idx_sl rfl rfl rfl (by assumption) (by omega) | exact S.idx_slI rfl rfl rfl (by assumption) (by omega) (by omega) | exact S.rowN0 rfl rfl rfl (fun _ => rfl) (range_at (by omega)) rfl | exact S.rowN rfl rfl rfl (fun _ => rfl) (range_at (by omega)) rfl | exact S.row0 rfl rfl rfl (fun _ => rfl) (range_at (by omega)) rfl | exact S.row rfl rfl rfl (fun _ => rfl) (range_at (by omega)) rfl | exact S.row2 rfl rfl rfl (fun _ => rfl) (range_at (by omega)) rfl | exact S.len_sl rfl rfl rfl (by assumption) | exact S.index_arrI rfl rfl rfl rfl (by decide) (by decide) rfl | exact S.idx_arrI rfl rfl rfl (by decide) (by decide))) | (refine RD.new rfl rfl rfl rfl rfl rfl ?_; apply Nx.of; (first | exact S.box | exact S.alloc rfl | exact S.makeFunc)) | (refine RD.load rfl rfl rfl rfl rfl rfl rfl rfl ?_; apply Nx.of; (first | exact S.load1c rfl rfl rfl rfl | exact S.loadNc rfl rfl rfl rfl | exact S.makeFunc | exact S.idx_sl rfl rfl rfl (by assumption) (by omega) | exact S.idx_slI rfl rfl rfl (by assumption) (by omega) (by omega) | exact S.rowN0 rfl rfl rfl (fun _ => rfl) (range_at (by omega)) rfl | exact S.rowN rfl rfl rfl (fun _ => rfl) (range_at (by omega)) rfl | exact S.row0 rfl rfl rfl (fun _ => rfl) (range_at (by omega)) rfl | exact S.row rfl rfl rfl (fun _ => rfl) (range_at (by omega)) rfl | exact S.row2 rfl rfl rfl (fun _ => rfl) (range_at (by omega)) rfl | exact S.len_sl rfl rfl rfl (by assumption))) | (refine RD.store rfl rfl rfl rfl rfl rfl rfl ?_; apply Nx.of; (first | exact S.store rfl rfl rfl rfl rfl rfl | exact S.makeFunc)) | (refine RD.no rfl rfl rfl rfl ?_) | (refine RD.load rfl rfl rfl rfl rfl rfl rfl (by refine us_all ?_; simp only [usOk, cond_true, cond_false]; (repeat' (first | exact trivial | refine And.intro ?_ ?_)); all_goals (first | rfl | exact .inl trivial | exact .inl rfl | (refine Or.inr (was_same rfl ?_); (first | (exact ⟨_, rfl, rfl⟩) | (exact ⟨_, rfl, by simp [rfO, rfVs, rfV, rfVs_flat]⟩))))) ?_; apply Nx.of; (first | exact S.load1c rfl rfl rfl rfl | exact S.loadNc rfl rfl rfl rfl | exact S.makeFunc | exact S.idx_sl rfl rfl rfl (by assumption) (by omega) | exact S.idx_slI rfl rfl rfl (by assumption) (by omega) (by omega) | exact S.rowN0 rfl rfl rfl (fun _ => rfl) (range_at (by omega)) rfl | exact S.rowN rfl rfl rfl (fun _ => rfl) (range_at (by omega)) rfl | exact S.row0 rfl rfl rfl (fun _ => rfl) (range_at (by omega)) rfl | exact S.row rfl rfl rfl (fun _ => rfl) (range_at (by omega)) rfl | exact S.row2 rfl rfl rfl (fun _ => rfl) (range_at (by omega)) rfl | exact S.len_sl rfl rfl rfl (by assumption))) | (refine RD.callN rfl rfl rfl rfl rfl rfl rfl rfl rfl (fun fl' => alts_hd (one1_at ⟨_, rfl, ⟨h1, h2, rfl, rfl, by decide⟩⟩ fl')) (fun _ => by refine srOk_all ?_; simp only [srOk]; (repeat' (first | exact trivial | refine And.intro ?_ ?_)); all_goals (first | exact trivial | (refine ⟨_, rfl, ?_⟩; (first | rfl | (simp [rfO, rfVs, rfV, rfVs_flat]; done) | (simp [bk, AV.cells, pbC, rfO, rfVs, rfV, h1.rf, h2.rf]; done))))) ?_) | (refine RD.callN rfl rfl rfl rfl rfl rfl rfl rfl rfl (fun fl' => (alts_tl (famA_ne _ (by decide))).trans (alts_hd (one1_at ⟨_, rfl, ⟨h1, h2, rfl, rfl, by decide⟩⟩ fl'))) (fun _ => by refine srOk_all ?_; simp only [srOk]; (repeat' (first | exact trivial | refine And.intro ?_ ?_)); all_goals (first | exact trivial | (refine ⟨_, rfl, ?_⟩; (first | rfl | (simp [rfO, rfVs, rfV, rfVs_flat]; done) | (simp [bk, AV.cells, pbC, rfO, rfVs, rfV, h1.rf, h2.rf]; done))))) ?_) | refine RD.nil ⟨Nat.le_of_ble_eq_true rfl, ?_⟩)
      repeat' (first | refine RT.nil ?_ | refine sq_n ?_ | refine Tr.seq ?_ | refine Tr.region ?_ | refine Tr.cond_t rfl ?_ | refine Tr.cond_f rfl ?_ | refine Tr.cond_d rfl (fun _ => ?_) (fun _ => ?_) | refine Tr.skip ?_ | refine Tr.ret ?_ | refine sq_r ?_ | refine Tr.exit ?_ | refine sq_x ?_ | refine Tr.block ?_ | refine blk_n ?_ | refine blk_r ?_ | refine blk_hit rfl ?_ | refine blk_pass rfl ?_ | refine Tr.label ?_ | refine Tr.scope ?_ | refine scp_n ?_ | refine scp_r ?_ | refine scp_x ?_ | refine lp_r ?_ | refine lp_x ?_ | (refine RT.goK rfl rfl rfl rfl ?_; apply Nx.of; (first | exact S.lss_t (by decide) | exact S.lss_f (by decide) | exact S.leq_t (by decide) | exact S.leq_f (by decide) | exact S.eql_t (by decide) | exact S.eql_f (by decide) | exact S.neq_t (by decide) | exact S.neq_f (by decide) | exact S.index_arrI rfl rfl rfl rfl (by decide) (by decide) rfl | exact S.idx_arrI rfl rfl rfl (by decide) (by decide))) | (refine RT.goK rfl rfl rfl rfl ?_; apply Nx.of; (first | exact S.move | exact S.assign | exact S.load1c rfl rfl rfl rfl | exact S.loadNc rfl rfl rfl rfl | exact S.fieldAddr rfl rfl rfl | exact S.leq | exact S.lss | exact S.eql | exact S.neq | exact S.geq | exact S.gtr | exact S.not_t | exact S.not_f | exact S.not_d | exact S.pick_tt | exact S.pick_ff | exact S.pick_td (by assumption) | exact S.pick_fd (by assumption) | exact S.pick_b | exact S.box | exact S.alloc rfl | exact S.add_one (by omega) | exact S.sub_one (by omega) (by omega) | exact S.add (by unfold In64; omega) | exact S.sub (by unfold In64; omega) | exact S.mul (by unfold In64; omega) | exact S.add_w | exact S.sub_w | exact S.mul_w | exact S.min2 | exact S.max2 | exact S.build rfl rfl rfl | exact S.buildA rfl rfl rfl rfl | exact S.nilCheck | exact S.extract rfl | exact S.makeFunc)) | (refine RT.goK0 rfl rfl rfl ?_; apply Nx.of; (first | exact S.store rfl rfl rfl rfl rfl rfl | exact S.makeFunc)))
      (first | refine rt_go rfl ?_ | refine rt_go (by exact rfl) ?_)
      rfl
  · rw [ftV_err (ansE_no hB) (by decide)]
    repeat' (first | refine RT.nil ?_ | refine sq_n ?_ | refine Tr.seq ?_ | refine Tr.region ?_ | refine Tr.cond_t rfl ?_ | refine Tr.cond_f rfl ?_ | refine Tr.cond_d rfl (fun _ => ?_) (fun _ => ?_) | refine Tr.skip ?_ | refine Tr.ret ?_ | refine sq_r ?_ | refine Tr.exit ?_ | refine sq_x ?_ | refine Tr.block ?_ | refine blk_n ?_ | refine blk_r ?_ | refine blk_hit rfl ?_ | refine blk_pass rfl ?_ | refine Tr.label ?_ | refine Tr.scope ?_ | refine scp_n ?_ | refine scp_r ?_ | refine scp_x ?_ | refine lp_r ?_ | refine lp_x ?_ | (refine RT.goK rfl rfl rfl rfl ?_; apply Nx.of; (first | exact S.move | exact S.assign | exact S.load1c rfl rfl rfl rfl | exact S.loadNc rfl rfl rfl rfl | exact S.fieldAddr rfl rfl rfl | exact S.leq | exact S.lss | exact S.eql | exact S.neq | exact S.geq | exact S.gtr | exact S.not_t | exact S.not_f | exact S.not_d | exact S.pick_tt | exact S.pick_ff | exact S.pick_td (by assumption) | exact S.pick_fd (by assumption) | exact S.pick_b | exact S.box | exact S.alloc rfl | exact S.add_one (by omega) | exact S.sub_one (by omega) (by omega) | exact S.add (by unfold In64; omega) | exact S.sub (by unfold In64; omega) | exact S.mul (by unfold In64; omega) | exact S.add_w | exact S.sub_w | exact S.mul_w | exact S.min2 | exact S.max2 | exact S.build rfl rfl rfl | exact S.buildA rfl rfl rfl rfl | exact S.nilCheck | exact S.extract rfl | exact S.makeFunc)) | (refine RT.goK0 rfl rfl rfl ?_; apply Nx.of; (first | exact S.store rfl rfl rfl rfl rfl rfl | exact S.makeFunc)))
    refine Tr.openK un35_1 (by kernel_rfl) (by kernel_rfl) (alts [clF B a1 a2 s r e (dB (ckOk B s r e)), lnF B a1 a2 (dB (ckOk B s r e)) 60]) (alts_calm fun g hg => by
      simp only [List.mem_cons, List.not_mem_nil, or_false] at hg
      rcases hg with rfl | rfl
      · exact clF_calm hn s r e _ rfl
      · exact one1_calm fun fl H c ⟨m, hm, h⟩ => by subst hm; exact learn_no_at h hn hB _ fl) ?_
    repeat' (first | (refine RD.free rfl rfl rfl rfl rfl rfl ?_; apply Nx.of; (first | exact S.move | exact S.assign | exact S.fieldAddr rfl rfl rfl | exact S.leq | exact S.lss | exact S.eql | exact S.neq | exact S.geq | exact S.gtr | exact S.not_t | exact S.not_f | exact S.not_d | exact S.pick_tt | exact S.pick_ff | exact S.pick_td (by assumption) | exact S.pick_fd (by assumption) | exact S.pick_b | exact S.add_one (by omega) | exact S.sub_one (by omega) (by omega) | exact S.add (by unfold In64; omega) | exact S.sub (by unfold In64; omega) | exact S.mul (by unfold In64; omega) | exact S.add_w | exact S.sub_w | exact S.mul_w | exact S.min2 | exact S.max2 | exact S.build rfl rfl rfl | exact S.buildA rfl rfl rfl rfl | exact S.nilCheck | exact S.extract rfl | exact S.makeFunc | exact S.idx_sl rfl rfl rfl (by assumption) (by omega) | exact S.idx_slI rfl rfl rfl (by assumption) (by omega) (by omega) | exact S.rowN0 rfl rfl rfl (fun _ => rfl) (range_at (by omega)) rfl | exact S.rowN rfl rfl rfl (fun _ => rfl) (range_at (by omega)) rfl | exact S.row0 rfl rfl rfl (fun _ => rfl) (range_at (by omega)) rfl | exact S.row rfl rfl rfl (fun _ => rfl) (range_at (by omega)) rfl | exact S.row2 rfl rfl rfl (fun _ => rfl) (range_at (by omega)) rfl | exact S.len_sl rfl rfl rfl (by assumption) | exact S.index_arrI rfl rfl rfl rfl (by decide) (by decide) rfl | exact S.idx_arrI rfl rfl rfl (by decide) (by decide))) | (refine RD.new rfl rfl rfl rfl rfl rfl ?_; apply Nx.of; (first | exact S.box | exact S.alloc rfl | exact S.makeFunc)) | (refine RD.load rfl rfl rfl rfl rfl rfl rfl rfl ?_; apply Nx.of; (first | exact S.load1c rfl rfl rfl rfl | exact S.loadNc rfl rfl rfl rfl | exact S.makeFunc | exact S.idx_sl rfl rfl rfl (by assumption) (by omega) | exact S.idx_slI rfl rfl rfl (by assumption) (by omega) (by omega) | exact S.rowN0 rfl rfl rfl (fun _ => rfl) (range_at (by omega)) rfl | exact S.rowN rfl rfl rfl (fun _ => rfl) (range_at (by omega)) rfl | exact S.row0 rfl rfl rfl (fun _ => rfl) (range_at (by omega)) rfl | exact S.row rfl rfl rfl (fun _ => rfl) (range_at (by omega)) rfl | exact S.row2 rfl rfl rfl (fun _ => rfl) (range_at (by omega)) rfl | exact S.len_sl rfl rfl rfl (by assumption))) | (refine RD.store rfl rfl rfl rfl rfl rfl rfl ?_; apply Nx.of; (first | exact S.store rfl rfl rfl rfl rfl rfl | exact S.makeFunc)) | (refine RD.no rfl rfl rfl rfl ?_) | (refine RD.load rfl rfl rfl rfl rfl rfl rfl (by refine us_all ?_; simp only [usOk, cond_true, cond_false]; (repeat' (first | exact trivial | refine And.intro ?_ ?_)); all_goals (first | rfl | exact .inl trivial | exact .inl rfl | (refine Or.inr (was_same rfl ?_); (first | (exact ⟨_, rfl, rfl⟩) | (exact ⟨_, rfl, by simp [rfO, rfVs, rfV, rfVs_flat]⟩))))) ?_; apply Nx.of; (first | exact S.load1c rfl rfl rfl rfl | exact S.loadNc rfl rfl rfl rfl | exact S.makeFunc | exact S.idx_sl rfl rfl rfl (by assumption) (by omega) | exact S.idx_slI rfl rfl rfl (by assumption) (by omega) (by omega) | exact S.rowN0 rfl rfl rfl (fun _ => rfl) (range_at (by omega)) rfl | exact S.rowN rfl rfl rfl (fun _ => rfl) (range_at (by omega)) rfl | exact S.row0 rfl rfl rfl (fun _ => rfl) (range_at (by omega)) rfl | exact S.row rfl rfl rfl (fun _ => rfl) (range_at (by omega)) rfl | exact S.row2 rfl rfl rfl (fun _ => rfl) (range_at (by omega)) rfl | exact S.len_sl rfl rfl rfl (by assumption))) | (refine RD.callN rfl rfl rfl rfl rfl rfl rfl rfl rfl (fun fl' => alts_hd (one1_at ⟨_, rfl, ⟨h1, h2, rfl, rfl, by decide⟩⟩ fl')) (fun _ => by refine srOk_all ?_; simp only [srOk]; (repeat' (first | exact trivial | refine And.intro ?_ ?_)); all_goals (first | exact trivial | (refine ⟨_, rfl, ?_⟩; (first | rfl | (simp [rfO, rfVs, rfV, rfVs_flat]; done) | (simp [bk, AV.cells, pbC, rfO, rfVs, rfV, h1.rf, h2.rf]; done))))) ?_) | (refine RD.callN rfl rfl rfl rfl rfl rfl rfl rfl rfl (fun fl' => (alts_tl (famA_ne _ (by decide))).trans (alts_hd (one1_at ⟨_, rfl, ⟨h1, h2, rfl, rfl, by decide⟩⟩ fl'))) (fun _ => by refine srOk_all ?_; simp only [srOk]; (repeat' (first | exact trivial | refine And.intro ?_ ?_)); all_goals (first | exact trivial | (refine ⟨_, rfl, ?_⟩; (first | rfl | (simp [rfO, rfVs, rfV, rfVs_flat]; done) | (simp [bk, AV.cells, pbC, rfO, rfVs, rfV, h1.rf, h2.rf]; done))))) ?_) | refine RD.nil ⟨Nat.le_of_ble_eq_true rfl, ?_⟩)
    repeat' (first | refine RT.nil ?_ | refine sq_n ?_ | refine Tr.seq ?_ | refine Tr.region ?_ | refine Tr.cond_t rfl ?_ | refine Tr.cond_f rfl ?_ | refine Tr.cond_d rfl (fun _ => ?_) (fun _ => ?_) | refine Tr.skip ?_ | refine Tr.ret ?_ | refine sq_r ?_ | refine Tr.exit ?_ | refine sq_x ?_ | refine Tr.block ?_ | refine blk_n ?_ | refine blk_r ?_ | refine blk_hit rfl ?_ | refine blk_pass rfl ?_ | refine Tr.label ?_ | refine Tr.scope ?_ | refine scp_n ?_ | refine scp_r ?_ | refine scp_x ?_ | refine lp_r ?_ | refine lp_x ?_ | (refine RT.goK rfl rfl rfl rfl ?_; apply Nx.of; (first | exact S.lss_t (by decide) | exact S.lss_f (by decide) | exact S.leq_t (by decide) | exact S.leq_f (by decide) | exact S.eql_t (by decide) | exact S.eql_f (by decide) | exact S.neq_t (by decide) | exact S.neq_f (by decide) | exact S.index_arrI rfl rfl rfl rfl (by decide) (by decide) rfl | exact S.idx_arrI rfl rfl rfl (by decide) (by decide))) | (refine RT.goK rfl rfl rfl rfl ?_; apply Nx.of; (first | exact S.move | exact S.assign | exact S.load1c rfl rfl rfl rfl | exact S.loadNc rfl rfl rfl rfl | exact S.fieldAddr rfl rfl rfl | exact S.leq | exact S.lss | exact S.eql | exact S.neq | exact S.geq | exact S.gtr | exact S.not_t | exact S.not_f | exact S.not_d | exact S.pick_tt | exact S.pick_ff | exact S.pick_td (by assumption) | exact S.pick_fd (by assumption) | exact S.pick_b | exact S.box | exact S.alloc rfl | exact S.add_one (by omega) | exact S.sub_one (by omega) (by omega) | exact S.add (by unfold In64; omega) | exact S.sub (by unfold In64; omega) | exact S.mul (by unfold In64; omega) | exact S.add_w | exact S.sub_w | exact S.mul_w | exact S.min2 | exact S.max2 | exact S.build rfl rfl rfl | exact S.buildA rfl rfl rfl rfl | exact S.nilCheck | exact S.extract rfl | exact S.makeFunc)) | (refine RT.goK0 rfl rfl rfl ?_; apply Nx.of; (first | exact S.store rfl rfl rfl rfl rfl rfl | exact S.makeFunc)))
    (first | refine rt_go rfl ?_ | refine rt_go (by exact rfl) ?_)
    rfl
theorem ftV_pl (B : CBook) (s r e : Int) : Pl (ftV B s r e) := by unfold ftV; split <;> exact fun _ => rfl
theorem Fits_x {B : CBook} {v1 v2 : AV} {m : List (Nat × Option AObj)} {c : Nat} (h : BkX B v1 v2 m c) (hn : B.ns ≤ 9223372036854775807) (s r e : Int) (fl : Nat) : OkAt 0 Try.prog fl 35 [bk B v1 v2, .agg [.int .i64 s, .int .i64 r, .int .i64 e]] (ofM m) c (ftV B s r e) (ofM m) c := h.use [.agg [.int .i64 s, .int .i64 r, .int .i64 e]] (fun _ => rfl) (ftV_pl B s r e) (fun a1 a2 i1 i2 => Fits_can B a1 a2 i1 i2 hn s r e) fl
end Go.Proofs.Ytcoklgmdifggbaa

/- What the laws on package claim share, beside the book: spans compared, Reach, Just, Wrap in open regions; a book whose road is smooth. -/
namespace Go.Proofs.Ytcoklgmdifggbaa
open Go Go.Ev

theorem eqSp (a b e d : Int) : eqA Try.prog 32 (.agg [.int .i64 a, .int .i64 b]) (.agg [.int .i64 e, .int .i64 d]) = some (decide (a = e ∧ b = d)) := by
  have : eqA Try.prog 32 (.agg [.int .i64 a, .int .i64 b]) (.agg [.int .i64 e, .int .i64 d]) = andV (some (decide (a = e))) (andV (some (decide (b = d))) (some true)) := by kernel_rfl
  rw [this, andV1, andV2]
theorem S.eqlA_t {P : Program} {fl c t yt : Nat} {m : List (Nat × Option AObj)} {x1 x2 : Operand} {l1 l2 : List AV} {p : Prop} {inst : Decidable p} (h : eqA P t (.agg l1) (.agg l2) = some (@decide p inst)) (hp : p) : OpE P fl (.binOp .eql t x1 x2 yt) [.agg l1, .agg l2] m c (.bool true) m c := by
  have := S.eqlA (fl := fl) (c := c) (m := m) (x1 := x1) (x2 := x2) (yt := yt) (h.trans (congrArg some (decide_eq_true hp)))
  exact this
theorem val_is {u v : AV} {H : T AObj} {c fl f : Nat} {args : List AV} (e : u = v) (h : OkAt 0 Try.prog fl f args H c u H c) : OkAt 0 Try.prog fl f args H c v H c := e ▸ h
/-- The chapter's examples say true. -/
abbrev BillOK : Prop := CanS 0 Try.prog 24 0 [] [] 0 fun v _ _ => v = .bool true

set_option maxRecDepth 100000 in
theorem Just_can (a : Int) : CanS 0 Try.prog 49 0 [.int .i64 a] [] 0 fun v _ _ => v = .agg [.int .i64 a, .int .i64 a] := by
  refine CanS.mk Try.func49 rfl rfl rfl ?_
  repeat' (first | refine RT.nil ?_ | refine sq_n ?_ | refine Tr.seq ?_ | refine Tr.region ?_ | refine Tr.cond_t rfl ?_ | refine Tr.cond_f rfl ?_ | refine Tr.cond_d rfl (fun _ => ?_) (fun _ => ?_) | refine Tr.skip ?_ | refine Tr.ret ?_ | refine sq_r ?_ | refine Tr.exit ?_ | refine sq_x ?_ | refine Tr.block ?_ | refine blk_n ?_ | refine blk_r ?_ | refine blk_hit rfl ?_ | refine blk_pass rfl ?_ | refine Tr.label ?_ | refine Tr.scope ?_ | refine scp_n ?_ | refine scp_r ?_ | refine scp_x ?_ | refine lp_r ?_ | refine lp_x ?_ | (refine RT.call rfl rfl rfl (Reach_at _ _ _ _ _) rfl rfl (Nat.le_refl _) ?_) | (refine RT.goK rfl rfl rfl rfl ?_; apply Nx.of; (first | exact S.move | exact S.assign | exact S.load1c rfl rfl rfl rfl | exact S.loadNc rfl rfl rfl rfl | exact S.fieldAddr rfl rfl rfl | exact S.leq | exact S.lss | exact S.eql | exact S.neq | exact S.geq | exact S.gtr | exact S.not_t | exact S.not_f | exact S.not_d | exact S.pick_tt | exact S.pick_ff | exact S.pick_td (by assumption) | exact S.pick_fd (by assumption) | exact S.pick_b | exact S.box | exact S.alloc rfl | exact S.add_one (by omega) | exact S.sub_one (by omega) (by omega) | exact S.add (by unfold In64; omega) | exact S.sub (by unfold In64; omega) | exact S.mul (by unfold In64; omega) | exact S.add_w | exact S.sub_w | exact S.mul_w | exact S.min2 | exact S.max2 | exact S.build rfl rfl rfl | exact S.buildA rfl rfl rfl rfl | exact S.nilCheck | exact S.extract rfl | exact S.store rfl rfl (bk_one h1 h2) rfl rfl rfl | exact S.store rfl rfl (bkg_one h2) rfl rfl rfl | exact S.buildSlice0 rfl rfl rfl | exact S.append_e rfl rfl rfl rfl rfl rfl rfl rfl rfl rfl h1 rfl rfl hfl (by omega) (by omega) | exact S.storeG rfl rfl rfl rfl rfl hsp)) | (refine RT.goK0 rfl rfl rfl ?_; apply Nx.of; (first | exact S.store rfl rfl rfl rfl rfl rfl | exact S.store rfl rfl (bk_one h1 h2) rfl rfl rfl | exact S.store rfl rfl (bkg_one h2) rfl rfl rfl | exact S.buildSlice0 rfl rfl rfl | exact S.append_e rfl rfl rfl rfl rfl rfl rfl rfl rfl rfl h1 rfl rfl hfl (by omega) (by omega) | exact S.storeG rfl rfl rfl rfl rfl hsp)))
  (first | refine rt_go rfl ?_ | refine rt_go (by exact rfl) ?_)
  rfl
theorem Just_at (a : Int) (H : T AObj) (c fl : Nat) : OkAt 0 Try.prog fl 49 [.int .i64 a] H c (.agg [.int .i64 a, .int .i64 a]) H c :=
  (Just_can a).pure (fun _ => rfl) (.plain fun _ => rfl) fl

noncomputable def reachF : CallFn := famA (α := Int × Int) 52 (fun a => [.int .i64 a.1, .int .i64 a.2]) (fun a => .agg [.int .i64 a.1, .int .i64 a.2]) fun _ _ _ => True
noncomputable def justF : CallFn := famA (α := Int) 49 (fun a => [.int .i64 a]) (fun a => .agg [.int .i64 a, .int .i64 a]) fun _ _ _ => True
theorem justF_calm : CalmC 0 Try.prog justF := famA_calm fun a fl H c _ => Just_at a H c fl
theorem justF_at (a : Int) (fl0 : Nat) (H : T AObj) (c : Nat) : justF fl0 49 [.int .i64 a] H c = some (.agg [.int .i64 a, .int .i64 a], H, c) :=
  famA_at (α := Int) fl0 a trivial fun x h => by
    simp only [List.cons.injEq, AV.int.injEq, true_and, and_true] at h
    subst h
    rfl
noncomputable def wrapF : CallFn := famA (α := Int × Int) 47 (fun a => [.int .i64 a.1, .int .i64 a.2]) (fun a => .int .i64 (wrapV a.1 a.2)) fun a _ _ => a.2 ≤ 1000000
theorem wrapF_calm : CalmC 0 Try.prog wrapF := famA_calm fun a fl H c h => Wrap_at a.1 a.2 h H c fl
theorem wrapF_at (a b : Int) (h : b ≤ 1000000) (fl0 : Nat) (H : T AObj) (c : Nat) : wrapF fl0 47 [.int .i64 a, .int .i64 b] H c = some (.int .i64 (wrapV a b), H, c) :=
  famA_at (α := Int × Int) fl0 (a, b) h fun x h => by
    obtain ⟨x1, x2⟩ := x
    simp only [List.cons.injEq, AV.int.injEq, true_and, and_true] at h
    obtain ⟨rfl, rfl⟩ := h
    rfl

theorem bk_one {B : CBook} {a1 a2 : AV} (h1 : IsSl a1 B.ns 0) (h2 : IsSl a2 B.nc 1) : ((bk B a1 a2).cells.all AV.one) = true := by
  simp only [bk, AV.cells, List.all_cons, List.all_nil, h1.one.1, h2.one.1]
  rfl
/-- A book whose road costs nothing on the first stages. -/
def smB (B : CBook) (k : Nat) : CBook := { B with rl := fun i => if i < k then 0 else B.rl i, rh := fun i => if i < k then 0 else B.rh i }
end Go.Proofs.Ytcoklgmdifggbaa

/- A book whose road is smooth: where it lies, and what its truths are. -/
namespace Go.Proofs.Ytcoklgmdifggbaa
open Go Go.Ev

/-- A book without its clocks. -/
def ncB (B : CBook) : CBook := { B with nc := 0 }
/-- A truth by its parts. -/
def toT (w : Int) (n : Nat) (r c : Nat → Int) : Tru := ⟨w, if 0 < n then r 0 else 0, if 1 < n then r 1 else 0, if 2 < n then r 2 else 0, if 0 < n then c 0 else 0, if 1 < n then c 1 else 0, if 2 < n then c 2 else 0⟩
def sumN (f : Nat → Int) : Nat → Int
  | 0 => 0
  | k + 1 => sumN f k + f k
def chn (B : CBook) (w : Nat) : Nat → Int
  | 0 => B.dl 0 + B.cost w + B.rl 0
  | k + 1 => chn B w k + B.sl k + B.dl (k + 1) + B.cost w + B.rl (k + 1)
end Go.Proofs.Ytcoklgmdifggbaa

/- Heavy operations that are not calls, whose order beside others is open; and-not. -/
namespace Go.Ev
open Go

section
variable {G : Nat} {P : Program} {fl c c' : Nat} {n : Nat} {dfs : List Nat} {l : List (Nat × AV)} {o : Oper} {call round : CallFn} {ops : List Oper} {is : List OpI} {rs us : List Rec} {un : List Nat} {v : AV} {vs : List AV} {d : Nat} {K : St → Prop} {m m' : List (Nat × Option AObj)}
theorem RD.heavyN [hP : PG P G] (hk : kindA o.op = .heavy) (hr : recL rs un = some us) (hw : wantedL ops o l = some true) (hv : operandsL G l (opArgs o.op) = some vs) (hd : o.dst = some d) (hn : Nat.blt d n = true)
    (hu : us.all (fun r => !r.heavy && r.st.isNone) = true) (hh : (us.flatMap fun r => (List.range (r.hi - r.lo)).map (r.lo + ·)) = [])
    (h : Nx P c o.op vs m c fun v m' c' => RD G P fl call round ops is (⟨true, none, c, c', none, none, none⟩ :: rs) (stL n dfs ((d, v) :: l) m' c') K) : RD G P fl call round ops (⟨o, un, false⟩ :: is) rs (stL n dfs l m c) K := by
  obtain ⟨v, m', c', h1, h2⟩ := h.ex
  refine RD.step (v := v) (m' := m') (c' := c') (rc := ⟨true, none, c, c', none, none, none⟩) hr hw hv ?_ (put_some hn hd) (by rw [hd]; exact h2)
  rw [hk]; unfold stD
  simp only [hu, hh, hideA, cond_true, cond_false, h1.step call round, backA, List.foldl_nil]

def andnI (a b : Int) : Int := IntKind.i64.wrap (BitVec.ofInt 64 a &&& ~~~(BitVec.ofInt 64 b)).toNat
theorem S.andNot {t s : Nat} {x1 x2 : Operand} {a b : Int} : OpE P fl (.binOp .andNot t x1 x2 s) [.int .i64 a, .int .i64 b] m c (.int .i64 (andnI a b)) m c := ⟨rfl, Nat.le_refl _, rfl⟩
theorem S.neqB_f {t s : Nat} {x1 x2 : Operand} {b : Bool} (h : eqA P t (.bool b) (.bool b) = some true) : OpE P fl (.binOp .neq t x1 x2 s) [.bool b, .bool b] m c (.bool false) m c := by
  refine ⟨rfl, Nat.le_refl _, ?_⟩
  show opt1 ((eqA P t (.bool b) (.bool b)).map fun b => .bool (!b)) (ofM m) c = _
  rw [h]; rfl
theorem S.eqB_t {t s : Nat} {x1 x2 : Operand} {b : Bool} (h : eqA P t (.bool b) (.bool b) = some true) : OpE P fl (.binOp .eql t x1 x2 s) [.bool b, .bool b] m c (.bool true) m c := by
  refine ⟨rfl, Nat.le_refl _, ?_⟩
  show opt1 ((eqA P t (.bool b) (.bool b)).map .bool) (ofM m) c = _
  rw [h]; rfl
theorem S.gtr_f {t s : Nat} {x1 x2 : Operand} {a b : Int} (h : ¬ b < a) : OpE P fl (.binOp .gtr t x1 x2 s) [.int .i64 a, .int .i64 b] m c (.bool false) m c := by
  have := S.gtr (P := P) (fl := fl) (m := m) (c := c) (t := t) (yt := s) (x1 := x1) (x2 := x2) (a := a) (b := b)
  rwa [decide_eq_false h] at this
theorem S.idx_sl4 [Tab P] {t i k x off cp : Nat} {x1 x2 : Operand} {y z : Ty} (hy : ty P t = some y) (hk : y.kind = 5) (hz : ty P y.elem = some z) (hi : i < k) : OpE P fl (.indexAddr t x1 x2) [.sl x off k cp, .int .i64 (i : Int)] m c (.ptr x (off + i * z.size)) m c := by
  refine ⟨rfl, Nat.le_refl _, ?_⟩
  have h1 : Nat.blt i k = true := by simpa using hi
  simp only [opA, oIndexAddr, indexAddrA, natOf_nat, ty_slice hy hk, ty_size hz, h1, cond_true, Option.map_some, opt1]
end
end Go.Ev

/- A book with a further clock: where it lies. -/
namespace Go.Proofs.Ytcoklgmdifggbaa
open Go Go.Ev

set_option maxRecDepth 100000 in
theorem clock_can (a b e : Int) : CanS 0 Try.prog 48 0 [.int .i64 a, .int .i64 b, .int .i64 e] [] 0 fun v _ _ => v = .agg [.int .i64 a, .int .i64 b, .int .i64 e] := by
  refine CanS.mk Try.func48 rfl rfl rfl ?_
  repeat' (first | refine RT.nil ?_ | refine sq_n ?_ | refine Tr.seq ?_ | refine Tr.region ?_ | refine Tr.cond_t rfl ?_ | refine Tr.cond_f rfl ?_ | refine Tr.cond_d rfl (fun _ => ?_) (fun _ => ?_) | refine Tr.skip ?_ | refine Tr.ret ?_ | refine sq_r ?_ | refine Tr.exit ?_ | refine sq_x ?_ | refine Tr.block ?_ | refine blk_n ?_ | refine blk_r ?_ | refine blk_hit rfl ?_ | refine blk_pass rfl ?_ | refine Tr.label ?_ | refine Tr.scope ?_ | refine scp_n ?_ | refine scp_r ?_ | refine scp_x ?_ | refine lp_r ?_ | refine lp_x ?_ | (refine RT.goK rfl rfl rfl rfl ?_; apply Nx.of; (first | exact S.move | exact S.assign | exact S.load1c rfl rfl rfl rfl | exact S.loadNc rfl rfl rfl rfl | exact S.fieldAddr rfl rfl rfl | exact S.leq | exact S.lss | exact S.eql | exact S.neq | exact S.geq | exact S.gtr | exact S.not_t | exact S.not_f | exact S.not_d | exact S.pick_tt | exact S.pick_ff | exact S.pick_td (by assumption) | exact S.pick_fd (by assumption) | exact S.pick_b | exact S.box | exact S.alloc rfl | exact S.add_one (by omega) | exact S.sub_one (by omega) (by omega) | exact S.add (by unfold In64; omega) | exact S.sub (by unfold In64; omega) | exact S.mul (by unfold In64; omega) | exact S.add_w | exact S.sub_w | exact S.mul_w | exact S.min2 | exact S.max2 | exact S.build rfl rfl rfl | exact S.buildA rfl rfl rfl rfl | exact S.nilCheck | exact S.extract rfl | exact S.store rfl rfl (bk_one h1 h2) rfl rfl rfl | exact S.store rfl rfl (bkc_one h1) rfl rfl rfl | exact S.buildSlice0 rfl rfl rfl | exact S.buildSlice rfl rfl rfl rfl rfl rfl rfl | exact S.and)) | (refine RT.goK0 rfl rfl rfl ?_; apply Nx.of; (first | exact S.store rfl rfl rfl rfl rfl rfl | exact S.store rfl rfl (bk_one h1 h2) rfl rfl rfl | exact S.store rfl rfl (bkc_one h1) rfl rfl rfl | exact S.buildSlice0 rfl rfl rfl | exact S.buildSlice rfl rfl rfl rfl rfl rfl rfl | exact S.and)))
  (first | refine rt_go rfl ?_ | refine rt_go (by exact rfl) ?_)
  rfl
theorem clock_at (a b e : Int) (H : T AObj) (c fl : Nat) : OkAt 0 Try.prog fl 48 [.int .i64 a, .int .i64 b, .int .i64 e] H c (.agg [.int .i64 a, .int .i64 b, .int .i64 e]) H c :=
  (clock_can a b e).pure (fun _ => rfl) (.plain fun _ => rfl) fl
set_option maxRecDepth 100000 in
theorem In_can (s : Int) (n : Nat) (h : n ≤ 62) : CanS 0 Try.prog 43 0 [.int .i64 s, .int .i64 (n : Int)] [] 0 fun v _ _ => v = .bool (dB (hasP s n)) := by
  refine CanS.mk Try.func43 rfl rfl rfl ?_
  repeat' (first | refine RT.nil ?_ | refine sq_n ?_ | refine Tr.seq ?_ | refine Tr.region ?_ | refine Tr.cond_t rfl ?_ | refine Tr.cond_f rfl ?_ | refine Tr.cond_d rfl (fun _ => ?_) (fun _ => ?_) | refine Tr.skip ?_ | refine Tr.ret ?_ | refine sq_r ?_ | refine Tr.exit ?_ | refine sq_x ?_ | refine Tr.block ?_ | refine blk_n ?_ | refine blk_r ?_ | refine blk_hit rfl ?_ | refine blk_pass rfl ?_ | refine Tr.label ?_ | refine Tr.scope ?_ | refine scp_n ?_ | refine scp_r ?_ | refine scp_x ?_ | refine lp_r ?_ | refine lp_x ?_ | (refine RT.goK rfl rfl rfl rfl ?_; refine Nx.of (S.shr h) ?_) | (refine RT.goK rfl rfl rfl rfl ?_; apply Nx.of; (first | exact S.move | exact S.assign | exact S.load1c rfl rfl rfl rfl | exact S.loadNc rfl rfl rfl rfl | exact S.fieldAddr rfl rfl rfl | exact S.leq | exact S.lss | exact S.eql | exact S.neq | exact S.geq | exact S.gtr | exact S.not_t | exact S.not_f | exact S.not_d | exact S.pick_tt | exact S.pick_ff | exact S.pick_td (by assumption) | exact S.pick_fd (by assumption) | exact S.pick_b | exact S.box | exact S.alloc rfl | exact S.add_one (by omega) | exact S.sub_one (by omega) (by omega) | exact S.add (by unfold In64; omega) | exact S.sub (by unfold In64; omega) | exact S.mul (by unfold In64; omega) | exact S.add_w | exact S.sub_w | exact S.mul_w | exact S.min2 | exact S.max2 | exact S.build rfl rfl rfl | exact S.buildA rfl rfl rfl rfl | exact S.nilCheck | exact S.extract rfl | exact S.store rfl rfl (bk_one h1 h2) rfl rfl rfl | exact S.store rfl rfl (bkc_one h1) rfl rfl rfl | exact S.buildSlice0 rfl rfl rfl | exact S.buildSlice rfl rfl rfl rfl rfl rfl rfl | exact S.and)) | (refine RT.goK0 rfl rfl rfl ?_; apply Nx.of; (first | exact S.store rfl rfl rfl rfl rfl rfl | exact S.store rfl rfl (bk_one h1 h2) rfl rfl rfl | exact S.store rfl rfl (bkc_one h1) rfl rfl rfl | exact S.buildSlice0 rfl rfl rfl | exact S.buildSlice rfl rfl rfl rfl rfl rfl rfl | exact S.and)))
  (first | refine rt_go rfl ?_ | refine rt_go (by exact rfl) ?_)
  exact dB_iff Iff.rfl
theorem In_at (s : Int) (n : Nat) (h : n ≤ 62) (H : T AObj) (c fl : Nat) : OkAt 0 Try.prog fl 43 [.int .i64 s, .int .i64 (n : Int)] H c (.bool (dB (hasP s n))) H c :=
  (In_can s n h).pure (.bool _) (.plain fun _ => rfl) fl

/-- A book with one clock more. -/
def wiB (B : CBook) (s r e : Int) : CBook := { B with nc := B.nc + 1, ck := fun i => if i < B.nc then B.ck i else s, rd := fun i => if i < B.nc then B.rd i else r, er := fun i => if i < B.nc then B.er i else e }
theorem flat_wi (B : CBook) (s r e : Int) : flat (ckE (wiB B s r e)) (List.range (B.nc + 1)) = flat (ckE B) (List.range B.nc) ++ [.int .i64 s, .int .i64 r, .int .i64 e] := by
  rw [List.range_succ, flat_append, flat_one]
  refine congr (congrArg _ ?_) ?_
  · unfold flat
    refine congrArg List.flatten (List.map_congr_left fun i hi => ?_)
    have hi := List.mem_range.1 hi
    simp only [ckE, wiB, if_pos hi]
  · simp only [ckE, wiB, if_neg (Nat.lt_irrefl _)]
    rfl
theorem bkc_one {B : CBook} {a1 : AV} {q n : Nat} (h1 : IsSl a1 B.ns 0) : ((bk B a1 (.gs q n)).cells.all AV.one) = true := by
  simp only [bk, AV.cells, List.all_cons, List.all_nil, h1.one.1]
  rfl

/-- The name under which the longer list lies. -/
def wiX (B : CBook) : Nat := if B.nc = 0 then 8 else 9
set_option maxRecDepth 100000 in
set_option maxHeartbeats 4000000 in
theorem with_can (B : CBook) (a1 a2 : AV) (h1 : IsSl a1 B.ns 0) (h2 : IsSl a2 B.nc 1) (hnc : B.nc ≤ 4) (s r e : Int) : CanS 0 Try.prog 50 2 [bk B a1 a2, .agg [.int .i64 s, .int .i64 r, .int .i64 e]] [(0, some (oSt B)), (1, some (oCk B))] 2 fun v H1 c1 => v = bk B a1 (.gs (wiX B) (B.nc + 1)) ∧ c1 = wiX B + 1 ∧ H1.get (wiX B) = some (.grown (flat (ckE B) (List.range B.nc) ++ [.int .i64 s, .int .i64 r, .int .i64 e]) 3) := by
  have hfl : (flat (ckE B) (List.range B.nc)).length = B.nc * 3 := by rw [flat_len (s := 3) (fun _ => rfl), List.length_range]
  refine CanS.mk Try.func50 rfl rfl rfl ?_
  repeat' (first | refine RT.nil ?_ | refine sq_n ?_ | refine Tr.seq ?_ | refine Tr.region ?_ | refine Tr.cond_t rfl ?_ | refine Tr.cond_f rfl ?_ | refine Tr.cond_d rfl (fun _ => ?_) (fun _ => ?_) | refine Tr.skip ?_ | refine Tr.ret ?_ | refine sq_r ?_ | refine Tr.exit ?_ | refine sq_x ?_ | refine Tr.block ?_ | refine blk_n ?_ | refine blk_r ?_ | refine blk_hit rfl ?_ | refine blk_pass rfl ?_ | refine Tr.label ?_ | refine Tr.scope ?_ | refine scp_n ?_ | refine scp_r ?_ | refine scp_x ?_ | refine lp_r ?_ | refine lp_x ?_ | (refine RT.goK rfl rfl rfl rfl ?_; apply Nx.of; (first | exact S.move | exact S.assign | exact S.load1c rfl rfl rfl rfl | exact S.loadNc rfl rfl rfl rfl | exact S.fieldAddr rfl rfl rfl | exact S.leq | exact S.lss | exact S.eql | exact S.neq | exact S.geq | exact S.gtr | exact S.not_t | exact S.not_f | exact S.not_d | exact S.pick_tt | exact S.pick_ff | exact S.pick_td (by assumption) | exact S.pick_fd (by assumption) | exact S.pick_b | exact S.box | exact S.alloc rfl | exact S.add_one (by omega) | exact S.sub_one (by omega) (by omega) | exact S.add (by unfold In64; omega) | exact S.sub (by unfold In64; omega) | exact S.mul (by unfold In64; omega) | exact S.add_w | exact S.sub_w | exact S.mul_w | exact S.min2 | exact S.max2 | exact S.build rfl rfl rfl | exact S.buildA rfl rfl rfl rfl | exact S.nilCheck | exact S.extract rfl | exact S.store rfl rfl (bk_one h1 h2) rfl rfl rfl | exact S.store rfl rfl (bkc_one h1) rfl rfl rfl | exact S.buildSlice0 rfl rfl rfl | exact S.buildSlice rfl rfl rfl rfl rfl rfl rfl | exact S.and)) | (refine RT.goK0 rfl rfl rfl ?_; apply Nx.of; (first | exact S.store rfl rfl rfl rfl rfl rfl | exact S.store rfl rfl (bk_one h1 h2) rfl rfl rfl | exact S.store rfl rfl (bkc_one h1) rfl rfl rfl | exact S.buildSlice0 rfl rfl rfl | exact S.buildSlice rfl rfl rfl rfl rfl rfl rfl | exact S.and)))
  refine Tr.openK un50_2 (by kernel_rfl) (by kernel_rfl) noCall noCall_calm ?_
  by_cases h0 : B.nc = 0
  · have hw : wiX B = 8 := by unfold wiX; rw [if_pos h0]
    have hz : flat (ckE B) (List.range B.nc) = [] := by rw [h0]; rfl
    rw [hw, hz, h0]
    rw [h0] at h2
    repeat' (first | (refine RD.free rfl rfl rfl rfl rfl rfl ?_; apply Nx.of; (first | exact S.move | exact S.assign | exact S.fieldAddr rfl rfl rfl | exact S.leq | exact S.lss | exact S.eql | exact S.neq | exact S.geq | exact S.gtr | exact S.not_t | exact S.not_f | exact S.not_d | exact S.pick_tt | exact S.pick_ff | exact S.pick_td (by assumption) | exact S.pick_fd (by assumption) | exact S.pick_b | exact S.add_one (by omega) | exact S.sub_one (by omega) (by omega) | exact S.add (by unfold In64; omega) | exact S.sub (by unfold In64; omega) | exact S.mul (by unfold In64; omega) | exact S.add_w | exact S.sub_w | exact S.mul_w | exact S.min2 | exact S.max2 | exact S.build rfl rfl rfl | exact S.buildA rfl rfl rfl rfl | exact S.nilCheck | exact S.extract rfl | exact S.store rfl rfl (bk_one h1 h2) rfl rfl rfl | exact S.store rfl rfl (bkc_one h1) rfl rfl rfl | exact S.buildSlice0 rfl rfl rfl | exact S.buildSlice rfl rfl rfl rfl rfl rfl rfl | exact S.and | exact S.idx_sl rfl rfl rfl (by assumption) (by omega) | exact S.idx_slI rfl rfl rfl (by assumption) (by omega) (by omega) | exact S.rowN0 rfl rfl rfl (fun _ => rfl) (range_at (by omega)) rfl | exact S.rowN rfl rfl rfl (fun _ => rfl) (range_at (by omega)) rfl | exact S.row0 rfl rfl rfl (fun _ => rfl) (range_at (by omega)) rfl | exact S.row rfl rfl rfl (fun _ => rfl) (range_at (by omega)) rfl | exact S.row2 rfl rfl rfl (fun _ => rfl) (range_at (by omega)) rfl | exact S.len_sl rfl rfl rfl (by assumption) | exact S.index_arrI rfl rfl rfl rfl (by decide) (by decide) rfl | exact S.idx_arrI rfl rfl rfl (by decide) (by decide))) | (refine RD.new rfl rfl rfl rfl rfl rfl ?_; apply Nx.of; (first | exact S.box | exact S.alloc rfl | exact S.store rfl rfl (bk_one h1 h2) rfl rfl rfl | exact S.store rfl rfl (bkc_one h1) rfl rfl rfl | exact S.buildSlice0 rfl rfl rfl | exact S.buildSlice rfl rfl rfl rfl rfl rfl rfl | exact S.and)) | (refine RD.load rfl rfl rfl rfl rfl rfl rfl rfl ?_; apply Nx.of; (first | exact S.load1c rfl rfl rfl rfl | exact S.loadNc rfl rfl rfl rfl | exact S.store rfl rfl (bk_one h1 h2) rfl rfl rfl | exact S.store rfl rfl (bkc_one h1) rfl rfl rfl | exact S.buildSlice0 rfl rfl rfl | exact S.buildSlice rfl rfl rfl rfl rfl rfl rfl | exact S.and | exact S.idx_sl rfl rfl rfl (by assumption) (by omega) | exact S.idx_slI rfl rfl rfl (by assumption) (by omega) (by omega) | exact S.rowN0 rfl rfl rfl (fun _ => rfl) (range_at (by omega)) rfl | exact S.rowN rfl rfl rfl (fun _ => rfl) (range_at (by omega)) rfl | exact S.row0 rfl rfl rfl (fun _ => rfl) (range_at (by omega)) rfl | exact S.row rfl rfl rfl (fun _ => rfl) (range_at (by omega)) rfl | exact S.row2 rfl rfl rfl (fun _ => rfl) (range_at (by omega)) rfl | exact S.len_sl rfl rfl rfl (by assumption))) | (refine RD.store rfl rfl rfl rfl rfl rfl rfl ?_; apply Nx.of; (first | exact S.store rfl rfl rfl rfl rfl rfl | exact S.store rfl rfl (bk_one h1 h2) rfl rfl rfl | exact S.store rfl rfl (bkc_one h1) rfl rfl rfl | exact S.buildSlice0 rfl rfl rfl | exact S.buildSlice rfl rfl rfl rfl rfl rfl rfl | exact S.and)) | (refine RD.no rfl rfl rfl rfl ?_) | (refine RD.load rfl rfl rfl rfl rfl rfl rfl (by refine us_all ?_; simp only [usOk, cond_true, cond_false]; (repeat' (first | exact trivial | refine And.intro ?_ ?_)); all_goals (first | rfl | exact .inl trivial | exact .inl rfl | (refine Or.inr (was_same rfl ?_); (first | (exact ⟨_, rfl, rfl⟩) | (exact ⟨_, rfl, by simp [rfO, rfVs, rfV, rfVs_flat]⟩))))) ?_; apply Nx.of; (first | exact S.load1c rfl rfl rfl rfl | exact S.loadNc rfl rfl rfl rfl | exact S.store rfl rfl (bk_one h1 h2) rfl rfl rfl | exact S.store rfl rfl (bkc_one h1) rfl rfl rfl | exact S.buildSlice0 rfl rfl rfl | exact S.buildSlice rfl rfl rfl rfl rfl rfl rfl | exact S.and | exact S.idx_sl rfl rfl rfl (by assumption) (by omega) | exact S.idx_slI rfl rfl rfl (by assumption) (by omega) (by omega) | exact S.rowN0 rfl rfl rfl (fun _ => rfl) (range_at (by omega)) rfl | exact S.rowN rfl rfl rfl (fun _ => rfl) (range_at (by omega)) rfl | exact S.row0 rfl rfl rfl (fun _ => rfl) (range_at (by omega)) rfl | exact S.row rfl rfl rfl (fun _ => rfl) (range_at (by omega)) rfl | exact S.row2 rfl rfl rfl (fun _ => rfl) (range_at (by omega)) rfl | exact S.len_sl rfl rfl rfl (by assumption))) | (refine RD.heavyN rfl rfl rfl rfl rfl rfl rfl rfl ?_; apply Nx.of; (first | exact S.append_e0 rfl rfl rfl rfl rfl rfl rfl rfl h2 rfl rfl | exact S.append_e1 rfl rfl rfl rfl rfl rfl rfl rfl rfl rfl rfl rfl | exact S.append_e rfl rfl rfl rfl rfl rfl rfl rfl rfl rfl h2 rfl rfl hfl (by omega) (by omega) | exact S.append_gs rfl rfl rfl rfl rfl rfl rfl rfl rfl rfl rfl rfl rfl (cut_all hfl) (by omega) rfl)) | (refine RD.wide rfl rfl rfl rfl rfl rfl rfl rfl ?_; (first | refine Nx.of (S.append_e1 rfl rfl rfl rfl rfl rfl rfl rfl rfl rfl rfl rfl) ⟨rfl, ?_⟩ | refine Nx.of (S.append_gs rfl rfl rfl rfl rfl rfl rfl rfl rfl rfl rfl rfl rfl (cut_all hfl) (by omega) rfl) ⟨rfl, ?_⟩)) | refine RD.nil ⟨Nat.le_of_ble_eq_true rfl, ?_⟩)
    repeat' (first | refine RT.nil ?_ | refine sq_n ?_ | refine Tr.seq ?_ | refine Tr.region ?_ | refine Tr.cond_t rfl ?_ | refine Tr.cond_f rfl ?_ | refine Tr.cond_d rfl (fun _ => ?_) (fun _ => ?_) | refine Tr.skip ?_ | refine Tr.ret ?_ | refine sq_r ?_ | refine Tr.exit ?_ | refine sq_x ?_ | refine Tr.block ?_ | refine blk_n ?_ | refine blk_r ?_ | refine blk_hit rfl ?_ | refine blk_pass rfl ?_ | refine Tr.label ?_ | refine Tr.scope ?_ | refine scp_n ?_ | refine scp_r ?_ | refine scp_x ?_ | refine lp_r ?_ | refine lp_x ?_ | (refine RT.goK rfl rfl rfl rfl ?_; apply Nx.of; (first | exact S.move | exact S.assign | exact S.load1c rfl rfl rfl rfl | exact S.loadNc rfl rfl rfl rfl | exact S.fieldAddr rfl rfl rfl | exact S.leq | exact S.lss | exact S.eql | exact S.neq | exact S.geq | exact S.gtr | exact S.not_t | exact S.not_f | exact S.not_d | exact S.pick_tt | exact S.pick_ff | exact S.pick_td (by assumption) | exact S.pick_fd (by assumption) | exact S.pick_b | exact S.box | exact S.alloc rfl | exact S.add_one (by omega) | exact S.sub_one (by omega) (by omega) | exact S.add (by unfold In64; omega) | exact S.sub (by unfold In64; omega) | exact S.mul (by unfold In64; omega) | exact S.add_w | exact S.sub_w | exact S.mul_w | exact S.min2 | exact S.max2 | exact S.build rfl rfl rfl | exact S.buildA rfl rfl rfl rfl | exact S.nilCheck | exact S.extract rfl | exact S.store rfl rfl (bk_one h1 h2) rfl rfl rfl | exact S.store rfl rfl (bkc_one h1) rfl rfl rfl | exact S.buildSlice0 rfl rfl rfl | exact S.buildSlice rfl rfl rfl rfl rfl rfl rfl | exact S.and)) | (refine RT.goK0 rfl rfl rfl ?_; apply Nx.of; (first | exact S.store rfl rfl rfl rfl rfl rfl | exact S.store rfl rfl (bk_one h1 h2) rfl rfl rfl | exact S.store rfl rfl (bkc_one h1) rfl rfl rfl | exact S.buildSlice0 rfl rfl rfl | exact S.buildSlice rfl rfl rfl rfl rfl rfl rfl | exact S.and)))
    (first | refine rt_go rfl ?_ | refine rt_go (by exact rfl) ?_)
    exact ⟨rfl, rfl, getM rfl⟩
  · have hw : wiX B = 9 := by unfold wiX; rw [if_neg h0]
    rw [hw]
    repeat' (first | (refine RD.free rfl rfl rfl rfl rfl rfl ?_; apply Nx.of; (first | exact S.move | exact S.assign | exact S.fieldAddr rfl rfl rfl | exact S.leq | exact S.lss | exact S.eql | exact S.neq | exact S.geq | exact S.gtr | exact S.not_t | exact S.not_f | exact S.not_d | exact S.pick_tt | exact S.pick_ff | exact S.pick_td (by assumption) | exact S.pick_fd (by assumption) | exact S.pick_b | exact S.add_one (by omega) | exact S.sub_one (by omega) (by omega) | exact S.add (by unfold In64; omega) | exact S.sub (by unfold In64; omega) | exact S.mul (by unfold In64; omega) | exact S.add_w | exact S.sub_w | exact S.mul_w | exact S.min2 | exact S.max2 | exact S.build rfl rfl rfl | exact S.buildA rfl rfl rfl rfl | exact S.nilCheck | exact S.extract rfl | exact S.store rfl rfl (bk_one h1 h2) rfl rfl rfl | exact S.store rfl rfl (bkc_one h1) rfl rfl rfl | exact S.buildSlice0 rfl rfl rfl | exact S.buildSlice rfl rfl rfl rfl rfl rfl rfl | exact S.and | exact S.idx_sl rfl rfl rfl (by assumption) (by omega) | exact S.idx_slI rfl rfl rfl (by assumption) (by omega) (by omega) | exact S.rowN0 rfl rfl rfl (fun _ => rfl) (range_at (by omega)) rfl | exact S.rowN rfl rfl rfl (fun _ => rfl) (range_at (by omega)) rfl | exact S.row0 rfl rfl rfl (fun _ => rfl) (range_at (by omega)) rfl | exact S.row rfl rfl rfl (fun _ => rfl) (range_at (by omega)) rfl | exact S.row2 rfl rfl rfl (fun _ => rfl) (range_at (by omega)) rfl | exact S.len_sl rfl rfl rfl (by assumption) | exact S.index_arrI rfl rfl rfl rfl (by decide) (by decide) rfl | exact S.idx_arrI rfl rfl rfl (by decide) (by decide))) | (refine RD.new rfl rfl rfl rfl rfl rfl ?_; apply Nx.of; (first | exact S.box | exact S.alloc rfl | exact S.store rfl rfl (bk_one h1 h2) rfl rfl rfl | exact S.store rfl rfl (bkc_one h1) rfl rfl rfl | exact S.buildSlice0 rfl rfl rfl | exact S.buildSlice rfl rfl rfl rfl rfl rfl rfl | exact S.and)) | (refine RD.load rfl rfl rfl rfl rfl rfl rfl rfl ?_; apply Nx.of; (first | exact S.load1c rfl rfl rfl rfl | exact S.loadNc rfl rfl rfl rfl | exact S.store rfl rfl (bk_one h1 h2) rfl rfl rfl | exact S.store rfl rfl (bkc_one h1) rfl rfl rfl | exact S.buildSlice0 rfl rfl rfl | exact S.buildSlice rfl rfl rfl rfl rfl rfl rfl | exact S.and | exact S.idx_sl rfl rfl rfl (by assumption) (by omega) | exact S.idx_slI rfl rfl rfl (by assumption) (by omega) (by omega) | exact S.rowN0 rfl rfl rfl (fun _ => rfl) (range_at (by omega)) rfl | exact S.rowN rfl rfl rfl (fun _ => rfl) (range_at (by omega)) rfl | exact S.row0 rfl rfl rfl (fun _ => rfl) (range_at (by omega)) rfl | exact S.row rfl rfl rfl (fun _ => rfl) (range_at (by omega)) rfl | exact S.row2 rfl rfl rfl (fun _ => rfl) (range_at (by omega)) rfl | exact S.len_sl rfl rfl rfl (by assumption))) | (refine RD.store rfl rfl rfl rfl rfl rfl rfl ?_; apply Nx.of; (first | exact S.store rfl rfl rfl rfl rfl rfl | exact S.store rfl rfl (bk_one h1 h2) rfl rfl rfl | exact S.store rfl rfl (bkc_one h1) rfl rfl rfl | exact S.buildSlice0 rfl rfl rfl | exact S.buildSlice rfl rfl rfl rfl rfl rfl rfl | exact S.and)) | (refine RD.no rfl rfl rfl rfl ?_) | (refine RD.load rfl rfl rfl rfl rfl rfl rfl (by refine us_all ?_; simp only [usOk, cond_true, cond_false]; (repeat' (first | exact trivial | refine And.intro ?_ ?_)); all_goals (first | rfl | exact .inl trivial | exact .inl rfl | (refine Or.inr (was_same rfl ?_); (first | (exact ⟨_, rfl, rfl⟩) | (exact ⟨_, rfl, by simp [rfO, rfVs, rfV, rfVs_flat]⟩))))) ?_; apply Nx.of; (first | exact S.load1c rfl rfl rfl rfl | exact S.loadNc rfl rfl rfl rfl | exact S.store rfl rfl (bk_one h1 h2) rfl rfl rfl | exact S.store rfl rfl (bkc_one h1) rfl rfl rfl | exact S.buildSlice0 rfl rfl rfl | exact S.buildSlice rfl rfl rfl rfl rfl rfl rfl | exact S.and | exact S.idx_sl rfl rfl rfl (by assumption) (by omega) | exact S.idx_slI rfl rfl rfl (by assumption) (by omega) (by omega) | exact S.rowN0 rfl rfl rfl (fun _ => rfl) (range_at (by omega)) rfl | exact S.rowN rfl rfl rfl (fun _ => rfl) (range_at (by omega)) rfl | exact S.row0 rfl rfl rfl (fun _ => rfl) (range_at (by omega)) rfl | exact S.row rfl rfl rfl (fun _ => rfl) (range_at (by omega)) rfl | exact S.row2 rfl rfl rfl (fun _ => rfl) (range_at (by omega)) rfl | exact S.len_sl rfl rfl rfl (by assumption))) | (refine RD.heavyN rfl rfl rfl rfl rfl rfl rfl rfl ?_; apply Nx.of; (first | exact S.append_e0 rfl rfl rfl rfl rfl rfl rfl rfl h2 rfl rfl | exact S.append_e1 rfl rfl rfl rfl rfl rfl rfl rfl rfl rfl rfl rfl | exact S.append_e rfl rfl rfl rfl rfl rfl rfl rfl rfl rfl h2 rfl rfl hfl (by omega) (by omega) | exact S.append_gs rfl rfl rfl rfl rfl rfl rfl rfl rfl rfl rfl rfl rfl (cut_all hfl) (by omega) rfl)) | (refine RD.wide rfl rfl rfl rfl rfl rfl rfl rfl ?_; (first | refine Nx.of (S.append_e1 rfl rfl rfl rfl rfl rfl rfl rfl rfl rfl rfl rfl) ⟨rfl, ?_⟩ | refine Nx.of (S.append_gs rfl rfl rfl rfl rfl rfl rfl rfl rfl rfl rfl rfl rfl (cut_all hfl) (by omega) rfl) ⟨rfl, ?_⟩)) | refine RD.nil ⟨Nat.le_of_ble_eq_true rfl, ?_⟩)
    repeat' (first | refine RT.nil ?_ | refine sq_n ?_ | refine Tr.seq ?_ | refine Tr.region ?_ | refine Tr.cond_t rfl ?_ | refine Tr.cond_f rfl ?_ | refine Tr.cond_d rfl (fun _ => ?_) (fun _ => ?_) | refine Tr.skip ?_ | refine Tr.ret ?_ | refine sq_r ?_ | refine Tr.exit ?_ | refine sq_x ?_ | refine Tr.block ?_ | refine blk_n ?_ | refine blk_r ?_ | refine blk_hit rfl ?_ | refine blk_pass rfl ?_ | refine Tr.label ?_ | refine Tr.scope ?_ | refine scp_n ?_ | refine scp_r ?_ | refine scp_x ?_ | refine lp_r ?_ | refine lp_x ?_ | (refine RT.goK rfl rfl rfl rfl ?_; apply Nx.of; (first | exact S.move | exact S.assign | exact S.load1c rfl rfl rfl rfl | exact S.loadNc rfl rfl rfl rfl | exact S.fieldAddr rfl rfl rfl | exact S.leq | exact S.lss | exact S.eql | exact S.neq | exact S.geq | exact S.gtr | exact S.not_t | exact S.not_f | exact S.not_d | exact S.pick_tt | exact S.pick_ff | exact S.pick_td (by assumption) | exact S.pick_fd (by assumption) | exact S.pick_b | exact S.box | exact S.alloc rfl | exact S.add_one (by omega) | exact S.sub_one (by omega) (by omega) | exact S.add (by unfold In64; omega) | exact S.sub (by unfold In64; omega) | exact S.mul (by unfold In64; omega) | exact S.add_w | exact S.sub_w | exact S.mul_w | exact S.min2 | exact S.max2 | exact S.build rfl rfl rfl | exact S.buildA rfl rfl rfl rfl | exact S.nilCheck | exact S.extract rfl | exact S.store rfl rfl (bk_one h1 h2) rfl rfl rfl | exact S.store rfl rfl (bkc_one h1) rfl rfl rfl | exact S.buildSlice0 rfl rfl rfl | exact S.buildSlice rfl rfl rfl rfl rfl rfl rfl | exact S.and)) | (refine RT.goK0 rfl rfl rfl ?_; apply Nx.of; (first | exact S.store rfl rfl rfl rfl rfl rfl | exact S.store rfl rfl (bk_one h1 h2) rfl rfl rfl | exact S.store rfl rfl (bkc_one h1) rfl rfl rfl | exact S.buildSlice0 rfl rfl rfl | exact S.buildSlice rfl rfl rfl rfl rfl rfl rfl | exact S.and)))
    (first | refine rt_go rfl ?_ | refine rt_go (by exact rfl) ?_)
    exact ⟨rfl, rfl, getM rfl⟩
end Go.Proofs.Ytcoklgmdifggbaa

/- A book with a further clock, a book with one weather: their truths. -/
namespace Go.Proofs.Ytcoklgmdifggbaa
open Go Go.Ev

theorem with_at {B : CBook} {a1 a2 : AV} {m : List (Nat × Option AObj)} {c : Nat} (h : BkIn B a1 a2 m c) (hm : ∀ x o, lookM m x = some o → x < c) (hnc : B.nc ≤ 4) (s r e : Int) (fl k : Nat) (hk : wiX B = k + 2) : OkAt 0 Try.prog fl 50 [bk B a1 a2, .agg [.int .i64 s, .int .i64 r, .int .i64 e]] (ofM m) c
    (bk B a1 (.gs (c + k) (B.nc + 1))) (ofM ((c + k, some (.grown (flat (ckE (wiB B s r e)) (List.range (B.nc + 1))) 3)) :: m)) (c + k + 1) := by
  let τ : Nat → Nat := fun y => if y < 2 then y else c + (y - 2)
  have hc := h.hc
  have t0 : τ 0 = 0 := rfl
  have t1 : τ 1 = 1 := rfl
  have tk : τ (k + 2) = c + k := by show (if k + 2 < 2 then k + 2 else c + (k + 2 - 2)) = _; rw [if_neg (by omega), Nat.add_sub_cancel]
  have ha : AV.rens τ [bk B a1 a2, .agg [.int .i64 s, .int .i64 r, .int .i64 e]] = [bk B a1 a2, .agg [.int .i64 s, .int .i64 r, .int .i64 e]] := by simp only [bk, AV.ren, AV.rens, h.h1.ren t0, h.h2.ren t1]
  rw [← ha]
  refine CanS.inst (with_can B a1 a2 h.h1 h.h2 hnc s r e) (Nat.zero_le _) (Nat.le_refl _) τ (fun g hg => by omega) (fun y hy => by show (if y < 2 then y else _) < c; rw [if_pos hy]; omega) (fun y hy => by show (if y < 2 then y else _) = _; rw [if_neg (by omega)]) (fun y o hy => ?_) (fun x y o o' hx hy hxy => ?_) (fun y hy hy' => by omega) (fun v1 H1 c1 hq _ => ?_)
  · rcases m2_low hy with rfl | rfl
    · cases hy; rw [t0, ren_ro]; exact getM h.m1
    · cases hy; rw [t1, ren_ro]; exact getM h.m2
  · refine .inl ?_
    rcases m2_low hx with rfl | rfl <;> rcases m2_low hy with rfl | rfl <;> simp only [t0, t1] <;> omega
  · obtain ⟨rfl, rfl, g1⟩ := hq
    rw [hk] at g1 ⊢
    refine ⟨by simp only [bk, AV.ren, AV.rens, tk, h.h1.ren t0], by omega, fun x o hx => ?_⟩
    rw [ofM_get] at hx
    by_cases e1 : x = c + k
    · subst e1
      rw [lookM_hd] at hx
      cases hx
      refine .inr ⟨k + 2, _, by omega, g1, tk.symm, ?_⟩
      rw [← flat_wi B s r e]
      exact (ren_grown _ _ _ _).symm
    · rw [lookM_tl e1] at hx
      exact .inl ⟨hm x o hx, fun y hy hy' => by omega, getM hx⟩

theorem or_bd : ∀ k : Fin 4, ∀ a : Fin 8, a.1 < 2 ^ k.1 → 0 < orI (a.1 : Int) (1 * 2 ^ k.1) ∧ orI (a.1 : Int) (1 * 2 ^ k.1) < 2 ^ (k.1 + 1) := by decide +kernel
theorem or_bd' {k : Nat} {a : Int} (hk : k < 4) (h0 : 0 ≤ a) (h1 : a < 2 ^ k) : 0 < orI a (1 * 2 ^ k) ∧ orI a (1 * 2 ^ k) < 2 ^ (k + 1) := by
  obtain ⟨n, rfl⟩ := Int.eq_ofNat_of_zero_le h0
  have h2 : (2 : Int) ^ k ≤ 8 := by
    obtain rfl | rfl | rfl | rfl : k = 0 ∨ k = 1 ∨ k = 2 ∨ k = 3 := by omega
    all_goals decide
  have h3 : n < 2 ^ k := by exact_mod_cast h1
  exact or_bd ⟨k, hk⟩ ⟨n, by omega⟩ h3
theorem wrS_bd (B : CBook) (s mi : Int) : ∀ k, k ≤ 4 → 0 ≤ wrS B s mi k ∧ wrS B s mi k < 2 ^ k
  | 0, _ => by simp [wrS]
  | k + 1, h => by
    have ih := wrS_bd B s mi k (by omega)
    rw [wrS]
    by_cases hp : B.ck k = s ∧ ¬ (B.rd k - B.er k ≤ mi ∧ mi ≤ B.rd k + B.er k)
    · rw [dB_tt hp]
      have := or_bd' (by omega) ih.1 ih.2
      exact ⟨Int.le_of_lt this.1, this.2⟩
    · rw [dB_ff hp]
      refine ⟨ih.1, Int.lt_of_lt_of_le ih.2 ?_⟩
      show (2 : Int) ^ k ≤ 2 ^ (k + 1)
      rw [Int.pow_succ]
      have : (0 : Int) ≤ 2 ^ k := Int.le_trans ih.1 (Int.le_of_lt ih.2)
      omega
theorem wrS_wi (B : CBook) (s r e i mi : Int) : ∀ k, k ≤ B.nc → wrS (wiB B s r e) i mi k = wrS B i mi k
  | 0, _ => rfl
  | k + 1, h => by
    rw [wrS, wrS, wrS_wi B s r e i mi k (by omega)]
    simp only [wiB, if_pos (show k < B.nc by omega)]
theorem wrV_wi (B : CBook) (s r e : Int) (q : Int × Int) (hnc : B.nc ≤ 3) : wrV (wiB B s r e) q = 0 ↔ wrV B q = 0 ∧ ¬ (s = q.1 ∧ ¬ (r - e ≤ q.2 ∧ q.2 ≤ r + e)) := by
  have e0 : wrV (wiB B s r e) q = bif dB (s = q.1 ∧ ¬ (r - e ≤ q.2 ∧ q.2 ≤ r + e)) then orI (wrV B q) (1 * 2 ^ B.nc) else wrV B q := by
    show wrS (wiB B s r e) q.1 q.2 (B.nc + 1) = _
    rw [wrS, wrS_wi B s r e q.1 q.2 B.nc (Nat.le_refl _)]
    simp only [wiB, if_neg (Nat.lt_irrefl _)]
    rfl
  have hb := wrS_bd B q.1 q.2 B.nc (by omega)
  rw [e0]
  by_cases hp : s = q.1 ∧ ¬ (r - e ≤ q.2 ∧ q.2 ≤ r + e)
  · rw [dB_tt hp]
    have := (or_bd' (by omega) hb.1 hb.2).1
    exact ⟨fun h => absurd h (Int.ne_of_gt this), fun h => absurd hp h.2⟩
  · rw [dB_ff hp]
    exact ⟨fun h => ⟨h, hp⟩, fun h => h.1⟩
theorem before_wi (B : CBook) (s r e : Int) (i : Nat) : before (wiB B s r e) i = before B i := by cases i <;> rfl
theorem wiB_ok {B : CBook} {s r e : Int} (h : bkOk B) (hnc : B.nc ≤ 3) (hc : ckOk B s r e) : bkOk (wiB B s r e) := by
  refine ⟨⟨h.1.1, fun i hi => ?_⟩, h.2.1, ⟨show B.nc + 1 ≤ 4 by omega, fun i hi => ?_⟩, h.2.2.2⟩
  · have := h.1.2 i hi
    unfold stOk at this ⊢
    rw [before_wi]
    exact this
  · show ckOk B _ _ _
    simp only [wiB]
    by_cases hlt : i < B.nc
    · rw [if_pos hlt, if_pos hlt, if_pos hlt]; exact h.2.2.1.2 i hlt
    · rw [if_neg hlt, if_neg hlt, if_neg hlt]; exact hc
theorem wi_ne {B : CBook} {s r e : Int} (h : bkOk B) (hnc : B.nc ≤ 3) (hc : ckOk B s r e) : Ws (wiB B s r e) ≠ [] ↔ ftP B s r e := by
  have hw := wiB_ok h hnc hc
  have mem : ∀ t, t ∈ Ws (wiB B s r e) ↔ t ∈ Ws B ∧ (r - e ≤ t.c s.toNat ∧ t.c s.toNat ≤ r + e) := fun t => by
    rw [mem_Ws hw.1 hw.2.1, mem_Ws h.1 h.2.1]
    constructor
    · intro k
      refine ⟨⟨k.w, fun i hi => ?_, k.z⟩, ?_⟩
      · have g := k.st i hi
        exact ⟨g.1, g.2.1, ((wrV_wi B s r e _ hnc).1 g.2.2).1⟩
      · have g := k.st s.toNat (show s.toNat < B.ns by unfold ckOk at hc; omega)
        have g3 := ((wrV_wi B s r e _ hnc).1 g.2.2).2
        refine Classical.byContradiction fun q => g3 ⟨?_, q⟩
        show s = (s.toNat : Int)
        unfold ckOk at hc
        omega
    · rintro ⟨k, hk⟩
      refine ⟨k.w, fun i hi => ?_, k.z⟩
      have g := k.st i hi
      refine ⟨g.1, g.2.1, (wrV_wi B s r e _ hnc).2 ⟨g.2.2, fun ⟨q1, q2⟩ => q2 ?_⟩⟩
      have : s.toNat = i := by
        have : s = (i : Int) := q1
        omega
      rw [this] at hk
      exact hk
  constructor
  · intro k
    obtain ⟨t, ht⟩ := List.exists_mem_of_ne_nil _ k
    exact ⟨t, ((mem t).1 ht).1, ((mem t).1 ht).2⟩
  · rintro ⟨t, ht, hk⟩ k
    have := (mem t).2 ⟨ht, hk⟩
    rw [k] at this
    cases this

theorem setV_cases (p : Nat → Prop) : (0 ≤ setV p 3 ∧ setV p 3 ≤ 7) ∧ ∀ w, w < 3 → (hasP (setV p 3) w ↔ p w) := by
  by_cases h0 : p 0 <;> by_cases h1 : p 1 <;> by_cases h2 : p 2
  all_goals
    simp only [setV, h0, h1, h2, dB_tt trivial, dB_ff not_false, cond_true, cond_false]
    refine ⟨by decide +kernel, fun w hw => ?_⟩
    obtain rfl | rfl | rfl : w = 0 ∨ w = 1 ∨ w = 2 := by omega
    all_goals
      unfold hasP
      first | exact iff_of_true (by decide +kernel) (by assumption) | exact iff_of_false (by decide +kernel) (by assumption)
theorem andn_0 : ∀ a : Fin 8, ∀ b : Fin 8, (∀ w : Fin 3, andI ((a.1 : Int).fdiv (2 ^ w.1)) 1 = 1 → andI ((b.1 : Int).fdiv (2 ^ w.1)) 1 = 1) → andnI a.1 b.1 = 0 := by decide +kernel
theorem andn_set {p : Nat → Prop} {b : Int} (hb : 1 ≤ b ∧ b ≤ 7) (h : ∀ w, w < 3 → p w → hasP b w) : andnI (setV p 3) b = 0 := by
  obtain ⟨⟨s0, s7⟩, hs⟩ := setV_cases p
  generalize setV p 3 = a at *
  obtain ⟨n, rfl⟩ := Int.eq_ofNat_of_zero_le s0
  obtain ⟨k, rfl⟩ := Int.eq_ofNat_of_zero_le (show 0 ≤ b by omega)
  exact andn_0 ⟨n, by omega⟩ ⟨k, by omega⟩ fun w hw => h w.1 w.2 ((hs w.1 w.2).1 hw)
theorem setV_ne {p : Nat → Prop} {w : Nat} (hw : w < 3) (h : p w) : setV p 3 ≠ 0 := fun e => by
  have := ((setV_cases p).2 w hw).2 h
  rw [e] at this
  unfold hasP at this
  obtain rfl | rfl | rfl : w = 0 ∨ w = 1 ∨ w = 2 := by omega
  all_goals exact absurd this (by decide +kernel)

/-- A book with one weather. -/
def weB (B : CBook) (w : Nat) : CBook := { B with wea := 1 * 2 ^ w }
theorem before_we (B : CBook) (w i : Nat) : before (weB B w) i = before B i := by cases i <;> rfl
theorem weB_ok {B : CBook} {w : Nat} (h : bkOk B) (hw : w < 3) : bkOk (weB B w) := by
  refine ⟨⟨h.1.1, fun i hi => ?_⟩, ⟨?_, h.2.1.2⟩, h.2.2.1, h.2.2.2⟩
  · have := h.1.2 i hi
    unfold stOk at this ⊢
    rw [before_we]
    exact this
  · show (1 : Int) ≤ 1 * 2 ^ w ∧ (1 : Int) * 2 ^ w ≤ 7
    obtain rfl | rfl | rfl : w = 0 ∨ w = 1 ∨ w = 2 := by omega
    all_goals decide
theorem wrV_we (B : CBook) (w : Nat) (q : Int × Int) : wrV (weB B w) q = wrV B q := by
  have h : ∀ k, wrS (weB B w) q.1 q.2 k = wrS B q.1 q.2 k := fun k => by
    induction k with
    | zero => rfl
    | succ k ih => rw [wrS, wrS, ih]; rfl
  exact h B.nc
theorem has_one {w k : Nat} (hw : w < 3) (hk : k < 3) : hasP (1 * 2 ^ w) k ↔ k = w := by
  obtain rfl | rfl | rfl : w = 0 ∨ w = 1 ∨ w = 2 := by omega
  all_goals (obtain rfl | rfl | rfl : k = 0 ∨ k = 1 ∨ k = 2 := by omega)
  all_goals
    unfold hasP
    first | exact iff_of_true (by decide +kernel) rfl | exact iff_of_false (by decide +kernel) (by decide)
theorem we_ne {B : CBook} {w : Nat} (h : bkOk B) (hw : w < 3) (hp : hasP B.wea w) : Ws (weB B w) ≠ [] ↔ weaP B w := by
  have hW := weB_ok h hw
  have mem : ∀ t, t ∈ Ws (weB B w) ↔ t ∈ Ws B ∧ t.w = w := fun t => by
    rw [mem_Ws hW.1 hW.2.1, mem_Ws h.1 h.2.1]
    constructor
    · intro k
      obtain ⟨k1, k2, k3⟩ := k.w
      have e : t.w.toNat = w := (has_one hw (by omega)).1 k3
      exact ⟨⟨⟨k1, k2, by rw [e]; exact hp⟩, fun i hi => by
        have g := k.st i hi
        exact ⟨g.1, g.2.1, by rw [← wrV_we B w]; exact g.2.2⟩, k.z⟩, by omega⟩
    · rintro ⟨k, e⟩
      obtain ⟨k1, k2, k3⟩ := k.w
      exact ⟨⟨k1, k2, (has_one hw (by omega)).2 (by omega)⟩, fun i hi => by
        have g := k.st i hi
        exact ⟨g.1, g.2.1, by rw [wrV_we B w]; exact g.2.2⟩, k.z⟩
  constructor
  · intro k
    obtain ⟨t, ht⟩ := List.exists_mem_of_ne_nil _ k
    exact ⟨t, ((mem t).1 ht).1, ((mem t).1 ht).2⟩
  · rintro ⟨t, ht, hk⟩ k
    have := (mem t).2 ⟨ht, hk⟩
    rw [k] at this
    cases this
end Go.Proofs.Ytcoklgmdifggbaa
