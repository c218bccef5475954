/- Texts of one kind, one behind the other: Eo, Ep, Eq, Er, Es, Et, Eu, Ev, Ew, Lk. -/
import Derived.Test.YtlnmcadbmpiopaaQk6
set_option linter.unusedVariables false
set_option linter.unusedSimpArgs false
/- The reference of layer 6: Comes, Rough. -/
namespace Go.Proofs.Ytlnmcadbmpiopaa
open Go Go.Ev
theorem pinX_nf {f f1 : Nat} {args : List AV} {m m' : List (Nat × Option AObj)} {c c' c1 fl : Nat} {v : AV} {args1 : List AV} {H1 : T AObj} (h : f1 ≠ f) : pinX f args m c v m' c' fl f1 args1 H1 c1 = none := by
  unfold pinX
  rw [if_neg fun q => h q.1]
def tEx (x k : Nat) : AV := match k with | 0 => .sl x 0 0 0 | j + 1 => .gs x (j + 1)
def tO (f : Nat → Int) (k : Nat) : AObj := match k with | 0 => .cells [] | j + 1 => .grown (fE f (j + 1)) 1
def gsn (x y : Nat) : Nat := if y = 300000 then x else if y < 300000 then y else y + 2
end Go.Proofs.Ytlnmcadbmpiopaa
/- The reference of layer 6: late, Late, Right. -/
namespace Go.Proofs.Ytlnmcadbmpiopaa
open Go Go.Ev
end Go.Proofs.Ytlnmcadbmpiopaa
/- The reference of layer 6: Right; its answers at any memory. -/
namespace Go.Proofs.Ytlnmcadbmpiopaa
open Go Go.Ev
section
variable {B : CBook} {a1 a2 : AV} {m : List (Nat × Option AObj)} {c : Nat}
end
end Go.Proofs.Ytlnmcadbmpiopaa
/- The reference of layer 6: Weather. -/
namespace Go.Proofs.Ytlnmcadbmpiopaa
open Go Go.Ev
end Go.Proofs.Ytlnmcadbmpiopaa
/- The reference of layer 6: blamed. -/
namespace Go.Proofs.Ytlnmcadbmpiopaa
open Go Go.Ev
end Go.Proofs.Ytlnmcadbmpiopaa
/- The reference of layer 6: Blame. -/
namespace Go.Proofs.Ytlnmcadbmpiopaa
open Go Go.Ev
noncomputable def cnN (p : Nat → Prop) : Nat → Nat
  | 0 => 0
  | k + 1 => bif dB (p k) then cnN p k + 1 else cnN p k
end Go.Proofs.Ytlnmcadbmpiopaa
/- The reference of layer 6: Owes, Pays, First. -/
namespace Go.Proofs.Ytlnmcadbmpiopaa
open Go Go.Ev
end Go.Proofs.Ytlnmcadbmpiopaa
/- The reference of layer 6: With, Fits. -/
namespace Go.Proofs.Ytlnmcadbmpiopaa
open Go Go.Ev
set_option maxRecDepth 100000 in
set_option maxHeartbeats 4000000 in
theorem With6_can (B : CBook) (a1 a2 : AV) (h1 : IsSl a1 B.ns 0) (h2 : IsSl a2 B.nc 1) (hnc : B.nc ≤ 4) (s r e : Int) : CanS 0 Try.prog 81 2 [bk B a1 a2, .agg [.int .i64 s, .int .i64 r, .int .i64 e]] [(0, some (oSt B)), (1, some (oCk B))] 2 fun v H1 c1 => v = bk B a1 (.gs (wiX B) (B.nc + 1)) ∧ c1 = wiX B + 1 ∧ H1.get (wiX B) = some (.grown (flat (ckE B) (List.range B.nc) ++ [.int .i64 s, .int .i64 r, .int .i64 e]) 3) := by
  have hfl : (flat (ckE B) (List.range B.nc)).length = B.nc * 3 := by rw [flat_len (s := 3) (fun _ => rfl), List.length_range]
  refine CanS.mk Try.func81 rfl rfl rfl ?_
  repeat' (first | refine RT.nil ?_ | refine sq_n ?_ | refine Tr.seq ?_ | refine Tr.region ?_ | (refine RT.goK rfl rfl rfl rfl ?_; apply Nx.of; (first | exact S.loadNc rfl rfl rfl rfl | exact S.box | exact S.alloc rfl)) | (refine RT.goK0 rfl rfl rfl ?_; apply Nx.of; (first | exact S.store rfl rfl (bk_one h1 h2) rfl rfl rfl)))
  refine Tr.openK un81_2 (by kernel_rfl) (by kernel_rfl) noCall noCall_calm ?_
  by_cases h0 : B.nc = 0
  · have hw : wiX B = 8 := by unfold wiX; rw [if_pos h0]
    have hz : flat (ckE B) (List.range B.nc) = [] := by rw [h0]; rfl
    rw [hw, hz, h0]
    rw [h0] at h2
    repeat' (first | (refine RD.free rfl rfl rfl rfl rfl rfl ?_; apply Nx.of; (first | exact S.fieldAddr rfl rfl rfl)) | (refine RD.new rfl rfl rfl rfl rfl rfl ?_; apply Nx.of; (first | exact S.buildSlice0 rfl rfl rfl | exact S.buildSlice rfl rfl rfl rfl rfl rfl rfl)) | (refine RD.load rfl rfl rfl rfl rfl rfl rfl rfl ?_; apply Nx.of; (first | exact S.load1c rfl rfl rfl rfl)) | (refine RD.store rfl rfl rfl rfl rfl rfl rfl ?_; apply Nx.of; (first | exact S.store rfl rfl rfl rfl rfl rfl)) | (refine RD.load rfl rfl rfl rfl rfl rfl rfl (by refine us_all ?_; simp only [usOk, cond_true, cond_false]; (repeat' (first | exact trivial | refine And.intro ?_ ?_)); all_goals (first | rfl | exact .inl trivial | (refine Or.inr ⟨_, _, _, rfl, getM rfl, getM rfl, ?_⟩; (first | rfl)))) ?_; apply Nx.of; (first | exact S.loadNc rfl rfl rfl rfl)) | (refine RD.wide rfl rfl rfl rfl rfl rfl rfl rfl ?_; (first | refine Nx.of (S.append_e0 rfl rfl rfl rfl rfl rfl rfl rfl h2 rfl rfl) ⟨rfl, ?_⟩ | refine Nx.of (S.append_e1 rfl rfl rfl rfl rfl rfl rfl rfl rfl rfl rfl rfl) ⟨rfl, ?_⟩)) | refine RD.nil ⟨Nat.le_of_ble_eq_true rfl, ?_⟩)
    repeat' (first | refine RT.nil ?_ | refine sq_n ?_ | refine Tr.seq ?_ | refine Tr.region ?_ | refine Tr.ret ?_ | (refine RT.goK rfl rfl rfl rfl ?_; apply Nx.of; (first | exact S.loadNc rfl rfl rfl rfl)) | (refine RT.goK0 rfl rfl rfl ?_; apply Nx.of; (first | exact S.store rfl rfl (bkc_one h1) rfl rfl rfl)))
    (first | refine rt_go rfl ?_)
    exact ⟨rfl, rfl, getM rfl⟩
  · have hw : wiX B = 9 := by unfold wiX; rw [if_neg h0]
    rw [hw]
    repeat' (first | (refine RD.free rfl rfl rfl rfl rfl rfl ?_; apply Nx.of; (first | exact S.fieldAddr rfl rfl rfl)) | (refine RD.new rfl rfl rfl rfl rfl rfl ?_; apply Nx.of; (first | exact S.buildSlice0 rfl rfl rfl | exact S.buildSlice rfl rfl rfl rfl rfl rfl rfl)) | (refine RD.load rfl rfl rfl rfl rfl rfl rfl rfl ?_; apply Nx.of; (first | exact S.load1c rfl rfl rfl rfl)) | (refine RD.store rfl rfl rfl rfl rfl rfl rfl ?_; apply Nx.of; (first | exact S.store rfl rfl rfl rfl rfl rfl)) | (refine RD.load rfl rfl rfl rfl rfl rfl rfl (by refine us_all ?_; simp only [usOk, cond_true, cond_false]; (repeat' (first | exact trivial | refine And.intro ?_ ?_)); all_goals (first | rfl | exact .inl trivial | (refine Or.inr ⟨_, _, _, rfl, getM rfl, getM rfl, ?_⟩; (first | rfl)))) ?_; apply Nx.of; (first | exact S.loadNc rfl rfl rfl rfl)) | (refine RD.wide rfl rfl rfl rfl rfl rfl rfl rfl ?_; (first | refine Nx.of (S.append_e rfl rfl rfl rfl rfl rfl rfl rfl rfl rfl h2 rfl rfl hfl (by omega) (by omega)) ⟨rfl, ?_⟩ | refine Nx.of (S.append_gs rfl rfl rfl rfl rfl rfl rfl rfl rfl rfl rfl rfl rfl (cut_all hfl) (by omega) rfl) ⟨rfl, ?_⟩)) | refine RD.nil ⟨Nat.le_of_ble_eq_true rfl, ?_⟩)
    repeat' (first | refine RT.nil ?_ | refine sq_n ?_ | refine Tr.seq ?_ | refine Tr.region ?_ | refine Tr.ret ?_ | (refine RT.goK rfl rfl rfl rfl ?_; apply Nx.of; (first | exact S.loadNc rfl rfl rfl rfl)) | (refine RT.goK0 rfl rfl rfl ?_; apply Nx.of; (first | exact S.store rfl rfl (bkc_one h1) rfl rfl rfl)))
    (first | refine rt_go rfl ?_)
    exact ⟨rfl, rfl, getM rfl⟩
theorem With6_at {B : CBook} {a1 a2 : AV} {m : List (Nat × Option AObj)} {c : Nat} (h : BkIn B a1 a2 m c) (hm : ∀ x o, lookM m x = some o → x < c) (hnc : B.nc ≤ 4) (s r e : Int) (fl k : Nat) (hk : wiX B = k + 2) : OkAt 0 Try.prog fl 81 [bk B a1 a2, .agg [.int .i64 s, .int .i64 r, .int .i64 e]] (ofM m) c
    (bk B a1 (.gs (c + k) (B.nc + 1))) (ofM ((c + k, some (.grown (flat (ckE (wiB B s r e)) (List.range (B.nc + 1))) 3)) :: m)) (c + k + 1) := by
  let τ : Nat → Nat := fun y => if y < 2 then y else c + (y - 2)
  have hc := h.hc
  have t0 : τ 0 = 0 := rfl
  have t1 : τ 1 = 1 := rfl
  have tk : τ (k + 2) = c + k := by show (if k + 2 < 2 then k + 2 else c + (k + 2 - 2)) = _; rw [if_neg (by omega), Nat.add_sub_cancel]
  have ha : AV.rens τ [bk B a1 a2, .agg [.int .i64 s, .int .i64 r, .int .i64 e]] = [bk B a1 a2, .agg [.int .i64 s, .int .i64 r, .int .i64 e]] := by simp only [bk, AV.ren, AV.rens, h.h1.ren t0, h.h2.ren t1]
  rw [← ha]
  refine CanS.inst (With6_can B a1 a2 h.h1 h.h2 hnc s r e) (Nat.zero_le _) (Nat.le_refl _) τ (fun g hg => by omega) (fun y hy => by show (if y < 2 then y else _) < c; rw [if_pos hy]; omega) (fun y hy => by show (if y < 2 then y else _) = _; rw [if_neg (by omega)]) (fun y o hy => ?_) (fun x y o o' hx hy hxy => ?_) (fun y hy hy' => by omega) (fun v1 H1 c1 hq _ => ?_)
  · rcases m2_low hy with rfl | rfl
    · cases hy; rw [t0, ren_ro]; exact getM h.m1
    · cases hy; rw [t1, ren_ro]; exact getM h.m2
  · refine .inl ?_
    rcases m2_low hx with rfl | rfl <;> rcases m2_low hy with rfl | rfl <;> simp only [t0, t1] <;> omega
  · obtain ⟨rfl, rfl, g1⟩ := hq
    rw [hk] at g1 ⊢
    refine ⟨by simp only [bk, AV.ren, AV.rens, tk, h.h1.ren t0], by omega, fun x o hx => ?_⟩
    rw [ofM_get] at hx
    by_cases e1 : x = c + k
    · subst e1
      rw [lookM_hd] at hx
      cases hx
      refine .inr ⟨k + 2, _, by omega, g1, tk.symm, ?_⟩
      rw [← flat_wi B s r e]
      exact (ren_grown _ _ _ _).symm
    · rw [lookM_tl e1] at hx
      exact .inl ⟨hm x o hx, fun y hy hy' => by omega, getM hx⟩
theorem wrV_wi5 (B : CBook) (s r e : Int) (q : Int × Int) (hnc : B.nc ≤ 4) : wrV (wiB B s r e) q = 0 ↔ wrV B q = 0 ∧ ¬ (s = q.1 ∧ ¬ (r - e ≤ q.2 ∧ q.2 ≤ r + e)) := by
  rw [wrV_05 (B := wiB B s r e) (show B.nc + 1 ≤ 5 by omega), wrV_05 (B := B) (by omega)]
  refine ⟨fun h => ⟨fun k hk e1 => ?_, fun ⟨e1, g⟩ => ?_⟩, fun ⟨h, g⟩ k hk e1 => ?_⟩
  · have := h k (show k < B.nc + 1 by omega)
    simp only [wiB, if_pos hk] at this
    exact this e1
  · have := h B.nc (show B.nc < B.nc + 1 by omega)
    simp only [wiB, if_neg (Nat.lt_irrefl _)] at this
    exact g (this e1)
  · replace hk : k < B.nc + 1 := hk
    by_cases hlt : k < B.nc
    · simp only [wiB, if_pos hlt] at e1 ⊢
      exact h k hlt e1
    · simp only [wiB, if_neg hlt] at e1 ⊢
      exact Classical.byContradiction fun u => g ⟨e1, u⟩
theorem wiB_five {B : CBook} {s r e : Int} (h : bkOk B) (hc : ckOk B s r e) : bk5 (wiB B s r e) := by
  refine ⟨⟨h.1.1, fun i hi => ?_⟩, h.2.1, ⟨Nat.succ_le_succ h.2.2.1.1, fun i hi => ?_⟩, h.2.2.2⟩
  · have := h.1.2 i hi
    unfold stOk at this ⊢
    rw [before_wi]
    exact this
  · show ckOk (wiB B s r e) (if i < B.nc then B.ck i else s) (if i < B.nc then B.rd i else r) (if i < B.nc then B.er i else e)
    by_cases hlt : i < B.nc
    · rw [if_pos hlt, if_pos hlt, if_pos hlt]; exact h.2.2.1.2 i hlt
    · rw [if_neg hlt, if_neg hlt, if_neg hlt]; exact hc
theorem gwi_ne {B : CBook} {s r e : Int} (h : bkOk B) (hc : ckOk B s r e) : gW (wiB B s r e) ≠ [] ↔ ftP B s r e := by
  have hnc := h.2.2.1.1
  have hw := wiB_five h hc
  have mem : ∀ t, t ∈ gW (wiB B s r e) ↔ t ∈ Ws B ∧ (r - e ≤ t.c s.toNat ∧ t.c s.toNat ≤ r + e) := fun t => by
    rw [mem_gW hw.1, mem_Ws h.1 h.2.1]
    constructor
    · intro k
      refine ⟨⟨k.w, fun i hi => ?_, k.z⟩, ?_⟩
      · have g := k.st i hi
        exact ⟨g.1, g.2.1, ((wrV_wi5 B s r e _ hnc).1 g.2.2).1⟩
      · have g := k.st s.toNat (show s.toNat < B.ns by unfold ckOk at hc; omega)
        have g3 := ((wrV_wi5 B s r e _ hnc).1 g.2.2).2
        refine Classical.byContradiction fun q => g3 ⟨?_, q⟩
        show s = (s.toNat : Int)
        unfold ckOk at hc
        omega
    · rintro ⟨k, hk⟩
      refine ⟨k.w, fun i hi => ?_, k.z⟩
      have g := k.st i hi
      refine ⟨g.1, g.2.1, (wrV_wi5 B s r e _ hnc).2 ⟨g.2.2, fun ⟨q1, q2⟩ => q2 ?_⟩⟩
      have : s.toNat = i := by
        have : s = (i : Int) := q1
        omega
      rw [this] at hk
      exact hk
  constructor
  · intro k
    obtain ⟨t, ht⟩ := List.exists_mem_of_ne_nil _ k
    exact ⟨t, ((mem t).1 ht).1, ((mem t).1 ht).2⟩
  · rintro ⟨t, ht, hk⟩ k
    have := (mem t).2 ⟨ht, hk⟩
    rw [k] at this
    cases this
theorem rtruths_x {B : CBook} {v1 v2 : AV} {m : List (Nat × Option AObj)} {c : Nat} (h : BkX B v1 v2 m c) (hB : bk5 B) (hm : ∀ x o, lookM m x = some o → x < c) (fl : Nat) :
    OkAt 0 Try.prog fl 51 [bk B v1 v2] (ofM m) c (grI c (gW B).length) (ofM (goM B c (gW B) ++ m)) (c + 200000) := by
  obtain ⟨W, a1, a2, hl, hw, g1, g2, i1, i2⟩ := h.ex
  have he : ArgsW W [bk B v1 v2] [bk B a1 a2] := ⟨ArgW.agg (show ArgsW W [v1, .int .i64 B.wea, .int .i64 (B.cost 0), .int .i64 (B.cost 1), .int .i64 (B.cost 2), v2, .int .i64 B.rate] [a1, .int .i64 B.wea, .int .i64 (B.cost 0), .int .i64 (B.cost 1), .int .i64 (B.cost 2), a2, .int .i64 B.rate] from ⟨g1, .pl (.int _ _), .pl (.int _ _), .pl (.int _ _), .pl (.int _ _), g2, .pl (.int _ _), trivial⟩), trivial⟩
  exact rtruths_en i1 i2 hB hm (Entry.win (CS := [flat (stE B) (List.range B.ns), flat (ckE B) (List.range B.nc)]) hl hw he) fl
theorem grI_sl (x n : Nat) : IsSl (grI x n) n x := by
  cases n with
  | zero => exact IsSl.nils x
  | succ n => exact IsSl.gs x (n + 1)
set_option maxRecDepth 100000 in
set_option maxHeartbeats 4000000 in
theorem Fits6_can (B : CBook) (a1 a2 : AV) (h1 : IsSl a1 B.ns 0) (h2 : IsSl a2 B.nc 1) (hn : B.ns ≤ 9223372036854775807) (s r e : Int) : CanS 0 Try.prog 31 2 [bk B a1 a2, .agg [.int .i64 s, .int .i64 r, .int .i64 e]] [(0, some (oSt B)), (1, some (oCk B))] 2 fun v _ _ => v = ftV B s r e := by
  have hrf : rfVs (bk B a1 a2).cells = true := by simp [bk, AV.cells, rfVs, rfV, h1.rf, h2.rf]
  have err : ∀ (qb : Bool) (x : Int), dB (ckOk B s r e) = qb → (∀ fl, OkAt 0 Try.prog fl 58 [bk B a1 a2, .bool qb] (ofM [(3, some (.cells [.int .i64 s, .int .i64 r, .int .i64 e])), (2, some (.cells (bk B a1 a2).cells)), (0, some (oSt B)), (1, some (oCk B))]) 4 (.tup [.nils, .int .i64 x]) (ofM [(3, some (.cells [.int .i64 s, .int .i64 r, .int .i64 e])), (2, some (.cells (bk B a1 a2).cells)), (0, some (oSt B)), (1, some (oCk B))]) 4) → CalmC 0 Try.prog (alts [pinX 54 [bk B a1 a2, .agg [.int .i64 s, .int .i64 r, .int .i64 e]] [(3, some (.cells [.int .i64 s, .int .i64 r, .int .i64 e])), (2, some (.cells (bk B a1 a2).cells)), (0, some (oSt B)), (1, some (oCk B))] 4 (.bool qb) [(3, some (.cells [.int .i64 s, .int .i64 r, .int .i64 e])), (2, some (.cells (bk B a1 a2).cells)), (0, some (oSt B)), (1, some (oCk B))] 4, pinX 58 [bk B a1 a2, .bool qb] [(3, some (.cells [.int .i64 s, .int .i64 r, .int .i64 e])), (2, some (.cells (bk B a1 a2).cells)), (0, some (oSt B)), (1, some (oCk B))] 4 (.tup [.nils, .int .i64 x]) [(3, some (.cells [.int .i64 s, .int .i64 r, .int .i64 e])), (2, some (.cells (bk B a1 a2).cells)), (0, some (oSt B)), (1, some (oCk B))] 4]) := fun qb x hq ha => alts_calm fun g hg => by
    simp only [List.mem_cons, List.not_mem_nil, or_false] at hg
    rcases hg with rfl | rfl
    · exact pinX_calm (fun fl => hq ▸ isClock6_at ⟨h1, h2, rfl, rfl, by decide⟩ hn s r e fl) (fun fl => Good.refl fl 4 (ofM [(3, some (.cells [.int .i64 s, .int .i64 r, .int .i64 e])), (2, some (.cells (bk B a1 a2).cells)), (0, some (oSt B)), (1, some (oCk B))]))
    · exact pinX_calm ha (fun fl => Good.refl fl 4 (ofM [(3, some (.cells [.int .i64 s, .int .i64 r, .int .i64 e])), (2, some (.cells (bk B a1 a2).cells)), (0, some (oSt B)), (1, some (oCk B))]))
  have m4l : ∀ x o, lookM [(3, some (.cells [.int .i64 s, .int .i64 r, .int .i64 e])), (2, some (.cells (bk B a1 a2).cells)), (0, some (oSt B)), (1, some (oCk B))] x = some o → x < 4 := fun x o hx => by have := lookM_mem hx; simp at this; omega
  refine CanS.mk Try.func31 rfl rfl rfl ?_
  repeat' (first | refine RT.nil ?_ | refine sq_n ?_ | refine Tr.seq ?_ | refine Tr.region ?_ | (refine RT.goK rfl rfl rfl rfl ?_; apply Nx.of; (first | exact S.assign | exact S.box)))
  by_cases hB : bkOk B
  · by_cases hq : ckOk B s r e
    · by_cases hW : gW B = []
      · rw [ftV_err (ansE_false hB hq ((gW_nil hB).1 hW)) (by decide)]
        refine Tr.openK un31_1 (by kernel_rfl) (by kernel_rfl) _ (err true 62 (dB_tt hq) fun fl => asked_false_at ⟨h1, h2, rfl, rfl, by decide⟩ hn hB hW fl) ?_
        repeat' (first | (refine RD.load rfl rfl rfl rfl rfl rfl rfl rfl ?_; apply Nx.of; (first | exact S.loadNc rfl rfl rfl rfl)))
        (refine RD.callX rfl rfl rfl rfl rfl rfl rfl rfl (by simp) (fun fl' => alts_hd (pinX_at _ _ _ _ _ _ _ fl')) (fun _ => by refine srOkX_all ?_; simp only [srOkX]; (repeat' (first | exact trivial | refine And.intro ?_ ?_)); all_goals (first | (refine ⟨_, rfl, rfl, ?_⟩; (first | exact hrf)))) ?_)
        (refine RD.callX rfl rfl rfl rfl rfl rfl rfl rfl (by simp) (fun fl' => (alts_tl (pinX_nf (by decide))).trans (alts_hd (pinX_at _ _ _ _ _ _ _ fl'))) (fun _ => by refine srOkX_all ?_; simp only [srOkX]; (repeat' (first | exact trivial | refine And.intro ?_ ?_)); all_goals (first | exact trivial | (refine ⟨_, rfl, rfl, ?_⟩; (first | exact hrf | rfl | (simp [rfO, rfVs, rfV, rfVs_flat]; done))))) ?_)
        repeat' (first | (refine RD.free rfl rfl rfl rfl rfl rfl ?_; apply Nx.of; (first | exact S.move | exact S.assign | exact S.extract rfl)) | refine RD.nil ⟨Nat.le_of_ble_eq_true rfl, ?_⟩)
        repeat' (first | refine RT.nil ?_ | refine sq_n ?_ | refine Tr.seq ?_ | refine Tr.region ?_ | refine Tr.cond_t rfl ?_ | refine Tr.ret ?_ | refine sq_r ?_ | (refine RT.goK rfl rfl rfl rfl ?_; apply Nx.of; (first | exact S.neq_t (by decide))) | (refine RT.goK rfl rfl rfl rfl ?_; apply Nx.of; (first | exact S.move | exact S.assign)))
        (first | refine rt_go rfl ?_)
        rfl
      · rw [ftV_ok (ansE_ok hB hq fun h => hW ((gW_nil hB).2 h))]
        have hlen : (gW B).length ≤ 59049 := gWk_len hB 3
        have pc : CalmC 0 Try.prog (alts [pinX 54 [bk B a1 a2, .agg [.int .i64 s, .int .i64 r, .int .i64 e]] [(3, some (.cells [.int .i64 s, .int .i64 r, .int .i64 e])), (2, some (.cells (bk B a1 a2).cells)), (0, some (oSt B)), (1, some (oCk B))] 4 (.bool true) [(3, some (.cells [.int .i64 s, .int .i64 r, .int .i64 e])), (2, some (.cells (bk B a1 a2).cells)), (0, some (oSt B)), (1, some (oCk B))] 4, pinX 58 [bk B a1 a2, .bool true] [(3, some (.cells [.int .i64 s, .int .i64 r, .int .i64 e])), (2, some (.cells (bk B a1 a2).cells)), (0, some (oSt B)), (1, some (oCk B))] 4 (.tup [.gs 5 (gW B).length, .int .i64 0]) (goM B 5 (gW B) ++ [(3, some (.cells [.int .i64 s, .int .i64 r, .int .i64 e])), (2, some (.cells (bk B a1 a2).cells)), (0, some (oSt B)), (1, some (oCk B))]) 200005]) := alts_calm fun g hg => by
          simp only [List.mem_cons, List.not_mem_nil, or_false] at hg
          rcases hg with rfl | rfl
          · exact pinX_calm (fun fl => (dB_tt hq) ▸ isClock6_at ⟨h1, h2, rfl, rfl, by decide⟩ hn s r e fl) (fun fl => Good.refl fl 4 (ofM [(3, some (.cells [.int .i64 s, .int .i64 r, .int .i64 e])), (2, some (.cells (bk B a1 a2).cells)), (0, some (oSt B)), (1, some (oCk B))]))
          · exact pinX_calm (fun fl => asked_yes_at (c := 4) h1 h2 hn hB hW m4l rfl rfl fl) (fun fl => good_app (by decide) fun e he => by have := goM_keys e he; omega)
        refine Tr.openK un31_1 (by kernel_rfl) (by kernel_rfl) _ pc ?_
        repeat' (first | (refine RD.load rfl rfl rfl rfl rfl rfl rfl rfl ?_; apply Nx.of; (first | exact S.loadNc rfl rfl rfl rfl)))
        (refine RD.callX rfl rfl rfl rfl rfl rfl rfl rfl (by simp) (fun fl' => alts_hd (pinX_at _ _ _ _ _ _ _ fl')) (fun _ => by refine srOkX_all ?_; simp only [srOkX]; (repeat' (first | exact trivial | refine And.intro ?_ ?_)); all_goals (first | (refine ⟨_, rfl, rfl, ?_⟩; (first | exact hrf)))) ?_)
        (refine RD.callX rfl rfl rfl rfl rfl rfl rfl rfl (by simp) (fun fl' => (alts_tl (pinX_nf (by decide))).trans (alts_hd (pinX_at _ _ _ _ _ _ _ fl'))) (fun _ => by refine srOkX_all ?_; simp only [srOkX]; (repeat' (first | exact trivial | refine And.intro ?_ ?_)); all_goals (first | exact trivial | (refine ⟨_, rfl, rfl, ?_⟩; (first | exact hrf | rfl | (simp [rfO, rfVs, rfV, rfVs_flat]; done))))) ?_)
        repeat' (first | (refine RD.free rfl rfl rfl rfl rfl rfl ?_; apply Nx.of; (first | exact S.move | exact S.assign | exact S.extract rfl)) | refine RD.nil ⟨Nat.le_of_ble_eq_true rfl, ?_⟩)
        repeat' (first | refine RT.nil ?_ | refine sq_n ?_ | refine Tr.seq ?_ | refine Tr.region ?_ | refine Tr.cond_f rfl ?_ | refine Tr.skip ?_ | (refine RT.goK rfl rfl rfl rfl ?_; apply Nx.of; (first | exact S.neq_f (by decide))) | (refine RT.goK rfl rfl rfl rfl ?_; apply Nx.of; (first | exact S.move)))
        have s5 : ∀ {y : Nat} {o : AObj}, y < 5 → lookM [(3, some (.cells [.int .i64 s, .int .i64 r, .int .i64 e])), (2, some (.cells (bk B a1 a2).cells)), (0, some (oSt B)), (1, some (oCk B))] y = some o → lookM (goM B 5 (gW B) ++ [(3, some (.cells [.int .i64 s, .int .i64 r, .int .i64 e])), (2, some (.cells (bk B a1 a2).cells)), (0, some (oSt B)), (1, some (oCk B))]) y = some o := fun {y o} hy h => (look_skip fun e he => by have := goM_keys e he; omega).trans h
        have hmG : ∀ x o, lookM (goM B 5 (gW B) ++ [(3, some (.cells [.int .i64 s, .int .i64 r, .int .i64 e])), (2, some (.cells (bk B a1 a2).cells)), (0, some (oSt B)), (1, some (oCk B))]) x = some o → x < 200005 := fun x o hx => by
          obtain ⟨e, he, rfl⟩ := List.mem_map.1 (lookM_mem hx)
          rcases List.mem_append.1 he with h | h
          · have := goM_keys e h
            omega
          · simp at h
            rcases h with rfl | rfl | rfl | rfl <;> simp
        have x2 : lookM (goM B 5 (gW B) ++ [(3, some (.cells [.int .i64 s, .int .i64 r, .int .i64 e])), (2, some (.cells (bk B a1 a2).cells)), (0, some (oSt B)), (1, some (oCk B))]) 2 = some (.cells (bk B a1 a2).cells) := s5 (by decide) rfl
        have x3 : lookM (goM B 5 (gW B) ++ [(3, some (.cells [.int .i64 s, .int .i64 r, .int .i64 e])), (2, some (.cells (bk B a1 a2).cells)), (0, some (oSt B)), (1, some (oCk B))]) 3 = some (.cells [.int .i64 s, .int .i64 r, .int .i64 e]) := s5 (by decide) rfl
        have hwx : wiX B = 8 ∨ wiX B = 9 := by
          unfold wiX
          split
          · exact .inl rfl
          · exact .inr rfl
        obtain ⟨k, hk⟩ : ∃ k, wiX B = k + 2 := ⟨wiX B - 2, by omega⟩
        have hk7 : k ≤ 7 := by omega
        have hwi := fun fl => With6_at (m := (goM B 5 (gW B) ++ [(3, some (.cells [.int .i64 s, .int .i64 r, .int .i64 e])), (2, some (.cells (bk B a1 a2).cells)), (0, some (oSt B)), (1, some (oCk B))])) (c := 200005) ⟨h1, h2, s5 (by decide) rfl, s5 (by decide) rfl, by decide⟩ hmG hB.2.2.1.1 s r e fl k hk
        have hbx : BkX (wiB B s r e) a1 (.gs (200005 + k) (B.nc + 1)) ((200005 + k, some (.grown (flat (ckE (wiB B s r e)) (List.range (B.nc + 1))) 3)) :: (goM B 5 (gW B) ++ [(3, some (.cells [.int .i64 s, .int .i64 r, .int .i64 e])), (2, some (.cells (bk B a1 a2).cells)), (0, some (oSt B)), (1, some (oCk B))])) (200005 + k + 1) := BkX.of (B := wiB B s r e) (x1 := 0) (x2 := 200005 + k) ⟨h1, oSt B, (lookM_tl (by omega)).trans (s5 (by decide) rfl), .inr rfl⟩ ⟨IsSl.gs _ (B.nc + 1), _, lookM_hd, .inr rfl⟩
        have htr := fun fl => rtruths_x hbx (wiB_five hB hq) (fun x o hx => by
          by_cases e1 : x = 200005 + k
          · omega
          · rw [lookM_tl e1] at hx
            have := hmG x o hx
            omega) fl
        have hsl := grI_sl (200005 + k + 1) (gW (wiB B s r e)).length
        by_cases hF : ftP B s r e
        · have hpos : 0 < (gW (wiB B s r e)).length := List.length_pos_iff.2 ((gwi_ne hB hq).2 hF)
          have hpos' : ((gW (wiB B s r e)).length : Int) > 0 := by omega
          repeat' (first | refine RT.nil ?_ | refine sq_n ?_ | refine Tr.ret ?_ | (refine RT.call rfl rfl rfl (hwi _) rfl rfl (by omega) ?_) | (refine RT.call rfl rfl rfl (htr _) rfl rfl (by omega) ?_) | (refine RT.goK rfl rfl rfl rfl ?_; first | refine Nx.of (S.loadN rfl rfl x2 rfl rfl) ?_ | refine Nx.of (S.loadN rfl rfl x3 rfl rfl) ?_ | refine Nx.of (S.len_sl rfl rfl rfl hsl) ?_ | refine Nx.of (S.gtr_t hpos') ?_) | (refine RT.goK rfl rfl rfl rfl ?_; apply Nx.of; (first | exact S.assign)))
          (first | refine rt_go rfl ?_)
          rw [dB_tt hF]
          rfl
        · have hno : gW (wiB B s r e) = [] := Classical.byContradiction fun u => hF ((gwi_ne hB hq).1 u)
          have hpos' : ¬ ((gW (wiB B s r e)).length : Int) > 0 := by rw [hno]; decide
          repeat' (first | refine RT.nil ?_ | refine sq_n ?_ | refine Tr.ret ?_ | (refine RT.call rfl rfl rfl (hwi _) rfl rfl (by omega) ?_) | (refine RT.call rfl rfl rfl (htr _) rfl rfl (by omega) ?_) | (refine RT.goK rfl rfl rfl rfl ?_; first | refine Nx.of (S.loadN rfl rfl x2 rfl rfl) ?_ | refine Nx.of (S.loadN rfl rfl x3 rfl rfl) ?_ | refine Nx.of (S.len_sl rfl rfl rfl hsl) ?_ | refine Nx.of (S.gtr_f hpos') ?_) | (refine RT.goK rfl rfl rfl rfl ?_; apply Nx.of; (first | exact S.assign)))
          (first | refine rt_go rfl ?_)
          rw [dB_ff hF]
          rfl
    · rw [ftV_err (ansE_ask hB hq) (by decide)]
      refine Tr.openK un31_1 (by kernel_rfl) (by kernel_rfl) _ (err false 61 (dB_ff hq) fun fl => asked_ask_at ⟨h1, h2, rfl, rfl, by decide⟩ hn hB fl) ?_
      repeat' (first | (refine RD.load rfl rfl rfl rfl rfl rfl rfl rfl ?_; apply Nx.of; (first | exact S.loadNc rfl rfl rfl rfl)))
      (refine RD.callX rfl rfl rfl rfl rfl rfl rfl rfl (by simp) (fun fl' => alts_hd (pinX_at _ _ _ _ _ _ _ fl')) (fun _ => by refine srOkX_all ?_; simp only [srOkX]; (repeat' (first | exact trivial | refine And.intro ?_ ?_)); all_goals (first | (refine ⟨_, rfl, rfl, ?_⟩; (first | exact hrf)))) ?_)
      (refine RD.callX rfl rfl rfl rfl rfl rfl rfl rfl (by simp) (fun fl' => (alts_tl (pinX_nf (by decide))).trans (alts_hd (pinX_at _ _ _ _ _ _ _ fl'))) (fun _ => by refine srOkX_all ?_; simp only [srOkX]; (repeat' (first | exact trivial | refine And.intro ?_ ?_)); all_goals (first | exact trivial | (refine ⟨_, rfl, rfl, ?_⟩; (first | exact hrf | rfl | (simp [rfO, rfVs, rfV, rfVs_flat]; done))))) ?_)
      repeat' (first | (refine RD.free rfl rfl rfl rfl rfl rfl ?_; apply Nx.of; (first | exact S.move | exact S.assign | exact S.extract rfl)) | refine RD.nil ⟨Nat.le_of_ble_eq_true rfl, ?_⟩)
      repeat' (first | refine RT.nil ?_ | refine sq_n ?_ | refine Tr.seq ?_ | refine Tr.region ?_ | refine Tr.cond_t rfl ?_ | refine Tr.ret ?_ | refine sq_r ?_ | (refine RT.goK rfl rfl rfl rfl ?_; apply Nx.of; (first | exact S.neq_t (by decide))) | (refine RT.goK rfl rfl rfl rfl ?_; apply Nx.of; (first | exact S.move | exact S.assign)))
      (first | refine rt_go rfl ?_)
      rfl
  · rw [ftV_err (ansE_no hB) (by decide)]
    refine Tr.openK un31_1 (by kernel_rfl) (by kernel_rfl) _ (err _ 60 rfl fun fl => asked_no_at ⟨h1, h2, rfl, rfl, by decide⟩ hn hB _ fl) ?_
    repeat' (first | (refine RD.load rfl rfl rfl rfl rfl rfl rfl rfl ?_; apply Nx.of; (first | exact S.loadNc rfl rfl rfl rfl)))
    (refine RD.callX rfl rfl rfl rfl rfl rfl rfl rfl (by simp) (fun fl' => alts_hd (pinX_at _ _ _ _ _ _ _ fl')) (fun _ => by refine srOkX_all ?_; simp only [srOkX]; (repeat' (first | exact trivial | refine And.intro ?_ ?_)); all_goals (first | (refine ⟨_, rfl, rfl, ?_⟩; (first | exact hrf)))) ?_)
    (refine RD.callX rfl rfl rfl rfl rfl rfl rfl rfl (by simp) (fun fl' => (alts_tl (pinX_nf (by decide))).trans (alts_hd (pinX_at _ _ _ _ _ _ _ fl'))) (fun _ => by refine srOkX_all ?_; simp only [srOkX]; (repeat' (first | exact trivial | refine And.intro ?_ ?_)); all_goals (first | exact trivial | (refine ⟨_, rfl, rfl, ?_⟩; (first | exact hrf | rfl | (simp [rfO, rfVs, rfV, rfVs_flat]; done))))) ?_)
    repeat' (first | (refine RD.free rfl rfl rfl rfl rfl rfl ?_; apply Nx.of; (first | exact S.move | exact S.assign | exact S.extract rfl)) | refine RD.nil ⟨Nat.le_of_ble_eq_true rfl, ?_⟩)
    repeat' (first | refine RT.nil ?_ | refine sq_n ?_ | refine Tr.seq ?_ | refine Tr.region ?_ | refine Tr.cond_t rfl ?_ | refine Tr.ret ?_ | refine sq_r ?_ | (refine RT.goK rfl rfl rfl rfl ?_; apply Nx.of; (first | exact S.neq_t (by decide))) | (refine RT.goK rfl rfl rfl rfl ?_; apply Nx.of; (first | exact S.move | exact S.assign)))
    (first | refine rt_go rfl ?_)
    rfl
theorem Fits6_at {B : CBook} {a1 a2 : AV} {m : List (Nat × Option AObj)} {c : Nat} (h : BkIn B a1 a2 m c) (hn : B.ns ≤ 9223372036854775807) (s r e : Int) (fl : Nat) : OkAt 0 Try.prog fl 31 [bk B a1 a2, .agg [.int .i64 s, .int .i64 r, .int .i64 e]] (ofM m) c (ftV B s r e) (ofM m) c :=
  (Fits6_can B a1 a2 h.h1 h.h2 hn s r e).pure (ftV_pl B s r e) (h.entry [.agg [.int .i64 s, .int .i64 r, .int .i64 e]] fun _ => rfl) fl
end Go.Proofs.Ytlnmcadbmpiopaa
/- The reference of layer 6: Without, Wrong; Like. -/
namespace Go.Proofs.Ytlnmcadbmpiopaa
open Go Go.Ev
theorem wo6_wk {B : CBook} {a1 a2 : AV} {s : Int} (h1 : IsSl a1 B.ns 0) (h2 : IsSl a2 B.nc 1) {n c x : Nat} {l : List (Nat × AV)} {m : List (Nat × Option AObj)} {k : Int} {K : List Nat} (hx : 5 ≤ x) (hc : 5 ≤ c)
    (t1 : Go.Ev.look l 1 = some (AV.int .i64 s)) (t2 : Go.Ev.look l 2 = some (.ptr 2 0)) (t4 : Go.Ev.look l 4 = some (.ptr 3 0)) (t5 : Go.Ev.look l 5 = some (.ptr 4 0)) (t6 : Go.Ev.look l 6 = some (AV.int .i64 k))
    (g5 : lookM m 4 = some (.cells (bk B a1 (grV x K)).cells)) (g4 : lookM m 3 = some (.cells (bk zbk .nils .nils).cells)) (g3 : lookM m 2 = some (.cells (bk B a1 a2).cells)) (g0 : lookM m 0 = some (oSt B)) (g1 : lookM m 1 = some (oCk B)) (gK : K ≠ [] → lookM m x = some (.grown (flat (ckE B) K) 3)) :
    Wk 0 2 2 (stL n [] l m c) (stL n [] [(1, .int .i64 s), (2, .ptr 2 0), (4, .ptr 3 0), (5, .ptr 4 0), (6, .int .i64 k)] ([(4, some (.cells (bk B a1 (grV 5 K)).cells)), (3, some (.cells (bk zbk .nils .nils).cells)), (2, some (.cells (bk B a1 a2).cells)), (0, some (oSt B)), (1, some (oCk B))] ++ kpM B 5 K) 6) := by
  let σ : Nat → Nat := fun y => if y < 5 then y else if y = 5 then x else c + y
  have s6 : σ 5 = x := rfl
  have hm : allM (fun y o => lookM m (σ y) = some (o.ren σ)) ([(4, some (.cells (bk B a1 (grV 5 K)).cells)), (3, some (.cells (bk zbk .nils .nils).cells)), (2, some (.cells (bk B a1 a2).cells)), (0, some (oSt B)), (1, some (oCk B))] ++ kpM B 5 K) := by
    have hk : allM (fun y o => lookM m (σ y) = some (o.ren σ)) (kpM B 5 K) := by
      cases K with
      | nil => trivial
      | cons a r => exact ⟨(gK (by simp)).trans (congrArg some (ren_grown _ σ _ _).symm), trivial⟩
    exact ⟨g5.trans (congrArg some (bkr_ren (σ := σ) h1 rfl s6).symm), g4.trans rfl, g3.trans (congrArg some (bkc_ren (σ := σ) h1 h2 rfl rfl).symm), g0.trans (congrArg some (ren_ro _ σ _).symm), g1.trans (congrArg some (ren_ro _ σ _).symm), hk⟩
  refine Wk.by σ (by decide) (by decide) (by decide) ⟨t1, t2, t4, t5, t6, trivial⟩ hm rfl (fun u hu v hv huv e => ?_) (fun u hu => ?_) (fun u hu => ?_) (fun u hu => ?_)
  · have low : ∀ u, u ∈ ([(4, some (.cells (bk B a1 (grV 5 K)).cells)), (3, some (.cells (bk zbk .nils .nils).cells)), (2, some (.cells (bk B a1 a2).cells)), (0, some (oSt B)), (1, some (oCk B))] ++ kpM B 5 K : List (Nat × Option AObj)).map (fun e => e.1) → u < 6 := fun u hu => by
      cases K <;> simp [kpM] at hu <;> omega
    have q1 := low u hu
    have q2 := low v hv
    simp only [σ] at e
    (repeat' split at e) <;> omega
  all_goals (simp only [σ]; (repeat' split) <;> omega)
set_option maxRecDepth 100000 in
set_option maxHeartbeats 4000000 in
theorem Without6_can (B : CBook) (a1 a2 : AV) (s : Int) (L : List Nat) (hsL : ∀ k, k < B.nc → (k ∈ L ↔ hasP s k)) (h1 : IsSl a1 B.ns 0) (h2 : IsSl a2 B.nc 1) (hnc : B.nc ≤ 4) : CanS 0 Try.prog 83 2 [bk B a1 a2, .int .i64 s] [(0, some (oSt B)), (1, some (oCk B))] 2 fun v H1 c1 => v = bk B a1 (grV 5 (kpL L B.nc)) ∧ c1 = 6 ∧ (kpL L B.nc ≠ [] → H1.get 5 = some (.grown (flat (ckE B) (kpL L B.nc)) 3)) := by
  refine CanS.mk Try.func83 rfl rfl rfl ?_
  repeat' (first | refine RT.nil ?_ | refine sq_n ?_ | refine Tr.seq ?_ | refine Tr.region ?_ | refine Tr.block ?_ | (refine RT.goK rfl rfl rfl rfl ?_; apply Nx.of; (first | exact S.assign | exact S.loadNc rfl rfl rfl rfl | exact S.fieldAddr rfl rfl rfl | exact S.box | exact S.alloc rfl)) | (refine RT.goK0 rfl rfl rfl ?_; apply Nx.of; (first | exact S.store rfl rfl rfl rfl rfl rfl | exact S.store rfl rfl (bk_one h1 h2) rfl rfl rfl)))
  refine Tr.loop (fun k : Nat => stL Try.f83.ntmps [] [(1, .int .i64 s), (2, .ptr 2 0), (4, .ptr 3 0), (5, .ptr 4 0), (6, .int .i64 k)] ([(4, some (.cells (bk B a1 (grV 5 (kpL L k))).cells)), (3, some (.cells (bk zbk .nils .nils).cells)), (2, some (.cells (bk B a1 a2).cells)), (0, some (oSt B)), (1, some (oCk B))] ++ kpM B 5 (kpL L k)) 6) (fun k => k ≤ B.nc) (fun k => B.nc - k) 0 (Nat.zero_le _) ?_ (fun k hk => ?_)
  · exact wo6_wk h1 h2 (K := []) (x := 5) (by decide) (by decide) rfl rfl rfl rfl rfl rfl rfl rfl rfl rfl (fun h => absurd rfl h)
  have hlen := kpL_len L k
  by_cases hlt : k < B.nc
  · have hlt' : (k : Int) < B.nc := by omega
    by_cases hp : k ∈ L
    · have hv : AV.bool (dB (hasP s k)) = .bool true := by rw [dB_tt ((hsL k hlt).1 hp)]
      have e1 := kpL_f hp
      cases hl : kpL L k with
      | nil =>
        repeat' (first | refine RT.nil ?_ | refine sq_n ?_ | refine Tr.seq ?_ | refine Tr.region ?_ | refine Tr.cond_t rfl ?_ | refine Tr.cond_f rfl ?_ | refine Tr.skip ?_ | refine Tr.block ?_ | refine blk_n ?_ | (refine RT.goK rfl rfl rfl rfl ?_; first | refine Nx.of (S.lss_t hlt') ?_ | refine Nx.of S.not_t ?_) | (refine RT.call rfl rfl rfl (val_is hv (In_at s k (by omega) _ _ _)) rfl rfl (Nat.le_refl _) ?_) | (refine RT.goK rfl rfl rfl rfl ?_; apply Nx.of; (first | exact S.move | exact S.assign | exact S.load1c rfl rfl rfl rfl | exact S.fieldAddr rfl rfl rfl | exact S.add_one (by omega))) | (refine RT.goK rfl rfl rfl rfl ?_; apply Nx.of; (first | exact S.len_sl rfl rfl rfl (by assumption))))
        refine lp_n (k + 1) hlt (by omega) ?_
        rw [e1, hl]
        exact wo6_wk h1 h2 (K := []) (x := 5) (by decide) (by decide) rfl rfl rfl rfl rfl rfl rfl rfl rfl rfl (fun h => absurd rfl h)
      | cons a r =>
        repeat' (first | refine RT.nil ?_ | refine sq_n ?_ | refine Tr.seq ?_ | refine Tr.region ?_ | refine Tr.cond_t rfl ?_ | refine Tr.cond_f rfl ?_ | refine Tr.skip ?_ | refine Tr.block ?_ | refine blk_n ?_ | (refine RT.goK rfl rfl rfl rfl ?_; first | refine Nx.of (S.lss_t hlt') ?_ | refine Nx.of S.not_t ?_) | (refine RT.call rfl rfl rfl (val_is hv (In_at s k (by omega) _ _ _)) rfl rfl (Nat.le_refl _) ?_) | (refine RT.goK rfl rfl rfl rfl ?_; apply Nx.of; (first | exact S.move | exact S.assign | exact S.load1c rfl rfl rfl rfl | exact S.fieldAddr rfl rfl rfl | exact S.add_one (by omega))) | (refine RT.goK rfl rfl rfl rfl ?_; apply Nx.of; (first | exact S.len_sl rfl rfl rfl (by assumption))))
        refine lp_n (k + 1) hlt (by omega) ?_
        rw [e1, hl]
        exact wo6_wk h1 h2 (K := a :: r) (x := 5) (by decide) (by decide) rfl rfl rfl rfl rfl rfl rfl rfl rfl rfl (fun _ => rfl)
    · have hv : AV.bool (dB (hasP s k)) = .bool false := by rw [dB_ff fun q => hp ((hsL k hlt).2 q)]
      have e1 := kpL_t hp
      cases hl : kpL L k with
      | nil =>
        repeat' (first | refine RT.nil ?_ | refine sq_n ?_ | refine Tr.seq ?_ | refine Tr.region ?_ | refine Tr.cond_t rfl ?_ | refine Tr.skip ?_ | refine Tr.block ?_ | (refine RT.goK rfl rfl rfl rfl ?_; first | refine Nx.of (S.lss_t hlt') ?_ | refine Nx.of S.not_f ?_) | (refine RT.call rfl rfl rfl (val_is hv (In_at s k (by omega) _ _ _)) rfl rfl (Nat.le_refl _) ?_) | (refine RT.goK rfl rfl rfl rfl ?_; apply Nx.of; (first | exact S.move | exact S.load1c rfl rfl rfl rfl | exact S.fieldAddr rfl rfl rfl)) | (refine RT.goK rfl rfl rfl rfl ?_; apply Nx.of; (first | exact S.len_sl rfl rfl rfl (by assumption))))
        refine Tr.openK un83_7 (by kernel_rfl) (by kernel_rfl) noCall noCall_calm ?_
        repeat' (first | (refine RD.wide rfl rfl rfl rfl rfl rfl rfl rfl ?_; (first | refine Nx.of (S.append_nil rfl rfl rfl rfl rfl rfl rfl rfl rfl rfl rfl) ⟨rfl, ?_⟩)) | (refine RD.free rfl rfl rfl rfl rfl rfl ?_; apply Nx.of; (first | exact S.move | exact S.fieldAddr rfl rfl rfl | exact S.idx_sl rfl rfl rfl (by assumption) (by omega))) | (refine RD.new rfl rfl rfl rfl rfl rfl ?_; apply Nx.of; (first | exact S.buildSlice rfl rfl rfl rfl rfl rfl rfl)) | (refine RD.load rfl rfl rfl rfl rfl rfl rfl rfl ?_; apply Nx.of; (first | exact S.load1c rfl rfl rfl rfl | exact S.rowN0 rfl rfl rfl (fun _ => rfl) (range_at (by omega)) rfl)) | (refine RD.store rfl rfl rfl rfl rfl rfl rfl ?_; apply Nx.of; (first | exact S.store rfl rfl rfl rfl rfl rfl)) | refine RD.nil ⟨Nat.le_of_ble_eq_true rfl, ?_⟩)
        repeat' (first | refine RT.nil ?_ | refine sq_n ?_ | refine Tr.region ?_ | refine blk_n ?_ | (refine RT.goK rfl rfl rfl rfl ?_; apply Nx.of; (first | exact S.move | exact S.assign | exact S.add_one (by omega))))
        refine lp_n (k + 1) hlt (by omega) ?_
        rw [e1, hl]
        exact wo6_wk h1 h2 (K := [k]) (x := 7) (by decide) (by decide) rfl rfl rfl rfl rfl rfl rfl rfl rfl rfl (fun _ => rfl)
      | cons a r =>
        have hcut : cut (flat (ckE B) (a :: r)) 0 ((a :: r).length * 3) = some (flat (ckE B) (a :: r)) := cut_all (by rw [flat_len (s := 3) (fun _ => rfl)])
        rw [hl] at hlen
        repeat' (first | refine RT.nil ?_ | refine sq_n ?_ | refine Tr.seq ?_ | refine Tr.region ?_ | refine Tr.cond_t rfl ?_ | refine Tr.skip ?_ | refine Tr.block ?_ | (refine RT.goK rfl rfl rfl rfl ?_; first | refine Nx.of (S.lss_t hlt') ?_ | refine Nx.of S.not_f ?_) | (refine RT.call rfl rfl rfl (val_is hv (In_at s k (by omega) _ _ _)) rfl rfl (Nat.le_refl _) ?_) | (refine RT.goK rfl rfl rfl rfl ?_; apply Nx.of; (first | exact S.move | exact S.load1c rfl rfl rfl rfl | exact S.fieldAddr rfl rfl rfl)) | (refine RT.goK rfl rfl rfl rfl ?_; apply Nx.of; (first | exact S.len_sl rfl rfl rfl (by assumption))))
        refine Tr.openK un83_7 (by kernel_rfl) (by kernel_rfl) noCall noCall_calm ?_
        repeat' (first | (refine RD.wide rfl rfl rfl rfl rfl rfl rfl rfl ?_; (first | refine Nx.of (S.append_gs rfl rfl rfl rfl rfl rfl rfl rfl rfl rfl rfl rfl rfl hcut (by omega) rfl) ⟨rfl, ?_⟩)) | (refine RD.free rfl rfl rfl rfl rfl rfl ?_; apply Nx.of; (first | exact S.move | exact S.fieldAddr rfl rfl rfl | exact S.idx_sl rfl rfl rfl (by assumption) (by omega))) | (refine RD.new rfl rfl rfl rfl rfl rfl ?_; apply Nx.of; (first | exact S.buildSlice rfl rfl rfl rfl rfl rfl rfl)) | (refine RD.load rfl rfl rfl rfl rfl rfl rfl rfl ?_; apply Nx.of; (first | exact S.load1c rfl rfl rfl rfl | exact S.rowN0 rfl rfl rfl (fun _ => rfl) (range_at (by omega)) rfl)) | (refine RD.store rfl rfl rfl rfl rfl rfl rfl ?_; apply Nx.of; (first | exact S.store rfl rfl rfl rfl rfl rfl)) | refine RD.nil ⟨Nat.le_of_ble_eq_true rfl, ?_⟩)
        repeat' (first | refine RT.nil ?_ | refine sq_n ?_ | refine Tr.region ?_ | refine blk_n ?_ | (refine RT.goK rfl rfl rfl rfl ?_; apply Nx.of; (first | exact S.move | exact S.assign | exact S.add_one (by omega))))
        refine lp_n (k + 1) hlt (by omega) ?_
        rw [e1, hl]
        refine wo6_wk h1 h2 (K := (a :: r) ++ [k]) (x := 7) (by decide) (by decide) rfl rfl rfl rfl rfl ?_ rfl rfl rfl rfl (fun _ => ?_)
        · show _ = some (AObj.cells (bk B a1 (.gs 7 ((r ++ [k]).length + 1))).cells)
          rw [List.length_append]; rfl
        · rw [flat_append]; rfl
  · obtain rfl : k = B.nc := by omega
    have hlt' : ¬ (B.nc : Int) < B.nc := by omega
    cases hl : kpL L B.nc with
    | nil =>
      repeat' (first | refine RT.nil ?_ | refine sq_n ?_ | refine Tr.seq ?_ | refine Tr.region ?_ | refine Tr.cond_f rfl ?_ | refine Tr.ret ?_ | refine Tr.exit ?_ | refine sq_x ?_ | refine blk_hit rfl ?_ | refine lp_x ?_ | (refine RT.goK rfl rfl rfl rfl ?_; first | refine Nx.of (S.lss_f hlt') ?_) | (refine RT.goK rfl rfl rfl rfl ?_; apply Nx.of; (first | exact S.move | exact S.load1c rfl rfl rfl rfl | exact S.loadNc rfl rfl rfl rfl | exact S.fieldAddr rfl rfl rfl)) | (refine RT.goK0 rfl rfl rfl ?_; apply Nx.of; (first | exact S.store rfl rfl (bkr_one h1) rfl rfl rfl)) | (refine RT.goK rfl rfl rfl rfl ?_; apply Nx.of; (first | exact S.len_sl rfl rfl rfl (by assumption))))
      (first | refine rt_go rfl ?_)
      exact ⟨rfl, rfl, fun h => absurd rfl h⟩
    | cons a r =>
      repeat' (first | refine RT.nil ?_ | refine sq_n ?_ | refine Tr.seq ?_ | refine Tr.region ?_ | refine Tr.cond_f rfl ?_ | refine Tr.ret ?_ | refine Tr.exit ?_ | refine sq_x ?_ | refine blk_hit rfl ?_ | refine lp_x ?_ | (refine RT.goK rfl rfl rfl rfl ?_; first | refine Nx.of (S.lss_f hlt') ?_) | (refine RT.goK rfl rfl rfl rfl ?_; apply Nx.of; (first | exact S.move | exact S.load1c rfl rfl rfl rfl | exact S.loadNc rfl rfl rfl rfl | exact S.fieldAddr rfl rfl rfl)) | (refine RT.goK0 rfl rfl rfl ?_; apply Nx.of; (first | exact S.store rfl rfl (bkr_one h1) rfl rfl rfl)) | (refine RT.goK rfl rfl rfl rfl ?_; apply Nx.of; (first | exact S.len_sl rfl rfl rfl (by assumption))))
      (first | refine rt_go rfl ?_)
      exact ⟨rfl, rfl, fun _ => getM rfl⟩
theorem Without6_at {B : CBook} {a1 a2 : AV} {m : List (Nat × Option AObj)} {c : Nat} {s : Int} {L : List Nat} (h : BkIn B a1 a2 m c) (hm : ∀ x o, lookM m x = some o → x < c) (hsL : ∀ k, k < B.nc → (k ∈ L ↔ hasP s k)) (hnc : B.nc ≤ 4) (fl : Nat) :
    OkAt 0 Try.prog fl 83 [bk B a1 a2, .int .i64 s] (ofM m) c (bk B a1 (grV (c + 3) (kpL L B.nc))) (ofM (m ++ kpM B (c + 3) (kpL L B.nc))) (c + 4) := by
  have hc := h.hc
  have e0 : ∀ (σ : Nat → Nat), σ 0 = 0 → ∀ x, (bk B a1 (grV x (kpL L B.nc))).ren σ = bk B a1 (grV (σ x) (kpL L B.nc)) := fun σ h0 x => by simp only [bk, AV.ren, AV.rens, h.h1.ren h0, grV_ren σ rfl]
  have sl : ∀ {v : AV} {n x i : Nat}, IsSl v n x → [((0, 0, none) : Wnd), (1, 0, none)][x]? = some (x, 0, none) → ArgW [(0, 0, none), (1, 0, none)] v v := fun {v n x i} hi hx => by
    rcases hi with rfl | ⟨rfl, rfl⟩
    · exact ArgW.gs hx
    · exact .pl Pl.nils
  have := CanS.freshD 2 (H' := ofM (m ++ kpM B (c + 3) (kpL L B.nc))) (k := 4) (v0 := bk B a1 (grV 5 (kpL L B.nc))) (Without6_can B a1 a2 s L hsL h.h1 h.h2 hnc) hc (by decide) (args := [bk B a1 a2, .int .i64 s]) (H := ofM m) (fun ρ w' us hH hv => by
    have := Entry.windows (W := [(0, 0, none), (1, 0, none)]) (CS := [flat (stE B) (List.range B.ns), flat (ckE B) (List.range B.nc)]) rfl
      ⟨⟨_, getM h.m1, .inr ⟨_, rfl, cut_all rfl⟩⟩, pls_flat _ _, ⟨_, getM h.m2, .inr ⟨_, rfl, cut_all rfl⟩⟩, pls_flat _ _, trivial⟩
      (args := [bk B a1 a2, .int .i64 s]) (args0 := [bk B a1 a2, .int .i64 s]) ⟨ArgW.agg (show ArgsW _ [a1, .int .i64 B.wea, .int .i64 (B.cost 0), .int .i64 (B.cost 1), .int .i64 (B.cost 2), a2, .int .i64 B.rate] [a1, .int .i64 B.wea, .int .i64 (B.cost 0), .int .i64 (B.cost 1), .int .i64 (B.cost 2), a2, .int .i64 B.rate] from
        ⟨sl (i := 0) h.h1 rfl, .pl (fun _ => rfl), .pl (fun _ => rfl), .pl (fun _ => rfl), .pl (fun _ => rfl), sl (i := 0) h.h2 rfl, .pl (fun _ => rfl), trivial⟩), .pl (fun _ => rfl), trivial⟩ ρ w' us hH hv
    exact ⟨_, this.1, this.2, fun y hy => by
      obtain rfl | rfl : y = 0 ∨ y = 1 := by omega
      · exact winR_id rfl
      · exact winR_id rfl⟩) (fun v1 H1 c1 ⟨g1, g2, g3⟩ => ?_) fl
  · rw [e0 _ rfl] at this
    exact this
  · refine ⟨by rw [g1, e0 _ rfl]; rfl, g2, fun x o hx => ?_⟩
    rw [ofM_get] at hx
    rcases lookM_app hx with k | k
    · exact .inl ⟨hm x o k, getM k⟩
    · generalize kpL L B.nc = K at g3 k
      cases K with
      | nil => cases k
      | cons p r =>
        replace k : lookM ((c + 3, some (.grown (flat (ckE B) (p :: r)) 3)) :: []) x = some o := k
        by_cases e1 : x = c + 3
        · subst e1
          rw [lookM_hd] at k
          cases k
          exact .inr ⟨3, .grown (flat (ckE B) (p :: r)) 3, rfl, by rw [ren_grown]; exact g3 (by simp), (ren_grown _ _ _ _).symm⟩
        · rw [lookM_tl e1] at k
          cases k
theorem lexC_anti : ∀ {a b : List Nat}, a.length = b.length → ¬ lexC a b < 0 → ¬ lexC b a < 0 → a = b
  | [], [], _, _, _ => rfl
  | [], _ :: _, h, _, _ => by cases h
  | _ :: _, [], h, _, _ => by cases h
  | x :: a, y :: b, h, h1, h2 => by
    rw [lexC_cons] at h1 h2
    have e : x = y := by omega
    subst e
    have := lexC_anti (a := a) (b := b) (by simpa using h) (fun q => h1 (.inr ⟨rfl, q⟩)) (fun q => h2 (.inr ⟨rfl, q⟩))
    rw [this]
theorem cmpL_anti {a b : List Nat} (h1 : ¬ cmpL a b < 0) (h2 : ¬ cmpL b a < 0) : a = b := by
  rw [cmpL_lt] at h1 h2
  have e : a.length = b.length := by omega
  exact lexC_anti e (fun q => h1 (.inr ⟨e, q⟩)) (fun q => h2 (.inr ⟨e.symm, q⟩))
theorem bits_lt : ∀ n : Fin 5, ∀ a : Fin 16, (∀ k : Fin 5, andI ((a.1 : Int).fdiv (2 ^ k.1)) 1 = 1 → k.1 < n.1) → (a.1 : Int) < 1 * 2 ^ n.1 := by decide +kernel
def okS (B : CBook) (s : Int) : Prop := Ws (woB B (kpL (numsL s B.nc) B.nc)) ≠ []
theorem wr_num {B : CBook} (hB : bkOk B) : ∃ s : Nat, (s : Int) < 1 * 2 ^ B.nc ∧ wrongL B = numsL (s : Int) B.nc := by
  have hnc := hB.2.2.1.1
  rcases wr_is hB with h | ⟨t, ht, h⟩
  · have hp : 1 ≤ (2 : Int) ^ B.nc := by
      obtain h | h | h | h | h : B.nc = 0 ∨ B.nc = 1 ∨ B.nc = 2 ∨ B.nc = 3 ∨ B.nc = 4 := by omega
      all_goals (rw [h]; decide)
    obtain ⟨s, hs⟩ := Int.eq_ofNat_of_zero_le (show 0 ≤ 1 * (2 : Int) ^ B.nc - 1 by omega)
    refine ⟨s, by omega, ?_⟩
    rw [h, ← hs, nums_all hnc]
  · have hw := fun k (hk : k < 5) => wnS_has hB.2.2.1 t hk B.ns
    obtain ⟨_, b0, b1⟩ := hw 0 (by decide)
    obtain ⟨s, hs⟩ := Int.eq_ofNat_of_zero_le b0
    refine ⟨s, ?_, ?_⟩
    · have := bits_lt ⟨B.nc, by omega⟩ ⟨s, by omega⟩ fun k hk => by
        refine ((hw k.1 k.2).1.1 ?_).1
        rw [hs]
        exact hk
      exact this
    · rw [h, ← hs]
      rfl
theorem wr_eq {B : CBook} (hB : bkOk B) {Q : List Nat} (h1 : ∃ s, Q = numsL s B.nc ∧ okS B s) (h2 : ∀ s : Nat, (s : Int) < 1 * 2 ^ B.nc → okS B s → ¬ cmpL (numsL s B.nc) Q < 0) : Q = wrongL B := by
  obtain ⟨s, rfl, hs⟩ := h1
  obtain ⟨s0, g1, g2⟩ := wr_num hB
  refine cmpL_anti (fun q => hs (wr_less hB q)) ?_
  have := h2 s0 g1 (by unfold okS; rw [← g2]; exact wr_rest hB)
  rw [g2]
  exact this
theorem wr6_wk {B : CBook} {a1 a2 : AV} (h1 : IsSl a1 B.ns 0) (h2 : IsSl a2 B.nc 1) {n c x : Nat} {l : List (Nat × AV)} {m : List (Nat × Option AObj)} {k : Int} {Q : List Nat} (hx : 3 ≤ x) (hc : 3 ≤ c)
    (t6 : Go.Ev.look l 6 = some (alV x Q)) (t1 : Go.Ev.look l 1 = some (.ptr 2 0)) (t5 : Go.Ev.look l 5 = some (.int .i64 (B.nc : Int))) (t7 : Go.Ev.look l 7 = some (AV.int .i64 k))
    (g3 : lookM m x = some (alO Q)) (g2 : lookM m 2 = some (.cells (bk B a1 a2).cells)) (g0 : lookM m 0 = some (oSt B)) (g1 : lookM m 1 = some (oCk B)) :
    Wk 0 2 2 (stL n [] l m c) (stL n [] [(6, alV 3 Q), (1, .ptr 2 0), (5, .int .i64 (B.nc : Int)), (7, .int .i64 k)] [(3, some (alO Q)), (2, some (.cells (bk B a1 a2).cells)), (0, some (oSt B)), (1, some (oCk B))] 4) := by
  let σ : Nat → Nat := fun y => if y < 3 then y else if y = 3 then x else c + y
  have s3 : σ 3 = x := rfl
  refine Wk.by σ (by decide) (by decide) (by decide) ⟨t6.trans (congrArg some (alV_ren σ s3 Q).symm), t1, t5, t7, trivial⟩
    ⟨g3.trans (congrArg some (alO_ren σ Q).symm), g2.trans (congrArg some (bkc_ren (σ := σ) h1 h2 rfl rfl).symm), g0.trans (congrArg some (ren_ro _ σ _).symm), g1.trans (congrArg some (ren_ro _ σ _).symm), trivial⟩ rfl (fun u hu v hv huv e => ?_) (fun u hu => ?_) (fun u hu => ?_) (fun u hu => ?_)
  · have low : ∀ u, u ∈ ([(3, some (alO Q)), (2, some (.cells (bk B a1 a2).cells)), (0, some (oSt B)), (1, some (oCk B))] : List (Nat × Option AObj)).map (fun e => e.1) → u < 4 := fun u hu => by
      simp at hu; omega
    have q1 := low u hu
    have q2 := low v hv
    simp only [σ] at e
    (repeat' split at e) <;> omega
  all_goals (simp only [σ]; (repeat' split) <;> omega)
set_option maxRecDepth 100000 in
set_option maxHeartbeats 4000000 in
theorem Wrong6_no (B : CBook) (a1 a2 : AV) (h1 : IsSl a1 B.ns 0) (h2 : IsSl a2 B.nc 1) (hn : B.ns ≤ 9223372036854775807) (hB : ¬ bkOk B) : CanS 0 Try.prog 33 2 [bk B a1 a2] [(0, some (oSt B)), (1, some (oCk B))] 2 fun v _ _ => v = .tup [.nils, .int .i64 60] := by
  have hk : AV.int .i64 (ckV B) = .int .i64 60 := by unfold ckV; rw [dB_ff hB]; rfl
  refine CanS.mk Try.func33 rfl rfl rfl ?_
  repeat' (first | refine RT.nil ?_ | refine sq_n ?_ | refine Tr.seq ?_ | refine Tr.region ?_ | refine Tr.cond_t rfl ?_ | refine Tr.ret ?_ | refine sq_r ?_ | (refine RT.call rfl rfl rfl (val_is hk (Check6_at ⟨h1, h2, rfl, rfl, by decide⟩ hn _)) rfl rfl (Nat.le_refl _) ?_) | (refine RT.goK rfl rfl rfl rfl ?_; apply Nx.of; (first | exact S.neq_t (by decide))) | (refine RT.goK rfl rfl rfl rfl ?_; apply Nx.of; (first | exact S.move | exact S.assign | exact S.loadNc rfl rfl rfl rfl | exact S.box)))
  (first | refine rt_go rfl ?_)
  rfl
set_option maxRecDepth 100000 in
set_option maxHeartbeats 4000000 in
theorem Wrong6_yes (B : CBook) (a1 a2 : AV) (h1 : IsSl a1 B.ns 0) (h2 : IsSl a2 B.nc 1) (hn : B.ns ≤ 9223372036854775807) (hB : bkOk B) : CanS 0 Try.prog 33 2 [bk B a1 a2] [(0, some (oSt B)), (1, some (oCk B))] 2 fun v H1 c1 => v = .tup [alV 3 (wrongL B), .int .i64 0] ∧ c1 = 4 ∧ H1.get 3 = some (alO (wrongL B)) := by
  have hk : AV.int .i64 (ckV B) = .int .i64 0 := by unfold ckV; rw [dB_tt hB]; rfl
  have hnc := hB.2.2.1.1
  have hp2 : 1 ≤ (2 : Int) ^ B.nc ∧ (2 : Int) ^ B.nc ≤ 16 := by
    obtain h | h | h | h | h : B.nc = 0 ∨ B.nc = 1 ∨ B.nc = 2 ∨ B.nc = 3 ∨ B.nc = 4 := by omega
    all_goals (rw [h]; decide)
  have hs64 : In64 (1 * 2 ^ B.nc) := by unfold In64; omega
  have hmem : ∀ (s : Int) k, k < B.nc → (k ∈ numsL s B.nc ↔ hasP s k) := fun s k hk => by
    rw [numsL_filter]
    simp only [List.mem_filter, List.mem_range, dB_eq]
    exact ⟨fun h => h.2, fun h => ⟨hk, h⟩⟩
  have hK : ∀ L : List Nat, (∀ k ∈ kpL L B.nc, k < B.nc) ∧ (kpL L B.nc).length ≤ 4 := fun L => ⟨fun k hk => (kpL_mem.1 hk).1, Nat.le_trans (kpL_len _ _) hnc⟩
  refine CanS.mk Try.func33 rfl rfl rfl ?_
  repeat' (first | refine RT.nil ?_ | refine sq_n ?_ | refine Tr.seq ?_ | refine Tr.region ?_ | refine Tr.cond_f rfl ?_ | refine Tr.skip ?_ | refine Tr.block ?_ | (refine RT.call rfl rfl rfl (val_is hk (Check6_at ⟨h1, h2, rfl, rfl, by decide⟩ hn _)) rfl rfl (Nat.le_refl _) ?_) | (refine RT.call rfl rfl rfl (All_at _ B.nc (by omega) (Kb.hm (by repeat' (first | exact Kb.nil | refine Kb.cons (by decide) ?_))) _) rfl rfl (by decide) ?_) | (refine RT.goK rfl rfl rfl rfl ?_; first | refine Nx.of (S.len_sl rfl rfl rfl h2) ?_ | refine Nx.of (S.shl (by omega) hs64) ?_) | (refine RT.goK rfl rfl rfl rfl ?_; apply Nx.of; (first | exact S.neq_f (by decide))) | (refine RT.goK rfl rfl rfl rfl ?_; apply Nx.of; (first | exact S.move | exact S.assign | exact S.load1c rfl rfl rfl rfl | exact S.loadNc rfl rfl rfl rfl | exact S.fieldAddr rfl rfl rfl | exact S.box | exact S.sub (by unfold In64; omega))))
  refine Tr.loop (fun s : Nat × List Nat => stL Try.f33.ntmps [] [(6, alV 3 s.2), (1, .ptr 2 0), (5, .int .i64 (B.nc : Int)), (7, .int .i64 (s.1 : Int))] [(3, some (alO s.2)), (2, some (.cells (bk B a1 a2).cells)), (0, some (oSt B)), (1, some (oCk B))] 4) (fun s => (s.1 : Int) ≤ 1 * 2 ^ B.nc ∧ (∃ u, s.2 = numsL u B.nc ∧ okS B u) ∧ ∀ u : Nat, u < s.1 → okS B u → ¬ cmpL (numsL u B.nc) s.2 < 0) (fun s => 16 - s.1) (0, numsL (1 * 2 ^ B.nc - 1) B.nc) ⟨by show (0 : Int) ≤ _; omega, ⟨_, rfl, ?_⟩, fun u hu => absurd hu (Nat.not_lt_zero u)⟩ (wr6_wk h1 h2 (x := 3) (by decide) (by decide) rfl rfl rfl rfl rfl rfl rfl rfl) (fun s hs => ?_)
  · unfold okS
    rw [nums_all hnc]
    have e : kpL (List.range B.nc) B.nc = [] := List.eq_nil_iff_forall_not_mem.2 fun k hk => by
      have := kpL_mem.1 hk
      exact this.2 (List.mem_range.2 this.1)
    rw [e]
    intro q
    obtain ⟨t, ht⟩ := List.exists_mem_of_ne_nil _ (nc_ne hB)
    have := (mem_wo hB (K := []) (fun k hk => by cases hk) (by decide)).2 ⟨ht, fun k hk => by cases hk⟩
    rw [q] at this
    cases this
  obtain ⟨k, Q⟩ := s
  obtain ⟨hk1, hk2, hk3⟩ := hs
  replace hk1 : (k : Int) ≤ 1 * 2 ^ B.nc := hk1
  replace hk2 : ∃ u, Q = numsL u B.nc ∧ okS B u := hk2
  replace hk3 : ∀ u : Nat, u < k → okS B u → ¬ cmpL (numsL u B.nc) Q < 0 := hk3
  have hQl : Q.length ≤ 1000 := by
    obtain ⟨u, rfl, _⟩ := hk2
    have := numsL_len u B.nc
    omega
  by_cases hlt : (k : Int) < 1 * 2 ^ B.nc
  · obtain ⟨O, hO⟩ : ∃ O, numsL (k : Int) B.nc = O := ⟨_, rfl⟩
    have hl2 : O.length ≤ 1000 := by have := numsL_len (k : Int) B.nc; rw [hO] at this; omega
    have hbd := woB_ok hB (hK O).1 (hK O).2
    have hall := fun fl => All_at (m := [(3, some (alO Q)), (2, some (.cells (bk B a1 a2).cells)), (0, some (oSt B)), (1, some (oCk B))]) (c := 4) (k : Int) B.nc (by omega) (Kb.hm (by repeat' (first | exact Kb.nil | refine Kb.cons (by decide) ?_))) fl
    rw [hO] at hall
    have hwo := fun fl => Without6_at (m := (4, some (alO O)) :: [(3, some (alO Q)), (2, some (.cells (bk B a1 a2).cells)), (0, some (oSt B)), (1, some (oCk B))]) (c := 5) (s := (k : Int)) (L := O) ⟨h1, h2, rfl, rfl, by decide⟩ (Kb.hm (by repeat' (first | exact Kb.nil | refine Kb.cons (by decide) ?_))) (hO ▸ hmem (k : Int)) hnc fl
    have htr := fun fl => rtruths_x (m := ((4, some (alO O)) :: [(3, some (alO Q)), (2, some (.cells (bk B a1 a2).cells)), (0, some (oSt B)), (1, some (oCk B))]) ++ kpM B 8 (kpL O B.nc)) (c := 9) (BkX.wo (K := kpL O B.nc) h1 rfl (fun hne => look_kp hne (by repeat' (first | exact Kb.nil | refine Kb.cons (by decide) ?_)))) hbd.five (Kb.hm (by repeat' (first | exact Kb.nil | refine Kb.cons (by decide) ?_ | refine Kb.app ?_ ?_ | exact Kb.kp (by decide)))) fl
    have hsl := grI_sl 9 (gW (woB B (kpL O B.nc))).length
    have nx : ∀ {Q' : List Nat}, (∃ u, Q' = numsL u B.nc ∧ okS B u) → (∀ u : Nat, u < k → okS B u → ¬ cmpL (numsL u B.nc) Q' < 0) → (okS B k → ¬ cmpL O Q' < 0) → ((k + 1 : Nat) : Int) ≤ 1 * 2 ^ B.nc ∧ (∃ u, Q' = numsL u B.nc ∧ okS B u) ∧ ∀ u : Nat, u < k + 1 → okS B u → ¬ cmpL (numsL u B.nc) Q' < 0 := fun {Q'} a b d => ⟨by omega, a, fun u hu hs => by
      by_cases e : u = k
      · subst e; rw [hO]; exact d hs
      · exact b u (by omega) hs⟩
    have hmu : 16 - (k + 1) < 16 - k := by omega
    by_cases hF : cmpL O Q < 0
    · have hFe : AV.bool (decide (cmpL O Q < 0)) = .bool true := by rw [decide_eq_true hF]
      by_cases hW : gW (woB B (kpL O B.nc)) = []
      · have hpos : ¬ ((gW (woB B (kpL O B.nc))).length : Int) > 0 := by rw [hW]; decide
        have hno : ¬ okS B k := fun q => q (by rw [hO]; exact (gW_nil hbd).1 hW)
        repeat' (first | refine RT.nil ?_ | refine sq_n ?_ | refine Tr.seq ?_ | refine Tr.region ?_ | refine Tr.cond_t rfl ?_ | refine Tr.cond_f rfl ?_ | refine Tr.skip ?_ | refine Tr.block ?_ | refine blk_n ?_ | (refine RT.call rfl rfl rfl (hall _) rfl rfl (by decide) ?_) | (refine RT.call rfl rfl rfl (val_is hFe (Fewer_at (L := O) (Q := Q) (Lw.al rfl) (Lw.al rfl) hl2 _)) rfl rfl (Nat.le_refl _) ?_) | (refine RT.call rfl rfl rfl (hwo _) rfl rfl (by decide) ?_) | (refine RT.call rfl rfl rfl (htr _) rfl rfl (by omega) ?_) | (refine RT.goK rfl rfl rfl rfl ?_; first | refine Nx.of (S.len_sl rfl rfl rfl hsl) ?_ | refine Nx.of (S.shl (by omega) hs64) ?_ | refine Nx.of (S.lss_t hlt) ?_ | refine Nx.of (S.gtr_f hpos) ?_ | refine Nx.of (S.add_one (by omega)) ?_) | (refine RT.goK rfl rfl rfl rfl ?_; apply Nx.of; (first | exact S.move | exact S.assign | exact S.loadNc rfl rfl rfl rfl | exact S.pick_tt)))
        refine lp_n (k + 1, Q) (nx hk2 hk3 fun q => absurd q hno) hmu ?_
        have sk : ∀ {y : Nat} {o : AObj}, y < 5 → lookM ((4, some (alO O)) :: [(3, some (alO Q)), (2, some (.cells (bk B a1 a2).cells)), (0, some (oSt B)), (1, some (oCk B))]) y = some o → lookM (goM (woB B (kpL O B.nc)) 9 (gW (woB B (kpL O B.nc))) ++ (((4, some (alO O)) :: [(3, some (alO Q)), (2, some (.cells (bk B a1 a2).cells)), (0, some (oSt B)), (1, some (oCk B))]) ++ kpM B 8 (kpL O B.nc))) y = some o := fun {y o} hy h => (look_skip fun e he => by have := goM_keys e he; omega).trans (look_left h)
        exact wr6_wk h1 h2 (x := 3) (by decide) (by omega) rfl rfl rfl rfl (sk (by decide) rfl) (sk (by decide) rfl) (sk (by decide) rfl) (sk (by decide) rfl)
      · have hpos : ((gW (woB B (kpL O B.nc))).length : Int) > 0 := by have := List.length_pos_iff.2 hW; omega
        have hyes : okS B k := fun q => hW ((gW_nil hbd).2 (by rw [hO] at q; exact q))
        repeat' (first | refine RT.nil ?_ | refine sq_n ?_ | refine Tr.seq ?_ | refine Tr.region ?_ | refine Tr.cond_t rfl ?_ | refine Tr.skip ?_ | refine Tr.block ?_ | refine blk_n ?_ | (refine RT.call rfl rfl rfl (hall _) rfl rfl (by decide) ?_) | (refine RT.call rfl rfl rfl (val_is hFe (Fewer_at (L := O) (Q := Q) (Lw.al rfl) (Lw.al rfl) hl2 _)) rfl rfl (Nat.le_refl _) ?_) | (refine RT.call rfl rfl rfl (hwo _) rfl rfl (by decide) ?_) | (refine RT.call rfl rfl rfl (htr _) rfl rfl (by omega) ?_) | (refine RT.goK rfl rfl rfl rfl ?_; first | refine Nx.of (S.len_sl rfl rfl rfl hsl) ?_ | refine Nx.of (S.shl (by omega) hs64) ?_ | refine Nx.of (S.lss_t hlt) ?_ | refine Nx.of (S.gtr_t hpos) ?_ | refine Nx.of (S.add_one (by omega)) ?_) | (refine RT.goK rfl rfl rfl rfl ?_; apply Nx.of; (first | exact S.move | exact S.assign | exact S.loadNc rfl rfl rfl rfl | exact S.pick_tt)))
        refine lp_n (k + 1, O) (nx ⟨_, hO.symm, hyes⟩ (fun u hu hs q => hk3 u hu hs (cmpL_trans q hF)) fun _ => cmpL_self O) hmu ?_
        have sk : ∀ {y : Nat} {o : AObj}, y < 5 → lookM ((4, some (alO O)) :: [(3, some (alO Q)), (2, some (.cells (bk B a1 a2).cells)), (0, some (oSt B)), (1, some (oCk B))]) y = some o → lookM (goM (woB B (kpL O B.nc)) 9 (gW (woB B (kpL O B.nc))) ++ (((4, some (alO O)) :: [(3, some (alO Q)), (2, some (.cells (bk B a1 a2).cells)), (0, some (oSt B)), (1, some (oCk B))]) ++ kpM B 8 (kpL O B.nc))) y = some o := fun {y o} hy h => (look_skip fun e he => by have := goM_keys e he; omega).trans (look_left h)
        exact wr6_wk h1 h2 (x := 4) (by decide) (by omega) rfl rfl rfl rfl (sk (by decide) rfl) (sk (by decide) rfl) (sk (by decide) rfl) (sk (by decide) rfl)
    · have hFe : AV.bool (decide (cmpL O Q < 0)) = .bool false := by rw [decide_eq_false hF]
      repeat' (first | refine RT.nil ?_ | refine sq_n ?_ | refine Tr.seq ?_ | refine Tr.region ?_ | refine Tr.cond_t rfl ?_ | refine Tr.cond_f rfl ?_ | refine Tr.skip ?_ | refine Tr.block ?_ | refine blk_n ?_ | (refine RT.call rfl rfl rfl (hall _) rfl rfl (by decide) ?_) | (refine RT.call rfl rfl rfl (val_is hFe (Fewer_at (L := O) (Q := Q) (Lw.al rfl) (Lw.al rfl) hl2 _)) rfl rfl (Nat.le_refl _) ?_) | (refine RT.goK rfl rfl rfl rfl ?_; first | refine Nx.of (S.shl (by omega) hs64) ?_ | refine Nx.of (S.lss_t hlt) ?_ | refine Nx.of (S.add_one (by omega)) ?_) | (refine RT.goK rfl rfl rfl rfl ?_; apply Nx.of; (first | exact S.move | exact S.assign | exact S.pick_ff)) | (refine RT.no rfl rfl rfl ?_))
      refine lp_n (k + 1, Q) (nx hk2 hk3 fun _ => hF) hmu ?_
      exact wr6_wk h1 h2 (x := 3) (by decide) (by decide) rfl rfl rfl rfl rfl rfl rfl rfl
  · have hkN : (k : Int) = 1 * 2 ^ B.nc := by omega
    have hQ : Q = wrongL B := wr_eq hB hk2 fun u hu => hk3 u (by omega)
    repeat' (first | refine RT.nil ?_ | refine sq_n ?_ | refine Tr.seq ?_ | refine Tr.region ?_ | refine Tr.cond_f rfl ?_ | refine Tr.ret ?_ | refine Tr.exit ?_ | refine sq_x ?_ | refine blk_hit rfl ?_ | refine lp_x ?_ | (refine RT.goK rfl rfl rfl rfl ?_; first | refine Nx.of (S.shl (by omega) hs64) ?_ | refine Nx.of (S.lss_f hlt) ?_) | (refine RT.goK rfl rfl rfl rfl ?_; apply Nx.of; (first | exact S.move | exact S.assign)))
    (first | refine rt_go rfl ?_)
    rw [← hQ]
    exact ⟨rfl, rfl, getM rfl⟩
theorem Wrong6_at {B : CBook} {a1 a2 : AV} {m : List (Nat × Option AObj)} {c : Nat} (h : BkIn B a1 a2 m c) (hm : ∀ x o, lookM m x = some o → x < c) (hn : B.ns ≤ 9223372036854775807) (hB : bkOk B) (fl : Nat) : OkAt 0 Try.prog fl 33 [bk B a1 a2] (ofM m) c (.tup [alV (c + 1) (wrongL B), .int .i64 0]) (ofM ((c + 1, some (alO (wrongL B))) :: m)) (c + 2) := by
  have e0 : ∀ (σ : Nat → Nat) (x : Nat), (AV.tup [alV x (wrongL B), .int .i64 0]).ren σ = .tup [alV (σ x) (wrongL B), .int .i64 0] := fun σ x => by
    show AV.tup [(alV x (wrongL B)).ren σ, .int .i64 0] = _
    rw [alV_ren σ rfl]
  have := CanS.fresh (H' := ofM ((c + 1, some (alO (wrongL B))) :: m)) (k := 2) (v0 := .tup [alV 1 (wrongL B), .int .i64 0]) (Wrong6_yes B a1 a2 h.h1 h.h2 hn hB) (h.entry [] .nil) (fun v1 H1 c1 ⟨g1, g2, g3⟩ => ?_) fl
  · rw [e0] at this
    exact this
  · refine ⟨by rw [g1, e0], g2, fun x o hx => ?_⟩
    rw [ofM_get] at hx
    by_cases e1 : x = c + 1
    · subst e1
      rw [lookM_hd] at hx
      cases hx
      exact .inr ⟨1, alO (wrongL B), rfl, by rw [alO_ren]; exact g3, (alO_ren _ _).symm⟩
    · rw [lookM_tl e1] at hx
      exact .inl ⟨hm x o hx, getM hx⟩
theorem Wrong6_atn {B : CBook} {a1 a2 : AV} {m : List (Nat × Option AObj)} {c : Nat} (h : BkIn B a1 a2 m c) (hn : B.ns ≤ 9223372036854775807) (hB : ¬ bkOk B) (fl : Nat) : OkAt 0 Try.prog fl 33 [bk B a1 a2] (ofM m) c (.tup [.nils, .int .i64 60]) (ofM m) c :=
  (Wrong6_no B a1 a2 h.h1 h.h2 hn hB).pure (fun _ => rfl) (h.entry [] .nil) fl
set_option maxRecDepth 100000 in
set_option maxHeartbeats 4000000 in
theorem Like_can (L : List Nat) (hl : L.length ≤ 1000) (a1 a2 : AV) (h1 : IsSl a1 L.length 0) (h2 : IsSl a2 L.length 1) : CanS 0 Try.prog 34 2 [a1, a2] [(0, some (.ro (natV L))), (1, some (.ro (natV L)))] 2 fun v _ _ => v = .bool true := by
  refine CanS.mk Try.func34 rfl rfl rfl ?_
  repeat' (first | refine RT.nil ?_ | refine sq_n ?_ | refine Tr.seq ?_ | refine Tr.region ?_ | refine Tr.block ?_ | (refine RT.goK rfl rfl rfl rfl ?_; first | refine Nx.of (S.len_sl rfl rfl rfl h1) ?_ | refine Nx.of (S.len_sl rfl rfl rfl h2) ?_ | refine Nx.of (S.eql_t rfl) ?_) | (refine RT.goK rfl rfl rfl rfl ?_; apply Nx.of; (first | exact S.move | exact S.assign)))
  refine Tr.loop (fun k : Nat => stL Try.f34.ntmps [] [(0, a1), (1, a2), (5, .bool true), (6, .int .i64 k)] [(0, some (.ro (natV L))), (1, some (.ro (natV L)))] 2) (fun k => k ≤ L.length) (fun k => L.length - k) 0 (Nat.zero_le _) (by (refine Wk.same (by decide) (by decide) (by decide) (by decide) ?_ ?_ rfl; all_goals ((try simp only [allL, allM]); (repeat' (first | exact trivial | refine And.intro ?_ ?_)); all_goals (first | rfl | exact IsSl.ren (by assumption) (nm_lt (by decide)) | exact roN_ren _ _ | decide)))) (fun k hk => ?_)
  by_cases hlt : k < L.length
  · have hlt' : (k : Int) < L.length := by omega
    have x1 := natV_at hlt
    repeat' (first | refine RT.nil ?_ | refine sq_n ?_ | refine Tr.seq ?_ | refine Tr.region ?_ | refine Tr.cond_t rfl ?_ | refine Tr.skip ?_ | refine Tr.block ?_ | (refine RT.goK rfl rfl rfl rfl ?_; first | refine Nx.of (S.lss_t hlt') ?_ | refine Nx.of (S.len_sl rfl rfl rfl h1) ?_) | (refine RT.goK rfl rfl rfl rfl ?_; apply Nx.of; (first | exact S.move | exact S.pick_tt)))
    refine Tr.openK un34_5 (by kernel_rfl) (by kernel_rfl) noCall noCall_calm ?_
    repeat' (first | (refine RD.free rfl rfl rfl rfl rfl rfl ?_; apply Nx.of; (first | exact S.eql_t rfl | exact S.idx_sl rfl rfl rfl h1 hlt | exact S.idx_sl rfl rfl rfl h2 hlt)) | (refine RD.load rfl rfl rfl rfl rfl rfl rfl rfl ?_; apply Nx.of; (first | exact S.load1r rfl rfl rfl x1)) | (refine RD.free rfl rfl rfl rfl rfl rfl ?_; apply Nx.of; (first | exact S.move | exact S.assign)) | refine RD.nil ⟨Nat.le_of_ble_eq_true rfl, ?_⟩)
    repeat' (first | refine RT.nil ?_ | refine sq_n ?_ | refine Tr.region ?_ | refine blk_n ?_ | (refine RT.goK rfl rfl rfl rfl ?_; apply Nx.of; (first | exact S.move | exact S.assign | exact S.add_one (by omega))))
    refine lp_n (k + 1) hlt (by omega) (by (refine Wk.same (by decide) (by decide) (by decide) (by decide) ?_ ?_ rfl; all_goals ((try simp only [allL, allM]); (repeat' (first | exact trivial | refine And.intro ?_ ?_)); all_goals (first | rfl | exact IsSl.ren (by assumption) (nm_lt (by decide)) | exact roN_ren _ _ | decide))))
  · obtain rfl : k = L.length := by have : k ≤ L.length := hk; omega
    have hlt' : ¬ (L.length : Int) < L.length := by omega
    repeat' (first | refine RT.nil ?_ | refine sq_n ?_ | refine Tr.seq ?_ | refine Tr.region ?_ | refine Tr.cond_f rfl ?_ | refine Tr.ret ?_ | refine Tr.exit ?_ | refine sq_x ?_ | refine blk_hit rfl ?_ | refine lp_x ?_ | (refine RT.goK rfl rfl rfl rfl ?_; first | refine Nx.of (S.lss_f hlt') ?_ | refine Nx.of (S.len_sl rfl rfl rfl h1) ?_) | (refine RT.goK rfl rfl rfl rfl ?_; apply Nx.of; (first | exact S.move | exact S.assign | exact S.pick_tt)))
    (first | refine rt_go rfl ?_)
    rfl
theorem Like_at {m : List (Nat × Option AObj)} {c : Nat} {v u : AV} {L : List Nat} (h : Lw m v L) (k : Lw m u L) (hl : L.length ≤ 1000) (fl : Nat) : OkAt 0 Try.prog fl 34 [v, u] (ofM m) c (.bool true) (ofM m) c := by
  obtain ⟨w, hw, ha⟩ := h.ex
  obtain ⟨w', hw', ha'⟩ := k.ex
  obtain ⟨a, k1, k2⟩ := ha [w, w'] 0 rfl
  obtain ⟨b, k3, k4⟩ := ha' [w, w'] 1 rfl
  exact (Like_can L hl a b k2 k4).pure (.bool _) (Entry.win (H := ofM m) (c := c) (W := [w, w']) (CS := [natV L, natV L]) rfl ⟨hw, pls_nat L, hw', pls_nat L, trivial⟩ (show ArgsW [w, w'] [v, u] [a, b] from ⟨k1, k3, trivial⟩)) fl
end Go.Proofs.Ytlnmcadbmpiopaa
/- ClaimWrongs: the law, for every book and every clock. -/
namespace Go.Proofs.Ytlnmcadbmpiopaa
open Go Go.Ev
theorem ftV_is (B : CBook) (s r e : Int) : ∃ b x, ftV B s r e = .tup [.bool b, .int .i64 x] := by unfold ftV; split <;> exact ⟨_, _, rfl⟩
set_option maxRecDepth 100000 in
set_option maxHeartbeats 8000000 in
theorem wrongs_law (hb : BillOK) (B : CBook) (a1 a2 : AV) (h1 : IsSl a1 B.ns 0) (h2 : IsSl a2 B.nc 1) (hn : B.ns ≤ 9223372036854775807) (s r e : Int) (_ : In64 s ∧ In64 r ∧ In64 e) : CanS 0 Try.prog 5 2 [bk B a1 a2, .agg [.int .i64 s, .int .i64 r, .int .i64 e]] [(0, some (oSt B)), (1, some (oCk B))] 2 fun v _ _ => v = .bool true := by
  obtain ⟨fb, fe, hF⟩ := ftV_is B s r e
  refine CanS.mk Try.func5 rfl rfl rfl ?_
  by_cases hB : bkOk B
  · obtain ⟨L, hL⟩ : ∃ L, wrongL B = L := ⟨_, rfl⟩
    have hl1 : L.length ≤ 1000 := by have := wr_len hB; rw [hL] at this; have := hB.2.2.1.1; omega
    repeat' (first | refine RT.nil ?_ | refine sq_n ?_ | refine Tr.seq ?_ | refine Tr.region ?_ | refine Tr.cond_f rfl ?_ | refine Tr.skip ?_ | refine Tr.ret ?_ | (refine RT.call rfl rfl rfl (val_is hF (Fits_x (BkX.of (B := B) (v1 := a1) (v2 := a2) (x1 := 0) (x2 := 1) ⟨h1, _, rfl, .inr rfl⟩ ⟨h2, _, rfl, .inr rfl⟩) hn s r e _)) rfl rfl (Nat.le_refl _) ?_) | (refine RT.call rfl rfl rfl (val_is hF (Fits6_at ⟨h1, h2, rfl, rfl, by decide⟩ hn s r e _)) rfl rfl (Nat.le_refl _) ?_) | (refine RT.call rfl rfl rfl (hL ▸ Wrong_w (BkX.of (B := B) (v1 := a1) (v2 := a2) (x1 := 0) (x2 := 1) ⟨h1, _, rfl, .inr rfl⟩ ⟨h2, _, rfl, .inr rfl⟩) (Kb.hm (by repeat' (first | exact Kb.nil | refine Kb.cons (by decide) ?_))) hn hB _) rfl rfl (by decide) ?_) | (refine RT.call rfl rfl rfl (hL ▸ Wrong6_at ⟨h1, h2, rfl, rfl, by decide⟩ (Kb.hm (by repeat' (first | exact Kb.nil | refine Kb.cons (by decide) ?_ | refine Kb.app ?_ ?_ | exact Kb.gr (by decide)))) hn hB _) rfl rfl (by decide) ?_) | (refine RT.call rfl rfl rfl (Like_at (L := L) (Lw.of (z := 0) (fun hne => by repeat' (first | exact look_gr hne (by simp))) rfl) (Lw.al rfl) hl1 _) rfl rfl (Nat.le_refl _) ?_) | (refine RT.call rfl rfl rfl (hb.root_at _ _ _) rfl rfl (Nat.le_refl _) ?_) | (refine RT.goK rfl rfl rfl rfl ?_; first | refine Nx.of (S.neqB_f (eqBt _)) ?_ | refine Nx.of (S.neq_f rfl) ?_ | refine Nx.of (S.eql_t rfl) ?_) | (refine RT.goK rfl rfl rfl rfl ?_; apply Nx.of; (first | exact S.move | exact S.assign | exact S.loadNc rfl rfl rfl rfl | exact S.pick_tt | exact S.pick_ff | exact S.box | exact S.extract rfl)))
    (first | refine rt_go rfl ?_)
    rfl
  · repeat' (first | refine RT.nil ?_ | refine sq_n ?_ | refine Tr.seq ?_ | refine Tr.region ?_ | refine Tr.cond_f rfl ?_ | refine Tr.skip ?_ | refine Tr.ret ?_ | (refine RT.call rfl rfl rfl (val_is hF (Fits_x (BkX.of (B := B) (v1 := a1) (v2 := a2) (x1 := 0) (x2 := 1) ⟨h1, _, rfl, .inr rfl⟩ ⟨h2, _, rfl, .inr rfl⟩) hn s r e _)) rfl rfl (Nat.le_refl _) ?_) | (refine RT.call rfl rfl rfl (val_is hF (Fits6_at ⟨h1, h2, rfl, rfl, by decide⟩ hn s r e _)) rfl rfl (Nat.le_refl _) ?_) | (refine RT.call rfl rfl rfl (Wrong_xn (BkX.of (B := B) (v1 := a1) (v2 := a2) (x1 := 0) (x2 := 1) ⟨h1, _, rfl, .inr rfl⟩ ⟨h2, _, rfl, .inr rfl⟩) hn hB _) rfl rfl (Nat.le_refl _) ?_) | (refine RT.call rfl rfl rfl (Wrong6_atn ⟨h1, h2, rfl, rfl, by decide⟩ hn hB _) rfl rfl (Nat.le_refl _) ?_) | (refine RT.call rfl rfl rfl (Like_at (L := []) (Lw.fu (x := 0) (z := 0) (.inl rfl) ⟨_, rfl⟩) (Lw.fu (x := 0) (z := 0) (.inl rfl) ⟨_, rfl⟩) (by decide) _) rfl rfl (Nat.le_refl _) ?_) | (refine RT.call rfl rfl rfl (hb.root_at _ _ _) rfl rfl (Nat.le_refl _) ?_) | (refine RT.goK rfl rfl rfl rfl ?_; first | refine Nx.of (S.neqB_f (eqBt _)) ?_ | refine Nx.of (S.neq_f rfl) ?_ | refine Nx.of (S.eql_t rfl) ?_) | (refine RT.goK rfl rfl rfl rfl ?_; apply Nx.of; (first | exact S.move | exact S.assign | exact S.loadNc rfl rfl rfl rfl | exact S.pick_tt | exact S.pick_ff | exact S.box | exact S.extract rfl)))
    (first | refine rt_go rfl ?_)
    rfl
end Go.Proofs.Ytlnmcadbmpiopaa
