/- Texts of one kind, one behind the other: Ee, Ef, Eg, Eh, Ei, Ej, Ek, El, Em, En. -/
import Derived.Test.YtlnmcadbmpiopaaQk5
set_option linter.unusedVariables false
set_option linter.unusedSimpArgs false
/- The reference of layer 6: goes, one stage. -/
namespace Go.Proofs.Ytlnmcadbmpiopaa
open Go Go.Ev
section
variable (B : CBook) (rem k w : Nat) (t : Tru) (fr : Int)
def miG (d r : Int) : Int := fr + d + r + B.cost w
noncomputable def gFi (d r s : Int) : List Tru := gL B rem (k + 1) (tru2 t k r (miG B w fr d r)) (miG B w fr d r + s)
noncomputable def gFm (d r : Int) : List Tru := if wrV B ((k : Int), miG B w fr d r) = 0 then (ints (B.sl k) (B.sh k)).flatMap (gFi B rem k w t fr d r) else []
noncomputable def gFo (d : Int) : List Tru := (ints (B.rl k) (B.rh k)).flatMap (gFm B rem k w t fr d)
end
theorem gL_is {B : CBook} {rem k w : Nat} {t : Tru} {fr : Int} (h : t.w = (w : Int)) : gL B (rem + 1) k t fr = (ints (B.dl k) (B.dh k)).flatMap (gFo B rem k w t fr) := by
  rw [gL, h, Int.toNat_natCast]
  rfl
section
variable {B : CBook} {rem k w : Nat} {t : Tru} {fr : Int}
theorem gFi_len (hB : bk5 B) (h : k + (rem + 1) = B.ns) (d r s : Int) : (gFi B rem k w t fr d r s).length ≤ 27 ^ rem := gL_len hB _ _ _ _ (by omega)
theorem gFm_len (hB : bk5 B) (h : k + (rem + 1) = B.ns) (d r : Int) : (gFm B rem k w t fr d r).length ≤ 3 * 27 ^ rem := by
  have hs := hB.1.2 k (by omega)
  unfold stOk at hs
  unfold gFm
  split
  · refine Nat.le_trans (flatMap_len fun s _ => gFi_len hB h d r s) ?_
    exact Nat.mul_le_mul_right _ (by rw [ints_len]; omega)
  · simp
theorem gFo_len (hB : bk5 B) (h : k + (rem + 1) = B.ns) (d : Int) : (gFo B rem k w t fr d).length ≤ 3 * (3 * 27 ^ rem) := by
  have hs := hB.1.2 k (by omega)
  unfold stOk at hs
  refine Nat.le_trans (flatMap_len fun r _ => gFm_len hB h d r) ?_
  exact Nat.mul_le_mul_right _ (by rw [ints_len]; omega)
end
theorem put_low {B : CBook} {a1 a2 a3 a4 : AV} {k w : Nat} {t : Tru} {L : List Tru} (hL : L.length ≤ 20000) : ∀ x o, lookM ([(6, some (.cells [.int .i64 (B.due k), .int .i64 (B.dl k), .int .i64 (B.dh k), .int .i64 (B.rl k), .int .i64 (B.rh k), .int .i64 (B.sl k), .int .i64 (B.sh k)])), (5, some (.cells [.int .i64 (w : Int), a3, a4])), (4, some (.cells (bk B a1 a2).cells)), (0, some (oSt B)), (1, some (oCk B)), (2, some (.ro (fE t.r k))), (3, some (.ro (fE t.c k)))] ++ (ouM fA gA B.ns 7 L ++ tmsF fA gA B.ns 0 L)) x = some o → x < 100000 := fun x o h => by
  obtain ⟨e, he, hx⟩ := List.mem_map.1 (lookM_mem h)
  rcases List.mem_append.1 he with h1 | h1
  · simp at h1
    rcases h1 with rfl | rfl | rfl | rfl | rfl | rfl | rfl <;> (simp at hx; omega)
  · have := goA_keys (B := B) (L := L) e h1
    omega
theorem low_cons {c c' y : Nat} {o : Option AObj} {m : List (Nat × Option AObj)} (h : ∀ x o, lookM m x = some o → x < c) (hc : c ≤ c') (hy : y < c') : ∀ x p, lookM ((y, o) :: m) x = some p → x < c' := fun x p hx => by
  by_cases e : x = y
  · omega
  · rw [lookM_tl e] at hx
    have := h x p hx
    omega
theorem tru2_all {t : Tru} {k : Nat} {a b : Int} (hk : k < 3) : ∀ i, i < 3 → (tru2 t k a b).r i = puF t.r k a i ∧ (tru2 t k a b).c i = puF t.c k b i := fun i hi => by
  obtain rfl | rfl | rfl : k = 0 ∨ k = 1 ∨ k = 2 := by omega
  all_goals
    obtain rfl | rfl | rfl : i = 0 ∨ i = 1 ∨ i = 2 := by omega
    all_goals exact ⟨rfl, rfl⟩
theorem tru2_fE {t : Tru} {k : Nat} {a b : Int} (hk : k < 3) : fE (tru2 t k a b).r (k + 1) = fE (puF t.r k a) (k + 1) ∧ fE (tru2 t k a b).c (k + 1) = fE (puF t.c k b) (k + 1) :=
  ⟨fE_congr fun i hi => (tru2_all hk i (by omega)).1, fE_congr fun i hi => (tru2_all hk i (by omega)).2⟩
theorem cost_bd5 {B : CBook} {w : Nat} (hB : bk5 B) (hw : w < 3) : 0 ≤ B.cost w ∧ B.cost w ≤ 30 := by
  obtain ⟨_, h0, h1, h2⟩ := hB.2.1
  obtain rfl | rfl | rfl : w = 0 ∨ w = 1 ∨ w = 2 := by omega
  · exact h0
  · exact h1
  · exact h2
set_option maxRecDepth 100000 in
set_option maxHeartbeats 4000000 in
theorem goes_step {B : CBook} {a1 a2 a3 a4 : AV} {k rem w : Nat} {t : Tru} {fr : Int} (h1 : IsSl a1 B.ns 0) (h2 : IsSl a2 B.nc 1) (h3 : IsSl a3 k 2) (h4 : IsSl a4 k 3) (hB : bk5 B) (hrem : k + (rem + 1) = B.ns) (hw3 : w < 3) (htw : t.w = (w : Int)) (hfr : 0 ≤ fr ∧ fr ≤ 200 * (k : Int))
    (hgo : ∀ (ro mi fr' : Int) (mm : List (Nat × Option AObj)), (∀ x o, lookM mm x = some o → x < 100008) → lookM mm 0 = some (oSt B) → lookM mm 1 = some (oCk B) → lookM mm 100000 = some (.grown (fE (tru2 t k ro mi).r (k + 1)) 1) → lookM mm 100004 = some (.grown (fE (tru2 t k ro mi).c (k + 1)) 1) → 0 ≤ fr' → fr' ≤ 200 * ((k + 1 : Nat) : Int) → GoRes B a1 a2 w k fr' mm (gL B rem (k + 1) (tru2 t k ro mi) fr')) :
    CanS 0 Try.prog 89 4 [bk B a1 a2, .agg [.int .i64 (w : Int), a3, a4], .int .i64 fr] [(0, some (oSt B)), (1, some (oCk B)), (2, some (.ro (fE t.r k))), (3, some (.ro (fE t.c k)))] 4 fun v H1 c1 => v = grI 7 (gL B (rem + 1) k t fr).length ∧ c1 ≤ 100000 ∧ ∀ x o, lookM (goA B (gL B (rem + 1) k t fr)) x = some o → H1.get x = some o := by
  have hns := hB.1.1
  have hkn : k < B.ns := by omega
  have hs := hB.1.2 k hkn
  unfold stOk at hs
  have hcb := cost_bd5 hB hw3
  have hK : 27 ^ rem ≤ 729 := by
    obtain rfl | rfl | rfl : rem = 0 ∨ rem = 1 ∨ rem = 2 := by omega
    all_goals decide
  have hne : ¬ (k : Int) = B.ns := by omega
  refine CanS.mk Try.func89 rfl rfl rfl ?_
  repeat' (first | refine RT.nil ?_ | refine sq_n ?_ | refine Tr.seq ?_ | refine Tr.region ?_ | refine Tr.cond_f rfl ?_ | refine Tr.skip ?_ | refine Tr.block ?_ | (refine RT.goK rfl rfl rfl rfl ?_; refine Nx.of (S.eql_f hne) ?_) | (refine RT.goK rfl rfl rfl rfl ?_; apply Nx.of; (first | exact S.move | exact S.assign | exact S.load1c rfl rfl rfl rfl | exact S.fieldAddr rfl rfl rfl | exact S.box | exact S.alloc rfl)) | (refine RT.goK0 rfl rfl rfl ?_; apply Nx.of; (first | exact S.store rfl rfl rfl rfl rfl rfl)) | (refine RT.goK rfl rfl rfl rfl ?_; apply Nx.of; (first | exact S.idx_sl rfl rfl rfl (by assumption) (by omega) | exact S.rowN0 rfl rfl rfl (fun _ => rfl) (range_at (by omega)) rfl | exact S.len_sl rfl rfl rfl (by assumption))))
  refine Tr.loop (fun p : Nat × List Tru => let q := p.1; let L := p.2; stL Try.f89.ntmps [] ((9, grI 7 L.length) :: [(2, .int .i64 fr), (3, .ptr 4 0), (4, .ptr 5 0), (7, .int .i64 (k : Int)), (8, .ptr 6 0), (10, .int .i64 (B.dl k + (q : Int)))]) ([(6, some (.cells [.int .i64 (B.due k), .int .i64 (B.dl k), .int .i64 (B.dh k), .int .i64 (B.rl k), .int .i64 (B.rh k), .int .i64 (B.sl k), .int .i64 (B.sh k)])), (5, some (.cells [.int .i64 (w : Int), a3, a4])), (4, some (.cells (bk B a1 a2).cells)), (0, some (oSt B)), (1, some (oCk B)), (2, some (.ro (fE t.r k))), (3, some (.ro (fE t.c k)))] ++ (ouM fA gA B.ns 7 L ++ tmsF fA gA B.ns 0 L)) 100000) (fun p => p.1 ≤ (B.dh k - B.dl k + 1).toNat ∧ p.2 = preL (B.dl k) (gFo B rem k w t fr) p.1) (fun p => (B.dh k - B.dl k + 1).toNat - p.1) (0, []) ⟨Nat.zero_le _, rfl⟩ ?_ (fun ⟨q0, L0⟩ ⟨hq0, hL⟩ => ?_)
  · exact go_wk (L := []) (L' := []) (A := 100000) (A' := 100001) (x := 7) (n := B.ns) h1 h2 h3 h4 (by simp) (by decide) (by decide) (.inl rfl) (.inl rfl) ⟨rfl, rfl, rfl, rfl, rfl, congrArg some (congrArg (AV.int .i64) (by omega)), trivial⟩ rfl rfl rfl rfl rfl rfl rfl rfl (fun h => absurd rfl h) (fun j u hu => by simp at hu) (fun j u hu => by simp at hu)
  replace hL : L0 = preL (B.dl k) (gFo B rem k w t fr) q0 := hL
  replace hq0 : q0 ≤ (B.dh k - B.dl k + 1).toNat := hq0
  by_cases hlt : q0 < (B.dh k - B.dl k + 1).toNat
  · have hd : B.dl k + (q0 : Int) ≤ B.dh k := by omega
    obtain ⟨d, hdd⟩ : ∃ d, B.dl k + (q0 : Int) = d := ⟨_, rfl⟩
    show Tr _ _ _ _ _ _ (stL _ _ ((9, _) :: [(2, .int .i64 fr), (3, .ptr 4 0), (4, .ptr 5 0), (7, .int .i64 (k : Int)), (8, .ptr 6 0), (10, .int .i64 (B.dl k + (q0 : Int)))]) _ _) _
    rw [hdd] at hd ⊢
    have hl0 : L0.length ≤ q0 * (3 * (3 * 27 ^ rem)) := by rw [hL]; exact preL_len (fun d => gFo_len hB hrem d) q0
    have hq2 : q0 ≤ 2 := by omega
    have hl0' : L0.length ≤ 2 * (3 * (3 * 27 ^ rem)) := Nat.le_trans hl0 (Nat.mul_le_mul_right _ hq2)
    have hdb : B.dl k ≤ d := by omega
    repeat' (first | refine RT.nil ?_ | refine sq_n ?_ | refine Tr.seq ?_ | refine Tr.region ?_ | refine Tr.cond_t rfl ?_ | refine Tr.skip ?_ | refine Tr.block ?_ | (refine RT.goK rfl rfl rfl rfl ?_; refine Nx.of (S.leq_t hd) ?_) | (refine RT.goK rfl rfl rfl rfl ?_; apply Nx.of; (first | exact S.move | exact S.assign | exact S.load1c rfl rfl rfl rfl | exact S.fieldAddr rfl rfl rfl)))
    refine Tr.loop (fun p : Nat × List Tru => let q := p.1; let L := p.2; stL Try.f89.ntmps [] ((9, grI 7 L.length) :: [(2, .int .i64 fr), (3, .ptr 4 0), (4, .ptr 5 0), (7, .int .i64 (k : Int)), (8, .ptr 6 0), (10, .int .i64 d), (11, .int .i64 (B.rl k + (q : Int)))]) ([(6, some (.cells [.int .i64 (B.due k), .int .i64 (B.dl k), .int .i64 (B.dh k), .int .i64 (B.rl k), .int .i64 (B.rh k), .int .i64 (B.sl k), .int .i64 (B.sh k)])), (5, some (.cells [.int .i64 (w : Int), a3, a4])), (4, some (.cells (bk B a1 a2).cells)), (0, some (oSt B)), (1, some (oCk B)), (2, some (.ro (fE t.r k))), (3, some (.ro (fE t.c k)))] ++ (ouM fA gA B.ns 7 L ++ tmsF fA gA B.ns 0 L)) 100000) (fun p => p.1 ≤ (B.rh k - B.rl k + 1).toNat ∧ p.2 = L0 ++ preL (B.rl k) (gFm B rem k w t fr d) p.1) (fun p => (B.rh k - B.rl k + 1).toNat - p.1) (0, L0) ⟨Nat.zero_le _, (List.append_nil _).symm⟩ ?_ (fun ⟨q1, L1⟩ ⟨hq1, hL1⟩ => ?_)
    · exact Wk.temps (by decide) (by decide) (by decide) ⟨rfl, rfl, rfl, rfl, rfl, rfl, rfl, congrArg some (congrArg (AV.int .i64) (by omega)), trivial⟩
    replace hL1 : L1 = L0 ++ preL (B.rl k) (gFm B rem k w t fr d) q1 := hL1
    replace hq1 : q1 ≤ (B.rh k - B.rl k + 1).toNat := hq1
    by_cases hlt1 : q1 < (B.rh k - B.rl k + 1).toNat
    · have hr : B.rl k + (q1 : Int) ≤ B.rh k := by omega
      obtain ⟨ro, hro⟩ : ∃ d, B.rl k + (q1 : Int) = d := ⟨_, rfl⟩
      show Tr _ _ _ _ _ _ (stL _ _ ((9, _) :: [(2, .int .i64 fr), (3, .ptr 4 0), (4, .ptr 5 0), (7, .int .i64 (k : Int)), (8, .ptr 6 0), (10, .int .i64 d), (11, .int .i64 (B.rl k + (q1 : Int)))]) _ _) _
      rw [hro] at hr ⊢
      have hq12 : q1 ≤ 2 := by omega
      have hl1 : L1.length ≤ L0.length + 2 * (3 * 27 ^ rem) := by
        rw [hL1, List.length_append]
        have := preL_len (a := B.rl k) (fun r => gFm_len (w := w) (t := t) (fr := fr) hB hrem d r) q1
        have := Nat.mul_le_mul_right (3 * 27 ^ rem) hq12
        omega
      have hrb : B.rl k ≤ ro := by omega
      have hmb : -100000 ≤ fr + d + ro + B.cost w ∧ fr + d + ro + B.cost w ≤ 100000 := by omega
      by_cases hwr : wrV B ((k : Int), fr + d + ro + B.cost w) = 0
      · have hA : AV.bool (dB (rgtP B (k : Int) (fr + d + ro + B.cost w) B.nc)) = .bool true := by rw [dB_tt ((rgtP_wr hB.2.2.1.1).2 hwr)]
        repeat' (first | refine RT.nil ?_ | refine sq_n ?_ | refine Tr.seq ?_ | refine Tr.region ?_ | refine Tr.cond_t rfl ?_ | refine Tr.cond_f rfl ?_ | refine Tr.skip ?_ | refine Tr.block ?_ | (refine RT.goK rfl rfl rfl rfl ?_; refine Nx.of (S.leq_t hr) ?_) | (refine RT.call rfl rfl rfl (val_is hA (right6_at ⟨h1, h2, rfl, rfl, by decide⟩ hB.2.2.1 _ _ hmb _)) rfl rfl (Nat.le_refl _) ?_) | (refine RT.goK rfl rfl rfl rfl ?_; apply Nx.of; (first | exact S.move | exact S.assign | exact S.load1c rfl rfl rfl rfl | exact S.loadNc rfl rfl rfl rfl | exact S.fieldAddr rfl rfl rfl | exact S.not_t | exact S.add (by unfold In64; omega) | exact S.idx_arr rfl rfl rfl (show _ < 3 by omega) | exact S.load1c rfl rfl rfl (cost_at hw3))))
        refine Tr.loop (fun p : Nat × List Tru => let q := p.1; let L := p.2; stL Try.f89.ntmps [] ((9, grI 7 L.length) :: [(2, .int .i64 fr), (3, .ptr 4 0), (4, .ptr 5 0), (7, .int .i64 (k : Int)), (8, .ptr 6 0), (10, .int .i64 d), (11, .int .i64 ro), (12, .int .i64 (fr + d + ro + B.cost w)), (13, .int .i64 (B.sl k + (q : Int)))]) ([(6, some (.cells [.int .i64 (B.due k), .int .i64 (B.dl k), .int .i64 (B.dh k), .int .i64 (B.rl k), .int .i64 (B.rh k), .int .i64 (B.sl k), .int .i64 (B.sh k)])), (5, some (.cells [.int .i64 (w : Int), a3, a4])), (4, some (.cells (bk B a1 a2).cells)), (0, some (oSt B)), (1, some (oCk B)), (2, some (.ro (fE t.r k))), (3, some (.ro (fE t.c k)))] ++ (ouM fA gA B.ns 7 L ++ tmsF fA gA B.ns 0 L)) 100000) (fun p => p.1 ≤ (B.sh k - B.sl k + 1).toNat ∧ p.2 = L1 ++ preL (B.sl k) (gFi B rem k w t fr d ro) p.1) (fun p => (B.sh k - B.sl k + 1).toNat - p.1) (0, L1) ⟨Nat.zero_le _, (List.append_nil _).symm⟩ ?_ (fun ⟨q2, L⟩ ⟨hq2', hL2⟩ => ?_)
        · exact Wk.temps (by decide) (by decide) (by decide) ⟨rfl, rfl, rfl, rfl, rfl, rfl, rfl, rfl, rfl, congrArg some (congrArg (AV.int .i64) (by omega)), trivial⟩
        replace hL2 : L = L1 ++ preL (B.sl k) (gFi B rem k w t fr d ro) q2 := hL2
        replace hq2' : q2 ≤ (B.sh k - B.sl k + 1).toNat := hq2'
        by_cases hlt2 : q2 < (B.sh k - B.sl k + 1).toNat
        · have hst : B.sl k + (q2 : Int) ≤ B.sh k := by omega
          obtain ⟨s, hss⟩ : ∃ d, B.sl k + (q2 : Int) = d := ⟨_, rfl⟩
          show Tr _ _ _ _ _ _ (stL _ _ ((9, _) :: [(2, .int .i64 fr), (3, .ptr 4 0), (4, .ptr 5 0), (7, .int .i64 (k : Int)), (8, .ptr 6 0), (10, .int .i64 d), (11, .int .i64 ro), (12, .int .i64 (fr + d + ro + B.cost w)), (13, .int .i64 (B.sl k + (q2 : Int)))]) _ _) _
          rw [hss] at hst ⊢
          have hq22 : q2 ≤ 1 := by omega
          have hl2 : L.length ≤ L1.length + 1 * (27 ^ rem) := by
            rw [hL2, List.length_append]
            have := preL_len (a := B.sl k) (fun s => gFi_len (w := w) (t := t) (fr := fr) hB hrem d ro s) q2
            have := Nat.mul_le_mul_right (27 ^ rem) hq22
            omega
          have hsb : B.sl k ≤ s := by omega
          obtain ⟨L', hL'⟩ : ∃ l, gFi B rem k w t fr d ro s = l := ⟨_, rfl⟩
          have hlL' : L'.length ≤ 27 ^ rem := by rw [← hL']; exact gFi_len hB hrem d ro s
          have hN : L.length + L'.length ≤ 20000 := by omega
          repeat' (first | refine RT.nil ?_ | refine sq_n ?_ | refine Tr.seq ?_ | refine Tr.region ?_ | refine Tr.cond_t rfl ?_ | refine Tr.skip ?_ | refine Tr.block ?_ | (refine RT.goK rfl rfl rfl rfl ?_; refine Nx.of (S.leq_t hst) ?_) | (refine RT.goK rfl rfl rfl rfl ?_; apply Nx.of; (first | exact S.move | exact S.load1c rfl rfl rfl rfl | exact S.fieldAddr rfl rfl rfl)))
          have hmm : ∀ x o, lookM ((100004, some (.grown (fE (puF t.c k (fr + d + ro + B.cost w)) (k + 1)) 1)) :: (100000, some (.grown (fE (puF t.r k ro) (k + 1)) 1)) :: ([(6, some (.cells [.int .i64 (B.due k), .int .i64 (B.dl k), .int .i64 (B.dh k), .int .i64 (B.rl k), .int .i64 (B.rh k), .int .i64 (B.sl k), .int .i64 (B.sh k)])), (5, some (.cells [.int .i64 (w : Int), a3, a4])), (4, some (.cells (bk B a1 a2).cells)), (0, some (oSt B)), (1, some (oCk B)), (2, some (.ro (fE t.r k))), (3, some (.ro (fE t.c k)))] ++ (ouM fA gA B.ns 7 L ++ tmsF fA gA B.ns 0 L))) x = some o → x < 100008 := low_cons (low_cons (put_low (a1 := a1) (a2 := a2) (a3 := a3) (a4 := a4) (k := k) (w := w) (t := t) (by omega)) (c' := 100004) (by decide) (by decide)) (by decide) (by decide)
          have hG := hgo ro (fr + d + ro + B.cost w) ((fr + d + ro + B.cost w) + s) ((100004, some (.grown (fE (puF t.c k (fr + d + ro + B.cost w)) (k + 1)) 1)) :: (100000, some (.grown (fE (puF t.r k ro) (k + 1)) 1)) :: ([(6, some (.cells [.int .i64 (B.due k), .int .i64 (B.dl k), .int .i64 (B.dh k), .int .i64 (B.rl k), .int .i64 (B.rh k), .int .i64 (B.sl k), .int .i64 (B.sh k)])), (5, some (.cells [.int .i64 (w : Int), a3, a4])), (4, some (.cells (bk B a1 a2).cells)), (0, some (oSt B)), (1, some (oCk B)), (2, some (.ro (fE t.r k))), (3, some (.ro (fE t.c k)))] ++ (ouM fA gA B.ns 7 L ++ tmsF fA gA B.ns 0 L))) hmm rfl rfl (by rw [(tru2_fE (by omega)).1]; rfl) (by rw [(tru2_fE (by omega)).2]; rfl) (by omega) (by omega)
          rw [show gL B rem (k + 1) (tru2 t k ro (fr + d + ro + B.cost w)) ((fr + d + ro + B.cost w) + s) = L' from hL'] at hG
          refine Tr.mono (Q := fun ex st2 => ex = .normal ∧ Wk 0 4 4 st2 (stL Try.f89.ntmps [] ((9, grI 7 (L ++ L').length) :: [(2, .int .i64 fr), (3, .ptr 4 0), (4, .ptr 5 0), (7, .int .i64 (k : Int)), (8, .ptr 6 0), (10, .int .i64 d), (11, .int .i64 ro), (12, .int .i64 (fr + d + ro + B.cost w)), (13, .int .i64 s)]) ([(6, some (.cells [.int .i64 (B.due k), .int .i64 (B.dl k), .int .i64 (B.dh k), .int .i64 (B.rl k), .int .i64 (B.rh k), .int .i64 (B.sl k), .int .i64 (B.sh k)])), (5, some (.cells [.int .i64 (w : Int), a3, a4])), (4, some (.cells (bk B a1 a2).cells)), (0, some (oSt B)), (1, some (oCk B)), (2, some (.ro (fE t.r k))), (3, some (.ro (fE t.c k)))] ++ (ouM fA gA B.ns 7 (L ++ L') ++ tmsF fA gA B.ns 0 (L ++ L'))) 100000)) ?_ (fun ex st2 ⟨he, hwk⟩ => ?_)
          · obtain ⟨v, mN, c', A, A', gok, gc, gkeys, gnil, gsl, gA1, gA2, gAA, gx1, gx2, gtr⟩ := hG.ex
            clear hG hgo
            have hk2 : k ≤ 1000 := by omega
            have pX : CalmC 0 Try.prog (alts [pinX 113 [a3, .int .i64 ro] ([(6, some (.cells [.int .i64 (B.due k), .int .i64 (B.dl k), .int .i64 (B.dh k), .int .i64 (B.rl k), .int .i64 (B.rh k), .int .i64 (B.sl k), .int .i64 (B.sh k)])), (5, some (.cells [.int .i64 (w : Int), a3, a4])), (4, some (.cells (bk B a1 a2).cells)), (0, some (oSt B)), (1, some (oCk B)), (2, some (.ro (fE t.r k))), (3, some (.ro (fE t.c k)))] ++ (ouM fA gA B.ns 7 L ++ tmsF fA gA B.ns 0 L)) 100000 (.gs 100000 (k + 1)) ((100000, some (.grown (fE (puF t.r k ro) (k + 1)) 1)) :: ([(6, some (.cells [.int .i64 (B.due k), .int .i64 (B.dl k), .int .i64 (B.dh k), .int .i64 (B.rl k), .int .i64 (B.rh k), .int .i64 (B.sl k), .int .i64 (B.sh k)])), (5, some (.cells [.int .i64 (w : Int), a3, a4])), (4, some (.cells (bk B a1 a2).cells)), (0, some (oSt B)), (1, some (oCk B)), (2, some (.ro (fE t.r k))), (3, some (.ro (fE t.c k)))] ++ (ouM fA gA B.ns 7 L ++ tmsF fA gA B.ns 0 L))) 100004, pinX 113 [a4, .int .i64 (fr + d + ro + B.cost w)] ((100000, some (.grown (fE (puF t.r k ro) (k + 1)) 1)) :: ([(6, some (.cells [.int .i64 (B.due k), .int .i64 (B.dl k), .int .i64 (B.dh k), .int .i64 (B.rl k), .int .i64 (B.rh k), .int .i64 (B.sl k), .int .i64 (B.sh k)])), (5, some (.cells [.int .i64 (w : Int), a3, a4])), (4, some (.cells (bk B a1 a2).cells)), (0, some (oSt B)), (1, some (oCk B)), (2, some (.ro (fE t.r k))), (3, some (.ro (fE t.c k)))] ++ (ouM fA gA B.ns 7 L ++ tmsF fA gA B.ns 0 L))) 100004 (.gs 100004 (k + 1)) ((100004, some (.grown (fE (puF t.c k (fr + d + ro + B.cost w)) (k + 1)) 1)) :: (100000, some (.grown (fE (puF t.r k ro) (k + 1)) 1)) :: ([(6, some (.cells [.int .i64 (B.due k), .int .i64 (B.dl k), .int .i64 (B.dh k), .int .i64 (B.rl k), .int .i64 (B.rh k), .int .i64 (B.sl k), .int .i64 (B.sh k)])), (5, some (.cells [.int .i64 (w : Int), a3, a4])), (4, some (.cells (bk B a1 a2).cells)), (0, some (oSt B)), (1, some (oCk B)), (2, some (.ro (fE t.r k))), (3, some (.ro (fE t.c k)))] ++ (ouM fA gA B.ns 7 L ++ tmsF fA gA B.ns 0 L))) 100008, pinX 89 [bk B a1 a2, .agg [.int .i64 (w : Int), .gs 100000 (k + 1), .gs 100004 (k + 1)], .int .i64 ((fr + d + ro + B.cost w) + s)] ((100004, some (.grown (fE (puF t.c k (fr + d + ro + B.cost w)) (k + 1)) 1)) :: (100000, some (.grown (fE (puF t.r k ro) (k + 1)) 1)) :: ([(6, some (.cells [.int .i64 (B.due k), .int .i64 (B.dl k), .int .i64 (B.dh k), .int .i64 (B.rl k), .int .i64 (B.rh k), .int .i64 (B.sl k), .int .i64 (B.sh k)])), (5, some (.cells [.int .i64 (w : Int), a3, a4])), (4, some (.cells (bk B a1 a2).cells)), (0, some (oSt B)), (1, some (oCk B)), (2, some (.ro (fE t.r k))), (3, some (.ro (fE t.c k)))] ++ (ouM fA gA B.ns 7 L ++ tmsF fA gA B.ns 0 L))) 100008 v (mN ++ (100004, some (.grown (fE (puF t.c k (fr + d + ro + B.cost w)) (k + 1)) 1)) :: (100000, some (.grown (fE (puF t.r k ro) (k + 1)) 1)) :: ([(6, some (.cells [.int .i64 (B.due k), .int .i64 (B.dl k), .int .i64 (B.dh k), .int .i64 (B.rl k), .int .i64 (B.rh k), .int .i64 (B.sl k), .int .i64 (B.sh k)])), (5, some (.cells [.int .i64 (w : Int), a3, a4])), (4, some (.cells (bk B a1 a2).cells)), (0, some (oSt B)), (1, some (oCk B)), (2, some (.ro (fE t.r k))), (3, some (.ro (fE t.c k)))] ++ (ouM fA gA B.ns 7 L ++ tmsF fA gA B.ns 0 L))) c']) := alts_calm fun g hg => by
              simp only [List.mem_cons, List.not_mem_nil, or_false] at hg
              have lw := put_low (B := B) (a1 := a1) (a2 := a2) (a3 := a3) (a4 := a4) (k := k) (w := w) (t := t) (L := L) (by omega)
              rcases hg with rfl | rfl | rfl
              · exact pinX_calm (fun fl => Put_at (f := t.r) (Li.sl h3 (x := 2) rfl rfl) lw hk2 _ fl) (fun fl => (Good.refl fl 100000 (ofM ([(6, some (.cells [.int .i64 (B.due k), .int .i64 (B.dl k), .int .i64 (B.dh k), .int .i64 (B.rl k), .int .i64 (B.rh k), .int .i64 (B.sl k), .int .i64 (B.sh k)])), (5, some (.cells [.int .i64 (w : Int), a3, a4])), (4, some (.cells (bk B a1 a2).cells)), (0, some (oSt B)), (1, some (oCk B)), (2, some (.ro (fE t.r k))), (3, some (.ro (fE t.c k)))] ++ (ouM fA gA B.ns 7 L ++ tmsF fA gA B.ns 0 L)))).cons (c2 := 100004) (by decide) (by decide) (by decide))
              · exact pinX_calm (fun fl => Put_at (f := t.c) (Li.sl h4 (x := 3) rfl rfl) (low_cons lw (c' := 100004) (by decide) (by decide)) hk2 _ fl) (fun fl => (Good.refl fl 100004 (ofM ((100000, some (.grown (fE (puF t.r k ro) (k + 1)) 1)) :: ([(6, some (.cells [.int .i64 (B.due k), .int .i64 (B.dl k), .int .i64 (B.dh k), .int .i64 (B.rl k), .int .i64 (B.rh k), .int .i64 (B.sl k), .int .i64 (B.sh k)])), (5, some (.cells [.int .i64 (w : Int), a3, a4])), (4, some (.cells (bk B a1 a2).cells)), (0, some (oSt B)), (1, some (oCk B)), (2, some (.ro (fE t.r k))), (3, some (.ro (fE t.c k)))] ++ (ouM fA gA B.ns 7 L ++ tmsF fA gA B.ns 0 L))))).cons (c2 := 100008) (by decide) (by decide) (by decide))
              · exact pinX_calm gok (fun fl => good_app gc gkeys)
            have hkeep : ∀ {x : Nat} {o : AObj}, x < 100008 → lookM ((100004, some (.grown (fE (puF t.c k (fr + d + ro + B.cost w)) (k + 1)) 1)) :: (100000, some (.grown (fE (puF t.r k ro) (k + 1)) 1)) :: ([(6, some (.cells [.int .i64 (B.due k), .int .i64 (B.dl k), .int .i64 (B.dh k), .int .i64 (B.rl k), .int .i64 (B.rh k), .int .i64 (B.sl k), .int .i64 (B.sh k)])), (5, some (.cells [.int .i64 (w : Int), a3, a4])), (4, some (.cells (bk B a1 a2).cells)), (0, some (oSt B)), (1, some (oCk B)), (2, some (.ro (fE t.r k))), (3, some (.ro (fE t.c k)))] ++ (ouM fA gA B.ns 7 L ++ tmsF fA gA B.ns 0 L))) x = some o → lookM (mN ++ (100004, some (.grown (fE (puF t.c k (fr + d + ro + B.cost w)) (k + 1)) 1)) :: (100000, some (.grown (fE (puF t.r k ro) (k + 1)) 1)) :: ([(6, some (.cells [.int .i64 (B.due k), .int .i64 (B.dl k), .int .i64 (B.dh k), .int .i64 (B.rl k), .int .i64 (B.rh k), .int .i64 (B.sl k), .int .i64 (B.sh k)])), (5, some (.cells [.int .i64 (w : Int), a3, a4])), (4, some (.cells (bk B a1 a2).cells)), (0, some (oSt B)), (1, some (oCk B)), (2, some (.ro (fE t.r k))), (3, some (.ro (fE t.c k)))] ++ (ouM fA gA B.ns 7 L ++ tmsF fA gA B.ns 0 L))) x = some o := fun {x o} hx h => (look_skip fun e he => by have := gkeys e he; omega).trans h
            have hold : ∀ j u, L[j]? = some u → lookM ((100004, some (.grown (fE (puF t.c k (fr + d + ro + B.cost w)) (k + 1)) 1)) :: (100000, some (.grown (fE (puF t.r k ro) (k + 1)) 1)) :: ([(6, some (.cells [.int .i64 (B.due k), .int .i64 (B.dl k), .int .i64 (B.dh k), .int .i64 (B.rl k), .int .i64 (B.rh k), .int .i64 (B.sl k), .int .i64 (B.sh k)])), (5, some (.cells [.int .i64 (w : Int), a3, a4])), (4, some (.cells (bk B a1 a2).cells)), (0, some (oSt B)), (1, some (oCk B)), (2, some (.ro (fE t.r k))), (3, some (.ro (fE t.c k)))] ++ (ouM fA gA B.ns 7 L ++ tmsF fA gA B.ns 0 L))) (fA j) = some (.grown (fE u.r B.ns) 1) ∧ lookM ((100004, some (.grown (fE (puF t.c k (fr + d + ro + B.cost w)) (k + 1)) 1)) :: (100000, some (.grown (fE (puF t.r k ro) (k + 1)) 1)) :: ([(6, some (.cells [.int .i64 (B.due k), .int .i64 (B.dl k), .int .i64 (B.dh k), .int .i64 (B.rl k), .int .i64 (B.rh k), .int .i64 (B.sl k), .int .i64 (B.sh k)])), (5, some (.cells [.int .i64 (w : Int), a3, a4])), (4, some (.cells (bk B a1 a2).cells)), (0, some (oSt B)), (1, some (oCk B)), (2, some (.ro (fE t.r k))), (3, some (.ro (fE t.c k)))] ++ (ouM fA gA B.ns 7 L ++ tmsF fA gA B.ns 0 L))) (gA j) = some (.grown (fE u.c B.ns) 1) := fun j u hu => by
              have hj : j < L.length := Classical.byContradiction fun q => by rw [List.getElem?_eq_none (by omega)] at hu; cases hu
              have := goA_tr (B := B) hu
              have sk : ∀ x, 100 ≤ x → x < 100000 → lookM ((100004, some (.grown (fE (puF t.c k (fr + d + ro + B.cost w)) (k + 1)) 1)) :: (100000, some (.grown (fE (puF t.r k ro) (k + 1)) 1)) :: ([(6, some (.cells [.int .i64 (B.due k), .int .i64 (B.dl k), .int .i64 (B.dh k), .int .i64 (B.rl k), .int .i64 (B.rh k), .int .i64 (B.sl k), .int .i64 (B.sh k)])), (5, some (.cells [.int .i64 (w : Int), a3, a4])), (4, some (.cells (bk B a1 a2).cells)), (0, some (oSt B)), (1, some (oCk B)), (2, some (.ro (fE t.r k))), (3, some (.ro (fE t.c k)))] ++ (ouM fA gA B.ns 7 L ++ tmsF fA gA B.ns 0 L))) x = lookM (goA B L) x := fun x h1 h2 => by
                rw [lookM_tl (by omega), lookM_tl (by omega)]
                exact look_skip fun e he => by
                  simp at he
                  rcases he with rfl | rfl | rfl | rfl | rfl | rfl | rfl <;> (simp; omega)
              rw [sk (fA j) (by unfold fA; omega) (by unfold fA; omega), sk (gA j) (by unfold gA; omega) (by unfold gA; omega)]
              exact this
            by_cases hLe : L' = []
            · obtain ⟨rfl, rfl⟩ := gnil hLe
              subst hLe
              clear gnil gsl gtr gok hL2 hl2
              cases L with
              | nil =>
                have hz : AV.nils = .nils ∨ ∃ a olds, AV.nils = .gs a 0 ∧ lookM ((100004, some (.grown (fE (puF t.c k (fr + d + ro + B.cost w)) (k + 1)) 1)) :: (100000, some (.grown (fE (puF t.r k ro) (k + 1)) 1)) :: ([(6, some (.cells [.int .i64 (B.due k), .int .i64 (B.dl k), .int .i64 (B.dh k), .int .i64 (B.rl k), .int .i64 (B.rh k), .int .i64 (B.sl k), .int .i64 (B.sh k)])), (5, some (.cells [.int .i64 (w : Int), a3, a4])), (4, some (.cells (bk B a1 a2).cells)), (0, some (oSt B)), (1, some (oCk B)), (2, some (.ro (fE t.r k))), (3, some (.ro (fE t.c k)))] ++ (ouM fA gA B.ns 7 [] ++ tmsF fA gA B.ns 0 []))) a = some (.grown olds 3) ∧ cut olds 0 (0 * 3) = some olds := .inl rfl
                refine Tr.openK un89_17 (by kernel_rfl) (by kernel_rfl) _ pX ?_
                repeat' (first | (refine RD.free rfl rfl rfl rfl rfl rfl ?_; apply Nx.of; (first | exact S.move | exact S.fieldAddr rfl rfl rfl)) | (refine RD.load rfl rfl rfl rfl rfl rfl rfl rfl ?_; apply Nx.of; (first | exact S.load1c rfl rfl rfl rfl | exact S.loadNc rfl rfl rfl rfl)))
                (refine RD.callX rfl rfl rfl rfl rfl rfl rfl rfl (by simp) (fun fl' => alts_hd (pinX_at _ _ _ _ _ _ _ fl')) (fun _ => by refine srOkX_all ?_; simp only [srOkX]; (repeat' (first | exact trivial | refine And.intro ?_ ?_)); all_goals (first | (refine ⟨_, rfl, rfl, ?_⟩; (first | (simp [bk, AV.cells, pbC, rfO, rfVs, rfV, h1.rf, h2.rf, h3.rf, h4.rf]; done))))) ?_)
                repeat' (first | (refine RD.free rfl rfl rfl rfl rfl rfl ?_; apply Nx.of; (first | exact S.move | exact S.fieldAddr rfl rfl rfl)) | (refine RD.load rfl rfl rfl rfl rfl rfl rfl (by refine us_all ?_; simp only [usOk, cond_true, cond_false]; (repeat' (first | exact trivial | refine And.intro ?_ ?_)); all_goals (first | rfl | exact .inl trivial | (refine Or.inr ⟨_, _, _, rfl, getM rfl, getM rfl, ?_⟩; (first | (simp [bk, AV.cells, pbC, rfO, rfVs, rfV, h1.rf, h2.rf, h3.rf, h4.rf]; done))))) ?_; apply Nx.of; (first | exact S.load1c rfl rfl rfl rfl)))
                (refine RD.callX rfl rfl rfl rfl rfl rfl rfl rfl (by simp) (fun fl' => (alts_tl (pinX_nc (by decide))).trans (alts_hd (pinX_at _ _ _ _ _ _ _ fl'))) (fun _ => by refine srOkX_all ?_; simp only [srOkX]; (repeat' (first | exact trivial | refine And.intro ?_ ?_)); all_goals (first | (refine ⟨_, rfl, rfl, ?_⟩; (first | (simp [bk, AV.cells, pbC, rfO, rfVs, rfV, h1.rf, h2.rf, h3.rf, h4.rf]; done))))) ?_)
                repeat' (first | (refine RD.free rfl rfl rfl rfl rfl rfl ?_; apply Nx.of; (first | exact S.move | exact S.add (by unfold In64; omega) | exact S.build rfl rfl rfl)))
                (refine RD.callX rfl rfl rfl rfl rfl rfl rfl rfl (by simp) (fun fl' => (alts_tl (pinX_nc (by decide))).trans ((alts_tl (pinX_nc (by decide))).trans (alts_hd (pinX_at _ _ _ _ _ _ _ fl')))) (fun _ => by refine srOkX_all ?_; simp only [srOkX]; (repeat' (first | exact trivial | refine And.intro ?_ ?_)); all_goals (first | exact trivial | (refine ⟨_, rfl, rfl, ?_⟩; (first | rfl | (simp [rfO, rfVs, rfV, rfVs_flat]; done) | (simp [bk, AV.cells, pbC, rfO, rfVs, rfV, h1.rf, h2.rf, h3.rf, h4.rf]; done))))) ?_)
                (refine RD.wide rfl rfl rfl rfl rfl rfl rfl (by simp) ?_; refine Nx.of (S.append_z (s := 0) (cs := []) rfl rfl rfl rfl rfl rfl rfl hz) ⟨rfl, ?_⟩)
                repeat' (first | (refine RD.free rfl rfl rfl rfl rfl rfl ?_; apply Nx.of; (first | exact S.assign)))
                refine RD.nil ⟨by first | (show 100000 ≤ c'; omega), rfl, ?_⟩
                exact go_wk (L := []) (L' := []) (A := 100000) (A' := 100001) (x := 7) (n := B.ns) (r := t.r) (e := t.c) h1 h2 h3 h4 hN (by decide) (by decide) (.inl rfl) (.inl rfl) ⟨rfl, rfl, rfl, rfl, rfl, rfl, rfl, rfl, rfl, trivial⟩ rfl rfl rfl rfl rfl rfl rfl rfl (fun h => absurd rfl h) (fun j u hu => by simp at hu) (fun j u hu => by simp at hu)
              | cons a l =>
                have hz : AV.gs 7 (l.length + 1) = .nils ∨ ∃ b olds, AV.gs 7 (l.length + 1) = .gs b (l.length + 1) ∧ lookM ((100004, some (.grown (fE (puF t.c k (fr + d + ro + B.cost w)) (k + 1)) 1)) :: (100000, some (.grown (fE (puF t.r k ro) (k + 1)) 1)) :: ([(6, some (.cells [.int .i64 (B.due k), .int .i64 (B.dl k), .int .i64 (B.dh k), .int .i64 (B.rl k), .int .i64 (B.rh k), .int .i64 (B.sl k), .int .i64 (B.sh k)])), (5, some (.cells [.int .i64 (w : Int), a3, a4])), (4, some (.cells (bk B a1 a2).cells)), (0, some (oSt B)), (1, some (oCk B)), (2, some (.ro (fE t.r k))), (3, some (.ro (fE t.c k)))] ++ (ouM fA gA B.ns 7 (a :: l) ++ tmsF fA gA B.ns 0 (a :: l)))) b = some (.grown olds 3) ∧ cut olds 0 ((l.length + 1) * 3) = some olds := .inr ⟨7, _, rfl, rfl, cut_all (tcsF_len (a :: l) 0)⟩
                refine Tr.openK un89_17 (by kernel_rfl) (by kernel_rfl) _ pX ?_
                repeat' (first | (refine RD.free rfl rfl rfl rfl rfl rfl ?_; apply Nx.of; (first | exact S.move | exact S.fieldAddr rfl rfl rfl)) | (refine RD.load rfl rfl rfl rfl rfl rfl rfl rfl ?_; apply Nx.of; (first | exact S.load1c rfl rfl rfl rfl | exact S.loadNc rfl rfl rfl rfl)))
                (refine RD.callX rfl rfl rfl rfl rfl rfl rfl rfl (by simp) (fun fl' => alts_hd (pinX_at _ _ _ _ _ _ _ fl')) (fun _ => by refine srOkX_all ?_; simp only [srOkX]; (repeat' (first | exact trivial | refine And.intro ?_ ?_)); all_goals (first | (refine ⟨_, rfl, rfl, ?_⟩; (first | (simp [bk, AV.cells, pbC, rfO, rfVs, rfV, h1.rf, h2.rf, h3.rf, h4.rf]; done))))) ?_)
                repeat' (first | (refine RD.free rfl rfl rfl rfl rfl rfl ?_; apply Nx.of; (first | exact S.move | exact S.fieldAddr rfl rfl rfl)) | (refine RD.load rfl rfl rfl rfl rfl rfl rfl (by refine us_all ?_; simp only [usOk, cond_true, cond_false]; (repeat' (first | exact trivial | refine And.intro ?_ ?_)); all_goals (first | rfl | exact .inl trivial | (refine Or.inr ⟨_, _, _, rfl, getM rfl, getM rfl, ?_⟩; (first | (simp [bk, AV.cells, pbC, rfO, rfVs, rfV, h1.rf, h2.rf, h3.rf, h4.rf]; done))))) ?_; apply Nx.of; (first | exact S.load1c rfl rfl rfl rfl)))
                (refine RD.callX rfl rfl rfl rfl rfl rfl rfl rfl (by simp) (fun fl' => (alts_tl (pinX_nc (by decide))).trans (alts_hd (pinX_at _ _ _ _ _ _ _ fl'))) (fun _ => by refine srOkX_all ?_; simp only [srOkX]; (repeat' (first | exact trivial | refine And.intro ?_ ?_)); all_goals (first | (refine ⟨_, rfl, rfl, ?_⟩; (first | (simp [bk, AV.cells, pbC, rfO, rfVs, rfV, h1.rf, h2.rf, h3.rf, h4.rf]; done))))) ?_)
                repeat' (first | (refine RD.free rfl rfl rfl rfl rfl rfl ?_; apply Nx.of; (first | exact S.move | exact S.add (by unfold In64; omega) | exact S.build rfl rfl rfl)))
                (refine RD.callX rfl rfl rfl rfl rfl rfl rfl rfl (by simp) (fun fl' => (alts_tl (pinX_nc (by decide))).trans ((alts_tl (pinX_nc (by decide))).trans (alts_hd (pinX_at _ _ _ _ _ _ _ fl')))) (fun _ => by refine srOkX_all ?_; simp only [srOkX]; (repeat' (first | exact trivial | refine And.intro ?_ ?_)); all_goals (first | exact trivial | (refine ⟨_, rfl, rfl, ?_⟩; (first | rfl | (simp [rfO, rfVs, rfV, rfVs_flat]; done) | (simp [bk, AV.cells, pbC, rfO, rfVs, rfV, h1.rf, h2.rf, h3.rf, h4.rf]; done))))) ?_)
                (refine RD.wide rfl rfl rfl rfl rfl rfl rfl (by simp) ?_; refine Nx.of (S.append_z (s := 0) (cs := []) rfl rfl rfl rfl rfl rfl rfl hz) ⟨rfl, ?_⟩)
                repeat' (first | (refine RD.free rfl rfl rfl rfl rfl rfl ?_; apply Nx.of; (first | exact S.assign)))
                refine RD.nil ⟨by first | (show 100000 ≤ c'; omega), rfl, ?_⟩
                refine go_wk (L := a :: l) (L' := []) (A := 100000) (A' := 100001) (x := 7) (n := B.ns) (r := t.r) (e := t.c) h1 h2 h3 h4 hN (by decide) (by decide) (.inl rfl) (.inl rfl) ⟨rfl, rfl, rfl, rfl, rfl, rfl, rfl, rfl, rfl, trivial⟩ ?_ rfl rfl rfl rfl rfl rfl rfl (fun _ => ?_) hold (fun j u hu => by simp at hu)
                · rw [List.append_nil]; rfl
                · show _ = some (AObj.grown (tcsF fA gA B.ns 0 (a :: l) ++ []) 3)
                  rw [List.append_nil]
                  rfl
            · have hS := gsl hLe
              have hlp : 0 < L'.length := List.length_pos_iff.2 hLe
              have hn0 := hlp
              have hn6 : L'.length ≤ 1000000 := by omega
              have eg : ∀ x, grI x L'.length = .gs x L'.length := fun x => by
                cases hq : L'.length with
                | zero => omega
                | succ n => rfl
              have hnew : ∀ j u, L'[j]? = some u → j < L'.length := fun j u hu => Classical.byContradiction fun q => by rw [List.getElem?_eq_none (by omega)] at hu; cases hu
              clear gnil gsl gok hL2 hl2
              cases L with
              | nil =>
                refine Tr.openK un89_17 (by kernel_rfl) (by kernel_rfl) _ pX ?_
                repeat' (first | (refine RD.free rfl rfl rfl rfl rfl rfl ?_; apply Nx.of; (first | exact S.move | exact S.fieldAddr rfl rfl rfl)) | (refine RD.load rfl rfl rfl rfl rfl rfl rfl rfl ?_; apply Nx.of; (first | exact S.load1c rfl rfl rfl rfl | exact S.loadNc rfl rfl rfl rfl)))
                (refine RD.callX rfl rfl rfl rfl rfl rfl rfl rfl (by simp) (fun fl' => alts_hd (pinX_at _ _ _ _ _ _ _ fl')) (fun _ => by refine srOkX_all ?_; simp only [srOkX]; (repeat' (first | exact trivial | refine And.intro ?_ ?_)); all_goals (first | (refine ⟨_, rfl, rfl, ?_⟩; (first | (simp [bk, AV.cells, pbC, rfO, rfVs, rfV, h1.rf, h2.rf, h3.rf, h4.rf]; done))))) ?_)
                repeat' (first | (refine RD.free rfl rfl rfl rfl rfl rfl ?_; apply Nx.of; (first | exact S.move | exact S.fieldAddr rfl rfl rfl)) | (refine RD.load rfl rfl rfl rfl rfl rfl rfl (by refine us_all ?_; simp only [usOk, cond_true, cond_false]; (repeat' (first | exact trivial | refine And.intro ?_ ?_)); all_goals (first | rfl | exact .inl trivial | (refine Or.inr ⟨_, _, _, rfl, getM rfl, getM rfl, ?_⟩; (first | (simp [bk, AV.cells, pbC, rfO, rfVs, rfV, h1.rf, h2.rf, h3.rf, h4.rf]; done))))) ?_; apply Nx.of; (first | exact S.load1c rfl rfl rfl rfl)))
                (refine RD.callX rfl rfl rfl rfl rfl rfl rfl rfl (by simp) (fun fl' => (alts_tl (pinX_nc (by decide))).trans (alts_hd (pinX_at _ _ _ _ _ _ _ fl'))) (fun _ => by refine srOkX_all ?_; simp only [srOkX]; (repeat' (first | exact trivial | refine And.intro ?_ ?_)); all_goals (first | (refine ⟨_, rfl, rfl, ?_⟩; (first | (simp [bk, AV.cells, pbC, rfO, rfVs, rfV, h1.rf, h2.rf, h3.rf, h4.rf]; done))))) ?_)
                repeat' (first | (refine RD.free rfl rfl rfl rfl rfl rfl ?_; apply Nx.of; (first | exact S.move | exact S.add (by unfold In64; omega) | exact S.build rfl rfl rfl)))
                (refine RD.callX rfl rfl rfl rfl rfl rfl rfl rfl (by simp) (fun fl' => (alts_tl (pinX_nc (by decide))).trans ((alts_tl (pinX_nc (by decide))).trans (alts_hd (pinX_at _ _ _ _ _ _ _ fl')))) (fun _ => by refine srOkX_all ?_; simp only [srOkX]; (repeat' (first | exact trivial | refine And.intro ?_ ?_)); all_goals (first | exact trivial | (refine ⟨_, rfl, rfl, ?_⟩; (first | rfl | (simp [rfO, rfVs, rfV, rfVs_flat]; done) | (simp [bk, AV.cells, pbC, rfO, rfVs, rfV, h1.rf, h2.rf, h3.rf, h4.rf]; done))))) ?_)
                (refine RD.wide rfl rfl rfl rfl rfl rfl rfl (by simp) ?_; refine Nx.of (S.append_n rfl rfl rfl rfl rfl rfl rfl rfl rfl hS hn6 hn0) ⟨rfl, ?_⟩)
                repeat' (first | (refine RD.free rfl rfl rfl rfl rfl rfl ?_; apply Nx.of; (first | exact S.assign)))
                refine RD.nil ⟨by first | (show 100000 ≤ c' + 1; omega), rfl, ?_⟩
                refine go_wk (L := []) (L' := L') (A := A) (A' := A') (x := c') (n := B.ns) (r := t.r) (e := t.c) h1 h2 h3 h4 hN gA1 gA2 gAA (.inr ⟨gx1, gx2, by omega⟩) ⟨rfl, rfl, rfl, rfl, rfl, rfl, rfl, rfl, rfl, trivial⟩ (congrArg some (eg c').symm) ?_ ?_ ?_ ?_ ?_ ?_ ?_ (fun _ => lookM_hd) (fun j u hu => by simp at hu) (fun j u hu => ?_)
                iterate 7 exact (lookM_tl (by omega)).trans (hkeep (by decide) rfl)
                have := hnew j u hu
                exact ⟨(lookM_tl (by omega)).trans (gtr j u hu).1, (lookM_tl (by omega)).trans (gtr j u hu).2⟩
              | cons a l =>
                have h7 : lookM (mN ++ (100004, some (.grown (fE (puF t.c k (fr + d + ro + B.cost w)) (k + 1)) 1)) :: (100000, some (.grown (fE (puF t.r k ro) (k + 1)) 1)) :: ([(6, some (.cells [.int .i64 (B.due k), .int .i64 (B.dl k), .int .i64 (B.dh k), .int .i64 (B.rl k), .int .i64 (B.rh k), .int .i64 (B.sl k), .int .i64 (B.sh k)])), (5, some (.cells [.int .i64 (w : Int), a3, a4])), (4, some (.cells (bk B a1 a2).cells)), (0, some (oSt B)), (1, some (oCk B)), (2, some (.ro (fE t.r k))), (3, some (.ro (fE t.c k)))] ++ (ouM fA gA B.ns 7 (a :: l) ++ tmsF fA gA B.ns 0 (a :: l)))) 7 = some (.grown (tcsF fA gA B.ns 0 (a :: l)) 3) := hkeep (by decide) rfl
                have hla : (a :: l).length = l.length + 1 := rfl
                have hc7 : cut (tcsF fA gA B.ns 0 (a :: l)) 0 ((l.length + 1) * 3) = some (tcsF fA gA B.ns 0 (a :: l)) := cut_all (tcsF_len (a :: l) 0)
                have hk7 : l.length + 1 ≤ 1000000 := by omega
                have hone := tcsF_one (f := fun j => A + 2 * j) (g := fun j => A' + 2 * j) (k := B.ns) L' 0
                refine Tr.openK un89_17 (by kernel_rfl) (by kernel_rfl) _ pX ?_
                repeat' (first | (refine RD.free rfl rfl rfl rfl rfl rfl ?_; apply Nx.of; (first | exact S.move | exact S.fieldAddr rfl rfl rfl)) | (refine RD.load rfl rfl rfl rfl rfl rfl rfl rfl ?_; apply Nx.of; (first | exact S.load1c rfl rfl rfl rfl | exact S.loadNc rfl rfl rfl rfl)))
                (refine RD.callX rfl rfl rfl rfl rfl rfl rfl rfl (by simp) (fun fl' => alts_hd (pinX_at _ _ _ _ _ _ _ fl')) (fun _ => by refine srOkX_all ?_; simp only [srOkX]; (repeat' (first | exact trivial | refine And.intro ?_ ?_)); all_goals (first | (refine ⟨_, rfl, rfl, ?_⟩; (first | (simp [bk, AV.cells, pbC, rfO, rfVs, rfV, h1.rf, h2.rf, h3.rf, h4.rf]; done))))) ?_)
                repeat' (first | (refine RD.free rfl rfl rfl rfl rfl rfl ?_; apply Nx.of; (first | exact S.move | exact S.fieldAddr rfl rfl rfl)) | (refine RD.load rfl rfl rfl rfl rfl rfl rfl (by refine us_all ?_; simp only [usOk, cond_true, cond_false]; (repeat' (first | exact trivial | refine And.intro ?_ ?_)); all_goals (first | rfl | exact .inl trivial | (refine Or.inr ⟨_, _, _, rfl, getM rfl, getM rfl, ?_⟩; (first | (simp [bk, AV.cells, pbC, rfO, rfVs, rfV, h1.rf, h2.rf, h3.rf, h4.rf]; done))))) ?_; apply Nx.of; (first | exact S.load1c rfl rfl rfl rfl)))
                (refine RD.callX rfl rfl rfl rfl rfl rfl rfl rfl (by simp) (fun fl' => (alts_tl (pinX_nc (by decide))).trans (alts_hd (pinX_at _ _ _ _ _ _ _ fl'))) (fun _ => by refine srOkX_all ?_; simp only [srOkX]; (repeat' (first | exact trivial | refine And.intro ?_ ?_)); all_goals (first | (refine ⟨_, rfl, rfl, ?_⟩; (first | (simp [bk, AV.cells, pbC, rfO, rfVs, rfV, h1.rf, h2.rf, h3.rf, h4.rf]; done))))) ?_)
                repeat' (first | (refine RD.free rfl rfl rfl rfl rfl rfl ?_; apply Nx.of; (first | exact S.move | exact S.add (by unfold In64; omega) | exact S.build rfl rfl rfl)))
                (refine RD.callX rfl rfl rfl rfl rfl rfl rfl rfl (by simp) (fun fl' => (alts_tl (pinX_nc (by decide))).trans ((alts_tl (pinX_nc (by decide))).trans (alts_hd (pinX_at _ _ _ _ _ _ _ fl')))) (fun _ => by refine srOkX_all ?_; simp only [srOkX]; (repeat' (first | exact trivial | refine And.intro ?_ ?_)); all_goals (first | exact trivial | (refine ⟨_, rfl, rfl, ?_⟩; (first | rfl | (simp [rfO, rfVs, rfV, rfVs_flat]; done) | (simp [bk, AV.cells, pbC, rfO, rfVs, rfV, h1.rf, h2.rf, h3.rf, h4.rf]; done))))) ?_)
                (refine RD.wide rfl rfl rfl rfl rfl rfl rfl (by simp) ?_; refine Nx.of (S.append_g rfl rfl rfl rfl rfl rfl rfl rfl rfl hS hn6 hn0 h7 rfl hc7 hk7 hone) ⟨rfl, ?_⟩)
                repeat' (first | (refine RD.free rfl rfl rfl rfl rfl rfl ?_; apply Nx.of; (first | exact S.assign)))
                refine RD.nil ⟨by first | (show 100000 ≤ c' + 1; omega), rfl, ?_⟩
                refine go_wk (L := a :: l) (L' := L') (A := A) (A' := A') (x := c') (n := B.ns) (r := t.r) (e := t.c) h1 h2 h3 h4 hN gA1 gA2 gAA (.inr ⟨gx1, gx2, by omega⟩) ⟨rfl, rfl, rfl, rfl, rfl, rfl, rfl, rfl, rfl, trivial⟩ ?_ ?_ ?_ ?_ ?_ ?_ ?_ ?_ (fun _ => lookM_hd) (fun j u hu => ?_) (fun j u hu => ?_)
                · show some (AV.gs c' (l.length + 1 + L'.length)) = some (grI c' ((a :: l) ++ L').length)
                  rw [List.length_append, hla, show l.length + 1 + L'.length = (l.length + L'.length) + 1 by omega]
                  rfl
                iterate 7 exact (lookM_tl (by omega)).trans ((lookM_tl (by decide)).trans (hkeep (by decide) rfl))
                · have hj : j < (a :: l).length := Classical.byContradiction fun q => by rw [List.getElem?_eq_none (by omega)] at hu; cases hu
                  have := hold j u hu
                  have b1 : fA j < 100000 ∧ 7 < fA j := by unfold fA; omega
                  have b2 : gA j < 100000 ∧ 7 < gA j := by unfold gA; omega
                  exact ⟨(lookM_tl (by omega)).trans ((lookM_tl (by omega)).trans (hkeep (by omega) this.1)), (lookM_tl (by omega)).trans ((lookM_tl (by omega)).trans (hkeep (by omega) this.2))⟩
                · have := hnew j u hu
                  exact ⟨(lookM_tl (by omega)).trans ((lookM_tl (by omega)).trans (gtr j u hu).1), (lookM_tl (by omega)).trans ((lookM_tl (by omega)).trans (gtr j u hu).2)⟩
          · subst he
            refine blk_n (sq_n (Tr.wk hwk ?_))
            repeat' (first | refine RT.nil ?_ | refine Tr.region ?_ | (refine RT.goK rfl rfl rfl rfl ?_; apply Nx.of; (first | exact S.move | exact S.assign | exact S.add (by unfold In64; omega))))
            refine lp_n (q2 + 1, L ++ L') ⟨hlt2, ?_⟩ (by show _ - (q2 + 1) < _ - q2; omega) ?_
            · show L ++ L' = L1 ++ preL (B.sl k) (gFi B rem k w t fr d ro) (q2 + 1)
              rw [preL, hss, hL', ← List.append_assoc, ← hL2]
            · exact Wk.temps (by decide) (by decide) (by decide) ⟨rfl, rfl, rfl, rfl, rfl, rfl, rfl, rfl, rfl, congrArg some (congrArg (AV.int .i64) (by omega)), trivial⟩
        · have hst : ¬ B.sl k + (q2 : Int) ≤ B.sh k := by omega
          repeat' (first | refine RT.nil ?_ | refine sq_n ?_ | refine Tr.seq ?_ | refine Tr.region ?_ | refine Tr.cond_f rfl ?_ | refine Tr.exit ?_ | refine sq_x ?_ | refine blk_n ?_ | refine blk_hit rfl ?_ | refine lp_x ?_ | (refine RT.goK rfl rfl rfl rfl ?_; refine Nx.of (S.leq_f hst) ?_) | (refine RT.goK rfl rfl rfl rfl ?_; apply Nx.of; (first | exact S.move | exact S.assign | exact S.load1c rfl rfl rfl rfl | exact S.fieldAddr rfl rfl rfl | exact S.add (by unfold In64; omega))))
          refine lp_n (q1 + 1, L) ⟨hlt1, ?_⟩ (by show _ - (q1 + 1) < _ - q1; omega) ?_
          · show L = L0 ++ preL (B.rl k) (gFm B rem k w t fr d) (q1 + 1)
            have hqq : q2 = (B.sh k - B.sl k + 1).toNat := by omega
            rw [preL, hro, show gFm B rem k w t fr d ro = (ints (B.sl k) (B.sh k)).flatMap (gFi B rem k w t fr d ro) from if_pos hwr, ← preL_all _ _ _ hqq, ← List.append_assoc, ← hL1]
            exact hL2
          · exact Wk.temps (by decide) (by decide) (by decide) ⟨rfl, rfl, rfl, rfl, rfl, rfl, rfl, congrArg some (congrArg (AV.int .i64) (by omega)), trivial⟩
      · have hA : AV.bool (dB (rgtP B (k : Int) (fr + d + ro + B.cost w) B.nc)) = .bool false := by rw [dB_ff (fun h => hwr ((rgtP_wr hB.2.2.1.1).1 h))]
        repeat' (first | refine RT.nil ?_ | refine sq_n ?_ | refine Tr.seq ?_ | refine Tr.region ?_ | refine Tr.cond_t rfl ?_ | refine Tr.skip ?_ | refine Tr.exit ?_ | refine sq_x ?_ | refine Tr.block ?_ | refine blk_hit rfl ?_ | (refine RT.goK rfl rfl rfl rfl ?_; refine Nx.of (S.leq_t hr) ?_) | (refine RT.call rfl rfl rfl (val_is hA (right6_at ⟨h1, h2, rfl, rfl, by decide⟩ hB.2.2.1 _ _ hmb _)) rfl rfl (Nat.le_refl _) ?_) | (refine RT.goK rfl rfl rfl rfl ?_; apply Nx.of; (first | exact S.move | exact S.assign | exact S.load1c rfl rfl rfl rfl | exact S.loadNc rfl rfl rfl rfl | exact S.fieldAddr rfl rfl rfl | exact S.not_f | exact S.add (by unfold In64; omega) | exact S.idx_arr rfl rfl rfl (show _ < 3 by omega) | exact S.load1c rfl rfl rfl (cost_at hw3))))
        refine lp_n (q1 + 1, L1) ⟨hlt1, ?_⟩ (by show _ - (q1 + 1) < _ - q1; omega) ?_
        · show L1 = L0 ++ preL (B.rl k) (gFm B rem k w t fr d) (q1 + 1)
          rw [preL, hro, show gFm B rem k w t fr d ro = [] from if_neg hwr, List.append_nil]
          exact hL1
        · exact Wk.temps (by decide) (by decide) (by decide) ⟨rfl, rfl, rfl, rfl, rfl, rfl, rfl, congrArg some (congrArg (AV.int .i64) (by omega)), trivial⟩
    · have hr : ¬ B.rl k + (q1 : Int) ≤ B.rh k := by omega
      repeat' (first | refine RT.nil ?_ | refine sq_n ?_ | refine Tr.seq ?_ | refine Tr.region ?_ | refine Tr.cond_f rfl ?_ | refine Tr.exit ?_ | refine sq_x ?_ | refine blk_n ?_ | refine blk_hit rfl ?_ | refine lp_x ?_ | (refine RT.goK rfl rfl rfl rfl ?_; refine Nx.of (S.leq_f hr) ?_) | (refine RT.goK rfl rfl rfl rfl ?_; apply Nx.of; (first | exact S.move | exact S.assign | exact S.load1c rfl rfl rfl rfl | exact S.fieldAddr rfl rfl rfl | exact S.add (by unfold In64; omega))))
      refine lp_n (q0 + 1, L1) ⟨hlt, ?_⟩ (by show _ - (q0 + 1) < _ - q0; omega) ?_
      · show L1 = preL (B.dl k) (gFo B rem k w t fr) (q0 + 1)
        have hq1' : q1 = (B.rh k - B.rl k + 1).toNat := by have : q1 ≤ (B.rh k - B.rl k + 1).toNat := hq1; omega
        rw [preL, hdd, hL1]
        rw [preL_all _ _ _ hq1', hL]
        rfl
      · exact Wk.temps (by decide) (by decide) (by decide) ⟨rfl, rfl, rfl, rfl, rfl, rfl, congrArg some (congrArg (AV.int .i64) (by omega)), trivial⟩
  · have hd : ¬ B.dl k + (q0 : Int) ≤ B.dh k := by omega
    repeat' (first | refine RT.nil ?_ | refine sq_n ?_ | refine Tr.seq ?_ | refine Tr.region ?_ | refine Tr.cond_f rfl ?_ | refine Tr.ret ?_ | refine Tr.exit ?_ | refine sq_x ?_ | refine blk_hit rfl ?_ | refine lp_x ?_ | (refine RT.goK rfl rfl rfl rfl ?_; refine Nx.of (S.leq_f hd) ?_) | (refine RT.goK rfl rfl rfl rfl ?_; apply Nx.of; (first | exact S.move | exact S.assign | exact S.load1c rfl rfl rfl rfl | exact S.fieldAddr rfl rfl rfl)))
    (first | refine rt_go rfl ?_)
    have hq0' : q0 = (B.dh k - B.dl k + 1).toNat := by have : q0 ≤ (B.dh k - B.dl k + 1).toNat := hq0; omega
    have hLL : L0 = gL B (rem + 1) k t fr := by rw [gL_is htw, ← preL_all _ _ _ hq0']; exact hL
    rw [← hLL]
    refine ⟨rfl, Nat.le_refl _, fun x o hx => ?_⟩
    rw [ofM_get]
    have hk7 : 7 ≤ x := by
      obtain ⟨e, he, hex⟩ := List.mem_map.1 (lookM_mem hx)
      have := goA_keys (B := B) (L := L0) e he
      omega
    refine (look_skip fun e he => ?_).trans hx
    simp at he
    rcases he with rfl | rfl | rfl | rfl | rfl | rfl | rfl <;> (simp; omega)
end Go.Proofs.Ytlnmcadbmpiopaa
/- The reference of layer 6: goes, all stages. -/
namespace Go.Proofs.Ytlnmcadbmpiopaa
open Go Go.Ev
theorem tru2_w' (t : Tru) (k : Nat) (a b : Int) : (tru2 t k a b).w = t.w := by
  unfold tru2 Tru.setR Tru.setC
  (repeat' split) <;> rfl
theorem goes_can {B : CBook} {a1 a2 : AV} {w : Nat} (h1 : IsSl a1 B.ns 0) (h2 : IsSl a2 B.nc 1) (hB : bk5 B) (hw3 : w < 3) : ∀ (rem k : Nat) (t : Tru) (fr : Int) (a3 a4 : AV), IsSl a3 k 2 → IsSl a4 k 3 → k + (rem + 1) = B.ns → t.w = (w : Int) → 0 ≤ fr → fr ≤ 200 * (k : Int) →
    CanS 0 Try.prog 89 4 [bk B a1 a2, .agg [.int .i64 (w : Int), a3, a4], .int .i64 fr] [(0, some (oSt B)), (1, some (oCk B)), (2, some (.ro (fE t.r k))), (3, some (.ro (fE t.c k)))] 4 fun v H1 c1 => v = grI 7 (gL B (rem + 1) k t fr).length ∧ c1 ≤ 100000 ∧ ∀ x o, lookM (goA B (gL B (rem + 1) k t fr)) x = some o → H1.get x = some o
  | 0, k, t, fr, a3, a4, h3, h4, hrem, htw, hf1, hf2 => goes_step h1 h2 h3 h4 hB hrem hw3 htw ⟨hf1, hf2⟩ fun ro mi fr' mm hm m0 m1 my mz _ _ => GoRes.leaf (t := tru2 t k ro mi) h1 h2 hrem (by rw [tru2_w']; exact htw) hm m0 my mz
  | rem + 1, k, t, fr, a3, a4, h3, h4, hrem, htw, hf1, hf2 => goes_step h1 h2 h3 h4 hB hrem hw3 htw ⟨hf1, hf2⟩ fun ro mi fr' mm hm m0 m1 my mz b1 b2 =>
    have hns := hB.1.1
    have hlen : (gL B (rem + 1) (k + 1) (tru2 t k ro mi) fr').length ≤ 20000 := by
      refine Nat.le_trans (gL_len hB (rem + 1) (k + 1) _ _ (by omega)) ?_
      obtain rfl | rfl : rem = 0 ∨ rem = 1 := by omega
      all_goals decide
    GoRes.node (t := tru2 t k ro mi) h1 h2 hlen (goes_can h1 h2 hB hw3 rem (k + 1) (tru2 t k ro mi) fr' _ _ (IsSl.gs 2 (k + 1)) (IsSl.gs 3 (k + 1)) (by omega) (by rw [tru2_w']; exact htw) b1 b2) hm m0 m1 my mz
end Go.Proofs.Ytlnmcadbmpiopaa
/- The reference of layer 6: its list of truths holds all truths. -/
namespace Go.Proofs.Ytlnmcadbmpiopaa
open Go Go.Ev
def frOk (B : CBook) (t0 : Tru) (i : Nat) (fr : Int) : Prop := (i = 0 ∧ fr = 0) ∨ (0 < i ∧ t0.c (i - 1) + B.sl (i - 1) ≤ fr ∧ fr ≤ t0.c (i - 1) + B.sh (i - 1))
def restOk (B : CBook) (t t0 : Tru) (i : Nat) : Prop := t.w = t0.w ∧ (∀ j, j < i → t.r j = t0.r j ∧ t.c j = t0.c j) ∧ (∀ j, i ≤ j → j < B.ns → StT B t j) ∧ ∀ j, B.ns ≤ j → j < 3 → t.r j = 0 ∧ t.c j = 0
theorem gL_to {B : CBook} (hok : stsOk B) {t : Tru} : ∀ (k i : Nat) (t0 : Tru) (fr : Int), i + k = B.ns → frOk B t0 i fr → (∀ j, i ≤ j → j < 3 → t0.r j = 0 ∧ t0.c j = 0) → t ∈ gL B k i t0 fr → restOk B t t0 i
  | 0, i, t0, fr, e, hf, hz, h => by
    rw [gL, List.mem_singleton] at h
    subst h
    exact ⟨rfl, fun j _ => ⟨rfl, rfl⟩, fun j h1 h2 => by omega, fun j h1 h2 => hz j (by omega) h2⟩
  | k + 1, i, t0, fr, e, hf, hz, h => by
    have hn := hok.1
    have hi : i < B.ns := by omega
    have hi3 : i < 3 := by omega
    rw [gL] at h
    simp only [List.mem_flatMap, ints_iff] at h
    obtain ⟨d, ⟨d1, d2⟩, r, ⟨r1, r2⟩, h⟩ := h
    split at h
    · rename_i hw
      simp only [List.mem_flatMap, ints_iff] at h
      obtain ⟨s, ⟨s1, s2⟩, h⟩ := h
      generalize hmi : fr + d + r + B.cost t0.w.toNat = mi at h hw
      obtain ⟨g1, g2, g3, g4⟩ := gL_to hok k (i + 1) (tru2 t0 i r mi) (mi + s) (by omega) (.inr ⟨by omega, by rw [Nat.add_sub_cancel, tru2_cj hi3 hi3, if_pos rfl]; omega, by rw [Nat.add_sub_cancel, tru2_cj hi3 hi3, if_pos rfl]; omega⟩) (fun j h5 h6 => by
        rw [tru2_rj hi3 h6, tru2_cj hi3 h6, if_neg (by omega), if_neg (by omega)]; exact hz j (by omega) h6) h
      rw [tru2_w hi3] at g1
      have gi := g2 i (by omega)
      rw [tru2_rj hi3 hi3, tru2_cj hi3 hi3, if_pos rfl, if_pos rfl] at gi
      have gl : ∀ j, j < i → t.r j = t0.r j ∧ t.c j = t0.c j := fun j hj => by
        have := g2 j (by omega)
        rw [tru2_rj hi3 (by omega), tru2_cj hi3 (by omega), if_neg (by omega), if_neg (by omega)] at this
        exact this
      refine ⟨g1, gl, fun j hj hjn => ?_, g4⟩
      by_cases hji : j = i
      · subst hji
        unfold StT dlo dhi
        rw [gi.1, gi.2, g1]
        refine ⟨⟨r1, r2⟩, ?_, hw⟩
        rcases hf with ⟨rfl, rfl⟩ | ⟨h0, f1, f2⟩
        · rw [if_pos rfl, if_pos rfl]; omega
        · rw [if_neg (by omega), if_neg (by omega), (gl (j - 1) (by omega)).2]; omega
      · exact g3 j (by omega) hjn
    · cases h
theorem gL_of {B : CBook} (hok : stsOk B) {t : Tru} : ∀ (k i : Nat) (t0 : Tru), i + k = B.ns → (∀ j, i ≤ j → j < 3 → t0.r j = 0 ∧ t0.c j = 0) → restOk B t t0 i → ∃ fr, frOk B t0 i fr ∧ t ∈ gL B k i t0 fr
  | 0, i, t0, e, hz, ⟨h1, h2, _, h4⟩ => by
    have hn := hok.1
    have hst := hok.2 (i - 1) (by omega)
    unfold stOk at hst
    refine ⟨t0.c (i - 1) + B.sl (i - 1), .inr ⟨by omega, by omega, by omega⟩, ?_⟩
    rw [gL, List.mem_singleton]
    refine Tru.ext3 h1 fun j hj => ?_
    by_cases hji : j < i
    · exact h2 j hji
    · rw [(h4 j (by omega) hj).1, (h4 j (by omega) hj).2, (hz j (by omega) hj).1, (hz j (by omega) hj).2]; exact ⟨rfl, rfl⟩
  | k + 1, i, t0, e, hz, ⟨h1, h2, h3, h4⟩ => by
    have hn := hok.1
    have hi : i < B.ns := by omega
    have hi3 : i < 3 := by omega
    have hst := hok.2 i hi
    unfold stOk at hst
    have gi := h3 i (Nat.le_refl _) hi
    unfold StT dlo dhi at gi
    obtain ⟨⟨r1, r2⟩, gi2, gw⟩ := gi
    have fr : ∃ fr d, frOk B t0 i fr ∧ B.dl i ≤ d ∧ d ≤ B.dh i ∧ fr + d + t.r i + B.cost t.w.toNat = t.c i := by
      by_cases h0 : i = 0
      · subst h0
        rw [if_pos rfl, if_pos rfl] at gi2
        exact ⟨0, t.c 0 - t.r 0 - B.cost t.w.toNat, .inl ⟨rfl, rfl⟩, by omega, by omega, by omega⟩
      · rw [if_neg h0, if_neg h0, (h2 (i - 1) (by omega)).2] at gi2
        have hsp := hok.2 (i - 1) (by omega)
        unfold stOk at hsp
        by_cases hm : t.c i - t.r i - B.cost t.w.toNat - B.dl i ≤ t0.c (i - 1) + B.sh (i - 1)
        · exact ⟨t.c i - t.r i - B.cost t.w.toNat - B.dl i, B.dl i, .inr ⟨by omega, by omega, by omega⟩, by omega, by omega, by omega⟩
        · exact ⟨t0.c (i - 1) + B.sh (i - 1), t.c i - t.r i - B.cost t.w.toNat - (t0.c (i - 1) + B.sh (i - 1)), .inr ⟨by omega, by omega, by omega⟩, by omega, by omega, by omega⟩
    obtain ⟨fr, d, hf, d1, d2, hsum⟩ := fr
    rw [h1] at hsum
    obtain ⟨f2, hf2, hmem⟩ := gL_of hok (t := t) k (i + 1) (tru2 t0 i (t.r i) (t.c i)) (by omega) (fun j h5 h6 => by
      rw [tru2_rj hi3 h6, tru2_cj hi3 h6, if_neg (by omega), if_neg (by omega)]; exact hz j (by omega) h6) ⟨by rw [tru2_w hi3]; exact h1, fun j hj => by
        rw [tru2_rj hi3 (by omega), tru2_cj hi3 (by omega)]
        by_cases hji : j = i
        · subst hji; rw [if_pos rfl, if_pos rfl]; exact ⟨rfl, rfl⟩
        · rw [if_neg hji, if_neg hji]; exact h2 j (by omega), fun j hj hjn => h3 j (by omega) hjn, h4⟩
    refine ⟨fr, hf, ?_⟩
    rcases hf2 with ⟨h0, _⟩ | ⟨_, f3, f4⟩
    · omega
    rw [Nat.add_sub_cancel, tru2_cj hi3 hi3, if_pos rfl] at f3 f4
    rw [gL]
    simp only [List.mem_flatMap, ints_iff]
    refine ⟨d, ⟨d1, d2⟩, t.r i, ⟨r1, r2⟩, ?_⟩
    rw [hsum, if_pos gw]
    simp only [List.mem_flatMap, ints_iff]
    refine ⟨f2 - t.c i, ⟨by omega, by omega⟩, ?_⟩
    rw [show t.c i + (f2 - t.c i) = f2 by omega]
    exact hmem
noncomputable def gw1 (B : CBook) (k : Nat) : List Tru := bif dB (hasP B.wea k) then gL B B.ns 0 (tru0 k) 0 else []
noncomputable def gWk (B : CBook) : Nat → List Tru
  | 0 => []
  | k + 1 => gWk B k ++ gw1 B k
noncomputable def gW (B : CBook) : List Tru := gWk B 3
theorem mem_gw1 {B : CBook} (hok : stsOk B) {t : Tru} {k : Nat} : t ∈ gw1 B k ↔ hasP B.wea k ∧ t.w = k ∧ (∀ j, j < B.ns → StT B t j) ∧ ∀ j, B.ns ≤ j → j < 3 → t.r j = 0 ∧ t.c j = 0 := by
  have hz : ∀ j, 0 ≤ j → j < 3 → (tru0 k).r j = 0 ∧ (tru0 k).c j = 0 := fun j _ hj => by
    obtain rfl | rfl | rfl : j = 0 ∨ j = 1 ∨ j = 2 := by omega
    all_goals exact ⟨rfl, rfl⟩
  unfold gw1
  by_cases h : hasP B.wea k
  · rw [dB_tt h]
    show t ∈ gL B B.ns 0 (tru0 k) 0 ↔ _
    constructor
    · intro hm
      obtain ⟨a, _, b, d⟩ := gL_to hok B.ns 0 (tru0 k) 0 (by omega) (.inl ⟨rfl, rfl⟩) hz hm
      exact ⟨h, a, fun j hj => b j (Nat.zero_le _) hj, d⟩
    · rintro ⟨_, a, b, d⟩
      obtain ⟨fr, hf, hm⟩ := gL_of hok (t := t) B.ns 0 (tru0 k) (by omega) hz ⟨a, fun j hj => by omega, fun j _ hj => b j hj, d⟩
      rcases hf with ⟨_, rfl⟩ | ⟨h0, _⟩
      · exact hm
      · omega
  · rw [dB_ff h]
    exact ⟨fun hh => (by cases hh), fun hh => absurd hh.1 h⟩
theorem mem_gW {B : CBook} (hok : stsOk B) {t : Tru} : t ∈ gW B ↔ IsT B t := by
  show t ∈ (([] ++ gw1 B 0) ++ gw1 B 1) ++ gw1 B 2 ↔ _
  rw [List.nil_append, List.mem_append, List.mem_append, mem_gw1 hok, mem_gw1 hok, mem_gw1 hok]
  constructor
  · rintro ((⟨a, b, d, e⟩ | ⟨a, b, d, e⟩) | ⟨a, b, d, e⟩)
    all_goals exact ⟨⟨by omega, by omega, by rw [b]; exact a⟩, d, e⟩
  · rintro ⟨⟨a, b, d⟩, e, f⟩
    obtain h | h | h : t.w = 0 ∨ t.w = 1 ∨ t.w = 2 := by omega
    · rw [h] at d; exact .inl (.inl ⟨d, h, e, f⟩)
    · rw [h] at d; exact .inl (.inr ⟨d, h, e, f⟩)
    · rw [h] at d; exact .inr ⟨d, h, e, f⟩
theorem gw1_len {B : CBook} (hB : bk5 B) (k : Nat) : (gw1 B k).length ≤ 19683 := by
  unfold gw1
  cases dB (hasP B.wea k) with
  | false => simp
  | true =>
    have hn := hB.1.1
    refine Nat.le_trans (gL_len hB B.ns 0 (tru0 k) 0 (by omega)) ?_
    obtain h | h | h : B.ns = 1 ∨ B.ns = 2 ∨ B.ns = 3 := by omega
    all_goals (rw [h]; decide)
theorem gWk_len5 {B : CBook} (hB : bk5 B) : ∀ k, (gWk B k).length ≤ k * 19683
  | 0 => by simp [gWk]
  | k + 1 => by
    rw [gWk, List.length_append, Nat.succ_mul]
    have := gWk_len5 hB k
    have := gw1_len hB k
    omega
theorem gWk_len {B : CBook} (hB : bkOk B) : ∀ k, (gWk B k).length ≤ k * 19683 := gWk_len5 hB.five
end Go.Proofs.Ytlnmcadbmpiopaa
/- The reference of layer 6: truths; asked. -/
namespace Go.Proofs.Ytlnmcadbmpiopaa
open Go Go.Ev
set_option maxHeartbeats 4000000 in
theorem fam_wk {cb fl nt c x A A' n tt C : Nat} {P : List (Nat × Option AObj)} {l l2 : List (Nat × AV)} {m : List (Nat × Option AObj)} {L L' : List Tru} (hcb : cb ≤ 7) (hfl : fl ≤ cb)
    (hC : 100 + 2 * (L.length + L'.length) ≤ C) (hA : 100 + 2 * L.length ≤ A) (hA' : 100 + 2 * L.length ≤ A') (hAA : A' = A + 1 ∨ (L'.length ≤ 1 ∧ A ≠ A')) (hx : x = 7 ∨ (A + 2 * L'.length ≤ x ∧ A' + 2 * L'.length ≤ x ∧ 100 + 2 * L.length ≤ x))
    (hl : allL (fun t v => Go.Ev.look l t = some (v.ren (gsg L.length L'.length A A' x c))) l2) (t9 : Go.Ev.look l tt = some (grI x (L ++ L').length))
    (hP : allM (fun y o => lookM m y = some o ∧ ∀ σ : Nat → Nat, (∀ z, z < 7 → σ z = z) → o.ren σ = o) P) (hPk : ∀ e ∈ P, e.1 < 7)
    (gO : L ++ L' ≠ [] → lookM m x = some (.grown (tcsF fA gA n 0 L ++ tcsF (fun j => A + 2 * j) (fun j => A' + 2 * j) n 0 L') 3))
    (gold : ∀ j t, L[j]? = some t → lookM m (fA j) = some (.grown (fE t.r n) 1) ∧ lookM m (gA j) = some (.grown (fE t.c n) 1))
    (gnew : ∀ j t, L'[j]? = some t → lookM m (A + 2 * j) = some (.grown (fE t.r n) 1) ∧ lookM m (A' + 2 * j) = some (.grown (fE t.c n) 1)) :
    Wk 0 fl cb (stL nt [] l m c) (stL nt [] ((tt, grI 7 (L ++ L').length) :: l2) (P ++ (ouM fA gA n 7 (L ++ L') ++ tmsF fA gA n 0 (L ++ L'))) C) := by
  obtain ⟨σ, hσ⟩ : ∃ σ, gsg L.length L'.length A A' x c = σ := ⟨_, rfl⟩
  rw [hσ] at hl
  have s7 : σ 7 = x := by rw [← hσ]; rfl
  have sl : ∀ y, y < 7 → σ y = y := fun y hy => by rw [← hσ]; unfold gsg; rw [if_neg (by omega), if_pos (by omega)]
  have sold : ∀ j, j < L.length → σ (fA j) = fA j ∧ σ (gA j) = gA j := fun j hj => by
    rw [← hσ]
    unfold gsg fA gA
    refine ⟨?_, ?_⟩
    · rw [if_neg (by omega), if_neg (by omega), if_pos (by omega)]
    · rw [if_neg (by omega), if_neg (by omega), if_pos (by omega)]
  have snew : ∀ j, j < L'.length → σ (fA (L.length + j)) = A + 2 * j ∧ σ (gA (L.length + j)) = A' + 2 * j := fun j hj => by
    rw [← hσ]
    unfold gsg fA gA
    refine ⟨?_, ?_⟩
    · rw [if_neg (by omega), if_neg (by omega), if_neg (by omega), if_pos (by omega), if_pos (by omega)]; omega
    · rw [if_neg (by omega), if_neg (by omega), if_neg (by omega), if_pos (by omega), if_neg (by omega)]; omega
  have hP2 : ∀ {P : List (Nat × Option AObj)}, allM (fun y o => lookM m y = some o ∧ ∀ σ : Nat → Nat, (∀ z, z < 7 → σ z = z) → o.ren σ = o) P → (∀ e ∈ P, e.1 < 7) → allM (fun y o => lookM m (σ y) = some (o.ren σ)) P := fun {P} => by
    induction P with
    | nil => exact fun _ _ => trivial
    | cons e P ih =>
      obtain ⟨y, o⟩ := e
      intro h hk
      cases o with
      | none => exact ih h fun e he => hk e (List.mem_cons_of_mem _ he)
      | some o =>
        have hy : y < 7 := hk (y, some o) List.mem_cons_self
        refine ⟨?_, ih h.2 fun e he => hk e (List.mem_cons_of_mem _ he)⟩
        show lookM m (σ y) = _
        rw [sl y hy, h.1.2 σ sl]
        exact h.1.1
  have hm : allM (fun y o => lookM m (σ y) = some (o.ren σ)) (P ++ (ouM fA gA n 7 (L ++ L') ++ tmsF fA gA n 0 (L ++ L'))) := by
    refine allM_app (hP2 hP hPk) (allM_app ?_ ?_)
    · by_cases hLL : L ++ L' = []
      · rw [hLL]; trivial
      · have e : ouM fA gA n 7 (L ++ L') = [(7, some (.grown (tcsF fA gA n 0 (L ++ L')) 3))] := by
          cases hq : L ++ L' with
          | nil => exact absurd hq hLL
          | cons a q => rfl
        rw [e]
        refine ⟨?_, trivial⟩
        show lookM m (σ 7) = some (AObj.grown (AV.rens σ (tcsF fA gA n 0 (L ++ L'))) 3)
        rw [s7, gO hLL, tcsF_ren, tcsF_app]
        refine congrArg some (congrArg (fun cs => AObj.grown cs 3) (congr (congrArg _ ?_) ?_))
        · exact tcsF_congr L 0 0 fun j hj => by
            rw [Nat.zero_add]
            exact ⟨(sold j hj).1.symm, (sold j hj).2.symm⟩
        · exact tcsF_congr L' 0 (0 + L.length) fun j hj => by
            rw [Nat.zero_add, Nat.zero_add]
            exact ⟨(snew j hj).1.symm, (snew j hj).2.symm⟩
    · refine allM_tms _ _ fun j t ht => ?_
      show lookM m (σ (fA (0 + j))) = some (AObj.ren σ _) ∧ lookM m (σ (gA (0 + j))) = some (AObj.ren σ _)
      rw [Nat.zero_add, ren_grown, ren_grown]
      by_cases hj : j < L.length
      · rw [List.getElem?_append_left hj] at ht
        rw [(sold j hj).1, (sold j hj).2]
        exact gold j t ht
      · rw [List.getElem?_append_right (by omega)] at ht
        have hj2 : j - L.length < L'.length := Classical.byContradiction fun q => by rw [List.getElem?_eq_none (by omega)] at ht; cases ht
        have := snew (j - L.length) hj2
        rw [show L.length + (j - L.length) = j by omega] at this
        rw [this.1, this.2]
        exact gnew _ t ht
  have t9' : Go.Ev.look l tt = some ((grI 7 (L ++ L').length).ren σ) := by rw [grI_ren σ s7]; exact t9
  have keys : ∀ u, u ∈ (P ++ (ouM fA gA n 7 (L ++ L') ++ tmsF fA gA n 0 (L ++ L')) : List (Nat × Option AObj)).map (fun e => e.1) → u < 7 ∨ u = 7 ∨ (100 ≤ u ∧ u < 100 + 2 * (L.length + L'.length)) := fun u hu => by
    obtain ⟨q, hq, rfl⟩ := List.mem_map.1 hu
    rcases List.mem_append.1 hq with hq | hq
    · exact .inl (hPk q hq)
    rcases List.mem_append.1 hq with hq | hq
    · have : q.1 = 7 := by
        cases hq2 : L ++ L' with
        | nil => rw [hq2] at hq; cases hq
        | cons a s => rw [hq2] at hq; simp [ouM] at hq; rw [hq]
      exact .inr (.inl this)
    · obtain ⟨j, hj, h⟩ := keys_tms _ _ q hq
      rw [List.length_append] at hj
      unfold fA gA at h
      omega
  refine Wk.by σ (by omega) (Nat.zero_le _) hfl ⟨t9', hl⟩ hm rfl (fun u hu v hv huv ee => ?_) (fun u hu => ?_) (fun u hu => ?_) (fun u hu => ?_)
  · have q1 := keys u hu
    have q2 := keys v hv
    rw [← hσ] at ee
    unfold gsg at ee
    (repeat' split at ee) <;> omega
  · rw [← hσ]; unfold gsg; (repeat' split) <;> omega
  · exact sl u (by omega)
  · rw [← hσ]; unfold gsg; (repeat' split) <;> omega
theorem goes_at0 {B : CBook} {a1 a2 : AV} {w : Nat} {fr : Int} {t : Tru} {L : List Tru} (h1 : IsSl a1 B.ns 0) (h2 : IsSl a2 B.nc 1) (hL : L.length ≤ 20000)
    (hcan : CanS 0 Try.prog 89 4 [bk B a1 a2, .agg [.int .i64 (w : Int), .nils, .nils], .int .i64 fr] [(0, some (oSt B)), (1, some (oCk B)), (2, some (.ro (fE t.r 0))), (3, some (.ro (fE t.c 0)))] 4 fun v H1 c1 => v = grI 7 L.length ∧ c1 ≤ 100000 ∧ ∀ x o, lookM (goA B L) x = some o → H1.get x = some o)
    {m : List (Nat × Option AObj)} {c : Nat} (hm : ∀ x o, lookM m x = some o → x < c) (m0 : lookM m 0 = some (oSt B)) (m1 : lookM m 1 = some (oCk B)) (fl : Nat) :
    OkAt 0 Try.prog fl 89 [bk B a1 a2, .agg [.int .i64 (w : Int), .nils, .nils], .int .i64 fr] (ofM m) c (grI c L.length) (ofM (goM B c L ++ m)) (c + 100000) := by
  have := CanS.freshU tGo (H' := ofM (goM B c L ++ m)) (k := 100000) (v0 := grI 0 L.length) hcan (fun j hj => by unfold tGo; split <;> omega) tGo_inj
    (Entry.win (H := ofM m) (c := c) (W := [(0, 0, none), (1, 0, none), (0, 0, none), (0, 0, none)]) (CS := [flat (stE B) (List.range B.ns), flat (ckE B) (List.range B.nc), fE t.r 0, fE t.c 0]) rfl
      ⟨⟨_, getM m0, .inr ⟨_, rfl, cut_all rfl⟩⟩, pls_flat _ _, ⟨_, getM m1, .inr ⟨_, rfl, cut_all rfl⟩⟩, pls_flat _ _, ⟨_, getM m0, .inl rfl⟩, fE_pls _ _, ⟨_, getM m0, .inl rfl⟩, fE_pls _ _, trivial⟩
      (args := [bk B a1 a2, .agg [.int .i64 (w : Int), .nils, .nils], .int .i64 fr]) (args0 := [bk B a1 a2, .agg [.int .i64 (w : Int), .nils, .nils], .int .i64 fr])
      ⟨bk_arg h1 h2 rfl rfl, ArgW.agg (show ArgsW _ [.int .i64 (w : Int), .nils, .nils] [.int .i64 (w : Int), .nils, .nils] from ⟨.pl (fun _ => rfl), .pl Pl.nils, .pl Pl.nils, trivial⟩), .pl (fun _ => rfl), trivial⟩) (fun v1 H1 c1 ⟨g1, g2, g3⟩ => ?_) fl
  · rw [grI_ren (fun y => c + y) (y := c) rfl] at this
    exact this
  · refine ⟨by rw [g1, grI_ren (fun y => 4 + tGo y) (y := 7) rfl], by omega, fun x o hx => ?_⟩
    rw [ofM_get] at hx
    by_cases hk : ∀ e ∈ goM B c L, e.1 ≠ x
    · rw [look_skip hk] at hx
      exact .inl ⟨hm x o hx, getM hx⟩
    · obtain ⟨e, he⟩ := Classical.not_forall.1 hk
      obtain ⟨he1, he2⟩ := Classical.not_imp.1 he
      have hex : e.1 = x := Classical.byContradiction he2
      refine .inr ?_
      have h5 : ∃ o2, lookM (goM B c L) x = some o2 := by
        rcases List.mem_append.1 he1 with h | h
        · have hL : L ≠ [] := fun q => by rw [q] at h; cases h
          have := ouM_keys e h
          rw [hex] at this
          subst this
          exact ⟨_, goM_list hL⟩
        · obtain ⟨j, hj, h2⟩ := keys_tms _ _ e h
          rw [hex, Nat.zero_add] at h2
          have := goM_tr (B := B) (c := c) (List.getElem?_eq_getElem hj)
          rcases h2 with rfl | rfl
          · exact ⟨_, this.1⟩
          · exact ⟨_, this.2⟩
      obtain ⟨o2, h5⟩ := h5
      have h6 := look_app (gs := m) h5
      rw [hx] at h6
      cases h6
      have eA : ∀ j, j < L.length → 4 + tGo (1 + 2 * j) = fA j ∧ 4 + tGo (2 + 2 * j) = gA j := fun j hj => by
        unfold tGo fA gA
        rw [if_neg (by omega), if_neg (by omega)]; omega
      have eC : ∀ j, c + (1 + 2 * j) = fC c j ∧ c + (2 + 2 * j) = gC c j := fun j => by unfold fC gC; omega
      rcases goM_look h5 with ⟨rfl, hne, rfl⟩ | ⟨j, u, hj, h | h⟩
      · refine ⟨0, .grown (tcsF (fun j => 1 + 2 * j) (fun j => 2 + 2 * j) B.ns 0 L) 3, by omega, ?_, ?_⟩
        · show H1.get 7 = some (AObj.grown (AV.rens _ (tcsF _ _ B.ns 0 L)) 3)
          rw [tcsF_ren, g3 7 _ (goA_list hne)]
          refine congrArg some (congrArg (fun cs => AObj.grown cs 3) ?_)
          exact tcsF_congr L 0 0 fun j hj => by
            rw [Nat.zero_add]
            exact ⟨(eA j hj).1.symm, (eA j hj).2.symm⟩
        · show _ = AObj.grown (AV.rens _ (tcsF _ _ B.ns 0 L)) 3
          rw [tcsF_ren]
          refine congrArg (fun cs => AObj.grown cs 3) ?_
          exact tcsF_congr L 0 0 fun j hj => by
            rw [Nat.zero_add]
            exact ⟨(eC j).1.symm, (eC j).2.symm⟩
      · obtain ⟨rfl, rfl⟩ := h
        have hjl : j < L.length := Classical.byContradiction fun q => by rw [List.getElem?_eq_none (by omega)] at hj; cases hj
        refine ⟨1 + 2 * j, .grown (fE u.r B.ns) 1, (eC j).1.symm, ?_, (ren_grown _ _ _ _).symm⟩
        rw [ren_grown, (eA j hjl).1]
        exact g3 _ _ (goA_tr hj).1
      · obtain ⟨rfl, rfl⟩ := h
        have hjl : j < L.length := Classical.byContradiction fun q => by rw [List.getElem?_eq_none (by omega)] at hj; cases hj
        refine ⟨2 + 2 * j, .grown (fE u.c B.ns) 1, (eC j).2.symm, ?_, (ren_grown _ _ _ _).symm⟩
        rw [ren_grown, (eA j hjl).2]
        exact g3 _ _ (goA_tr hj).2
end Go.Proofs.Ytlnmcadbmpiopaa
/- The reference of layer 6: truths. -/
namespace Go.Proofs.Ytlnmcadbmpiopaa
open Go Go.Ev
theorem p2_wk {B : CBook} {a1 a2 : AV} (h1 : IsSl a1 B.ns 0) (h2 : IsSl a2 B.nc 1) {m : List (Nat × Option AObj)} (g2 : lookM m 2 = some (.cells (bk B a1 a2).cells)) (g0 : lookM m 0 = some (oSt B)) (g1 : lookM m 1 = some (oCk B)) :
    allM (fun y o => lookM m y = some o ∧ ∀ σ : Nat → Nat, (∀ z, z < 7 → σ z = z) → o.ren σ = o) [(2, some (.cells (bk B a1 a2).cells)), (0, some (oSt B)), (1, some (oCk B))] :=
  ⟨⟨g2, fun σ h => bkc_ren h1 h2 (h 0 (by decide)) (h 1 (by decide))⟩, ⟨g0, fun σ h => ren_ro _ _ _⟩, ⟨g1, fun σ h => ren_ro _ _ _⟩, trivial⟩
theorem p2_keys {B : CBook} {a1 a2 : AV} : ∀ e ∈ ([(2, some (.cells (bk B a1 a2).cells)), (0, some (oSt B)), (1, some (oCk B))] : List (Nat × Option AObj)), e.1 < 7 := fun e he => by
  simp at he
  rcases he with rfl | rfl | rfl <;> simp
theorem p2_low {B : CBook} {a1 a2 : AV} {L : List Tru} (hL : L.length ≤ 60000) : ∀ x o, lookM ([(2, some (.cells (bk B a1 a2).cells)), (0, some (oSt B)), (1, some (oCk B))] ++ (ouM fA gA B.ns 7 L ++ tmsF fA gA B.ns 0 L)) x = some o → x < 200000 := fun x o h => by
  obtain ⟨e, he, hx⟩ := List.mem_map.1 (lookM_mem h)
  rcases List.mem_append.1 he with h1 | h1
  · have := p2_keys e h1
    omega
  · have := goA_keys (B := B) (L := L) e h1
    omega
theorem goes_root {B : CBook} {a1 a2 : AV} {w : Nat} (h1 : IsSl a1 B.ns 0) (h2 : IsSl a2 B.nc 1) (hB : bk5 B) (hw3 : w < 3) {m : List (Nat × Option AObj)} {c : Nat} (hm : ∀ x o, lookM m x = some o → x < c) (m0 : lookM m 0 = some (oSt B)) (m1 : lookM m 1 = some (oCk B)) (fl : Nat) :
    OkAt 0 Try.prog fl 89 [bk B a1 a2, .agg [.int .i64 (w : Int), .nils, .nils], .int .i64 0] (ofM m) c (grI c (gL B B.ns 0 (tru0 w) 0).length) (ofM (goM B c (gL B B.ns 0 (tru0 w) 0) ++ m)) (c + 100000) := by
  have hns := hB.1.1
  obtain ⟨n, hn⟩ : ∃ n, B.ns = n + 1 := ⟨B.ns - 1, by omega⟩
  have hlen : (gL B B.ns 0 (tru0 w) 0).length ≤ 20000 := by
    refine Nat.le_trans (gL_len hB B.ns 0 (tru0 w) 0 (by omega)) ?_
    obtain h | h | h : B.ns = 1 ∨ B.ns = 2 ∨ B.ns = 3 := by omega
    all_goals (rw [h]; decide)
  refine goes_at0 (t := tru0 w) h1 h2 hlen ?_ hm m0 m1 fl
  have := goes_can h1 h2 hB hw3 n 0 (tru0 w) 0 .nils .nils (IsSl.nils 2) (IsSl.nils 3) (by omega) rfl (Int.le_refl _) (by simp)
  rw [← hn] at this
  exact this
set_option maxRecDepth 100000 in
set_option maxHeartbeats 4000000 in
theorem rtruths_can5 (B : CBook) (a1 a2 : AV) (h1 : IsSl a1 B.ns 0) (h2 : IsSl a2 B.nc 1) (hB : bk5 B) : CanS 0 Try.prog 51 2 [bk B a1 a2] [(0, some (oSt B)), (1, some (oCk B))] 2 fun v H1 c1 => v = grI 7 (gW B).length ∧ c1 ≤ 200000 ∧ ∀ x o, lookM (goA B (gW B)) x = some o → H1.get x = some o := by
  refine CanS.mk Try.func51 rfl rfl rfl ?_
  repeat' (first | refine RT.nil ?_ | refine sq_n ?_ | refine Tr.seq ?_ | refine Tr.region ?_ | refine Tr.block ?_ | (refine RT.goK rfl rfl rfl rfl ?_; apply Nx.of; (first | exact S.assign | exact S.box)))
  refine Tr.loop (fun q : Nat => let L := gWk B q; stL Try.f51.ntmps [] ((3, grI 7 L.length) :: [(1, .ptr 2 0), (4, .int .i64 (q : Int))]) ([(2, some (.cells (bk B a1 a2).cells)), (0, some (oSt B)), (1, some (oCk B))] ++ (ouM fA gA B.ns 7 L ++ tmsF fA gA B.ns 0 L)) 200000) (fun q => q ≤ 3) (fun q => 3 - q) 0 (Nat.zero_le _) ?_ (fun q hq => ?_)
  · exact fam_wk (tt := 3) (L := []) (L' := []) (A := 100000) (A' := 100001) (x := 7) (n := B.ns) (P := [(2, some (.cells (bk B a1 a2).cells)), (0, some (oSt B)), (1, some (oCk B))]) (by decide) (by decide) (by decide) (by decide) (by decide) (.inl rfl) (.inl rfl) ⟨rfl, rfl, trivial⟩ rfl (p2_wk h1 h2 rfl rfl rfl) p2_keys (fun h => absurd rfl h) (fun j u hu => by simp at hu) (fun j u hu => by simp at hu)
  have hlen := gWk_len5 hB q
  obtain ⟨L, hL⟩ : ∃ l, gWk B q = l := ⟨_, rfl⟩
  rw [hL] at hlen
  have hl6 : L.length ≤ 60000 := by omega
  show Tr _ _ _ _ _ _ (stL _ _ ((3, grI 7 (gWk B q).length) :: [(1, .ptr 2 0), (4, .int .i64 (q : Int))]) ([(2, some (.cells (bk B a1 a2).cells)), (0, some (oSt B)), (1, some (oCk B))] ++ (ouM fA gA B.ns 7 (gWk B q) ++ tmsF fA gA B.ns 0 (gWk B q))) _) _
  rw [hL]
  by_cases hlt : q < 3
  · have hlt' : (q : Int) < 3 := by omega
    by_cases hw : hasP B.wea q
    · have hI : AV.bool (dB (hasP B.wea q)) = .bool true := by rw [dB_tt hw]
      obtain ⟨L', hL'⟩ : ∃ l, gL B B.ns 0 (tru0 q) 0 = l := ⟨_, rfl⟩
      have hgo : ∀ fl, OkAt 0 Try.prog fl 89 [bk B a1 a2, .agg [.int .i64 (q : Int), .nils, .nils], .int .i64 0] (ofM ([(2, some (.cells (bk B a1 a2).cells)), (0, some (oSt B)), (1, some (oCk B))] ++ (ouM fA gA B.ns 7 L ++ tmsF fA gA B.ns 0 L))) 200000 (grI 200000 L'.length) (ofM (goM B 200000 L' ++ ([(2, some (.cells (bk B a1 a2).cells)), (0, some (oSt B)), (1, some (oCk B))] ++ (ouM fA gA B.ns 7 L ++ tmsF fA gA B.ns 0 L)))) 300000 := fun fl => by
        have := goes_root h1 h2 hB hlt (p2_low (B := B) (a1 := a1) (a2 := a2) hl6) rfl rfl fl
        rw [hL'] at this
        exact this
      have e1 : gw1 B q = L' := by unfold gw1; rw [dB_tt hw]; exact hL'
      have hlL' : L'.length ≤ 19683 := e1 ▸ gw1_len hB q
      have e : gWk B (q + 1) = L ++ L' := by rw [gWk, hL, e1]
      have hq2 : L.length ≤ 2 * 19683 := Nat.le_trans hlen (Nat.mul_le_mul_right _ (by omega))
      have hold : ∀ j u, L[j]? = some u → lookM ([(2, some (.cells (bk B a1 a2).cells)), (0, some (oSt B)), (1, some (oCk B))] ++ (ouM fA gA B.ns 7 L ++ tmsF fA gA B.ns 0 L)) (fA j) = some (.grown (fE u.r B.ns) 1) ∧ lookM ([(2, some (.cells (bk B a1 a2).cells)), (0, some (oSt B)), (1, some (oCk B))] ++ (ouM fA gA B.ns 7 L ++ tmsF fA gA B.ns 0 L)) (gA j) = some (.grown (fE u.c B.ns) 1) := fun j u hu => by
        have hj : j < L.length := Classical.byContradiction fun q => by rw [List.getElem?_eq_none (by omega)] at hu; cases hu
        have := goA_tr (B := B) hu
        have sk : ∀ x, 100 ≤ x → lookM ([(2, some (.cells (bk B a1 a2).cells)), (0, some (oSt B)), (1, some (oCk B))] ++ (ouM fA gA B.ns 7 L ++ tmsF fA gA B.ns 0 L)) x = lookM (goA B L) x := fun x h1 => look_skip fun e he => by have := p2_keys e he; omega
        rw [sk (fA j) (by unfold fA; omega), sk (gA j) (by unfold gA; omega)]
        exact this
      have hkeep : ∀ {x : Nat} {o : AObj}, x < 200000 → lookM ([(2, some (.cells (bk B a1 a2).cells)), (0, some (oSt B)), (1, some (oCk B))] ++ (ouM fA gA B.ns 7 L ++ tmsF fA gA B.ns 0 L)) x = some o → lookM (goM B 200000 L' ++ ([(2, some (.cells (bk B a1 a2).cells)), (0, some (oSt B)), (1, some (oCk B))] ++ (ouM fA gA B.ns 7 L ++ tmsF fA gA B.ns 0 L))) x = some o := fun {x o} hx h => (look_skip fun e he => by have := goM_keys e he; omega).trans h
      by_cases hLe : L' = []
      · subst hLe
        replace hgo : ∀ fl, OkAt 0 Try.prog fl 89 [bk B a1 a2, .agg [.int .i64 (q : Int), .nils, .nils], .int .i64 0] (ofM ([(2, some (.cells (bk B a1 a2).cells)), (0, some (oSt B)), (1, some (oCk B))] ++ (ouM fA gA B.ns 7 L ++ tmsF fA gA B.ns 0 L))) 200000 .nils (ofM ([(2, some (.cells (bk B a1 a2).cells)), (0, some (oSt B)), (1, some (oCk B))] ++ (ouM fA gA B.ns 7 L ++ tmsF fA gA B.ns 0 L))) 300000 := hgo
        clear hL
        cases L with
          | nil =>
            have hz : AV.nils = .nils ∨ ∃ a olds, AV.nils = .gs a 0 ∧ lookM ([(2, some (.cells (bk B a1 a2).cells)), (0, some (oSt B)), (1, some (oCk B))] ++ (ouM fA gA B.ns 7 [] ++ tmsF fA gA B.ns 0 [])) a = some (.grown olds 3) ∧ cut olds 0 (0 * 3) = some olds := .inl rfl
            repeat' (first | refine RT.nil ?_ | refine sq_n ?_ | refine Tr.seq ?_ | refine Tr.region ?_ | refine Tr.cond_t rfl ?_ | refine Tr.skip ?_ | refine Tr.block ?_ | refine blk_n ?_ | (refine RT.goK rfl rfl rfl rfl ?_; first | refine Nx.of (S.lss_t hlt') ?_) | (refine RT.call rfl rfl rfl (val_is hI (In_at _ _ (by omega) _ _ _)) rfl rfl (Nat.le_refl _) ?_) | (refine RT.call rfl rfl rfl (hgo _) rfl rfl (by decide) ?_) | (refine RT.goK rfl rfl rfl rfl ?_; refine Nx.of (S.append_z (s := 0) (cs := []) rfl rfl rfl rfl rfl rfl rfl hz) ?_) | (refine RT.goK rfl rfl rfl rfl ?_; apply Nx.of; (first | exact S.move | exact S.assign | exact S.load1c rfl rfl rfl rfl | exact S.loadNc rfl rfl rfl rfl | exact S.fieldAddr rfl rfl rfl | exact S.add_one (by omega) | exact S.build rfl rfl rfl)))
            refine lp_n (q + 1) (by omega) (by omega) ?_
            show Wk _ _ _ _ (stL _ _ ((3, grI 7 (gWk B (q + 1)).length) :: [(1, .ptr 2 0), (4, .int .i64 ((q + 1 : Nat) : Int))]) ([(2, some (.cells (bk B a1 a2).cells)), (0, some (oSt B)), (1, some (oCk B))] ++ (ouM fA gA B.ns 7 (gWk B (q + 1)) ++ tmsF fA gA B.ns 0 (gWk B (q + 1)))) _)
            rw [e]
            exact fam_wk (tt := 3) (L := []) (L' := []) (A := 100000) (A' := 100001) (x := 7) (n := B.ns) (P := [(2, some (.cells (bk B a1 a2).cells)), (0, some (oSt B)), (1, some (oCk B))]) (by decide) (by decide) (by decide) (by decide) (by decide) (.inl rfl) (.inl rfl) ⟨rfl, congrArg some (congrArg (AV.int .i64) (by omega)), trivial⟩ rfl (p2_wk h1 h2 rfl rfl rfl) p2_keys (fun h => absurd rfl h) (fun j u hu => by simp at hu) (fun j u hu => by simp at hu)
          | cons a l =>
            have hz : AV.gs 7 (l.length + 1) = .nils ∨ ∃ b olds, AV.gs 7 (l.length + 1) = .gs b (l.length + 1) ∧ lookM ([(2, some (.cells (bk B a1 a2).cells)), (0, some (oSt B)), (1, some (oCk B))] ++ (ouM fA gA B.ns 7 (a :: l) ++ tmsF fA gA B.ns 0 (a :: l))) b = some (.grown olds 3) ∧ cut olds 0 ((l.length + 1) * 3) = some olds := .inr ⟨7, _, rfl, rfl, cut_all (tcsF_len (a :: l) 0)⟩
            repeat' (first | refine RT.nil ?_ | refine sq_n ?_ | refine Tr.seq ?_ | refine Tr.region ?_ | refine Tr.cond_t rfl ?_ | refine Tr.skip ?_ | refine Tr.block ?_ | refine blk_n ?_ | (refine RT.goK rfl rfl rfl rfl ?_; first | refine Nx.of (S.lss_t hlt') ?_) | (refine RT.call rfl rfl rfl (val_is hI (In_at _ _ (by omega) _ _ _)) rfl rfl (Nat.le_refl _) ?_) | (refine RT.call rfl rfl rfl (hgo _) rfl rfl (by decide) ?_) | (refine RT.goK rfl rfl rfl rfl ?_; refine Nx.of (S.append_z (s := 0) (cs := []) rfl rfl rfl rfl rfl rfl rfl hz) ?_) | (refine RT.goK rfl rfl rfl rfl ?_; apply Nx.of; (first | exact S.move | exact S.assign | exact S.load1c rfl rfl rfl rfl | exact S.loadNc rfl rfl rfl rfl | exact S.fieldAddr rfl rfl rfl | exact S.add_one (by omega) | exact S.build rfl rfl rfl)))
            refine lp_n (q + 1) (by omega) (by omega) ?_
            show Wk _ _ _ _ (stL _ _ ((3, grI 7 (gWk B (q + 1)).length) :: [(1, .ptr 2 0), (4, .int .i64 ((q + 1 : Nat) : Int))]) ([(2, some (.cells (bk B a1 a2).cells)), (0, some (oSt B)), (1, some (oCk B))] ++ (ouM fA gA B.ns 7 (gWk B (q + 1)) ++ tmsF fA gA B.ns 0 (gWk B (q + 1)))) _)
            rw [e]
            have hla : (a :: l).length = l.length + 1 := rfl
            refine fam_wk (tt := 3) (L := a :: l) (L' := []) (A := 100000) (A' := 100001) (x := 7) (n := B.ns) (P := [(2, some (.cells (bk B a1 a2).cells)), (0, some (oSt B)), (1, some (oCk B))]) (by decide) (by decide) (by simp only [List.length_nil]; omega) (by omega) (by omega) (.inl rfl) (.inl rfl) ⟨rfl, congrArg some (congrArg (AV.int .i64) (by omega)), trivial⟩ ?_ (p2_wk h1 h2 rfl rfl rfl) p2_keys (fun _ => ?_) hold (fun j u hu => by simp at hu)
            · rw [List.append_nil]; rfl
            · show _ = some (AObj.grown (tcsF fA gA B.ns 0 (a :: l) ++ []) 3)
              rw [List.append_nil]
              rfl
      · have hlp : 0 < L'.length := List.length_pos_iff.2 hLe
        have hn0 := hlp
        have hn6 : L'.length ≤ 1000000 := by omega
        have eg : ∀ x, grI x L'.length = .gs x L'.length := fun x => by
          cases hq : L'.length with
          | zero => omega
          | succ n => rfl
        rw [eg] at hgo
        have hS : SlC (goM B 200000 L' ++ ([(2, some (.cells (bk B a1 a2).cells)), (0, some (oSt B)), (1, some (oCk B))] ++ (ouM fA gA B.ns 7 L ++ tmsF fA gA B.ns 0 L))) (.gs 200000 L'.length) L'.length 3 (tcsF (fC 200000) (gC 200000) B.ns 0 L') := SlC.gs (look_app (goM_list hLe)) rfl (tcsF_len _ _)
        have gtr : ∀ j u, L'[j]? = some u → lookM (goM B 200000 L' ++ ([(2, some (.cells (bk B a1 a2).cells)), (0, some (oSt B)), (1, some (oCk B))] ++ (ouM fA gA B.ns 7 L ++ tmsF fA gA B.ns 0 L))) (200001 + 2 * j) = some (.grown (fE u.r B.ns) 1) ∧ lookM (goM B 200000 L' ++ ([(2, some (.cells (bk B a1 a2).cells)), (0, some (oSt B)), (1, some (oCk B))] ++ (ouM fA gA B.ns 7 L ++ tmsF fA gA B.ns 0 L))) (200002 + 2 * j) = some (.grown (fE u.c B.ns) 1) := fun j u hu => by
          have := goM_tr (B := B) (c := 200000) hu
          unfold fC gC at this
          exact ⟨look_app this.1, look_app this.2⟩
        have hnew : ∀ j u, L'[j]? = some u → j < L'.length := fun j u hu => Classical.byContradiction fun q => by rw [List.getElem?_eq_none (by omega)] at hu; cases hu
        clear hL
        cases L with
          | nil =>
            repeat' (first | refine RT.nil ?_ | refine sq_n ?_ | refine Tr.seq ?_ | refine Tr.region ?_ | refine Tr.cond_t rfl ?_ | refine Tr.skip ?_ | refine Tr.block ?_ | refine blk_n ?_ | (refine RT.goK rfl rfl rfl rfl ?_; first | refine Nx.of (S.lss_t hlt') ?_) | (refine RT.call rfl rfl rfl (val_is hI (In_at _ _ (by omega) _ _ _)) rfl rfl (Nat.le_refl _) ?_) | (refine RT.call rfl rfl rfl (hgo _) rfl rfl (by decide) ?_) | (refine RT.goK rfl rfl rfl rfl ?_; refine Nx.of (S.append_n rfl rfl rfl rfl rfl rfl rfl rfl rfl hS hn6 hn0) ?_) | (refine RT.goK rfl rfl rfl rfl ?_; apply Nx.of; (first | exact S.move | exact S.assign | exact S.load1c rfl rfl rfl rfl | exact S.loadNc rfl rfl rfl rfl | exact S.fieldAddr rfl rfl rfl | exact S.add_one (by omega) | exact S.build rfl rfl rfl)))
            refine lp_n (q + 1) (by omega) (by omega) ?_
            show Wk _ _ _ _ (stL _ _ ((3, grI 7 (gWk B (q + 1)).length) :: [(1, .ptr 2 0), (4, .int .i64 ((q + 1 : Nat) : Int))]) ([(2, some (.cells (bk B a1 a2).cells)), (0, some (oSt B)), (1, some (oCk B))] ++ (ouM fA gA B.ns 7 (gWk B (q + 1)) ++ tmsF fA gA B.ns 0 (gWk B (q + 1)))) _)
            rw [e]
            refine fam_wk (tt := 3) (L := []) (L' := L') (A := 200001) (A' := 200002) (x := 300000) (n := B.ns) (P := [(2, some (.cells (bk B a1 a2).cells)), (0, some (oSt B)), (1, some (oCk B))]) (by decide) (by decide) (by simp only [List.length_nil]; omega) (by decide) (by decide) (.inl rfl) (.inr ⟨by omega, by omega, by decide⟩) ⟨rfl, congrArg some (congrArg (AV.int .i64) (by omega)), trivial⟩ (congrArg some (eg 300000).symm) (p2_wk h1 h2 ?_ ?_ ?_) p2_keys (fun _ => lookM_hd) (fun j u hu => by simp at hu) (fun j u hu => ?_)
            iterate 3 exact (lookM_tl (by decide)).trans (hkeep (by decide) rfl)
            have := hnew j u hu
            exact ⟨(lookM_tl (by omega)).trans (gtr j u hu).1, (lookM_tl (by omega)).trans (gtr j u hu).2⟩
          | cons a l =>
            have h7 : lookM (goM B 200000 L' ++ ([(2, some (.cells (bk B a1 a2).cells)), (0, some (oSt B)), (1, some (oCk B))] ++ (ouM fA gA B.ns 7 (a :: l) ++ tmsF fA gA B.ns 0 (a :: l)))) 7 = some (.grown (tcsF fA gA B.ns 0 (a :: l)) 3) := hkeep (by decide) rfl
            have hla : (a :: l).length = l.length + 1 := rfl
            have hc7 : cut (tcsF fA gA B.ns 0 (a :: l)) 0 ((l.length + 1) * 3) = some (tcsF fA gA B.ns 0 (a :: l)) := cut_all (tcsF_len (a :: l) 0)
            have hk7 : l.length + 1 ≤ 1000000 := by omega
            have hone := tcsF_one (f := fC 200000) (g := gC 200000) (k := B.ns) L' 0
            repeat' (first | refine RT.nil ?_ | refine sq_n ?_ | refine Tr.seq ?_ | refine Tr.region ?_ | refine Tr.cond_t rfl ?_ | refine Tr.skip ?_ | refine Tr.block ?_ | refine blk_n ?_ | (refine RT.goK rfl rfl rfl rfl ?_; first | refine Nx.of (S.lss_t hlt') ?_) | (refine RT.call rfl rfl rfl (val_is hI (In_at _ _ (by omega) _ _ _)) rfl rfl (Nat.le_refl _) ?_) | (refine RT.call rfl rfl rfl (hgo _) rfl rfl (by decide) ?_) | (refine RT.goK rfl rfl rfl rfl ?_; refine Nx.of (S.append_g rfl rfl rfl rfl rfl rfl rfl rfl rfl hS hn6 hn0 h7 rfl hc7 hk7 hone) ?_) | (refine RT.goK rfl rfl rfl rfl ?_; apply Nx.of; (first | exact S.move | exact S.assign | exact S.load1c rfl rfl rfl rfl | exact S.loadNc rfl rfl rfl rfl | exact S.fieldAddr rfl rfl rfl | exact S.add_one (by omega) | exact S.build rfl rfl rfl)))
            refine lp_n (q + 1) (by omega) (by omega) ?_
            show Wk _ _ _ _ (stL _ _ ((3, grI 7 (gWk B (q + 1)).length) :: [(1, .ptr 2 0), (4, .int .i64 ((q + 1 : Nat) : Int))]) ([(2, some (.cells (bk B a1 a2).cells)), (0, some (oSt B)), (1, some (oCk B))] ++ (ouM fA gA B.ns 7 (gWk B (q + 1)) ++ tmsF fA gA B.ns 0 (gWk B (q + 1)))) _)
            rw [e]
            refine fam_wk (tt := 3) (L := a :: l) (L' := L') (A := 200001) (A' := 200002) (x := 300000) (n := B.ns) (P := [(2, some (.cells (bk B a1 a2).cells)), (0, some (oSt B)), (1, some (oCk B))]) (by decide) (by decide) (by omega) (by omega) (by omega) (.inl rfl) (.inr ⟨by omega, by omega, by omega⟩) ⟨rfl, congrArg some (congrArg (AV.int .i64) (by omega)), trivial⟩ ?_ (p2_wk h1 h2 ?_ ?_ ?_) p2_keys (fun _ => lookM_hd) (fun j u hu => ?_) (fun j u hu => ?_)
            · show some (AV.gs 300000 (l.length + 1 + L'.length)) = some (grI 300000 ((a :: l) ++ L').length)
              rw [List.length_append, hla, show l.length + 1 + L'.length = (l.length + L'.length) + 1 by omega]
              rfl
            iterate 3 exact (lookM_tl (by decide)).trans ((lookM_tl (by decide)).trans (hkeep (by decide) rfl))
            · have hj : j < (a :: l).length := Classical.byContradiction fun q => by rw [List.getElem?_eq_none (by omega)] at hu; cases hu
              have := hold j u hu
              have b1 : fA j < 200000 ∧ 7 < fA j := by unfold fA; omega
              have b2 : gA j < 200000 ∧ 7 < gA j := by unfold gA; omega
              exact ⟨(lookM_tl (by omega)).trans ((lookM_tl (by omega)).trans (hkeep (by omega) this.1)), (lookM_tl (by omega)).trans ((lookM_tl (by omega)).trans (hkeep (by omega) this.2))⟩
            · have := hnew j u hu
              exact ⟨(lookM_tl (by omega)).trans ((lookM_tl (by omega)).trans (gtr j u hu).1), (lookM_tl (by omega)).trans ((lookM_tl (by omega)).trans (gtr j u hu).2)⟩
    · have hI : AV.bool (dB (hasP B.wea q)) = .bool false := by rw [dB_ff hw]
      repeat' (first | refine RT.nil ?_ | refine sq_n ?_ | refine Tr.seq ?_ | refine Tr.region ?_ | refine Tr.cond_t rfl ?_ | refine Tr.cond_f rfl ?_ | refine Tr.skip ?_ | refine Tr.block ?_ | refine blk_n ?_ | (refine RT.goK rfl rfl rfl rfl ?_; first | refine Nx.of (S.lss_t hlt') ?_) | (refine RT.call rfl rfl rfl (val_is hI (In_at _ _ (by omega) _ _ _)) rfl rfl (Nat.le_refl _) ?_) | (refine RT.goK rfl rfl rfl rfl ?_; apply Nx.of; (first | exact S.move | exact S.assign | exact S.load1c rfl rfl rfl rfl | exact S.fieldAddr rfl rfl rfl | exact S.add_one (by omega))))
      refine lp_n (q + 1) (by omega) (by omega) ?_
      have e : gWk B (q + 1) = L := by
        rw [gWk, hL, show gw1 B q = [] by unfold gw1; rw [dB_ff hw]; rfl, List.append_nil]
      show Wk _ _ _ _ (stL _ _ ((3, grI 7 (gWk B (q + 1)).length) :: [(1, .ptr 2 0), (4, .int .i64 ((q + 1 : Nat) : Int))]) ([(2, some (.cells (bk B a1 a2).cells)), (0, some (oSt B)), (1, some (oCk B))] ++ (ouM fA gA B.ns 7 (gWk B (q + 1)) ++ tmsF fA gA B.ns 0 (gWk B (q + 1)))) _)
      rw [e]
      exact Wk.temps (by decide) (by decide) (by decide) ⟨rfl, rfl, congrArg some (congrArg (AV.int .i64) (by omega)), trivial⟩
  · have hlt' : ¬ (q : Int) < 3 := by omega
    repeat' (first | refine RT.nil ?_ | refine sq_n ?_ | refine Tr.seq ?_ | refine Tr.region ?_ | refine Tr.cond_f rfl ?_ | refine Tr.ret ?_ | refine Tr.exit ?_ | refine sq_x ?_ | refine blk_hit rfl ?_ | refine lp_x ?_ | (refine RT.goK rfl rfl rfl rfl ?_; first | refine Nx.of (S.lss_f hlt') ?_) | (refine RT.goK rfl rfl rfl rfl ?_; apply Nx.of; (first | exact S.move | exact S.assign)))
    (first | refine rt_go rfl ?_)
    have hq3 : q = 3 := by omega
    have hLL : L = gW B := by rw [← hL, hq3]; rfl
    rw [← hLL]
    refine ⟨rfl, Nat.le_refl _, fun x o hx => ?_⟩
    rw [ofM_get]
    refine (look_skip fun e he => ?_).trans hx
    have h3 := p2_keys e he
    obtain ⟨e', he', hex⟩ := List.mem_map.1 (lookM_mem hx)
    have := goA_keys (B := B) (L := L) e' he'
    omega
end Go.Proofs.Ytlnmcadbmpiopaa
/- The reference of layer 6: isStage; Union, ends. -/
namespace Go.Proofs.Ytlnmcadbmpiopaa
open Go Go.Ev
set_option maxRecDepth 100000 in
theorem isStage6_can (B : CBook) (a1 a2 : AV) (h1 : IsSl a1 B.ns 0) (hn : B.ns ≤ 9223372036854775807) (n : Int) : CanS 0 Try.prog 59 2 [bk B a1 a2, .int .i64 n] [(0, some (oSt B)), (1, some (oCk B))] 2 fun v _ _ => v = .bool (dB (stQ B n)) := by
  refine CanS.mk Try.func59 rfl rfl rfl ?_
  repeat' (first | refine RT.nil ?_ | refine sq_n ?_ | refine Tr.seq ?_ | refine Tr.region ?_ | refine Tr.ret ?_ | (refine RT.call rfl rfl rfl (Amid_at _ _ _ _ _ _) rfl rfl (Nat.le_refl _) ?_) | (refine RT.goK rfl rfl rfl rfl ?_; apply Nx.of; (first | exact S.move | exact S.assign | exact S.load1c rfl rfl rfl rfl | exact S.fieldAddr rfl rfl rfl | exact S.box | exact S.sub (by unfold In64; omega))) | (refine RT.goK rfl rfl rfl rfl ?_; apply Nx.of; (first | exact S.len_sl rfl rfl rfl (by assumption))))
  (first | refine rt_go rfl ?_)
  refine congrArg AV.bool ?_
  unfold dB stQ
  exact decide_eq_decide.2 Iff.rfl
theorem isStage6_at {B : CBook} {a1 a2 : AV} {m : List (Nat × Option AObj)} {c : Nat} (h : BkIn B a1 a2 m c) (hn : B.ns ≤ 9223372036854775807) (n : Int) (fl : Nat) : OkAt 0 Try.prog fl 59 [bk B a1 a2, .int .i64 n] (ofM m) c (.bool (dB (stQ B n))) (ofM m) c :=
  (isStage6_can B a1 a2 h.h1 hn n).pure (.bool _) (h.entry _ fun _ => rfl) fl
noncomputable def uniF : CallFn := famA (α := Int × Int × Int × Int) 96 (fun a => [.agg [.int .i64 a.1, .int .i64 a.2.1], .agg [.int .i64 a.2.2.1, .int .i64 a.2.2.2]]) (fun a => .agg [.int .i64 (min a.1 a.2.2.1), .int .i64 (max a.2.1 a.2.2.2)]) fun _ _ _ => True
def loN (f : Nat → Int) : Nat → Int
  | 0 => f 0
  | k + 1 => min (loN f k) (f k)
def hiN (f : Nat → Int) : Nat → Int
  | 0 => f 0
  | k + 1 => max (hiN f k) (f k)
end Go.Proofs.Ytlnmcadbmpiopaa
/- The reference of layer 6: isClock, Check. -/
namespace Go.Proofs.Ytlnmcadbmpiopaa
open Go Go.Ev
set_option maxRecDepth 100000 in
theorem isClock6_can (B : CBook) (a1 a2 : AV) (h1 : IsSl a1 B.ns 0) (h2 : IsSl a2 B.nc 1) (hn : B.ns ≤ 9223372036854775807) (s r e : Int) : CanS 0 Try.prog 54 2 [bk B a1 a2, .agg [.int .i64 s, .int .i64 r, .int .i64 e]] [(0, some (oSt B)), (1, some (oCk B))] 2 fun v _ _ => v = .bool (dB (ckOk B s r e)) := by
  refine CanS.mk Try.func54 rfl rfl rfl ?_
  repeat' (first | refine RT.nil ?_ | refine sq_n ?_ | refine Tr.seq ?_ | refine Tr.region ?_ | refine Tr.ret ?_ | (refine RT.splitd rfl rfl (fun _ => ?_) (fun _ => ?_)) | (refine RT.call rfl rfl rfl (isStage6_at ⟨h1, h2, rfl, rfl, by decide⟩ hn _ _) rfl rfl (Nat.le_refl _) ?_) | (refine RT.call rfl rfl rfl (Amid_at _ _ _ _ _ _) rfl rfl (Nat.le_refl _) ?_) | (refine RT.goK rfl rfl rfl rfl ?_; apply Nx.of; (first | exact S.move | exact S.assign | exact S.load1c rfl rfl rfl rfl | exact S.loadNc rfl rfl rfl rfl | exact S.fieldAddr rfl rfl rfl | exact S.pick_tt | exact S.pick_ff | exact S.box)) | (refine RT.no rfl rfl rfl ?_))
  all_goals (first | refine rt_go rfl ?_)
  all_goals first | exact dB_no fun h => (by unfold ckOk at h; unfold stQ at *; omega) | (refine dB_iff ?_; unfold ckOk; unfold stQ at *; simp_all)
theorem isClock6_at {B : CBook} {a1 a2 : AV} {m : List (Nat × Option AObj)} {c : Nat} (h : BkIn B a1 a2 m c) (hn : B.ns ≤ 9223372036854775807) (s r e : Int) (fl : Nat) : OkAt 0 Try.prog fl 54 [bk B a1 a2, .agg [.int .i64 s, .int .i64 r, .int .i64 e]] (ofM m) c (.bool (dB (ckOk B s r e))) (ofM m) c :=
  (isClock6_can B a1 a2 h.h1 h.h2 hn s r e).pure (.bool _) (h.entry _ fun _ => rfl) fl
noncomputable def amidF : CallFn := famA (α := Int × Int × Int) 39 (fun a => [.int .i64 a.1, .int .i64 a.2.1, .int .i64 a.2.2]) (fun a => .bool (decide (a.2.1 ≤ a.1 ∧ a.1 ≤ a.2.2))) fun _ _ _ => True
theorem amidF_calm : CalmC 0 Try.prog amidF := famA_calm fun a fl H c _ => Amid_at a.1 a.2.1 a.2.2 H c fl
theorem amidF_at (n lo hi : Int) (b : Bool) (h : decide (lo ≤ n ∧ n ≤ hi) = b) (fl0 : Nat) (H : T AObj) (c : Nat) : amidF fl0 39 [.int .i64 n, .int .i64 lo, .int .i64 hi] H c = some (.bool b, H, c) := by
  subst h
  exact famA_at (α := Int × Int × Int) fl0 (n, lo, hi) trivial fun x h => by
    obtain ⟨x1, x2, x3⟩ := x
    simp only [List.cons.injEq, AV.int.injEq, true_and, and_true] at h
    obtain ⟨rfl, rfl, rfl⟩ := h
    rfl
noncomputable def saneF : CallFn := famA (α := Int × Int × Int × Int × Int) 53 (fun a => [.agg [.int .i64 a.1, .int .i64 a.2.1], .int .i64 a.2.2.1, .int .i64 a.2.2.2.1, .int .i64 a.2.2.2.2]) (fun a => .bool (decide (a.2.2.1 ≤ a.1 ∧ a.1 ≤ a.2.1 ∧ a.2.1 ≤ a.2.2.2.1 ∧ a.2.1 - a.1 ≤ a.2.2.2.2))) fun a _ _ => -100000 ≤ a.2.2.1 ∧ a.2.2.2.1 ≤ 100000
theorem saneF_calm : CalmC 0 Try.prog saneF := famA_calm fun a fl H c h => Sane_at a.1 a.2.1 a.2.2.1 a.2.2.2.1 a.2.2.2.2 h H c fl
theorem saneF_at (lo hi a b d : Int) (v : Bool) (hab : -100000 ≤ a ∧ b ≤ 100000) (h : decide (a ≤ lo ∧ lo ≤ hi ∧ hi ≤ b ∧ hi - lo ≤ d) = v) (fl0 : Nat) (H : T AObj) (c : Nat) : saneF fl0 53 [.agg [.int .i64 lo, .int .i64 hi], .int .i64 a, .int .i64 b, .int .i64 d] H c = some (.bool v, H, c) := by
  subst h
  exact famA_at (α := Int × Int × Int × Int × Int) fl0 (lo, hi, a, b, d) hab fun x h => by
    obtain ⟨x1, x2, x3, x4, x5⟩ := x
    simp only [List.cons.injEq, AV.agg.injEq, AV.int.injEq, true_and, and_true] at h
    obtain ⟨⟨rfl, rfl⟩, rfl, rfl, rfl⟩ := h
    rfl
noncomputable def clF6 (B : CBook) (a1 a2 : AV) (s r e : Int) (v : Bool) : CallFn := one1 54 [bk B a1 a2, .agg [.int .i64 s, .int .i64 r, .int .i64 e]] (.bool v) fun H c => ∃ m, H = ofM m ∧ BkIn B a1 a2 m c
end Go.Proofs.Ytlnmcadbmpiopaa
/- The reference of layer 6: Check. -/
namespace Go.Proofs.Ytlnmcadbmpiopaa
open Go Go.Ev
theorem clF6_calm {B : CBook} {a1 a2 : AV} (hn : B.ns ≤ 9223372036854775807) (s r e : Int) (v : Bool) (hv : dB (ckOk B s r e) = v) : CalmC 0 Try.prog (clF6 B a1 a2 s r e v) := one1_calm fun fl H c ⟨m, hm, h⟩ => by subst hm hv; exact isClock6_at h hn s r e fl
theorem ck60 {B : CBook} (h : ¬ bkOk B) : AV.int .i64 60 = .int .i64 (ckV B) := by unfold ckV; rw [dB_ff h]; rfl
theorem ck0 {B : CBook} (h : bkOk B) : AV.int .i64 0 = .int .i64 (ckV B) := by unfold ckV; rw [dB_tt h]; rfl
def shOk (B : CBook) : Prop := (1 ≤ B.ns ∧ B.ns ≤ 3) ∧ (1 ≤ B.wea ∧ B.wea ≤ 7) ∧ B.nc ≤ 4 ∧ 0 ≤ B.rate ∧ B.rate ≤ 99
set_option maxRecDepth 100000 in
set_option maxHeartbeats 4000000 in
theorem Check6_can (B : CBook) (a1 a2 : AV) (h1 : IsSl a1 B.ns 0) (h2 : IsSl a2 B.nc 1) (hn : B.ns ≤ 9223372036854775807) : CanS 0 Try.prog 12 2 [bk B a1 a2] [(0, some (oSt B)), (1, some (oCk B))] 2 fun v _ _ => v = .int .i64 (ckV B) := by
  refine CanS.mk Try.func12 rfl rfl rfl ?_
  by_cases hr : 0 ≤ B.rate ∧ B.rate ≤ 99
  · have hR : AV.bool (decide (0 ≤ B.rate ∧ B.rate ≤ 99)) = .bool true := by rw [decide_eq_true hr]
    repeat' (first | refine RT.nil ?_ | refine sq_n ?_ | refine Tr.seq ?_ | refine Tr.region ?_ | refine Tr.block ?_ | (refine RT.splitd rfl rfl (fun _ => ?_) (fun _ => ?_)) | (refine RT.call rfl rfl rfl (val_is hR (Amid_at B.rate 0 99 _ _ _)) rfl rfl (Nat.le_refl _) ?_) | (refine RT.call rfl rfl rfl (Amid_at _ _ _ _ _ _) rfl rfl (Nat.le_refl _) ?_) | (refine RT.goK rfl rfl rfl rfl ?_; apply Nx.of; (first | exact S.move | exact S.assign | exact S.load1c rfl rfl rfl rfl | exact S.fieldAddr rfl rfl rfl | exact S.leq | exact S.pick_tt | exact S.pick_ff | exact S.box)) | (refine RT.goK rfl rfl rfl rfl ?_; apply Nx.of; (first | exact S.len_sl rfl rfl rfl (by assumption))) | (refine RT.no rfl rfl rfl ?_))
    rotate_left
    all_goals try
      repeat' (first | refine RT.nil ?_ | refine sq_n ?_ | refine Tr.seq ?_ | refine Tr.region ?_ | refine Tr.cond_t rfl ?_ | refine Tr.cond_f rfl ?_ | refine Tr.ret ?_ | refine sq_r ?_ | refine Tr.exit ?_ | refine sq_x ?_ | refine Tr.block ?_ | refine blk_hit rfl ?_ | refine un_x ?_ | (refine Tr.unroll 1 ?_) | (refine RT.goK rfl rfl rfl rfl ?_; apply Nx.of; (first | exact S.move | exact S.assign | exact S.load1c rfl rfl rfl rfl | exact S.fieldAddr rfl rfl rfl | exact S.not_f | exact S.pick_ff)) | (refine RT.no rfl rfl rfl ?_))
      (first | refine rt_go rfl ?_)
      exact ck60 fun h => by have e1 := h.1.1; have e2 := h.2.1.1; have e3 := h.2.2.1.1; omega
    rename_i hA1 hA2 hA3
    have hsh : (1 ≤ B.ns ∧ B.ns ≤ 3) ∧ (1 ≤ B.wea ∧ B.wea ≤ 7) ∧ B.nc ≤ 4 := ⟨by omega, hA2, by omega⟩
    refine Tr.loop (fun p : Nat × Bool => stL Try.f12.ntmps [] [(1, .ptr 2 0), (3, .bool p.2), (4, .int .i64 (p.1 : Int))] [(2, some (.cells (bk B a1 a2).cells)), (0, some (oSt B)), (1, some (oCk B))] 3) (fun p => (p.2 = true → p.1 ≤ B.ns ∧ ∀ i, i < p.1 → stOk B i) ∧ (p.2 = false → ¬ bkOk B)) (fun p => if p.2 then B.ns - p.1 + 1 else 0) (0, true) ⟨fun _ => ⟨Nat.zero_le _, fun i hi => absurd hi (Nat.not_lt_zero i)⟩, fun h => by cases h⟩ (by (refine Wk.same (by decide) (by decide) (by decide) (by decide) ?_ ?_ rfl; all_goals ((try simp only [allL, allM]); (repeat' (first | exact trivial | refine And.intro ?_ ?_)); all_goals (first | rfl | exact ren_ro _ _ _ | exact bkc_ren h1 h2 (nm_lt (by decide)) (nm_lt (by decide)) | decide)))) (fun ⟨k, b⟩ ⟨hb1, hb0⟩ => ?_)
    cases b with
    | false =>
      have hbad := hb0 rfl
      repeat' (first | refine RT.nil ?_ | refine sq_n ?_ | refine Tr.seq ?_ | refine Tr.region ?_ | refine Tr.cond_t rfl ?_ | refine Tr.cond_f rfl ?_ | refine Tr.ret ?_ | refine sq_r ?_ | refine Tr.exit ?_ | refine sq_x ?_ | refine Tr.block ?_ | refine blk_hit rfl ?_ | refine lp_x ?_ | refine un_x ?_ | (refine Tr.unroll 1 ?_) | (refine RT.goK rfl rfl rfl rfl ?_; apply Nx.of; (first | exact S.move | exact S.assign | exact S.not_f | exact S.pick_ff)) | (refine RT.no rfl rfl rfl ?_))
      (first | refine rt_go rfl ?_)
      exact ck60 hbad
    | true =>
      obtain ⟨hk, hall⟩ := hb1 rfl
      replace hk : k ≤ B.ns := hk
      clear hb0 hb1
      by_cases hlt : k < B.ns
      · have hlt' : (k : Int) < B.ns := by omega
        have hbf := before_bd B k hall
        obtain ⟨b1, p1⟩ : ∃ b, decide (1 ≤ B.due k ∧ B.due k ≤ 300) = b := ⟨_, rfl⟩
        obtain ⟨b3, p3⟩ : ∃ b, decide (1 ≤ B.dl k ∧ B.dl k ≤ B.dh k ∧ B.dh k ≤ 90 ∧ B.dh k - B.dl k ≤ 2) = b := ⟨_, rfl⟩
        obtain ⟨b4, p4⟩ : ∃ b, decide (0 ≤ B.rl k ∧ B.rl k ≤ B.rh k ∧ B.rh k ≤ 30 ∧ B.rh k - B.rl k ≤ 2) = b := ⟨_, rfl⟩
        obtain ⟨b5, p5⟩ : ∃ b, decide (0 ≤ B.sl k ∧ B.sl k ≤ B.sh k ∧ B.sh k ≤ 20 ∧ B.sh k - B.sl k ≤ 1) = b := ⟨_, rfl⟩
        repeat' (first | refine RT.nil ?_ | refine sq_n ?_ | refine Tr.seq ?_ | refine Tr.region ?_ | refine Tr.cond_t rfl ?_ | refine Tr.skip ?_ | refine Tr.block ?_ | (refine RT.goK rfl rfl rfl rfl ?_; refine Nx.of (S.lss_t hlt') ?_) | (refine RT.goK rfl rfl rfl rfl ?_; apply Nx.of; (first | exact S.move | exact S.load1c rfl rfl rfl rfl | exact S.fieldAddr rfl rfl rfl | exact S.pick_tt | exact S.alloc rfl)) | (refine RT.goK0 rfl rfl rfl ?_; apply Nx.of; (first | exact S.store rfl rfl rfl rfl rfl rfl)) | (refine RT.goK rfl rfl rfl rfl ?_; apply Nx.of; (first | exact S.idx_sl rfl rfl rfl (by assumption) (by omega) | exact S.rowN0 rfl rfl rfl (fun _ => rfl) (range_at (by omega)) rfl | exact S.len_sl rfl rfl rfl (by assumption))))
        refine Tr.mono (Q := fun ex st2 => ex = .normal ∧ Wk 0 2 2 st2 (stL Try.f12.ntmps [] [(1, .ptr 2 0), (3, .bool (dB (stOk B k))), (4, .int .i64 (k : Int))] [(2, some (.cells (bk B a1 a2).cells)), (0, some (oSt B)), (1, some (oCk B))] 3)) ?_ (fun ex st2 ⟨he, hwk⟩ => ?_)
        · have pc : CalmC 0 Try.prog (alts [amidF, saneF]) := alts_calm fun g hg => by
            simp only [List.mem_cons, List.not_mem_nil, or_false] at hg
            rcases hg with rfl | rfl
            · exact amidF_calm
            · exact saneF_calm
          refine Tr.openK un12_6 (by kernel_rfl) (by kernel_rfl) _ pc ?_
          have fin : ∀ {x : Bool} {st : St}, dB (stOk B k) = x → Wk 0 2 2 st (stL Try.f12.ntmps [] [(1, .ptr 2 0), (3, .bool x), (4, .int .i64 (k : Int))] [(2, some (.cells (bk B a1 a2).cells)), (0, some (oSt B)), (1, some (oCk B))] 3) → AExit.normal = .normal ∧ Wk 0 2 2 st (stL Try.f12.ntmps [] [(1, .ptr 2 0), (3, .bool (dB (stOk B k))), (4, .int .i64 (k : Int))] [(2, some (.cells (bk B a1 a2).cells)), (0, some (oSt B)), (1, some (oCk B))] 3) := fun hx hw => by subst hx; exact ⟨rfl, hw⟩
          cases b1 with
          | false =>
            repeat' (first | (refine RD.free rfl rfl rfl rfl rfl rfl ?_; apply Nx.of; (first | exact S.move | exact S.assign | exact S.fieldAddr rfl rfl rfl | exact S.pick_ff)) | (refine RD.load rfl rfl rfl rfl rfl rfl rfl rfl ?_; apply Nx.of; (first | exact S.load1c rfl rfl rfl rfl)) | (refine RD.no rfl rfl rfl rfl ?_) | (refine RD.callN rfl rfl rfl rfl rfl rfl rfl rfl rfl (fun fl' => alts_hd (amidF_at _ _ _ _ p1 _ _ _)) (fun _ => by refine srOk_all ?_; simp only [srOk]; (repeat' (first | exact trivial | refine And.intro ?_ ?_)); all_goals (first | exact trivial | (refine ⟨_, rfl, ?_⟩; (first | rfl | (simp [rfO, rfVs, rfV, rfVs_flat]; done) | (simp [bk, AV.cells, pbC, rfO, rfVs, rfV, h1.rf, h2.rf]; done))))) ?_) | refine RD.nil ⟨Nat.le_of_ble_eq_true rfl, ?_⟩)
            refine fin (x := false) (dB_ff fun h => ?_) (by (refine Wk.same (by decide) (by decide) (by decide) (by decide) ?_ ?_ rfl; all_goals ((try simp only [allL, allM]); (repeat' (first | exact trivial | refine And.intro ?_ ?_)); all_goals (first | rfl | exact ren_ro _ _ _ | exact bkc_ren h1 h2 (nm_lt (by decide)) (nm_lt (by decide)) | decide))))
            have := of_decide_eq_false p1
            unfold stOk at h
            omega
          | true =>
            have q1 := of_decide_eq_true p1
            have hp : (k : Int) = 0 ∨ ∃ j, k = j + 1 ∧ ¬ ((j + 1 : Nat) : Int) = 0 := by
              cases k with
              | zero => exact .inl rfl
              | succ j => exact .inr ⟨j, rfl, by omega⟩
            rcases hp with hk0 | ⟨j, rfl, hk0⟩
            · have ebf : before B k = 0 := by
                obtain rfl : k = 0 := by omega
                rfl
              cases b3 with
              | false =>
                repeat' (first | (refine RD.free rfl rfl rfl rfl rfl rfl ?_; apply Nx.of; (first | exact S.eql_t hk0)) | (refine RD.free rfl rfl rfl rfl rfl rfl ?_; apply Nx.of; (first | exact S.move | exact S.assign | exact S.fieldAddr rfl rfl rfl | exact S.pick_tt | exact S.pick_ff)) | (refine RD.load rfl rfl rfl rfl rfl rfl rfl rfl ?_; apply Nx.of; (first | exact S.load1c rfl rfl rfl rfl | exact S.loadNc rfl rfl rfl rfl)) | (refine RD.no rfl rfl rfl rfl ?_) | (refine RD.callN rfl rfl rfl rfl rfl rfl rfl rfl rfl (fun fl' => alts_hd (amidF_at _ _ _ _ p1 _ _ _)) (fun _ => by refine srOk_all ?_; simp only [srOk]; (repeat' (first | exact trivial | refine And.intro ?_ ?_)); all_goals (first | exact trivial | (refine ⟨_, rfl, ?_⟩; (first | rfl | (simp [rfO, rfVs, rfV, rfVs_flat]; done) | (simp [bk, AV.cells, pbC, rfO, rfVs, rfV, h1.rf, h2.rf]; done))))) ?_) | (refine RD.callN rfl rfl rfl rfl rfl rfl rfl rfl rfl (fun fl' => (alts_tl (famA_ne _ (by decide))).trans (alts_hd (saneF_at _ _ 1 90 2 _ (by decide) p3 _ _ _))) (fun _ => by refine srOk_all ?_; simp only [srOk]; (repeat' (first | exact trivial | refine And.intro ?_ ?_)); all_goals (first | exact trivial | (refine ⟨_, rfl, ?_⟩; (first | rfl | (simp [rfO, rfVs, rfV, rfVs_flat]; done) | (simp [bk, AV.cells, pbC, rfO, rfVs, rfV, h1.rf, h2.rf]; done))))) ?_) | refine RD.nil ⟨Nat.le_of_ble_eq_true rfl, ?_⟩)
                refine fin (x := false) (dB_ff fun h => ?_) (by (refine Wk.same (by decide) (by decide) (by decide) (by decide) ?_ ?_ rfl; all_goals ((try simp only [allL, allM]); (repeat' (first | exact trivial | refine And.intro ?_ ?_)); all_goals (first | rfl | exact ren_ro _ _ _ | exact bkc_ren h1 h2 (nm_lt (by decide)) (nm_lt (by decide)) | decide))))
                have := of_decide_eq_false p3
                unfold stOk at h
                omega
              | true =>
                have q3 := of_decide_eq_true p3
                cases b4 with
                | false =>
                  repeat' (first | (refine RD.free rfl rfl rfl rfl rfl rfl ?_; apply Nx.of; (first | exact S.eql_t hk0)) | (refine RD.free rfl rfl rfl rfl rfl rfl ?_; apply Nx.of; (first | exact S.move | exact S.assign | exact S.fieldAddr rfl rfl rfl | exact S.pick_tt | exact S.pick_ff)) | (refine RD.load rfl rfl rfl rfl rfl rfl rfl rfl ?_; apply Nx.of; (first | exact S.load1c rfl rfl rfl rfl | exact S.loadNc rfl rfl rfl rfl)) | (refine RD.no rfl rfl rfl rfl ?_) | (refine RD.callN rfl rfl rfl rfl rfl rfl rfl rfl rfl (fun fl' => alts_hd (amidF_at _ _ _ _ p1 _ _ _)) (fun _ => by refine srOk_all ?_; simp only [srOk]; (repeat' (first | exact trivial | refine And.intro ?_ ?_)); all_goals (first | exact trivial | (refine ⟨_, rfl, ?_⟩; (first | rfl | (simp [rfO, rfVs, rfV, rfVs_flat]; done) | (simp [bk, AV.cells, pbC, rfO, rfVs, rfV, h1.rf, h2.rf]; done))))) ?_) | (refine RD.callN rfl rfl rfl rfl rfl rfl rfl rfl rfl (fun fl' => (alts_tl (famA_ne _ (by decide))).trans (alts_hd (saneF_at _ _ 1 90 2 _ (by decide) p3 _ _ _))) (fun _ => by refine srOk_all ?_; simp only [srOk]; (repeat' (first | exact trivial | refine And.intro ?_ ?_)); all_goals (first | exact trivial | (refine ⟨_, rfl, ?_⟩; (first | rfl | (simp [rfO, rfVs, rfV, rfVs_flat]; done) | (simp [bk, AV.cells, pbC, rfO, rfVs, rfV, h1.rf, h2.rf]; done))))) ?_) | (refine RD.callN rfl rfl rfl rfl rfl rfl rfl rfl rfl (fun fl' => (alts_tl (famA_ne _ (by decide))).trans (alts_hd (saneF_at _ _ 0 30 2 _ (by decide) p4 _ _ _))) (fun _ => by refine srOk_all ?_; simp only [srOk]; (repeat' (first | exact trivial | refine And.intro ?_ ?_)); all_goals (first | exact trivial | (refine ⟨_, rfl, ?_⟩; (first | rfl | (simp [rfO, rfVs, rfV, rfVs_flat]; done) | (simp [bk, AV.cells, pbC, rfO, rfVs, rfV, h1.rf, h2.rf]; done))))) ?_) | refine RD.nil ⟨Nat.le_of_ble_eq_true rfl, ?_⟩)
                  refine fin (x := false) (dB_ff fun h => ?_) (by (refine Wk.same (by decide) (by decide) (by decide) (by decide) ?_ ?_ rfl; all_goals ((try simp only [allL, allM]); (repeat' (first | exact trivial | refine And.intro ?_ ?_)); all_goals (first | rfl | exact ren_ro _ _ _ | exact bkc_ren h1 h2 (nm_lt (by decide)) (nm_lt (by decide)) | decide))))
                  have := of_decide_eq_false p4
                  unfold stOk at h
                  omega
                | true =>
                  have q4 := of_decide_eq_true p4
                  repeat' (first | (refine RD.free rfl rfl rfl rfl rfl rfl ?_; apply Nx.of; (first | exact S.eql_t hk0)) | (refine RD.free rfl rfl rfl rfl rfl rfl ?_; apply Nx.of; (first | exact S.move | exact S.assign | exact S.fieldAddr rfl rfl rfl | exact S.pick_tt)) | (refine RD.load rfl rfl rfl rfl rfl rfl rfl rfl ?_; apply Nx.of; (first | exact S.load1c rfl rfl rfl rfl | exact S.loadNc rfl rfl rfl rfl)) | (refine RD.no rfl rfl rfl rfl ?_) | (refine RD.callN rfl rfl rfl rfl rfl rfl rfl rfl rfl (fun fl' => alts_hd (amidF_at _ _ _ _ p1 _ _ _)) (fun _ => by refine srOk_all ?_; simp only [srOk]; (repeat' (first | exact trivial | refine And.intro ?_ ?_)); all_goals (first | exact trivial | (refine ⟨_, rfl, ?_⟩; (first | rfl | (simp [rfO, rfVs, rfV, rfVs_flat]; done) | (simp [bk, AV.cells, pbC, rfO, rfVs, rfV, h1.rf, h2.rf]; done))))) ?_) | (refine RD.callN rfl rfl rfl rfl rfl rfl rfl rfl rfl (fun fl' => (alts_tl (famA_ne _ (by decide))).trans (alts_hd (saneF_at _ _ 1 90 2 _ (by decide) p3 _ _ _))) (fun _ => by refine srOk_all ?_; simp only [srOk]; (repeat' (first | exact trivial | refine And.intro ?_ ?_)); all_goals (first | exact trivial | (refine ⟨_, rfl, ?_⟩; (first | rfl | (simp [rfO, rfVs, rfV, rfVs_flat]; done) | (simp [bk, AV.cells, pbC, rfO, rfVs, rfV, h1.rf, h2.rf]; done))))) ?_) | (refine RD.callN rfl rfl rfl rfl rfl rfl rfl rfl rfl (fun fl' => (alts_tl (famA_ne _ (by decide))).trans (alts_hd (saneF_at _ _ 0 30 2 _ (by decide) p4 _ _ _))) (fun _ => by refine srOk_all ?_; simp only [srOk]; (repeat' (first | exact trivial | refine And.intro ?_ ?_)); all_goals (first | exact trivial | (refine ⟨_, rfl, ?_⟩; (first | rfl | (simp [rfO, rfVs, rfV, rfVs_flat]; done) | (simp [bk, AV.cells, pbC, rfO, rfVs, rfV, h1.rf, h2.rf]; done))))) ?_) | (refine RD.callN rfl rfl rfl rfl rfl rfl rfl rfl rfl (fun fl' => (alts_tl (famA_ne _ (by decide))).trans (alts_hd (saneF_at _ _ 0 20 1 _ (by decide) p5 _ _ _))) (fun _ => by refine srOk_all ?_; simp only [srOk]; (repeat' (first | exact trivial | refine And.intro ?_ ?_)); all_goals (first | exact trivial | (refine ⟨_, rfl, ?_⟩; (first | rfl | (simp [rfO, rfVs, rfV, rfVs_flat]; done) | (simp [bk, AV.cells, pbC, rfO, rfVs, rfV, h1.rf, h2.rf]; done))))) ?_) | refine RD.nil ⟨Nat.le_of_ble_eq_true rfl, ?_⟩)
                  refine fin (x := b5) ?_ (by (refine Wk.same (by decide) (by decide) (by decide) (by decide) ?_ ?_ rfl; all_goals ((try simp only [allL, allM]); (repeat' (first | exact trivial | refine And.intro ?_ ?_)); all_goals (first | rfl | exact ren_ro _ _ _ | exact bkc_ren h1 h2 (nm_lt (by decide)) (nm_lt (by decide)) | decide))))
                  rw [← p5]
                  unfold dB stOk
                  exact decide_eq_decide.2 (by omega)
            · have ebf : before B (j + 1) = B.due j := rfl
              by_cases p2 : B.due j < B.due (j + 1)
              · cases b3 with
                | false =>
                  repeat' (first | (refine RD.free rfl rfl rfl rfl rfl rfl ?_; apply Nx.of; (first | exact S.eql_f hk0 | exact S.gtr_t p2)) | (refine RD.free rfl rfl rfl rfl rfl rfl ?_; refine Nx.of (S.sub_one (by omega) (by omega)) ?_) | (refine RD.free rfl rfl rfl rfl rfl rfl ?_; apply Nx.of; (first | exact S.move | exact S.assign | exact S.fieldAddr rfl rfl rfl | exact S.pick_tt | exact S.pick_ff | exact S.idx_sl rfl rfl rfl (by assumption) (by omega))) | (refine RD.load rfl rfl rfl rfl rfl rfl rfl rfl ?_; apply Nx.of; (first | exact S.load1c rfl rfl rfl rfl | exact S.loadNc rfl rfl rfl rfl | exact S.row0 rfl rfl rfl (fun _ => rfl) (range_at (by omega)) rfl)) | (refine RD.no rfl rfl rfl rfl ?_) | (refine RD.callN rfl rfl rfl rfl rfl rfl rfl rfl rfl (fun fl' => alts_hd (amidF_at _ _ _ _ p1 _ _ _)) (fun _ => by refine srOk_all ?_; simp only [srOk]; (repeat' (first | exact trivial | refine And.intro ?_ ?_)); all_goals (first | exact trivial | (refine ⟨_, rfl, ?_⟩; (first | rfl | (simp [rfO, rfVs, rfV, rfVs_flat]; done) | (simp [bk, AV.cells, pbC, rfO, rfVs, rfV, h1.rf, h2.rf]; done))))) ?_) | (refine RD.callN rfl rfl rfl rfl rfl rfl rfl rfl rfl (fun fl' => (alts_tl (famA_ne _ (by decide))).trans (alts_hd (saneF_at _ _ 1 90 2 _ (by decide) p3 _ _ _))) (fun _ => by refine srOk_all ?_; simp only [srOk]; (repeat' (first | exact trivial | refine And.intro ?_ ?_)); all_goals (first | exact trivial | (refine ⟨_, rfl, ?_⟩; (first | rfl | (simp [rfO, rfVs, rfV, rfVs_flat]; done) | (simp [bk, AV.cells, pbC, rfO, rfVs, rfV, h1.rf, h2.rf]; done))))) ?_) | refine RD.nil ⟨Nat.le_of_ble_eq_true rfl, ?_⟩)
                  refine fin (x := false) (dB_ff fun h => ?_) (by (refine Wk.same (by decide) (by decide) (by decide) (by decide) ?_ ?_ rfl; all_goals ((try simp only [allL, allM]); (repeat' (first | exact trivial | refine And.intro ?_ ?_)); all_goals (first | rfl | exact ren_ro _ _ _ | exact bkc_ren h1 h2 (nm_lt (by decide)) (nm_lt (by decide)) | decide))))
                  have := of_decide_eq_false p3
                  unfold stOk at h
                  omega
                | true =>
                  have q3 := of_decide_eq_true p3
                  cases b4 with
                  | false =>
                    repeat' (first | (refine RD.free rfl rfl rfl rfl rfl rfl ?_; apply Nx.of; (first | exact S.eql_f hk0 | exact S.gtr_t p2)) | (refine RD.free rfl rfl rfl rfl rfl rfl ?_; refine Nx.of (S.sub_one (by omega) (by omega)) ?_) | (refine RD.free rfl rfl rfl rfl rfl rfl ?_; apply Nx.of; (first | exact S.move | exact S.assign | exact S.fieldAddr rfl rfl rfl | exact S.pick_tt | exact S.pick_ff | exact S.idx_sl rfl rfl rfl (by assumption) (by omega))) | (refine RD.load rfl rfl rfl rfl rfl rfl rfl rfl ?_; apply Nx.of; (first | exact S.load1c rfl rfl rfl rfl | exact S.loadNc rfl rfl rfl rfl | exact S.row0 rfl rfl rfl (fun _ => rfl) (range_at (by omega)) rfl)) | (refine RD.no rfl rfl rfl rfl ?_) | (refine RD.callN rfl rfl rfl rfl rfl rfl rfl rfl rfl (fun fl' => alts_hd (amidF_at _ _ _ _ p1 _ _ _)) (fun _ => by refine srOk_all ?_; simp only [srOk]; (repeat' (first | exact trivial | refine And.intro ?_ ?_)); all_goals (first | exact trivial | (refine ⟨_, rfl, ?_⟩; (first | rfl | (simp [rfO, rfVs, rfV, rfVs_flat]; done) | (simp [bk, AV.cells, pbC, rfO, rfVs, rfV, h1.rf, h2.rf]; done))))) ?_) | (refine RD.callN rfl rfl rfl rfl rfl rfl rfl rfl rfl (fun fl' => (alts_tl (famA_ne _ (by decide))).trans (alts_hd (saneF_at _ _ 1 90 2 _ (by decide) p3 _ _ _))) (fun _ => by refine srOk_all ?_; simp only [srOk]; (repeat' (first | exact trivial | refine And.intro ?_ ?_)); all_goals (first | exact trivial | (refine ⟨_, rfl, ?_⟩; (first | rfl | (simp [rfO, rfVs, rfV, rfVs_flat]; done) | (simp [bk, AV.cells, pbC, rfO, rfVs, rfV, h1.rf, h2.rf]; done))))) ?_) | (refine RD.callN rfl rfl rfl rfl rfl rfl rfl rfl rfl (fun fl' => (alts_tl (famA_ne _ (by decide))).trans (alts_hd (saneF_at _ _ 0 30 2 _ (by decide) p4 _ _ _))) (fun _ => by refine srOk_all ?_; simp only [srOk]; (repeat' (first | exact trivial | refine And.intro ?_ ?_)); all_goals (first | exact trivial | (refine ⟨_, rfl, ?_⟩; (first | rfl | (simp [rfO, rfVs, rfV, rfVs_flat]; done) | (simp [bk, AV.cells, pbC, rfO, rfVs, rfV, h1.rf, h2.rf]; done))))) ?_) | refine RD.nil ⟨Nat.le_of_ble_eq_true rfl, ?_⟩)
                    refine fin (x := false) (dB_ff fun h => ?_) (by (refine Wk.same (by decide) (by decide) (by decide) (by decide) ?_ ?_ rfl; all_goals ((try simp only [allL, allM]); (repeat' (first | exact trivial | refine And.intro ?_ ?_)); all_goals (first | rfl | exact ren_ro _ _ _ | exact bkc_ren h1 h2 (nm_lt (by decide)) (nm_lt (by decide)) | decide))))
                    have := of_decide_eq_false p4
                    unfold stOk at h
                    omega
                  | true =>
                    have q4 := of_decide_eq_true p4
                    repeat' (first | (refine RD.free rfl rfl rfl rfl rfl rfl ?_; apply Nx.of; (first | exact S.eql_f hk0 | exact S.gtr_t p2)) | (refine RD.free rfl rfl rfl rfl rfl rfl ?_; refine Nx.of (S.sub_one (by omega) (by omega)) ?_) | (refine RD.free rfl rfl rfl rfl rfl rfl ?_; apply Nx.of; (first | exact S.move | exact S.assign | exact S.fieldAddr rfl rfl rfl | exact S.pick_tt | exact S.pick_ff | exact S.idx_sl rfl rfl rfl (by assumption) (by omega))) | (refine RD.load rfl rfl rfl rfl rfl rfl rfl rfl ?_; apply Nx.of; (first | exact S.load1c rfl rfl rfl rfl | exact S.loadNc rfl rfl rfl rfl | exact S.row0 rfl rfl rfl (fun _ => rfl) (range_at (by omega)) rfl)) | (refine RD.callN rfl rfl rfl rfl rfl rfl rfl rfl rfl (fun fl' => alts_hd (amidF_at _ _ _ _ p1 _ _ _)) (fun _ => by refine srOk_all ?_; simp only [srOk]; (repeat' (first | exact trivial | refine And.intro ?_ ?_)); all_goals (first | exact trivial | (refine ⟨_, rfl, ?_⟩; (first | rfl | (simp [rfO, rfVs, rfV, rfVs_flat]; done) | (simp [bk, AV.cells, pbC, rfO, rfVs, rfV, h1.rf, h2.rf]; done))))) ?_) | (refine RD.callN rfl rfl rfl rfl rfl rfl rfl rfl rfl (fun fl' => (alts_tl (famA_ne _ (by decide))).trans (alts_hd (saneF_at _ _ 1 90 2 _ (by decide) p3 _ _ _))) (fun _ => by refine srOk_all ?_; simp only [srOk]; (repeat' (first | exact trivial | refine And.intro ?_ ?_)); all_goals (first | exact trivial | (refine ⟨_, rfl, ?_⟩; (first | rfl | (simp [rfO, rfVs, rfV, rfVs_flat]; done) | (simp [bk, AV.cells, pbC, rfO, rfVs, rfV, h1.rf, h2.rf]; done))))) ?_) | (refine RD.callN rfl rfl rfl rfl rfl rfl rfl rfl rfl (fun fl' => (alts_tl (famA_ne _ (by decide))).trans (alts_hd (saneF_at _ _ 0 30 2 _ (by decide) p4 _ _ _))) (fun _ => by refine srOk_all ?_; simp only [srOk]; (repeat' (first | exact trivial | refine And.intro ?_ ?_)); all_goals (first | exact trivial | (refine ⟨_, rfl, ?_⟩; (first | rfl | (simp [rfO, rfVs, rfV, rfVs_flat]; done) | (simp [bk, AV.cells, pbC, rfO, rfVs, rfV, h1.rf, h2.rf]; done))))) ?_) | (refine RD.callN rfl rfl rfl rfl rfl rfl rfl rfl rfl (fun fl' => (alts_tl (famA_ne _ (by decide))).trans (alts_hd (saneF_at _ _ 0 20 1 _ (by decide) p5 _ _ _))) (fun _ => by refine srOk_all ?_; simp only [srOk]; (repeat' (first | exact trivial | refine And.intro ?_ ?_)); all_goals (first | exact trivial | (refine ⟨_, rfl, ?_⟩; (first | rfl | (simp [rfO, rfVs, rfV, rfVs_flat]; done) | (simp [bk, AV.cells, pbC, rfO, rfVs, rfV, h1.rf, h2.rf]; done))))) ?_) | refine RD.nil ⟨Nat.le_of_ble_eq_true rfl, ?_⟩)
                    refine fin (x := b5) ?_ (by (refine Wk.same (by decide) (by decide) (by decide) (by decide) ?_ ?_ rfl; all_goals ((try simp only [allL, allM]); (repeat' (first | exact trivial | refine And.intro ?_ ?_)); all_goals (first | rfl | exact ren_ro _ _ _ | exact bkc_ren h1 h2 (nm_lt (by decide)) (nm_lt (by decide)) | decide))))
                    rw [← p5]
                    unfold dB stOk
                    exact decide_eq_decide.2 (by omega)
              · repeat' (first | (refine RD.free rfl rfl rfl rfl rfl rfl ?_; apply Nx.of; (first | exact S.eql_f hk0 | exact S.gtr_f p2)) | (refine RD.free rfl rfl rfl rfl rfl rfl ?_; refine Nx.of (S.sub_one (by omega) (by omega)) ?_) | (refine RD.free rfl rfl rfl rfl rfl rfl ?_; apply Nx.of; (first | exact S.move | exact S.assign | exact S.fieldAddr rfl rfl rfl | exact S.pick_tt | exact S.pick_ff | exact S.idx_sl rfl rfl rfl (by assumption) (by omega))) | (refine RD.load rfl rfl rfl rfl rfl rfl rfl rfl ?_; apply Nx.of; (first | exact S.load1c rfl rfl rfl rfl | exact S.row0 rfl rfl rfl (fun _ => rfl) (range_at (by omega)) rfl)) | (refine RD.no rfl rfl rfl rfl ?_) | (refine RD.callN rfl rfl rfl rfl rfl rfl rfl rfl rfl (fun fl' => alts_hd (amidF_at _ _ _ _ p1 _ _ _)) (fun _ => by refine srOk_all ?_; simp only [srOk]; (repeat' (first | exact trivial | refine And.intro ?_ ?_)); all_goals (first | exact trivial | (refine ⟨_, rfl, ?_⟩; (first | rfl | (simp [rfO, rfVs, rfV, rfVs_flat]; done) | (simp [bk, AV.cells, pbC, rfO, rfVs, rfV, h1.rf, h2.rf]; done))))) ?_) | refine RD.nil ⟨Nat.le_of_ble_eq_true rfl, ?_⟩)
                refine fin (x := false) (dB_ff fun h => ?_) (by (refine Wk.same (by decide) (by decide) (by decide) (by decide) ?_ ?_ rfl; all_goals ((try simp only [allL, allM]); (repeat' (first | exact trivial | refine And.intro ?_ ?_)); all_goals (first | rfl | exact ren_ro _ _ _ | exact bkc_ren h1 h2 (nm_lt (by decide)) (nm_lt (by decide)) | decide))))
                unfold stOk at h
                omega
        · subst he
          refine blk_n (sq_n (Tr.wk hwk ?_))
          repeat' (first | refine RT.nil ?_ | refine Tr.region ?_ | (refine RT.goK rfl rfl rfl rfl ?_; apply Nx.of; (first | exact S.move | exact S.assign | exact S.add_one (by omega))))
          refine lp_n (k + 1, dB (stOk B k)) ⟨fun h => ⟨hlt, fun i hi => ?_⟩, fun h hh => ?_⟩ ?_ (by (refine Wk.same (by decide) (by decide) (by decide) (by decide) ?_ ?_ rfl; all_goals ((try simp only [allL, allM]); (repeat' (first | exact trivial | refine And.intro ?_ ?_)); all_goals (first | rfl | exact ren_ro _ _ _ | exact bkc_ren h1 h2 (nm_lt (by decide)) (nm_lt (by decide)) | decide))))
          · by_cases e : i = k
            · subst e; exact dB_eq.1 h
            · exact hall i (by omega)
          · have h' : dB (stOk B k) = false := h
            rw [dB_tt (hh.1.2 k hlt)] at h'
            cases h'
          · show (if dB (stOk B k) = true then B.ns - (k + 1) + 1 else 0) < (if true = true then B.ns - k + 1 else 0)
            rw [if_pos rfl]
            split <;> omega
      · have hlt' : ¬ (k : Int) < B.ns := by omega
        have hst : stsOk B := ⟨hsh.1, fun i hi => hall i (by omega)⟩
        repeat' (first | refine RT.nil ?_ | refine sq_n ?_ | refine Tr.seq ?_ | refine Tr.region ?_ | refine Tr.cond_f rfl ?_ | refine Tr.exit ?_ | refine sq_x ?_ | refine Tr.block ?_ | refine blk_hit rfl ?_ | refine lp_x ?_ | (refine RT.goK rfl rfl rfl rfl ?_; refine Nx.of (S.lss_f hlt') ?_) | (refine RT.goK rfl rfl rfl rfl ?_; apply Nx.of; (first | exact S.move | exact S.assign | exact S.load1c rfl rfl rfl rfl | exact S.fieldAddr rfl rfl rfl | exact S.pick_tt)) | (refine RT.goK rfl rfl rfl rfl ?_; apply Nx.of; (first | exact S.len_sl rfl rfl rfl (by assumption))))
        refine Tr.loop (fun p : Nat × Bool => stL Try.f12.ntmps [] [(1, .ptr 2 0), (3, .bool p.2), (6, .int .i64 (p.1 : Int))] [(2, some (.cells (bk B a1 a2).cells)), (0, some (oSt B)), (1, some (oCk B))] 3) (fun p => (p.2 = true → p.1 ≤ 3 ∧ ∀ i, i < p.1 → 0 ≤ B.cost i ∧ B.cost i ≤ 30) ∧ (p.2 = false → ¬ bkOk B)) (fun p => if p.2 then 3 - p.1 + 1 else 0) (0, true) ⟨fun _ => ⟨Nat.zero_le _, fun i hi => absurd hi (Nat.not_lt_zero i)⟩, fun h => by cases h⟩ (by (refine Wk.same (by decide) (by decide) (by decide) (by decide) ?_ ?_ rfl; all_goals ((try simp only [allL, allM]); (repeat' (first | exact trivial | refine And.intro ?_ ?_)); all_goals (first | rfl | exact ren_ro _ _ _ | exact bkc_ren h1 h2 (nm_lt (by decide)) (nm_lt (by decide)) | decide)))) (fun ⟨k, b⟩ ⟨hb1, hb0⟩ => ?_)
        cases b with
        | false =>
          have hbad := hb0 rfl
          repeat' (first | refine RT.nil ?_ | refine sq_n ?_ | refine Tr.seq ?_ | refine Tr.region ?_ | refine Tr.cond_t rfl ?_ | refine Tr.cond_f rfl ?_ | refine Tr.ret ?_ | refine sq_r ?_ | refine Tr.exit ?_ | refine sq_x ?_ | refine Tr.block ?_ | refine blk_hit rfl ?_ | refine lp_x ?_ | refine un_x ?_ | (refine Tr.unroll 1 ?_) | (refine RT.goK rfl rfl rfl rfl ?_; apply Nx.of; (first | exact S.move | exact S.assign | exact S.not_f | exact S.pick_ff)) | (refine RT.no rfl rfl rfl ?_))
          (first | refine rt_go rfl ?_)
          exact ck60 hbad
        | true =>
          obtain ⟨hk, hco⟩ := hb1 rfl
          replace hk : k ≤ 3 := hk
          clear hb0 hb1
          by_cases hw3 : k < 3
          · have hw3' : (k : Int) < 3 := by omega
            obtain ⟨b, hC'⟩ : ∃ b, dB (0 ≤ B.cost k ∧ B.cost k ≤ 30) = b := ⟨_, rfl⟩
            have hC : AV.bool (decide (0 ≤ B.cost k ∧ B.cost k ≤ 30)) = .bool b := by rw [← hC']; unfold dB; exact congrArg AV.bool (decide_eq_decide.2 Iff.rfl)
            repeat' (first | refine RT.nil ?_ | refine sq_n ?_ | refine Tr.seq ?_ | refine Tr.region ?_ | refine Tr.cond_t rfl ?_ | refine Tr.skip ?_ | refine Tr.block ?_ | refine blk_n ?_ | (refine RT.goK rfl rfl rfl rfl ?_; refine Nx.of (S.lss_t hw3') ?_) | (refine RT.call rfl rfl rfl (val_is hC (Amid_at (B.cost k) 0 30 _ _ _)) rfl rfl (Nat.le_refl _) ?_) | (refine RT.goK rfl rfl rfl rfl ?_; apply Nx.of; (first | exact S.move | exact S.assign | exact S.fieldAddr rfl rfl rfl | exact S.pick_tt | exact S.add_one (by omega) | exact S.idx_arr rfl rfl rfl (show _ < 3 by omega) | exact S.load1c rfl rfl rfl (cost_at hw3))))
            refine lp_n (k + 1, b) ⟨fun h => ⟨hw3, fun i hi => ?_⟩, fun h hh => ?_⟩ ?_ (by (refine Wk.same (by decide) (by decide) (by decide) (by decide) ?_ ?_ rfl; all_goals ((try simp only [allL, allM]); (repeat' (first | exact trivial | refine And.intro ?_ ?_)); all_goals (first | rfl | exact ren_ro _ _ _ | exact bkc_ren h1 h2 (nm_lt (by decide)) (nm_lt (by decide)) | decide))))
            · by_cases e : i = k
              · subst e; exact dB_eq.1 (hC'.trans h)
              · exact hco i (by omega)
            · have hx : 0 ≤ B.cost k ∧ B.cost k ≤ 30 := by
                obtain ⟨_, c0, c1, c2⟩ := hh.2.1
                obtain rfl | rfl | rfl : k = 0 ∨ k = 1 ∨ k = 2 := by omega
                · exact c0
                · exact c1
                · exact c2
              have : b = true := hC'.symm.trans (dB_tt hx)
              rw [this] at h
              cases h
            · show (if b = true then 3 - (k + 1) + 1 else 0) < (if true = true then 3 - k + 1 else 0)
              rw [if_pos rfl]
              split <;> omega
          · have hw3' : ¬ (k : Int) < 3 := by omega
            have hwe : weaOk B := ⟨hsh.2.1, hco 0 (by omega), hco 1 (by omega), hco 2 (by omega)⟩
            repeat' (first | refine RT.nil ?_ | refine sq_n ?_ | refine Tr.seq ?_ | refine Tr.region ?_ | refine Tr.cond_f rfl ?_ | refine Tr.exit ?_ | refine sq_x ?_ | refine Tr.block ?_ | refine blk_hit rfl ?_ | refine lp_x ?_ | (refine RT.goK rfl rfl rfl rfl ?_; refine Nx.of (S.lss_f hw3') ?_) | (refine RT.goK rfl rfl rfl rfl ?_; apply Nx.of; (first | exact S.move | exact S.assign | exact S.pick_tt)))
            refine Tr.loop (fun p : Nat × Bool => stL Try.f12.ntmps [] [(1, .ptr 2 0), (3, .bool p.2), (7, .int .i64 (p.1 : Int))] [(2, some (.cells (bk B a1 a2).cells)), (0, some (oSt B)), (1, some (oCk B))] 3) (fun p => (p.2 = true → p.1 ≤ B.nc ∧ ∀ i, i < p.1 → ckOk B (B.ck i) (B.rd i) (B.er i)) ∧ (p.2 = false → ¬ bkOk B)) (fun p => if p.2 then B.nc - p.1 + 1 else 0) (0, true) ⟨fun _ => ⟨Nat.zero_le _, fun i hi => absurd hi (Nat.not_lt_zero i)⟩, fun h => by cases h⟩ (by (refine Wk.same (by decide) (by decide) (by decide) (by decide) ?_ ?_ rfl; all_goals ((try simp only [allL, allM]); (repeat' (first | exact trivial | refine And.intro ?_ ?_)); all_goals (first | rfl | exact ren_ro _ _ _ | exact bkc_ren h1 h2 (nm_lt (by decide)) (nm_lt (by decide)) | decide)))) (fun ⟨k, b⟩ ⟨hb1, hb0⟩ => ?_)
            cases b with
            | false =>
              have hbad := hb0 rfl
              repeat' (first | refine RT.nil ?_ | refine sq_n ?_ | refine Tr.seq ?_ | refine Tr.region ?_ | refine Tr.cond_t rfl ?_ | refine Tr.cond_f rfl ?_ | refine Tr.ret ?_ | refine sq_r ?_ | refine Tr.exit ?_ | refine sq_x ?_ | refine blk_hit rfl ?_ | refine lp_x ?_ | (refine RT.goK rfl rfl rfl rfl ?_; apply Nx.of; (first | exact S.move | exact S.assign | exact S.not_f | exact S.pick_ff)) | (refine RT.no rfl rfl rfl ?_))
              (first | refine rt_go rfl ?_)
              exact ck60 hbad
            | true =>
              obtain ⟨hk, hcl⟩ := hb1 rfl
              replace hk : k ≤ B.nc := hk
              clear hb0 hb1
              by_cases hlt3 : k < B.nc
              · have hlt3' : (k : Int) < B.nc := by omega
                obtain ⟨b, hC'⟩ : ∃ b, dB (ckOk B (B.ck k) (B.rd k) (B.er k)) = b := ⟨_, rfl⟩
                repeat' (first | refine RT.nil ?_ | refine sq_n ?_ | refine Tr.seq ?_ | refine Tr.region ?_ | refine Tr.cond_t rfl ?_ | refine Tr.skip ?_ | refine Tr.block ?_ | (refine RT.goK rfl rfl rfl rfl ?_; refine Nx.of (S.lss_t hlt3') ?_) | (refine RT.goK rfl rfl rfl rfl ?_; apply Nx.of; (first | exact S.move | exact S.load1c rfl rfl rfl rfl | exact S.fieldAddr rfl rfl rfl | exact S.pick_tt)) | (refine RT.goK rfl rfl rfl rfl ?_; apply Nx.of; (first | exact S.len_sl rfl rfl rfl (by assumption))))
                refine Tr.openK un12_14 (by kernel_rfl) (by kernel_rfl) (clF6 B a1 a2 (B.ck k) (B.rd k) (B.er k) b) (clF6_calm hn _ _ _ _ hC') ?_
                repeat' (first | (refine RD.free rfl rfl rfl rfl rfl rfl ?_; apply Nx.of; (first | exact S.move | exact S.assign | exact S.fieldAddr rfl rfl rfl | exact S.idx_sl rfl rfl rfl (by assumption) (by omega))) | (refine RD.load rfl rfl rfl rfl rfl rfl rfl rfl ?_; apply Nx.of; (first | exact S.load1c rfl rfl rfl rfl | exact S.loadNc rfl rfl rfl rfl | exact S.rowN0 rfl rfl rfl (fun _ => rfl) (range_at (by omega)) rfl)) | (refine RD.callN rfl rfl rfl rfl rfl rfl rfl rfl rfl (fun fl' => one1_at ⟨_, rfl, ⟨h1, h2, rfl, rfl, by decide⟩⟩ fl') (fun _ => by refine srOk_all ?_; simp only [srOk]; (repeat' (first | exact trivial | refine And.intro ?_ ?_)); all_goals (first | exact trivial | (refine ⟨_, rfl, ?_⟩; (first | rfl | (simp [rfO, rfVs, rfV, rfVs_flat]; done) | (simp [bk, AV.cells, pbC, rfO, rfVs, rfV, h1.rf, h2.rf]; done))))) ?_) | refine RD.nil ⟨Nat.le_of_ble_eq_true rfl, ?_⟩)
                repeat' (first | refine RT.nil ?_ | refine sq_n ?_ | refine Tr.region ?_ | refine blk_n ?_ | (refine RT.goK rfl rfl rfl rfl ?_; apply Nx.of; (first | exact S.move | exact S.assign | exact S.add_one (by omega))))
                refine lp_n (k + 1, b) ⟨fun h => ⟨hlt3, fun i hi => ?_⟩, fun h hh => ?_⟩ ?_ (by (refine Wk.same (by decide) (by decide) (by decide) (by decide) ?_ ?_ rfl; all_goals ((try simp only [allL, allM]); (repeat' (first | exact trivial | refine And.intro ?_ ?_)); all_goals (first | rfl | exact ren_ro _ _ _ | exact bkc_ren h1 h2 (nm_lt (by decide)) (nm_lt (by decide)) | decide))))
                · by_cases e : i = k
                  · subst e; exact dB_eq.1 (hC'.trans h)
                  · exact hcl i (by omega)
                · have : b = true := hC'.symm.trans (dB_tt (hh.2.2.1.2 k hlt3))
                  rw [this] at h
                  cases h
                · show (if b = true then B.nc - (k + 1) + 1 else 0) < (if true = true then B.nc - k + 1 else 0)
                  rw [if_pos rfl]
                  split <;> omega
              · have hlt3' : ¬ (k : Int) < B.nc := by omega
                repeat' (first | refine RT.nil ?_ | refine sq_n ?_ | refine Tr.seq ?_ | refine Tr.region ?_ | refine Tr.cond_f rfl ?_ | refine Tr.skip ?_ | refine Tr.ret ?_ | refine Tr.exit ?_ | refine sq_x ?_ | refine blk_hit rfl ?_ | refine lp_x ?_ | (refine RT.goK rfl rfl rfl rfl ?_; refine Nx.of (S.lss_f hlt3') ?_) | (refine RT.goK rfl rfl rfl rfl ?_; apply Nx.of; (first | exact S.move | exact S.assign | exact S.load1c rfl rfl rfl rfl | exact S.fieldAddr rfl rfl rfl | exact S.not_t | exact S.pick_tt)) | (refine RT.goK rfl rfl rfl rfl ?_; apply Nx.of; (first | exact S.len_sl rfl rfl rfl (by assumption))))
                (first | refine rt_go rfl ?_)
                exact ck0 ⟨hst, hwe, ⟨hsh.2.2, fun i hi => hcl i (by omega)⟩, hr⟩
  · have hR : AV.bool (decide (0 ≤ B.rate ∧ B.rate ≤ 99)) = .bool false := by rw [decide_eq_false hr]
    repeat' (first | refine RT.nil ?_ | refine sq_n ?_ | refine Tr.seq ?_ | refine Tr.region ?_ | refine Tr.block ?_ | (refine RT.splitd rfl rfl (fun _ => ?_) (fun _ => ?_)) | (refine RT.call rfl rfl rfl (val_is hR (Amid_at B.rate 0 99 _ _ _)) rfl rfl (Nat.le_refl _) ?_) | (refine RT.call rfl rfl rfl (Amid_at _ _ _ _ _ _) rfl rfl (Nat.le_refl _) ?_) | (refine RT.goK rfl rfl rfl rfl ?_; apply Nx.of; (first | exact S.move | exact S.assign | exact S.load1c rfl rfl rfl rfl | exact S.fieldAddr rfl rfl rfl | exact S.leq | exact S.pick_tt | exact S.pick_ff | exact S.box)) | (refine RT.goK rfl rfl rfl rfl ?_; apply Nx.of; (first | exact S.len_sl rfl rfl rfl (by assumption))) | (refine RT.no rfl rfl rfl ?_))
    all_goals
      repeat' (first | refine RT.nil ?_ | refine sq_n ?_ | refine Tr.seq ?_ | refine Tr.region ?_ | refine Tr.cond_t rfl ?_ | refine Tr.cond_f rfl ?_ | refine Tr.ret ?_ | refine sq_r ?_ | refine Tr.exit ?_ | refine sq_x ?_ | refine Tr.block ?_ | refine blk_hit rfl ?_ | refine un_x ?_ | (refine Tr.unroll 1 ?_) | (refine RT.goK rfl rfl rfl rfl ?_; apply Nx.of; (first | exact S.move | exact S.assign | exact S.not_f | exact S.pick_ff)) | (refine RT.no rfl rfl rfl ?_))
      (first | refine rt_go rfl ?_)
      exact ck60 fun h => hr h.2.2.2
end Go.Proofs.Ytlnmcadbmpiopaa
/- The reference of layer 6: Check, truths and asked at any memory. -/
namespace Go.Proofs.Ytlnmcadbmpiopaa
open Go Go.Ev
theorem Check6_at {B : CBook} {a1 a2 : AV} {m : List (Nat × Option AObj)} {c : Nat} (h : BkIn B a1 a2 m c) (hn : B.ns ≤ 9223372036854775807) (fl : Nat) : OkAt 0 Try.prog fl 12 [bk B a1 a2] (ofM m) c (.int .i64 (ckV B)) (ofM m) c :=
  (Check6_can B a1 a2 h.h1 h.h2 hn).pure (.int _ _) (h.entry _ fun _ => rfl) fl
def tTr (j : Nat) : Nat := if j = 0 then 5 else 97 + j
theorem tTr_inj : ∀ i j, tTr i = tTr j → i = j := fun i j h => by unfold tTr at h; (repeat' split at h) <;> omega
theorem rtruths_en {B : CBook} {a1 a2 v1 v2 : AV} (h1 : IsSl a1 B.ns 0) (h2 : IsSl a2 B.nc 1) (hB : bk5 B) {m : List (Nat × Option AObj)} {c : Nat} (hm : ∀ x o, lookM m x = some o → x < c) (hen : Entry 0 (ofM m) c [bk B v1 v2] [(0, some (oSt B)), (1, some (oCk B))] 2 [bk B a1 a2]) (fl : Nat) :
    OkAt 0 Try.prog fl 51 [bk B v1 v2] (ofM m) c (grI c (gW B).length) (ofM (goM B c (gW B) ++ m)) (c + 200000) := by
  obtain ⟨L, hL⟩ : ∃ l, gW B = l := ⟨_, rfl⟩
  have hcan := rtruths_can5 B a1 a2 h1 h2 hB
  rw [hL] at hcan ⊢
  have := CanS.freshU tTr (H' := ofM (goM B c L ++ m)) (k := 200000) (v0 := grI 0 L.length) hcan (fun j hj => by unfold tTr; split <;> omega) tTr_inj
    hen (fun v1 H1 c1 ⟨g1, g2, g3⟩ => ?_) fl
  · rw [grI_ren (fun y => c + y) (y := c) rfl] at this
    exact this
  · refine ⟨by rw [g1, grI_ren (fun y => 2 + tTr y) (y := 7) rfl], by omega, fun x o hx => ?_⟩
    rw [ofM_get] at hx
    by_cases hk : ∀ e ∈ goM B c L, e.1 ≠ x
    · rw [look_skip hk] at hx
      exact .inl ⟨hm x o hx, getM hx⟩
    · obtain ⟨e, he⟩ := Classical.not_forall.1 hk
      obtain ⟨he1, he2⟩ := Classical.not_imp.1 he
      have hex : e.1 = x := Classical.byContradiction he2
      refine .inr ?_
      have h5 : ∃ o2, lookM (goM B c L) x = some o2 := by
        rcases List.mem_append.1 he1 with h | h
        · have hL : L ≠ [] := fun q => by rw [q] at h; cases h
          have := ouM_keys e h
          rw [hex] at this
          subst this
          exact ⟨_, goM_list hL⟩
        · obtain ⟨j, hj, h2⟩ := keys_tms _ _ e h
          rw [hex, Nat.zero_add] at h2
          have := goM_tr (B := B) (c := c) (List.getElem?_eq_getElem hj)
          rcases h2 with rfl | rfl
          · exact ⟨_, this.1⟩
          · exact ⟨_, this.2⟩
      obtain ⟨o2, h5⟩ := h5
      have h6 := look_app (gs := m) h5
      rw [hx] at h6
      cases h6
      have eA : ∀ j, j < L.length → 2 + tTr (1 + 2 * j) = fA j ∧ 2 + tTr (2 + 2 * j) = gA j := fun j hj => by
        unfold tTr fA gA
        rw [if_neg (by omega), if_neg (by omega)]; omega
      have eC : ∀ j, c + (1 + 2 * j) = fC c j ∧ c + (2 + 2 * j) = gC c j := fun j => by unfold fC gC; omega
      rcases goM_look h5 with ⟨rfl, hne, rfl⟩ | ⟨j, u, hj, h | h⟩
      · refine ⟨0, .grown (tcsF (fun j => 1 + 2 * j) (fun j => 2 + 2 * j) B.ns 0 L) 3, by omega, ?_, ?_⟩
        · show H1.get 7 = some (AObj.grown (AV.rens _ (tcsF _ _ B.ns 0 L)) 3)
          rw [tcsF_ren, g3 7 _ (goA_list hne)]
          refine congrArg some (congrArg (fun cs => AObj.grown cs 3) ?_)
          exact tcsF_congr L 0 0 fun j hj => by
            rw [Nat.zero_add]
            exact ⟨(eA j hj).1.symm, (eA j hj).2.symm⟩
        · show _ = AObj.grown (AV.rens _ (tcsF _ _ B.ns 0 L)) 3
          rw [tcsF_ren]
          refine congrArg (fun cs => AObj.grown cs 3) ?_
          exact tcsF_congr L 0 0 fun j hj => by
            rw [Nat.zero_add]
            exact ⟨(eC j).1.symm, (eC j).2.symm⟩
      · obtain ⟨rfl, rfl⟩ := h
        have hjl : j < L.length := Classical.byContradiction fun q => by rw [List.getElem?_eq_none (by omega)] at hj; cases hj
        refine ⟨1 + 2 * j, .grown (fE u.r B.ns) 1, (eC j).1.symm, ?_, (ren_grown _ _ _ _).symm⟩
        rw [ren_grown, (eA j hjl).1]
        exact g3 _ _ (goA_tr hj).1
      · obtain ⟨rfl, rfl⟩ := h
        have hjl : j < L.length := Classical.byContradiction fun q => by rw [List.getElem?_eq_none (by omega)] at hj; cases hj
        refine ⟨2 + 2 * j, .grown (fE u.c B.ns) 1, (eC j).2.symm, ?_, (ren_grown _ _ _ _).symm⟩
        rw [ren_grown, (eA j hjl).2]
        exact g3 _ _ (goA_tr hj).2
theorem rtruths_at {B : CBook} {a1 a2 : AV} (h1 : IsSl a1 B.ns 0) (h2 : IsSl a2 B.nc 1) (hB : bkOk B) {m : List (Nat × Option AObj)} {c : Nat} (hm : ∀ x o, lookM m x = some o → x < c) (m0 : lookM m 0 = some (oSt B)) (m1 : lookM m 1 = some (oCk B)) (fl : Nat) :
    OkAt 0 Try.prog fl 51 [bk B a1 a2] (ofM m) c (grI c (gW B).length) (ofM (goM B c (gW B) ++ m)) (c + 200000) :=
  rtruths_en h1 h2 hB.five hm
    (Entry.win (H := ofM m) (c := c) (W := [(0, 0, none), (1, 0, none)]) (CS := [flat (stE B) (List.range B.ns), flat (ckE B) (List.range B.nc)]) rfl
      ⟨⟨_, getM m0, .inr ⟨_, rfl, cut_all rfl⟩⟩, pls_flat _ _, ⟨_, getM m1, .inr ⟨_, rfl, cut_all rfl⟩⟩, pls_flat _ _, trivial⟩
      (show ArgsW _ [bk B a1 a2] [bk B a1 a2] from ⟨bk_arg h1 h2 rfl rfl, trivial⟩)) fl
set_option maxRecDepth 100000 in
theorem asked_no (B : CBook) (a1 a2 : AV) (h1 : IsSl a1 B.ns 0) (h2 : IsSl a2 B.nc 1) (hn : B.ns ≤ 9223372036854775807) (hB : ¬ bkOk B) (q : Bool) : CanS 0 Try.prog 58 2 [bk B a1 a2, .bool q] [(0, some (oSt B)), (1, some (oCk B))] 2 fun v _ _ => v = .tup [.nils, .int .i64 60] := by
  have hk : AV.int .i64 (ckV B) = .int .i64 60 := (ck60 hB).symm
  refine CanS.mk Try.func58 rfl rfl rfl ?_
  repeat' (first | refine RT.nil ?_ | refine sq_n ?_ | refine Tr.seq ?_ | refine Tr.region ?_ | refine Tr.cond_t rfl ?_ | refine Tr.ret ?_ | refine sq_r ?_ | (refine RT.call rfl rfl rfl (val_is hk (Check6_at ⟨h1, h2, rfl, rfl, by decide⟩ hn _)) rfl rfl (Nat.le_refl _) ?_) | (refine RT.goK rfl rfl rfl rfl ?_; apply Nx.of; (first | exact S.neq_t (by decide))) | (refine RT.goK rfl rfl rfl rfl ?_; apply Nx.of; (first | exact S.move | exact S.assign | exact S.loadNc rfl rfl rfl rfl | exact S.box)))
  (first | refine rt_go rfl ?_)
  rfl
set_option maxRecDepth 100000 in
theorem asked_ask (B : CBook) (a1 a2 : AV) (h1 : IsSl a1 B.ns 0) (h2 : IsSl a2 B.nc 1) (hn : B.ns ≤ 9223372036854775807) (hB : bkOk B) : CanS 0 Try.prog 58 2 [bk B a1 a2, .bool false] [(0, some (oSt B)), (1, some (oCk B))] 2 fun v _ _ => v = .tup [.nils, .int .i64 61] := by
  have hk : AV.int .i64 (ckV B) = .int .i64 0 := (ck0 hB).symm
  refine CanS.mk Try.func58 rfl rfl rfl ?_
  repeat' (first | refine RT.nil ?_ | refine sq_n ?_ | refine Tr.seq ?_ | refine Tr.region ?_ | refine Tr.cond_t rfl ?_ | refine Tr.cond_f rfl ?_ | refine Tr.skip ?_ | refine Tr.ret ?_ | refine sq_r ?_ | (refine RT.call rfl rfl rfl (val_is hk (Check6_at ⟨h1, h2, rfl, rfl, by decide⟩ hn _)) rfl rfl (Nat.le_refl _) ?_) | (refine RT.goK rfl rfl rfl rfl ?_; apply Nx.of; (first | exact S.neq_f (by decide))) | (refine RT.goK rfl rfl rfl rfl ?_; apply Nx.of; (first | exact S.move | exact S.assign | exact S.loadNc rfl rfl rfl rfl | exact S.not_f | exact S.box)))
  (first | refine rt_go rfl ?_)
  rfl
theorem m3_low {B : CBook} {a1 a2 : AV} : ∀ x o, lookM [(2, some (.cells (bk B a1 a2).cells)), (0, some (oSt B)), (1, some (oCk B))] x = some o → x < 3 := fun x o hx => by have := lookM_mem hx; simp at this; omega
set_option maxRecDepth 100000 in
theorem asked_false (B : CBook) (a1 a2 : AV) (h1 : IsSl a1 B.ns 0) (h2 : IsSl a2 B.nc 1) (hn : B.ns ≤ 9223372036854775807) (hB : bkOk B) (hW : gW B = []) : CanS 0 Try.prog 58 2 [bk B a1 a2, .bool true] [(0, some (oSt B)), (1, some (oCk B))] 2 fun v _ _ => v = .tup [.nils, .int .i64 62] := by
  have hk : AV.int .i64 (ckV B) = .int .i64 0 := (ck0 hB).symm
  have htr : ∀ fl, OkAt 0 Try.prog fl 51 [bk B a1 a2] (ofM [(2, some (.cells (bk B a1 a2).cells)), (0, some (oSt B)), (1, some (oCk B))]) 3 .nils (ofM [(2, some (.cells (bk B a1 a2).cells)), (0, some (oSt B)), (1, some (oCk B))]) 200003 := fun fl => by
    have := rtruths_at h1 h2 hB (m3_low (B := B) (a1 := a1) (a2 := a2)) rfl rfl fl
    rw [hW] at this
    exact this
  have hsl : IsSl AV.nils 0 3 := IsSl.nils 3
  refine CanS.mk Try.func58 rfl rfl rfl ?_
  repeat' (first | refine RT.nil ?_ | refine sq_n ?_ | refine Tr.seq ?_ | refine Tr.region ?_ | refine Tr.cond_t rfl ?_ | refine Tr.cond_f rfl ?_ | refine Tr.skip ?_ | refine Tr.ret ?_ | refine sq_r ?_ | (refine RT.call rfl rfl rfl (val_is hk (Check6_at ⟨h1, h2, rfl, rfl, by decide⟩ hn _)) rfl rfl (Nat.le_refl _) ?_) | (refine RT.call rfl rfl rfl (htr _) rfl rfl (by decide) ?_) | (refine RT.goK rfl rfl rfl rfl ?_; first | refine Nx.of (S.len_sl rfl rfl rfl hsl) ?_) | (refine RT.goK rfl rfl rfl rfl ?_; apply Nx.of; (first | exact S.eql_t (by decide) | exact S.neq_f (by decide))) | (refine RT.goK rfl rfl rfl rfl ?_; apply Nx.of; (first | exact S.move | exact S.assign | exact S.loadNc rfl rfl rfl rfl | exact S.not_t | exact S.box)))
  (first | refine rt_go rfl ?_)
  rfl
set_option maxRecDepth 100000 in
theorem asked_yes (B : CBook) (a1 a2 : AV) (h1 : IsSl a1 B.ns 0) (h2 : IsSl a2 B.nc 1) (hn : B.ns ≤ 9223372036854775807) (hB : bkOk B) (hW : gW B ≠ []) : CanS 0 Try.prog 58 2 [bk B a1 a2, .bool true] [(0, some (oSt B)), (1, some (oCk B))] 2 fun v H1 c1 => v = .tup [.gs 3 (gW B).length, .int .i64 0] ∧ c1 = 200003 ∧ ∀ x o, lookM (goM B 3 (gW B)) x = some o → H1.get x = some o := by
  have hk : AV.int .i64 (ckV B) = .int .i64 0 := (ck0 hB).symm
  have hlp : 0 < (gW B).length := List.length_pos_iff.2 hW
  have htr : ∀ fl, OkAt 0 Try.prog fl 51 [bk B a1 a2] (ofM [(2, some (.cells (bk B a1 a2).cells)), (0, some (oSt B)), (1, some (oCk B))]) 3 (.gs 3 (gW B).length) (ofM (goM B 3 (gW B) ++ [(2, some (.cells (bk B a1 a2).cells)), (0, some (oSt B)), (1, some (oCk B))])) 200003 := fun fl => by
    have := rtruths_at h1 h2 hB (m3_low (B := B) (a1 := a1) (a2 := a2)) rfl rfl fl
    rw [show grI 3 (gW B).length = .gs 3 (gW B).length by cases hq : (gW B).length with | zero => omega | succ n => rfl] at this
    exact this
  have hsl : IsSl (AV.gs 3 (gW B).length) (gW B).length 3 := IsSl.gs 3 _
  have hne : ¬ ((gW B).length : Int) = 0 := by omega
  refine CanS.mk Try.func58 rfl rfl rfl ?_
  repeat' (first | refine RT.nil ?_ | refine sq_n ?_ | refine Tr.seq ?_ | refine Tr.region ?_ | refine Tr.cond_f rfl ?_ | refine Tr.skip ?_ | refine Tr.ret ?_ | (refine RT.call rfl rfl rfl (val_is hk (Check6_at ⟨h1, h2, rfl, rfl, by decide⟩ hn _)) rfl rfl (Nat.le_refl _) ?_) | (refine RT.call rfl rfl rfl (htr _) rfl rfl (by decide) ?_) | (refine RT.goK rfl rfl rfl rfl ?_; first | refine Nx.of (S.len_sl rfl rfl rfl hsl) ?_ | refine Nx.of (S.eql_f hne) ?_) | (refine RT.goK rfl rfl rfl rfl ?_; apply Nx.of; (first | exact S.neq_f (by decide))) | (refine RT.goK rfl rfl rfl rfl ?_; apply Nx.of; (first | exact S.move | exact S.assign | exact S.loadNc rfl rfl rfl rfl | exact S.not_t | exact S.box)))
  (first | refine rt_go rfl ?_)
  refine ⟨rfl, rfl, fun x o hx => ?_⟩
  rw [ofM_get]
  exact look_app hx
end Go.Proofs.Ytlnmcadbmpiopaa
/- The reference of layer 6: asked, ends at any memory; spans. -/
namespace Go.Proofs.Ytlnmcadbmpiopaa
open Go Go.Ev
section
variable {B : CBook} {a1 a2 : AV} {m : List (Nat × Option AObj)} {c : Nat}
theorem asked_no_at (h : BkIn B a1 a2 m c) (hn : B.ns ≤ 9223372036854775807) (hB : ¬ bkOk B) (q : Bool) (fl : Nat) : OkAt 0 Try.prog fl 58 [bk B a1 a2, .bool q] (ofM m) c (.tup [.nils, .int .i64 60]) (ofM m) c :=
  (asked_no B a1 a2 h.h1 h.h2 hn hB q).pure (fun _ => rfl) (h.entry _ fun _ => rfl) fl
theorem asked_ask_at (h : BkIn B a1 a2 m c) (hn : B.ns ≤ 9223372036854775807) (hB : bkOk B) (fl : Nat) : OkAt 0 Try.prog fl 58 [bk B a1 a2, .bool false] (ofM m) c (.tup [.nils, .int .i64 61]) (ofM m) c :=
  (asked_ask B a1 a2 h.h1 h.h2 hn hB).pure (fun _ => rfl) (h.entry _ fun _ => rfl) fl
theorem asked_false_at (h : BkIn B a1 a2 m c) (hn : B.ns ≤ 9223372036854775807) (hB : bkOk B) (hW : gW B = []) (fl : Nat) : OkAt 0 Try.prog fl 58 [bk B a1 a2, .bool true] (ofM m) c (.tup [.nils, .int .i64 62]) (ofM m) c :=
  (asked_false B a1 a2 h.h1 h.h2 hn hB hW).pure (fun _ => rfl) (h.entry _ fun _ => rfl) fl
theorem asked_yes_at (h1 : IsSl a1 B.ns 0) (h2 : IsSl a2 B.nc 1) (hn : B.ns ≤ 9223372036854775807) (hB : bkOk B) (hW : gW B ≠ []) (hm : ∀ x o, lookM m x = some o → x < c) (m0 : lookM m 0 = some (oSt B)) (m1 : lookM m 1 = some (oCk B)) (fl : Nat) :
    OkAt 0 Try.prog fl 58 [bk B a1 a2, .bool true] (ofM m) c (.tup [.gs (c + 1) (gW B).length, .int .i64 0]) (ofM (goM B (c + 1) (gW B) ++ m)) (c + 200001) := by
  have hcan := asked_yes B a1 a2 h1 h2 hn hB hW
  obtain ⟨L, hL⟩ : ∃ l, gW B = l := ⟨_, rfl⟩
  rw [hL] at hcan hW ⊢
  have := CanS.fresh (H' := ofM (goM B (c + 1) L ++ m)) (k := 200001) (v0 := .tup [.gs 1 L.length, .int .i64 0]) hcan
    (Entry.win (H := ofM m) (c := c) (W := [(0, 0, none), (1, 0, none)]) (CS := [flat (stE B) (List.range B.ns), flat (ckE B) (List.range B.nc)]) rfl
      ⟨⟨_, getM m0, .inr ⟨_, rfl, cut_all rfl⟩⟩, pls_flat _ _, ⟨_, getM m1, .inr ⟨_, rfl, cut_all rfl⟩⟩, pls_flat _ _, trivial⟩
      (show ArgsW _ [bk B a1 a2, .bool true] [bk B a1 a2, .bool true] from ⟨bk_arg h1 h2 rfl rfl, .pl (fun _ => rfl), trivial⟩)) (fun v1 H1 c1 ⟨g1, g2, g3⟩ => ?_) fl
  · exact this
  · refine ⟨by rw [g1]; rfl, g2, fun x o hx => ?_⟩
    rw [ofM_get] at hx
    by_cases hk : ∀ e ∈ goM B (c + 1) L, e.1 ≠ x
    · rw [look_skip hk] at hx
      exact .inl ⟨hm x o hx, getM hx⟩
    · obtain ⟨e, he⟩ := Classical.not_forall.1 hk
      obtain ⟨he1, he2⟩ := Classical.not_imp.1 he
      have hex : e.1 = x := Classical.byContradiction he2
      refine .inr ?_
      have h5 : ∃ o2, lookM (goM B (c + 1) L) x = some o2 := by
        rcases List.mem_append.1 he1 with h | h
        · have := ouM_keys e h
          rw [hex] at this
          subst this
          exact ⟨_, goM_list hW⟩
        · obtain ⟨j, hj, h2⟩ := keys_tms _ _ e h
          rw [hex, Nat.zero_add] at h2
          have := goM_tr (B := B) (c := c + 1) (List.getElem?_eq_getElem hj)
          rcases h2 with rfl | rfl
          · exact ⟨_, this.1⟩
          · exact ⟨_, this.2⟩
      obtain ⟨o2, h5⟩ := h5
      have h6 := look_app (gs := m) h5
      rw [hx] at h6
      cases h6
      have eA : ∀ j, 2 + (2 + 2 * j) = fC 3 j ∧ 2 + (3 + 2 * j) = gC 3 j := fun j => by unfold fC gC; omega
      have eC : ∀ j, c + (2 + 2 * j) = fC (c + 1) j ∧ c + (3 + 2 * j) = gC (c + 1) j := fun j => by unfold fC gC; omega
      rcases goM_look h5 with ⟨rfl, hne, rfl⟩ | ⟨j, u, hj, h | h⟩
      · refine ⟨1, .grown (tcsF (fun j => 2 + 2 * j) (fun j => 3 + 2 * j) B.ns 0 L) 3, by omega, ?_, ?_⟩
        · show H1.get 3 = some (AObj.grown (AV.rens _ (tcsF _ _ B.ns 0 L)) 3)
          rw [tcsF_ren, g3 3 _ (goM_list hne)]
          refine congrArg some (congrArg (fun cs => AObj.grown cs 3) ?_)
          exact tcsF_congr L 0 0 fun j hj => by
            rw [Nat.zero_add]
            exact ⟨(eA j).1.symm, (eA j).2.symm⟩
        · show _ = AObj.grown (AV.rens _ (tcsF _ _ B.ns 0 L)) 3
          rw [tcsF_ren]
          refine congrArg (fun cs => AObj.grown cs 3) ?_
          exact tcsF_congr L 0 0 fun j hj => by
            rw [Nat.zero_add]
            exact ⟨(eC j).1.symm, (eC j).2.symm⟩
      · obtain ⟨rfl, rfl⟩ := h
        refine ⟨2 + 2 * j, .grown (fE u.r B.ns) 1, (eC j).1.symm, ?_, (ren_grown _ _ _ _).symm⟩
        rw [ren_grown, (eA j).1]
        exact g3 _ _ (goM_tr hj).1
      · obtain ⟨rfl, rfl⟩ := h
        refine ⟨3 + 2 * j, .grown (fE u.c B.ns) 1, (eC j).2.symm, ?_, (ren_grown _ _ _ _).symm⟩
        rw [ren_grown, (eA j).2]
        exact g3 _ _ (goM_tr hj).2
end
noncomputable def gT (B : CBook) (i : Nat) : Tru := (gW B)[i]?.getD (tru0 0)
theorem gW_nil {B : CBook} (hB : bkOk B) : gW B = [] ↔ Ws B = [] := by
  constructor
  · intro h
    refine List.eq_nil_iff_forall_not_mem.2 fun t ht => ?_
    have := (mem_gW hB.1).2 ((mem_Ws hB.1 hB.2.1).1 ht)
    rw [h] at this
    cases this
  · intro h
    refine List.eq_nil_iff_forall_not_mem.2 fun t ht => ?_
    have := (mem_Ws hB.1 hB.2.1).2 ((mem_gW hB.1).1 ht)
    rw [h] at this
    cases this
end Go.Proofs.Ytlnmcadbmpiopaa
