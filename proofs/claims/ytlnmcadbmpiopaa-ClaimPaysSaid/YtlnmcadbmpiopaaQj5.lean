/- Texts of one kind, one behind the other: Ea, Eb, Ec, Ed, Ee, Ef, Eg, Eh, Ei. -/
import Derived.Test.YtlnmcadbmpiopaaQj4
set_option linter.unusedVariables false
set_option linter.unusedSimpArgs false
/- The reference of layer 6: right; Put. -/
namespace Go.Proofs.Ytlnmcadbmpiopaa
open Go Go.Ev

/-- All clocks of a stage are right, if the coach comes there in a minute. -/
def rgtP (B : CBook) (s mi : Int) (n : Nat) : Prop := ∀ k, k < n → B.ck k = s → -(B.er k) ≤ B.rd k - mi ∧ B.rd k - mi ≤ B.er k
/-- A valid book, or one with a clock more than there may be. -/
def bk5 (B : CBook) : Prop := stsOk B ∧ weaOk B ∧ (B.nc ≤ 5 ∧ ∀ i, i < B.nc → ckOk B (B.ck i) (B.rd i) (B.er i)) ∧ 0 ≤ B.rate ∧ B.rate ≤ 99
theorem bkOk.five {B : CBook} (h : bkOk B) : bk5 B := ⟨h.1, h.2.1, ⟨Nat.le_trans h.2.2.1.1 (by decide), h.2.2.1.2⟩, h.2.2.2⟩
theorem or_bd5 : ∀ k : Fin 5, ∀ a : Fin 16, a.1 < 2 ^ k.1 → 0 < orI (a.1 : Int) (1 * 2 ^ k.1) ∧ orI (a.1 : Int) (1 * 2 ^ k.1) < 2 ^ (k.1 + 1) := by decide +kernel
theorem or_bd5' {k : Nat} {a : Int} (hk : k < 5) (h0 : 0 ≤ a) (h1 : a < 2 ^ k) : 0 < orI a (1 * 2 ^ k) ∧ orI a (1 * 2 ^ k) < 2 ^ (k + 1) := by
  obtain ⟨n, rfl⟩ := Int.eq_ofNat_of_zero_le h0
  have h2 : (2 : Int) ^ k ≤ 16 := by
    obtain rfl | rfl | rfl | rfl | rfl : k = 0 ∨ k = 1 ∨ k = 2 ∨ k = 3 ∨ k = 4 := by omega
    all_goals decide
  have h3 : n < 2 ^ k := by exact_mod_cast h1
  exact or_bd5 ⟨k, hk⟩ ⟨n, by omega⟩ h3
theorem wrS_bd5 (B : CBook) (s mi : Int) : ∀ k, k ≤ 5 → 0 ≤ wrS B s mi k ∧ wrS B s mi k < 2 ^ k
  | 0, _ => by simp [wrS]
  | k + 1, h => by
    have ih := wrS_bd5 B s mi k (by omega)
    rw [wrS]
    by_cases hp : B.ck k = s ∧ ¬ (B.rd k - B.er k ≤ mi ∧ mi ≤ B.rd k + B.er k)
    · rw [dB_tt hp]
      have := or_bd5' (by omega) ih.1 ih.2
      exact ⟨Int.le_of_lt this.1, this.2⟩
    · rw [dB_ff hp]
      refine ⟨ih.1, Int.lt_of_lt_of_le ih.2 ?_⟩
      show (2 : Int) ^ k ≤ 2 ^ (k + 1)
      rw [Int.pow_succ]
      have : (0 : Int) ≤ 2 ^ k := Int.le_trans ih.1 (Int.le_of_lt ih.2)
      omega
theorem wrS_05 (B : CBook) (s mi : Int) : ∀ k, k ≤ 5 → (wrS B s mi k = 0 ↔ ∀ j, j < k → B.ck j = s → B.rd j - B.er j ≤ mi ∧ mi ≤ B.rd j + B.er j)
  | 0, _ => ⟨fun _ j hj => absurd hj (Nat.not_lt_zero j), fun _ => rfl⟩
  | k + 1, h => by
    have ih := wrS_05 B s mi k (by omega)
    have hb := wrS_bd5 B s mi k (by omega)
    rw [wrS]
    by_cases hp : B.ck k = s ∧ ¬ (B.rd k - B.er k ≤ mi ∧ mi ≤ B.rd k + B.er k)
    · rw [dB_tt hp]
      have := or_bd5' (by omega) hb.1 hb.2
      exact ⟨fun q => absurd q (Int.ne_of_gt this.1), fun q => absurd (q k (by omega) hp.1) hp.2⟩
    · rw [dB_ff hp]
      show wrS B s mi k = 0 ↔ _
      rw [ih]
      refine ⟨fun q j hj e => ?_, fun q j hj e => q j (by omega) e⟩
      by_cases g : j = k
      · subst g
        exact Classical.byContradiction fun u => hp ⟨e, u⟩
      · exact q j (by omega) e
theorem wrV_05 {B : CBook} (hB : B.nc ≤ 5) (q : Int × Int) : wrV B q = 0 ↔ ∀ k, k < B.nc → B.ck k = q.1 → B.rd k - B.er k ≤ q.2 ∧ q.2 ≤ B.rd k + B.er k := wrS_05 B q.1 q.2 B.nc hB
theorem rgtP_wr {B : CBook} (hB : B.nc ≤ 5) {s mi : Int} : rgtP B s mi B.nc ↔ wrV B (s, mi) = 0 := by
  rw [wrV_05 hB]
  exact ⟨fun h k hk e => by have := h k hk e; show B.rd k - B.er k ≤ mi ∧ mi ≤ B.rd k + B.er k; omega, fun h k hk e => by have : B.rd k - B.er k ≤ mi ∧ mi ≤ B.rd k + B.er k := h k hk e; omega⟩
set_option maxRecDepth 100000 in
set_option maxHeartbeats 4000000 in
theorem right_can6 (B : CBook) (a1 a2 : AV) (h1 : IsSl a1 B.ns 0) (h2 : IsSl a2 B.nc 1) (hck : B.nc ≤ 5 ∧ ∀ i, i < B.nc → ckOk B (B.ck i) (B.rd i) (B.er i)) (s mi : Int) (hmi : -100000 ≤ mi ∧ mi ≤ 100000) : CanS 0 Try.prog 112 2 [bk B a1 a2, .int .i64 s, .int .i64 mi] [(0, some (oSt B)), (1, some (oCk B))] 2 fun v _ _ => v = .bool (dB (rgtP B s mi B.nc)) := by
  have hnc := hck.1
  refine CanS.mk Try.func112 rfl rfl rfl ?_
  repeat' (first | refine RT.nil ?_ | refine sq_n ?_ | refine Tr.seq ?_ | refine Tr.region ?_ | refine Tr.block ?_ | (refine RT.goK rfl rfl rfl rfl ?_; apply Nx.of; (first | exact S.assign | exact S.box)))
  refine Tr.loop (fun k : Nat => stL Try.f112.ntmps [] [(1, .int .i64 s), (2, .int .i64 mi), (3, .ptr 2 0), (7, .int .i64 k)] [(2, some (.cells (bk B a1 a2).cells)), (0, some (oSt B)), (1, some (oCk B))] 3) (fun k => k ≤ B.nc ∧ rgtP B s mi k) (fun k => B.nc - k) 0 ⟨Nat.zero_le _, fun j hj => absurd hj (Nat.not_lt_zero j)⟩ (by (refine Wk.same (by decide) (by decide) (by decide) (by decide) ?_ ?_ rfl; all_goals ((try simp only [allL, allM]); (repeat' (first | exact trivial | refine And.intro ?_ ?_)); all_goals (first | rfl | exact ren_ro _ _ _ | exact bkc_ren h1 h2 (nm_lt (by decide)) (nm_lt (by decide)) | decide)))) (fun k ⟨hk, hp⟩ => ?_)
  by_cases hlt : k < B.nc
  · have hlt' : (k : Int) < B.nc := by omega
    have hc := hck.2 k hlt
    unfold ckOk at hc
    by_cases hs : B.ck k = s
    · by_cases ha : -(B.er k) ≤ B.rd k - mi ∧ B.rd k - mi ≤ B.er k
      · have hA : AV.bool (decide (-(B.er k) ≤ B.rd k - mi ∧ B.rd k - mi ≤ B.er k)) = .bool true := by rw [decide_eq_true ha]
        repeat' (first | refine RT.nil ?_ | refine sq_n ?_ | refine Tr.seq ?_ | refine Tr.region ?_ | refine Tr.cond_t rfl ?_ | refine Tr.cond_f rfl ?_ | refine Tr.skip ?_ | refine Tr.block ?_ | refine blk_n ?_ | (refine RT.goK rfl rfl rfl rfl ?_; first | refine Nx.of (S.lss_t hlt') ?_ | refine Nx.of (S.eql_t hs) ?_) | (refine RT.call rfl rfl rfl (val_is hA (Amid_at _ _ _ _ _ _)) rfl rfl (Nat.le_refl _) ?_) | (refine RT.goK rfl rfl rfl rfl ?_; apply Nx.of; (first | exact S.move | exact S.assign | exact S.load1c rfl rfl rfl rfl | exact S.fieldAddr rfl rfl rfl | exact S.not_t | exact S.pick_tt | exact S.alloc rfl | exact S.add_one (by omega) | exact S.sub (by unfold In64; omega) | exact S.neg (by unfold In64; omega))) | (refine RT.goK0 rfl rfl rfl ?_; apply Nx.of; (first | exact S.store rfl rfl rfl rfl rfl rfl)) | (refine RT.goK rfl rfl rfl rfl ?_; apply Nx.of; (first | exact S.idx_sl rfl rfl rfl (by assumption) (by omega) | exact S.rowN0 rfl rfl rfl (fun _ => rfl) (range_at (by omega)) rfl | exact S.len_sl rfl rfl rfl (by assumption))))
        refine lp_n (k + 1) ⟨hlt, fun j hj e => ?_⟩ (by omega) (by (refine Wk.same (by decide) (by decide) (by decide) (by decide) ?_ ?_ rfl; all_goals ((try simp only [allL, allM]); (repeat' (first | exact trivial | refine And.intro ?_ ?_)); all_goals (first | rfl | exact ren_ro _ _ _ | exact bkc_ren h1 h2 (nm_lt (by decide)) (nm_lt (by decide)) | decide))))
        by_cases g : j = k
        · subst g; exact ha
        · exact hp j (by omega) e
      · have hA : AV.bool (decide (-(B.er k) ≤ B.rd k - mi ∧ B.rd k - mi ≤ B.er k)) = .bool false := by rw [decide_eq_false ha]
        repeat' (first | refine RT.nil ?_ | refine sq_n ?_ | refine Tr.seq ?_ | refine Tr.region ?_ | refine Tr.cond_t rfl ?_ | refine Tr.skip ?_ | refine Tr.ret ?_ | refine sq_r ?_ | refine Tr.block ?_ | refine blk_r ?_ | refine lp_r ?_ | (refine RT.goK rfl rfl rfl rfl ?_; first | refine Nx.of (S.lss_t hlt') ?_ | refine Nx.of (S.eql_t hs) ?_) | (refine RT.call rfl rfl rfl (val_is hA (Amid_at _ _ _ _ _ _)) rfl rfl (Nat.le_refl _) ?_) | (refine RT.goK rfl rfl rfl rfl ?_; apply Nx.of; (first | exact S.move | exact S.assign | exact S.load1c rfl rfl rfl rfl | exact S.fieldAddr rfl rfl rfl | exact S.not_f | exact S.pick_tt | exact S.alloc rfl | exact S.sub (by unfold In64; omega) | exact S.neg (by unfold In64; omega))) | (refine RT.goK0 rfl rfl rfl ?_; apply Nx.of; (first | exact S.store rfl rfl rfl rfl rfl rfl)) | (refine RT.goK rfl rfl rfl rfl ?_; apply Nx.of; (first | exact S.idx_sl rfl rfl rfl (by assumption) (by omega) | exact S.rowN0 rfl rfl rfl (fun _ => rfl) (range_at (by omega)) rfl | exact S.len_sl rfl rfl rfl (by assumption))))
        (first | refine rt_go rfl ?_)
        rw [dB_ff fun g => ha (g k hlt hs)]
        rfl
    · repeat' (first | refine RT.nil ?_ | refine sq_n ?_ | refine Tr.seq ?_ | refine Tr.region ?_ | refine Tr.cond_t rfl ?_ | refine Tr.cond_f rfl ?_ | refine Tr.skip ?_ | refine Tr.block ?_ | refine blk_n ?_ | (refine RT.goK rfl rfl rfl rfl ?_; first | refine Nx.of (S.lss_t hlt') ?_ | refine Nx.of (S.eql_f hs) ?_) | (refine RT.goK rfl rfl rfl rfl ?_; apply Nx.of; (first | exact S.move | exact S.assign | exact S.load1c rfl rfl rfl rfl | exact S.fieldAddr rfl rfl rfl | exact S.pick_ff | exact S.alloc rfl | exact S.add_one (by omega))) | (refine RT.goK0 rfl rfl rfl ?_; apply Nx.of; (first | exact S.store rfl rfl rfl rfl rfl rfl)) | (refine RT.goK rfl rfl rfl rfl ?_; apply Nx.of; (first | exact S.idx_sl rfl rfl rfl (by assumption) (by omega) | exact S.rowN0 rfl rfl rfl (fun _ => rfl) (range_at (by omega)) rfl | exact S.len_sl rfl rfl rfl (by assumption))) | (refine RT.no rfl rfl rfl ?_))
      refine lp_n (k + 1) ⟨hlt, fun j hj e => ?_⟩ (by omega) (by (refine Wk.same (by decide) (by decide) (by decide) (by decide) ?_ ?_ rfl; all_goals ((try simp only [allL, allM]); (repeat' (first | exact trivial | refine And.intro ?_ ?_)); all_goals (first | rfl | exact ren_ro _ _ _ | exact bkc_ren h1 h2 (nm_lt (by decide)) (nm_lt (by decide)) | decide))))
      by_cases g : j = k
      · subst g; exact absurd e hs
      · exact hp j (by omega) e
  · obtain rfl : k = B.nc := by omega
    have hlt' : ¬ (B.nc : Int) < B.nc := by omega
    repeat' (first | refine RT.nil ?_ | refine sq_n ?_ | refine Tr.seq ?_ | refine Tr.region ?_ | refine Tr.cond_f rfl ?_ | refine Tr.ret ?_ | refine Tr.exit ?_ | refine sq_x ?_ | refine blk_hit rfl ?_ | refine lp_x ?_ | (refine RT.goK rfl rfl rfl rfl ?_; first | refine Nx.of (S.lss_f hlt') ?_) | (refine RT.goK rfl rfl rfl rfl ?_; apply Nx.of; (first | exact S.move | exact S.assign | exact S.load1c rfl rfl rfl rfl | exact S.fieldAddr rfl rfl rfl)) | (refine RT.goK rfl rfl rfl rfl ?_; apply Nx.of; (first | exact S.len_sl rfl rfl rfl (by assumption))))
    (first | refine rt_go rfl ?_)
    rw [dB_tt hp]
    rfl
theorem right6_at {B : CBook} {a1 a2 : AV} {m : List (Nat × Option AObj)} {c : Nat} (h : BkIn B a1 a2 m c) (hck : B.nc ≤ 5 ∧ ∀ i, i < B.nc → ckOk B (B.ck i) (B.rd i) (B.er i)) (s mi : Int) (hmi : -100000 ≤ mi ∧ mi ≤ 100000) (fl : Nat) : OkAt 0 Try.prog fl 112 [bk B a1 a2, .int .i64 s, .int .i64 mi] (ofM m) c (.bool (dB (rgtP B s mi B.nc))) (ofM m) c :=
  (right_can6 B a1 a2 h.h1 h.h2 hck s mi hmi).pure (.bool _) (h.entry _ fun _ => rfl) fl

/-- Where the longer list lies. -/
def puX (n : Nat) : Nat := if n = 0 then 2 else 3
def puF (f : Nat → Int) (n : Nat) (p : Int) : Nat → Int := fun i => if i = n then p else f i
theorem fE_congr {f g : Nat → Int} : ∀ {n : Nat}, (∀ i, i < n → f i = g i) → fE f n = fE g n
  | 0, _ => rfl
  | n + 1, h => by rw [fE_succ, fE_succ, fE_congr fun i hi => h i (by omega), h n (Nat.lt_succ_self n)]
theorem puF_E (f : Nat → Int) (n : Nat) (p : Int) : fE (puF f n p) (n + 1) = fE f n ++ [.int .i64 p] := by
  rw [fE_succ, fE_congr (f := puF f n p) (g := f) fun i hi => if_neg (by omega)]
  show _ ++ [AV.int .i64 (if n = n then p else f n)] = _
  rw [if_pos rfl]
set_option maxRecDepth 100000 in
set_option maxHeartbeats 4000000 in
theorem Put_can (f : Nat → Int) (n : Nat) (a : AV) (h1 : IsSl a n 0) (hn : n ≤ 1000) (p : Int) : CanS 0 Try.prog 113 1 [a, .int .i64 p] [(0, some (.ro (fE f n)))] 1 fun v H1 c1 => v = .gs (1 + puX n) (n + 1) ∧ c1 ≤ 1 + 4 ∧ H1.get (1 + puX n) = some (.grown (fE f n ++ [.int .i64 p]) 1) := by
  refine CanS.mk Try.func113 rfl rfl rfl ?_
  by_cases h0 : n = 0
  · have hw : puX n = 2 := by unfold puX; rw [if_pos h0]
    rw [hw, h0]
    rw [h0] at h1
    repeat' (first | refine RT.nil ?_ | refine sq_n ?_ | refine Tr.seq ?_ | refine Tr.region ?_ | refine Tr.ret ?_ | (refine RT.goK rfl rfl rfl rfl ?_; apply Nx.of; (first | exact S.append_e0 rfl rfl rfl rfl rfl rfl rfl rfl h1 rfl rfl | exact S.append_e1I rfl rfl rfl rfl rfl rfl rfl rfl rfl rfl rfl rfl)) | (refine RT.goK rfl rfl rfl rfl ?_; apply Nx.of; (first | exact S.move | exact S.assign | exact S.buildSlice0 rfl rfl rfl | exact S.buildSlice rfl rfl rfl rfl rfl rfl rfl)))
    (first | refine rt_go rfl ?_)
    exact ⟨rfl, by decide, getM rfl⟩
  · have hw : puX n = 3 := by unfold puX; rw [if_neg h0]
    rw [hw]
    repeat' (first | refine RT.nil ?_ | refine sq_n ?_ | refine Tr.seq ?_ | refine Tr.region ?_ | refine Tr.ret ?_ | (refine RT.goK rfl rfl rfl rfl ?_; apply Nx.of; (first | exact S.append_eI rfl rfl rfl rfl rfl rfl rfl rfl rfl rfl h1 rfl rfl (by rw [fE_len, Nat.mul_one]) (by omega) (by omega) | exact S.append_gsI rfl rfl rfl rfl rfl rfl rfl rfl rfl rfl rfl rfl rfl (cut_all (by rw [fE_len, Nat.mul_one])) (by omega) rfl)) | (refine RT.goK rfl rfl rfl rfl ?_; apply Nx.of; (first | exact S.move | exact S.assign | exact S.buildSlice0 rfl rfl rfl | exact S.buildSlice rfl rfl rfl rfl rfl rfl rfl)))
    (first | refine rt_go rfl ?_)
    exact ⟨rfl, by decide, getM rfl⟩
theorem Put_at {m : List (Nat × Option AObj)} {c : Nat} {v : AV} {f : Nat → Int} {n : Nat} (h : Li m v f n) (hm : ∀ x o, lookM m x = some o → x < c) (hn : n ≤ 1000) (p : Int) (fl : Nat) : OkAt 0 Try.prog fl 113 [v, .int .i64 p] (ofM m) c (.gs c (n + 1)) (ofM ((c, some (.grown (fE (puF f n p) (n + 1)) 1)) :: m)) (c + 4) := by
  obtain ⟨w, hw, ha⟩ := h.ex
  obtain ⟨a, h1, h2⟩ := ha [w] 0 rfl
  have hx : puX n = 2 ∨ puX n = 3 := by unfold puX; split <;> omega
  have e0 : ∀ (σ : Nat → Nat) (x k : Nat), (AV.gs x k).ren σ = .gs (σ x) k := fun _ _ _ => rfl
  have := CanS.freshU (swT (puX n)) (H' := ofM ((c, some (.grown (fE (puF f n p) (n + 1)) 1)) :: m)) (k := 4) (v0 := .gs 0 (n + 1)) (Put_can f n a h2 hn p) (fun j hj => by unfold swT; (repeat' split) <;> omega) swT_inj
    (Entry.win (H := ofM m) (c := c) (W := [w]) (CS := [fE f n]) rfl ⟨hw, fE_pls f n, trivial⟩ (show ArgsW [w] [v, .int .i64 p] [a, .int .i64 p] from ⟨h1, .pl (.int _ _), trivial⟩)) (fun v1 H1 c1 ⟨g1, g2, g3⟩ => ?_) fl
  · exact this
  · refine ⟨g1, g2, fun x o hxx => ?_⟩
    rw [ofM_get] at hxx
    by_cases e1 : x = c
    · subst e1
      rw [lookM_hd] at hxx
      cases hxx
      refine .inr ⟨0, .grown (fE (puF f n p) (n + 1)) 1, rfl, ?_, (ren_grown _ _ _ _).symm⟩
      rw [ren_grown]
      show H1.get (1 + puX n) = some (.grown (fE (puF f n p) (n + 1)) 1)
      rw [puF_E]
      exact g3
    · rw [lookM_tl e1] at hxx
      exact .inl ⟨hm x o hxx, getM hxx⟩
end Go.Proofs.Ytlnmcadbmpiopaa

/- Lists of truths of the reference: structs with lists, under names in a row. -/
namespace Go.Proofs.Ytlnmcadbmpiopaa
open Go Go.Ev

section
variable (f g : Nat → Nat) (k : Nat)
/-- The cells of a list of truths whose lists lie under these names. -/
def tcsF : Nat → List Tru → List AV
  | _, [] => []
  | i, t :: L => .int .i64 t.w :: grI (f i) k :: grI (g i) k :: tcsF (i + 1) L
def tmsF : Nat → List Tru → List (Nat × Option AObj)
  | _, [] => []
  | i, t :: L => (f i, some (.grown (fE t.r k) 1)) :: (g i, some (.grown (fE t.c k) 1)) :: tmsF (i + 1) L
end
def fA (i : Nat) : Nat := 100 + 2 * i
def gA (i : Nat) : Nat := 101 + 2 * i
section
variable {f g : Nat → Nat} {k : Nat}
theorem tcsF_len : ∀ (L : List Tru) (i : Nat), (tcsF f g k i L).length = L.length * 3
  | [], _ => rfl
  | t :: L, i => by
    show (tcsF f g k (i + 1) L).length + 1 + 1 + 1 = (L.length + 1) * 3
    rw [tcsF_len L (i + 1)]; omega
theorem tcsF_app : ∀ (L M : List Tru) (i : Nat), tcsF f g k i (L ++ M) = tcsF f g k i L ++ tcsF f g k (i + L.length) M
  | [], _, _ => rfl
  | t :: L, M, i => by
    show _ :: _ :: _ :: tcsF f g k (i + 1) (L ++ M) = _ :: _ :: _ :: (tcsF f g k (i + 1) L ++ _)
    rw [tcsF_app L M (i + 1), List.length_cons, show i + 1 + L.length = i + (L.length + 1) by omega]
theorem tcsF_ren (σ : Nat → Nat) : ∀ (L : List Tru) (i : Nat), AV.rens σ (tcsF f g k i L) = tcsF (fun j => σ (f j)) (fun j => σ (g j)) k i L
  | [], _ => rfl
  | t :: L, i => by simp only [tcsF, AV.rens, AV.ren, grI_ren σ rfl, tcsF_ren σ L (i + 1)]
theorem tcsF_congr {f' g' : Nat → Nat} : ∀ (L : List Tru) (i i' : Nat), (∀ j, j < L.length → f (i + j) = f' (i' + j) ∧ g (i + j) = g' (i' + j)) → tcsF f g k i L = tcsF f' g' k i' L
  | [], _, _, _ => rfl
  | t :: L, i, i', h => by
    have h0 := h 0 (by simp)
    simp only [Nat.add_zero] at h0
    rw [tcsF, tcsF, h0.1, h0.2, tcsF_congr L (i + 1) (i' + 1) fun j hj => by
      have := h (j + 1) (by simp; omega)
      rwa [show i + (j + 1) = i + 1 + j by omega, show i' + (j + 1) = i' + 1 + j by omega] at this]
theorem grI_one (x n : Nat) : (grI x n).one = true := by cases n <;> rfl
theorem tcsF_one : ∀ (L : List Tru) (i : Nat), (tcsF f g k i L).all AV.one = true
  | [], _ => rfl
  | t :: L, i => by simp only [tcsF, List.all_cons, grI_one, tcsF_one L (i + 1), Bool.and_true]; rfl
theorem tcsF_at : ∀ (L : List Tru) (i j : Nat) (t : Tru), L[j]? = some t → (tcsF f g k i L)[j * 3]? = some (.int .i64 t.w) ∧ (tcsF f g k i L)[j * 3 + 1]? = some (grI (f (i + j)) k) ∧ (tcsF f g k i L)[j * 3 + 2]? = some (grI (g (i + j)) k)
  | [], _, _, _, h => by simp at h
  | t :: L, i, 0, u, h => by
    simp only [List.getElem?_cons_zero, Option.some.injEq] at h
    subst h
    exact ⟨rfl, rfl, rfl⟩
  | t :: L, i, j + 1, u, h => by
    have := tcsF_at L (i + 1) j u (by simpa using h)
    rw [show i + 1 + j = i + (j + 1) by omega] at this
    have e : ∀ q, (tcsF f g k i (t :: L))[(j + 1) * 3 + q]? = (tcsF f g k (i + 1) L)[j * 3 + q]? := fun q => by
      rw [show (j + 1) * 3 + q = j * 3 + q + 1 + 1 + 1 by omega]
      rfl
    exact ⟨(e 0).trans this.1, (e 1).trans this.2.1, (e 2).trans this.2.2⟩
theorem allM_tms {p : Nat → AObj → Prop} : ∀ (L : List Tru) (i : Nat), (∀ j t, L[j]? = some t → p (f (i + j)) (.grown (fE t.r k) 1) ∧ p (g (i + j)) (.grown (fE t.c k) 1)) → allM p (tmsF f g k i L)
  | [], _, _ => trivial
  | t :: L, i, h => by
    have h0 := h 0 t rfl
    exact ⟨h0.1, h0.2, allM_tms L (i + 1) fun j u hu => by
      have := h (j + 1) u (by simpa using hu)
      rwa [show i + (j + 1) = i + 1 + j by omega] at this⟩
theorem allM_app {p : Nat → AObj → Prop} : ∀ {ms gs : List (Nat × Option AObj)}, allM p ms → allM p gs → allM p (ms ++ gs)
  | [], _, _, h => h
  | (x, some o) :: ms, gs, h, k => ⟨h.1, allM_app h.2 k⟩
  | (x, none) :: ms, gs, h, k => allM_app (ms := ms) h k
theorem look_skip {x : Nat} : ∀ {ms gs : List (Nat × Option AObj)}, (∀ e ∈ ms, e.1 ≠ x) → lookM (ms ++ gs) x = lookM gs x
  | [], _, _ => rfl
  | (y, o) :: ms, gs, h => by
    have hy : y ≠ x := h (y, o) List.mem_cons_self
    rw [List.cons_append, lookM_tl hy.symm]
    exact look_skip fun e he => h e (List.mem_cons_of_mem _ he)
/-- Families whose names go in steps of two. -/
structure Fam (f g : Nat → Nat) (n : Nat) : Prop where
  hf : ∀ i j, i < n → j < n → f i = f j → i = j
  hg : ∀ i j, i < n → j < n → g i = g j → i = j
  hd : ∀ i j, i < n → j < n → f i ≠ g j
theorem look_tms : ∀ (L : List Tru) (i j n : Nat) (t : Tru), Fam f g n → i + L.length ≤ n → L[j]? = some t → lookM (tmsF f g k i L) (f (i + j)) = some (.grown (fE t.r k) 1) ∧ lookM (tmsF f g k i L) (g (i + j)) = some (.grown (fE t.c k) 1)
  | [], _, _, _, _, _, _, h => by simp at h
  | t :: L, i, 0, n, u, hF, hn, h => by
    simp only [List.getElem?_cons_zero, Option.some.injEq] at h
    subst h
    simp only [List.length_cons] at hn
    refine ⟨lookM_hd, ?_⟩
    show lookM ((f i, _) :: (g i, _) :: _) (g i) = _
    rw [lookM_tl (hF.hd i i (by omega) (by omega)).symm]
    exact lookM_hd
  | t :: L, i, j + 1, n, u, hF, hn, h => by
    simp only [List.length_cons] at hn
    have hj : j < L.length := Classical.byContradiction fun q => by rw [List.getElem?_cons_succ, List.getElem?_eq_none (by omega)] at h; cases h
    have := look_tms L (i + 1) j n u hF (by omega) (by simpa using h)
    rw [show i + 1 + j = i + (j + 1) by omega] at this
    constructor
    · show lookM ((f i, _) :: (g i, _) :: _) (f (i + (j + 1))) = _
      rw [lookM_tl (fun e => by have := hF.hf _ _ (by omega) (by omega) e; omega), lookM_tl (hF.hd _ _ (by omega) (by omega))]
      exact this.1
    · show lookM ((f i, _) :: (g i, _) :: _) (g (i + (j + 1))) = _
      rw [lookM_tl (hF.hd i _ (by omega) (by omega)).symm, lookM_tl (fun e => by have := hF.hg _ _ (by omega) (by omega) e; omega)]
      exact this.2
theorem keys_tms : ∀ (L : List Tru) (i : Nat), ∀ e ∈ tmsF f g k i L, ∃ j, j < L.length ∧ (e.1 = f (i + j) ∨ e.1 = g (i + j))
  | [], _, e, h => by cases h
  | t :: L, i, e, h => by
    rcases List.mem_cons.1 h with rfl | h
    · exact ⟨0, by simp, .inl rfl⟩
    rcases List.mem_cons.1 h with rfl | h
    · exact ⟨0, by simp, .inr rfl⟩
    obtain ⟨j, hj, h1⟩ := keys_tms L (i + 1) e h
    exact ⟨j + 1, by simp; omega, by rwa [show i + (j + 1) = i + 1 + j by omega]⟩
end
theorem famA_ok (n : Nat) : Fam fA gA n := ⟨fun i j _ _ h => by unfold fA at h; omega, fun i j _ _ h => by unfold gA at h; omega, fun i j _ _ => by unfold fA gA; omega⟩
/-- A list of truths where it lies. -/
def ouM (f g : Nat → Nat) (n x : Nat) (L : List Tru) : List (Nat × Option AObj) := match L with | [] => [] | _ :: _ => [(x, some (.grown (tcsF f g n 0 L) 3))]
theorem pinX_nc {f : Nat} {args : List AV} {m m' : List (Nat × Option AObj)} {c c' c1 fl f1 : Nat} {v : AV} {args1 : List AV} {H1 : T AObj} (h : c1 ≠ c) : pinX f args m c v m' c' fl f1 args1 H1 c1 = none := by
  unfold pinX
  rw [if_neg fun q => h q.2.2.2]

/-- All truths that begin so: the reference's order. -/
noncomputable def gL (B : CBook) : Nat → Nat → Tru → Int → List Tru
  | 0, _, t, _ => [t]
  | rem + 1, i, t, fr => (ints (B.dl i) (B.dh i)).flatMap fun d => (ints (B.rl i) (B.rh i)).flatMap fun r =>
    if wrV B ((i : Int), fr + d + r + B.cost t.w.toNat) = 0 then (ints (B.sl i) (B.sh i)).flatMap fun s => gL B rem (i + 1) (tru2 t i r (fr + d + r + B.cost t.w.toNat)) (fr + d + r + B.cost t.w.toNat + s) else []
theorem flatMap_len {α β : Type} {f : α → List β} {K : Nat} : ∀ {l : List α}, (∀ a ∈ l, (f a).length ≤ K) → (l.flatMap f).length ≤ l.length * K
  | [], _ => by simp
  | a :: l, h => by
    rw [List.flatMap_cons, List.length_append, List.length_cons, Nat.succ_mul]
    have h1 := h a List.mem_cons_self
    have h2 := flatMap_len (l := l) fun b hb => h b (List.mem_cons_of_mem _ hb)
    omega
end Go.Proofs.Ytlnmcadbmpiopaa

/- The reference of layer 6: goes: its end, and how its lists are renamed. -/
namespace Go.Proofs.Ytlnmcadbmpiopaa
open Go Go.Ev

set_option maxRecDepth 100000 in
set_option maxHeartbeats 4000000 in
theorem leaf_can (B : CBook) (a1 a2 : AV) (w : Int) (h1 : IsSl a1 B.ns 0) (h2 : IsSl a2 B.nc 1) (fr : Int) : CanS 0 Try.prog 89 4 [bk B a1 a2, .agg [.int .i64 w, .gs 2 B.ns, .gs 3 B.ns], .int .i64 fr] [(0, some (oSt B))] 4 fun v H1 c1 => v = .sl 6 0 1 1 ∧ c1 = 7 ∧ H1.get 6 = some (.cells [.int .i64 w, .gs 2 B.ns, .gs 3 B.ns]) := by
  have hs := IsSl.gs 3 B.ns
  have he : (B.ns : Int) = B.ns := rfl
  refine CanS.mk Try.func89 rfl rfl rfl ?_
  repeat' (first | refine RT.nil ?_ | refine sq_n ?_ | refine Tr.seq ?_ | refine Tr.region ?_ | refine Tr.cond_t rfl ?_ | refine Tr.ret ?_ | refine sq_r ?_ | (refine RT.goK rfl rfl rfl rfl ?_; refine Nx.of (S.eql_t he) ?_) | (refine RT.goK rfl rfl rfl rfl ?_; apply Nx.of; (first | exact S.move | exact S.assign | exact S.load1c rfl rfl rfl rfl | exact S.loadNc rfl rfl rfl rfl | exact S.fieldAddr rfl rfl rfl | exact S.box | exact S.buildSlice rfl rfl rfl rfl rfl rfl rfl)) | (refine RT.goK rfl rfl rfl rfl ?_; apply Nx.of; (first | exact S.len_sl rfl rfl rfl (by assumption))))
  (first | refine rt_go rfl ?_)
  exact ⟨rfl, rfl, getM rfl⟩
theorem leaf_at {B : CBook} {a1 a2 : AV} {w : Int} (h1 : IsSl a1 B.ns 0) (h2 : IsSl a2 B.nc 1) (fr : Int) {m : List (Nat × Option AObj)} {c y z : Nat} (hm : ∀ x o, lookM m x = some o → x < c) (hc : 4 ≤ c) (hy : y < c) (hz : z < c) (m0 : lookM m 0 = some (oSt B)) (fl : Nat) :
    OkAt 0 Try.prog fl 89 [bk B a1 a2, .agg [.int .i64 w, .gs y B.ns, .gs z B.ns], .int .i64 fr] (ofM m) c (.sl (c + 2) 0 1 1) (ofM ((c + 2, some (.cells [.int .i64 w, .gs y B.ns, .gs z B.ns])) :: m)) (c + 3) := by
  let τ : Nat → Nat := fun q => if q = 0 then 0 else if q = 1 then 1 else if q = 2 then y else if q = 3 then z else c + (q - 4)
  have t0 : τ 0 = 0 := rfl
  have t1 : τ 1 = 1 := rfl
  have t2 : τ 2 = y := rfl
  have t3 : τ 3 = z := rfl
  have t6 : τ 6 = c + 2 := rfl
  have ha : AV.rens τ [bk B a1 a2, .agg [.int .i64 w, .gs 2 B.ns, .gs 3 B.ns], .int .i64 fr] = [bk B a1 a2, .agg [.int .i64 w, .gs y B.ns, .gs z B.ns], .int .i64 fr] := by
    simp only [bk, AV.ren, AV.rens, h1.ren t0, h2.ren t1, t2, t3]
  rw [← ha]
  have low : ∀ {u : Nat} {ob : AObj}, lookM [(0, some (oSt B))] u = some ob → u = 0 := fun {u ob} hu => by
    have := lookM_mem hu
    simpa using this
  refine CanS.inst (leaf_can B a1 a2 w h1 h2 fr) (Nat.zero_le _) (Nat.le_refl _) τ (fun g hg => by omega) (fun q hq => by simp only [τ]; (repeat' split) <;> omega) (fun q hq => by simp only [τ]; rw [if_neg (by omega), if_neg (by omega), if_neg (by omega), if_neg (by omega)]) (fun q o hq => ?_) (fun p q o o' hp hq hpq => ?_) (fun q hq hq' => by omega) (fun v1 H1 c1 hk _ => ?_)
  · obtain rfl := low hq
    cases hq
    rw [t0, ren_ro]
    exact getM m0
  · exact absurd ((low hp).trans (low hq).symm) hpq
  · obtain ⟨rfl, rfl, g1⟩ := hk
    refine ⟨by show AV.sl (τ 6) 0 1 1 = _; rw [t6], by omega, fun p o hp => ?_⟩
    rw [ofM_get] at hp
    by_cases e1 : p = c + 2
    · subst e1
      rw [lookM_hd] at hp
      cases hp
      refine .inr ⟨6, _, by omega, g1, t6.symm, ?_⟩
      simp only [AObj.ren, AV.ren, AV.rens, t2, t3]
    · rw [lookM_tl e1] at hp
      exact .inl ⟨hm p o hp, fun q hq hq' => by omega, getM hp⟩

/-- How names are moved, once a list is appended. -/
def gsg (a b A A' x c : Nat) (y : Nat) : Nat := if y = 7 then x else if y < 100 then y else if y < 100 + 2 * a then y else if y < 100 + 2 * (a + b) then (if y % 2 = 0 then A + (y - (100 + 2 * a)) else A' + (y - (101 + 2 * a))) else c + y
set_option maxHeartbeats 4000000 in
theorem go_wk {B : CBook} {a1 a2 a3 a4 : AV} {r e : Nat → Int} {w : Int} {k : Nat} (h1 : IsSl a1 B.ns 0) (h2 : IsSl a2 B.nc 1) (h3 : IsSl a3 k 2) (h4 : IsSl a4 k 3) {nt c x A A' n : Nat} {l l2 : List (Nat × AV)} {m : List (Nat × Option AObj)} {L L' : List Tru}
    (hN : L.length + L'.length ≤ 20000) (hA : 100000 ≤ A) (hA' : 100000 ≤ A') (hAA : A' = A + 1 ∨ (L'.length ≤ 1 ∧ A ≠ A')) (hx : x = 7 ∨ (A + 2 * L'.length ≤ x ∧ A' + 2 * L'.length ≤ x ∧ 100000 ≤ x))
    (hl : allL (fun t v => Go.Ev.look l t = some (v.ren (gsg L.length L'.length A A' x c))) l2) (t9 : Go.Ev.look l 9 = some (grI x (L ++ L').length))
    (g6 : lookM m 6 = some (.cells [.int .i64 (B.due k), .int .i64 (B.dl k), .int .i64 (B.dh k), .int .i64 (B.rl k), .int .i64 (B.rh k), .int .i64 (B.sl k), .int .i64 (B.sh k)])) (g5 : lookM m 5 = some (.cells [.int .i64 w, a3, a4])) (g4 : lookM m 4 = some (.cells (bk B a1 a2).cells)) (g0 : lookM m 0 = some (oSt B)) (g1 : lookM m 1 = some (oCk B)) (g2 : lookM m 2 = some (.ro (fE r k))) (g3 : lookM m 3 = some (.ro (fE e k)))
    (gO : L ++ L' ≠ [] → lookM m x = some (.grown (tcsF fA gA n 0 L ++ tcsF (fun j => A + 2 * j) (fun j => A' + 2 * j) n 0 L') 3))
    (gold : ∀ j t, L[j]? = some t → lookM m (fA j) = some (.grown (fE t.r n) 1) ∧ lookM m (gA j) = some (.grown (fE t.c n) 1))
    (gnew : ∀ j t, L'[j]? = some t → lookM m (A + 2 * j) = some (.grown (fE t.r n) 1) ∧ lookM m (A' + 2 * j) = some (.grown (fE t.c n) 1)) :
    Wk 0 4 4 (stL nt [] l m c) (stL nt [] ((9, grI 7 (L ++ L').length) :: l2) ([(6, some (.cells [.int .i64 (B.due k), .int .i64 (B.dl k), .int .i64 (B.dh k), .int .i64 (B.rl k), .int .i64 (B.rh k), .int .i64 (B.sl k), .int .i64 (B.sh k)])), (5, some (.cells [.int .i64 w, a3, a4])), (4, some (.cells (bk B a1 a2).cells)), (0, some (oSt B)), (1, some (oCk B)), (2, some (.ro (fE r k))), (3, some (.ro (fE e k)))] ++ (ouM fA gA n 7 (L ++ L') ++ tmsF fA gA n 0 (L ++ L'))) 100000) := by
  obtain ⟨σ, hσ⟩ : ∃ σ, gsg L.length L'.length A A' x c = σ := ⟨_, rfl⟩
  rw [hσ] at hl
  have s7 : σ 7 = x := by rw [← hσ]; rfl
  have sl : ∀ y, y < 7 → σ y = y := fun y hy => by rw [← hσ]; unfold gsg; rw [if_neg (by omega), if_pos (by omega)]
  have sold : ∀ j, j < L.length → σ (fA j) = fA j ∧ σ (gA j) = gA j := fun j hj => by
    rw [← hσ]
    unfold gsg fA gA
    refine ⟨?_, ?_⟩
    · rw [if_neg (by omega), if_neg (by omega), if_pos (by omega)]
    · rw [if_neg (by omega), if_neg (by omega), if_pos (by omega)]
  have snew : ∀ j, j < L'.length → σ (fA (L.length + j)) = A + 2 * j ∧ σ (gA (L.length + j)) = A' + 2 * j := fun j hj => by
    rw [← hσ]
    unfold gsg fA gA
    refine ⟨?_, ?_⟩
    · rw [if_neg (by omega), if_neg (by omega), if_neg (by omega), if_pos (by omega), if_pos (by omega)]; omega
    · rw [if_neg (by omega), if_neg (by omega), if_neg (by omega), if_pos (by omega), if_neg (by omega)]; omega
  have hm : allM (fun y o => lookM m (σ y) = some (o.ren σ)) ([(6, some (.cells [.int .i64 (B.due k), .int .i64 (B.dl k), .int .i64 (B.dh k), .int .i64 (B.rl k), .int .i64 (B.rh k), .int .i64 (B.sl k), .int .i64 (B.sh k)])), (5, some (.cells [.int .i64 w, a3, a4])), (4, some (.cells (bk B a1 a2).cells)), (0, some (oSt B)), (1, some (oCk B)), (2, some (.ro (fE r k))), (3, some (.ro (fE e k)))] ++ (ouM fA gA n 7 (L ++ L') ++ tmsF fA gA n 0 (L ++ L'))) := by
    refine allM_app ?_ (allM_app ?_ ?_)
    · have e5 : (AObj.cells [.int .i64 w, a3, a4]).ren σ = .cells [.int .i64 w, a3, a4] := by
        simp only [AObj.ren, AV.ren, AV.rens, h3.ren (sl 2 (by decide)), h4.ren (sl 3 (by decide))]
      refine ⟨?_, ?_, ?_, ?_, ?_, ?_, ?_, trivial⟩
      · show lookM m (σ 6) = _; rw [sl 6 (by decide), g6]; rfl
      · show lookM m (σ 5) = _; rw [sl 5 (by decide), g5, e5]
      · show lookM m (σ 4) = _; rw [sl 4 (by decide), g4, bkc_ren h1 h2 (sl 0 (by decide)) (sl 1 (by decide))]
      · show lookM m (σ 0) = _; rw [sl 0 (by decide), g0, ren_ro]
      · show lookM m (σ 1) = _; rw [sl 1 (by decide), g1, ren_ro]
      · show lookM m (σ 2) = _; rw [sl 2 (by decide), g2, ren_ro]
      · show lookM m (σ 3) = _; rw [sl 3 (by decide), g3, ren_ro]
    · by_cases hLL : L ++ L' = []
      · rw [hLL]; trivial
      · have e : ouM fA gA n 7 (L ++ L') = [(7, some (.grown (tcsF fA gA n 0 (L ++ L')) 3))] := by
          cases hq : L ++ L' with
          | nil => exact absurd hq hLL
          | cons a q => rfl
        rw [e]
        refine ⟨?_, trivial⟩
        show lookM m (σ 7) = some (AObj.grown (AV.rens σ (tcsF fA gA n 0 (L ++ L'))) 3)
        rw [s7, gO hLL, tcsF_ren, tcsF_app]
        refine congrArg some (congrArg (fun cs => AObj.grown cs 3) (congr (congrArg _ ?_) ?_))
        · exact tcsF_congr L 0 0 fun j hj => by
            rw [Nat.zero_add]
            exact ⟨(sold j hj).1.symm, (sold j hj).2.symm⟩
        · exact tcsF_congr L' 0 (0 + L.length) fun j hj => by
            rw [Nat.zero_add, Nat.zero_add]
            exact ⟨(snew j hj).1.symm, (snew j hj).2.symm⟩
    · refine allM_tms _ _ fun j t ht => ?_
      show lookM m (σ (fA (0 + j))) = some (AObj.ren σ _) ∧ lookM m (σ (gA (0 + j))) = some (AObj.ren σ _)
      rw [Nat.zero_add, ren_grown, ren_grown]
      by_cases hj : j < L.length
      · rw [List.getElem?_append_left hj] at ht
        rw [(sold j hj).1, (sold j hj).2]
        exact gold j t ht
      · rw [List.getElem?_append_right (by omega)] at ht
        have hj2 : j - L.length < L'.length := Classical.byContradiction fun q => by rw [List.getElem?_eq_none (by omega)] at ht; cases ht
        have := snew (j - L.length) hj2
        rw [show L.length + (j - L.length) = j by omega] at this
        rw [this.1, this.2]
        exact gnew _ t ht
  have t9' : Go.Ev.look l 9 = some ((grI 7 (L ++ L').length).ren σ) := by rw [grI_ren σ s7]; exact t9
  have keys : ∀ u, u ∈ ([(6, some (.cells [.int .i64 (B.due k), .int .i64 (B.dl k), .int .i64 (B.dh k), .int .i64 (B.rl k), .int .i64 (B.rh k), .int .i64 (B.sl k), .int .i64 (B.sh k)])), (5, some (.cells [.int .i64 w, a3, a4])), (4, some (.cells (bk B a1 a2).cells)), (0, some (oSt B)), (1, some (oCk B)), (2, some (.ro (fE r k))), (3, some (.ro (fE e k)))] ++ (ouM fA gA n 7 (L ++ L') ++ tmsF fA gA n 0 (L ++ L')) : List (Nat × Option AObj)).map (fun e => e.1) → u < 7 ∨ u = 7 ∨ (100 ≤ u ∧ u < 100 + 2 * (L.length + L'.length)) := fun u hu => by
    obtain ⟨q, hq, rfl⟩ := List.mem_map.1 hu
    rcases List.mem_append.1 hq with hq | hq
    · simp at hq
      rcases hq with rfl | rfl | rfl | rfl | rfl | rfl | rfl <;> simp
    rcases List.mem_append.1 hq with hq | hq
    · have : q.1 = 7 := by
        cases hq2 : L ++ L' with
        | nil => rw [hq2] at hq; cases hq
        | cons a s => rw [hq2] at hq; simp [ouM] at hq; rw [hq]
      exact .inr (.inl this)
    · obtain ⟨j, hj, h⟩ := keys_tms _ _ q hq
      rw [List.length_append] at hj
      unfold fA gA at h
      omega
  refine Wk.by σ (by decide) (by decide) (by decide) ⟨t9', hl⟩ hm rfl (fun u hu v hv huv ee => ?_) (fun u hu => ?_) (fun u hu => ?_) (fun u hu => ?_)
  · have q1 := keys u hu
    have q2 := keys v hv
    rw [← hσ] at ee
    unfold gsg at ee
    (repeat' split at ee) <;> omega
  · rw [← hσ]; unfold gsg; (repeat' split) <;> omega
  · exact sl u (by omega)
  · rw [← hσ]; unfold gsg; (repeat' split) <;> omega
end Go.Proofs.Ytlnmcadbmpiopaa

/- The reference of layer 6: what goes leaves behind, at any memory. -/
namespace Go.Proofs.Ytlnmcadbmpiopaa
open Go Go.Ev

/-- A list of what so many numbers give, from the first one on. -/
def preL {α : Type} (a : Int) (F : Int → List α) : Nat → List α
  | 0 => []
  | q + 1 => preL a F q ++ F (a + (q : Int))
theorem preL_range {α : Type} (a : Int) (F : Int → List α) : ∀ q, preL a F q = (List.range q).flatMap fun k : Nat => F (a + (k : Int))
  | 0 => rfl
  | q + 1 => by rw [preL, preL_range a F q, List.range_succ, List.flatMap_append]; simp
theorem preL_all {α : Type} (a b : Int) (F : Int → List α) {q : Nat} (h : q = (b - a + 1).toNat) : preL a F q = (ints a b).flatMap F := by
  rw [preL_range, h]
  unfold ints
  rw [List.flatMap_map]
theorem preL_len {α : Type} {a : Int} {F : Int → List α} {K : Nat} (h : ∀ d, (F d).length ≤ K) : ∀ q, (preL a F q).length ≤ q * K
  | 0 => by simp [preL]
  | q + 1 => by
    rw [preL, List.length_append, Nat.succ_mul]
    have := preL_len (a := a) h q
    have := h (a + (q : Int))
    omega
theorem gL_len {B : CBook} (hB : bk5 B) : ∀ (rem k : Nat) (t : Tru) (fr : Int), k + rem = B.ns → (gL B rem k t fr).length ≤ 27 ^ rem
  | 0, _, _, _, _ => by simp [gL]
  | rem + 1, k, t, fr, h => by
    have hs := hB.1.2 k (by omega)
    unfold stOk at hs
    have l3 : ∀ {a b : Int}, a ≤ b → b - a ≤ 2 → (ints a b).length ≤ 3 := fun {a b} h1 h2 => by rw [ints_len]; omega
    rw [gL]
    have h1 : ∀ d r, (if wrV B ((k : Int), fr + d + r + B.cost t.w.toNat) = 0 then (ints (B.sl k) (B.sh k)).flatMap fun s => gL B rem (k + 1) (tru2 t k r (fr + d + r + B.cost t.w.toNat)) (fr + d + r + B.cost t.w.toNat + s) else []).length ≤ 3 * 27 ^ rem := fun d r => by
      split
      · refine Nat.le_trans (flatMap_len fun s _ => gL_len hB rem (k + 1) _ _ (by omega)) ?_
        exact Nat.mul_le_mul_right _ (l3 (by omega) (by omega))
      · simp
    have h2 := fun d => flatMap_len (l := ints (B.rl k) (B.rh k)) fun r _ => h1 d r
    have h3 : ∀ d, ((ints (B.rl k) (B.rh k)).flatMap fun r => if wrV B ((k : Int), fr + d + r + B.cost t.w.toNat) = 0 then (ints (B.sl k) (B.sh k)).flatMap fun s => gL B rem (k + 1) (tru2 t k r (fr + d + r + B.cost t.w.toNat)) (fr + d + r + B.cost t.w.toNat + s) else []).length ≤ 3 * (3 * 27 ^ rem) := fun d =>
      Nat.le_trans (h2 d) (Nat.mul_le_mul_right _ (l3 (by omega) (by omega)))
    refine Nat.le_trans (flatMap_len fun d _ => h3 d) ?_
    refine Nat.le_trans (Nat.mul_le_mul_right _ (l3 (by omega) (by omega))) ?_
    rw [Nat.pow_succ]; omega

/-- Where a call leaves its lists. -/
def fC (c j : Nat) : Nat := c + 1 + 2 * j
def gC (c j : Nat) : Nat := c + 2 + 2 * j
theorem famC_ok (c n : Nat) : Fam (fC c) (gC c) n := ⟨fun i j _ _ h => by unfold fC at h; omega, fun i j _ _ h => by unfold gC at h; omega, fun i j _ _ => by unfold fC gC; omega⟩
noncomputable def goM (B : CBook) (c : Nat) (L : List Tru) : List (Nat × Option AObj) := ouM (fC c) (gC c) B.ns c L ++ tmsF (fC c) (gC c) B.ns 0 L
noncomputable def goA (B : CBook) (L : List Tru) : List (Nat × Option AObj) := ouM fA gA B.ns 7 L ++ tmsF fA gA B.ns 0 L
theorem ouM_keys {f g : Nat → Nat} {n x : Nat} {L : List Tru} : ∀ e ∈ ouM f g n x L, e.1 = x := fun e h => by
  cases L with
  | nil => cases h
  | cons a r => simp [ouM] at h; rw [h]
theorem ouM_hd {f g : Nat → Nat} {n x : Nat} {L : List Tru} (h : L ≠ []) : ouM f g n x L = [(x, some (.grown (tcsF f g n 0 L) 3))] := by
  cases L with
  | nil => exact absurd rfl h
  | cons a r => rfl
theorem look_app {ms gs : List (Nat × Option AObj)} {x : Nat} {o : AObj} (h : lookM ms x = some o) : lookM (ms ++ gs) x = some o := by
  induction ms with
  | nil => cases h
  | cons e ms ih =>
    obtain ⟨y, p⟩ := e
    by_cases hy : x = y
    · subst hy
      rw [lookM_hd] at h
      subst h
      exact lookM_hd
    · rw [lookM_tl hy] at h
      rw [List.cons_append, lookM_tl hy]
      exact ih h
theorem goM_keys {B : CBook} {c : Nat} {L : List Tru} : ∀ e ∈ goM B c L, c ≤ e.1 ∧ e.1 < c + 1 + 2 * L.length := fun e he => by
  rcases List.mem_append.1 he with h | h
  · rw [ouM_keys e h]; omega
  · obtain ⟨j, hj, h1⟩ := keys_tms _ _ e h
    unfold fC gC at h1
    omega
theorem goM_list {B : CBook} {c : Nat} {L : List Tru} (h : L ≠ []) : lookM (goM B c L) c = some (.grown (tcsF (fC c) (gC c) B.ns 0 L) 3) := by
  unfold goM
  rw [ouM_hd h]
  exact lookM_hd
theorem goM_tr {B : CBook} {c j : Nat} {L : List Tru} {t : Tru} (h : L[j]? = some t) : lookM (goM B c L) (fC c j) = some (.grown (fE t.r B.ns) 1) ∧ lookM (goM B c L) (gC c j) = some (.grown (fE t.c B.ns) 1) := by
  have := look_tms (k := B.ns) (f := fC c) (g := gC c) L 0 j L.length t (famC_ok c _) (by omega) h
  rw [Nat.zero_add] at this
  unfold goM
  rw [look_skip fun e he => by rw [ouM_keys e he]; unfold fC; omega, look_skip fun e he => by rw [ouM_keys e he]; unfold gC; omega]
  exact this
theorem goA_list {B : CBook} {L : List Tru} (h : L ≠ []) : lookM (goA B L) 7 = some (.grown (tcsF fA gA B.ns 0 L) 3) := by
  unfold goA
  rw [ouM_hd h]
  exact lookM_hd
theorem goA_tr {B : CBook} {j : Nat} {L : List Tru} {t : Tru} (h : L[j]? = some t) : lookM (goA B L) (fA j) = some (.grown (fE t.r B.ns) 1) ∧ lookM (goA B L) (gA j) = some (.grown (fE t.c B.ns) 1) := by
  have := look_tms (k := B.ns) (f := fA) (g := gA) L 0 j L.length t (famA_ok _) (by omega) h
  rw [Nat.zero_add] at this
  unfold goA
  rw [look_skip fun e he => by rw [ouM_keys e he]; unfold fA; omega, look_skip fun e he => by rw [ouM_keys e he]; unfold gA; omega]
  exact this
theorem goA_keys {B : CBook} {L : List Tru} : ∀ e ∈ goA B L, 7 ≤ e.1 ∧ e.1 < 100 + 2 * L.length := fun e he => by
  rcases List.mem_append.1 he with h | h
  · rw [ouM_keys e h]; omega
  · obtain ⟨j, hj, h1⟩ := keys_tms _ _ e h
    unfold fA gA at h1
    omega
/-- Every object of what a call leaves. -/
theorem goM_look {B : CBook} {c x : Nat} {L : List Tru} {o : AObj} (h : lookM (goM B c L) x = some o) : (x = c ∧ L ≠ [] ∧ o = .grown (tcsF (fC c) (gC c) B.ns 0 L) 3) ∨ ∃ j t, L[j]? = some t ∧ ((x = fC c j ∧ o = .grown (fE t.r B.ns) 1) ∨ (x = gC c j ∧ o = .grown (fE t.c B.ns) 1)) := by
  have hk := lookM_mem h
  obtain ⟨e, he, hx⟩ := List.mem_map.1 hk
  rcases List.mem_append.1 he with h1 | h1
  · have hL : L ≠ [] := fun q => by rw [q] at h1; cases h1
    have := ouM_keys e h1
    rw [hx] at this
    subst this
    rw [goM_list hL] at h
    exact .inl ⟨rfl, hL, (Option.some.inj h).symm⟩
  · obtain ⟨j, hj, h2⟩ := keys_tms _ _ e h1
    rw [hx, Nat.zero_add] at h2
    obtain ⟨t, ht⟩ : ∃ t, L[j]? = some t := ⟨_, List.getElem?_eq_getElem hj⟩
    have := goM_tr (B := B) (c := c) ht
    rcases h2 with rfl | rfl
    · rw [this.1] at h; exact .inr ⟨j, t, ht, .inl ⟨rfl, (Option.some.inj h).symm⟩⟩
    · rw [this.2] at h; exact .inr ⟨j, t, ht, .inr ⟨rfl, (Option.some.inj h).symm⟩⟩
theorem good_app {fl c c' : Nat} {mm mN : List (Nat × Option AObj)} (hc : c ≤ c') (h : ∀ e ∈ mN, c ≤ e.1 ∧ e.1 < c') : Go.Ev.Good fl c (ofM mm) c' (ofM (mN ++ mm)) := by
  refine ⟨hc, fun x h1 h2 => ?_, fun hd x hx => ?_⟩
  · rw [ofM_get, ofM_get]
    exact look_skip fun e he => by have := h e he; omega
  · by_cases hk : ∀ e ∈ mN, e.1 ≠ x
    · have := hd x (by rwa [ofM_get, look_skip hk, ← ofM_get] at hx)
      omega
    · obtain ⟨e, he⟩ := Classical.not_forall.1 hk
      obtain ⟨he1, he2⟩ := Classical.not_imp.1 he
      have := h e he1
      have : e.1 = x := Classical.byContradiction he2
      omega

def tGo (j : Nat) : Nat := if j = 0 then 3 else 95 + j
theorem tGo_inj : ∀ i j, tGo i = tGo j → i = j := fun i j h => by unfold tGo at h; (repeat' split at h) <;> omega
theorem goes_at {B : CBook} {a1 a2 : AV} {w k : Nat} {fr : Int} {t : Tru} {L : List Tru} (h1 : IsSl a1 B.ns 0) (h2 : IsSl a2 B.nc 1) (hL : L.length ≤ 20000)
    (hcan : CanS 0 Try.prog 89 4 [bk B a1 a2, .agg [.int .i64 (w : Int), .gs 2 k, .gs 3 k], .int .i64 fr] [(0, some (oSt B)), (1, some (oCk B)), (2, some (.ro (fE t.r k))), (3, some (.ro (fE t.c k)))] 4 fun v H1 c1 => v = grI 7 L.length ∧ c1 ≤ 100000 ∧ ∀ x o, lookM (goA B L) x = some o → H1.get x = some o)
    {m : List (Nat × Option AObj)} {c y z : Nat} (hm : ∀ x o, lookM m x = some o → x < c) (m0 : lookM m 0 = some (oSt B)) (m1 : lookM m 1 = some (oCk B)) (my : lookM m y = some (.grown (fE t.r k) 1)) (mz : lookM m z = some (.grown (fE t.c k) 1)) (fl : Nat) :
    OkAt 0 Try.prog fl 89 [bk B a1 a2, .agg [.int .i64 (w : Int), .gs y k, .gs z k], .int .i64 fr] (ofM m) c (grI c L.length) (ofM (goM B c L ++ m)) (c + 100000) := by
  have := CanS.freshU tGo (H' := ofM (goM B c L ++ m)) (k := 100000) (v0 := grI 0 L.length) hcan (fun j hj => by unfold tGo; split <;> omega) tGo_inj
    (Entry.win (H := ofM m) (c := c) (W := [(0, 0, none), (1, 0, none), (y, 0, none), (z, 0, none)]) (CS := [flat (stE B) (List.range B.ns), flat (ckE B) (List.range B.nc), fE t.r k, fE t.c k]) rfl
      ⟨⟨_, getM m0, .inr ⟨_, rfl, cut_all rfl⟩⟩, pls_flat _ _, ⟨_, getM m1, .inr ⟨_, rfl, cut_all rfl⟩⟩, pls_flat _ _, ⟨_, getM my, .inr ⟨_, rfl, cut_all rfl⟩⟩, fE_pls _ _, ⟨_, getM mz, .inr ⟨_, rfl, cut_all rfl⟩⟩, fE_pls _ _, trivial⟩
      (args := [bk B a1 a2, .agg [.int .i64 (w : Int), .gs y k, .gs z k], .int .i64 fr]) (args0 := [bk B a1 a2, .agg [.int .i64 (w : Int), .gs 2 k, .gs 3 k], .int .i64 fr])
      ⟨bk_arg h1 h2 rfl rfl, ArgW.agg (show ArgsW _ [.int .i64 (w : Int), .gs y k, .gs z k] [.int .i64 (w : Int), .gs 2 k, .gs 3 k] from ⟨.pl (fun _ => rfl), ArgW.gs rfl, ArgW.gs rfl, trivial⟩), .pl (fun _ => rfl), trivial⟩) (fun v1 H1 c1 ⟨g1, g2, g3⟩ => ?_) fl
  · rw [grI_ren (fun y => c + y) (y := c) rfl] at this
    exact this
  · refine ⟨by rw [g1, grI_ren (fun y => 4 + tGo y) (y := 7) rfl], by omega, fun x o hx => ?_⟩
    rw [ofM_get] at hx
    by_cases hk : ∀ e ∈ goM B c L, e.1 ≠ x
    · rw [look_skip hk] at hx
      exact .inl ⟨hm x o hx, getM hx⟩
    · obtain ⟨e, he⟩ := Classical.not_forall.1 hk
      obtain ⟨he1, he2⟩ := Classical.not_imp.1 he
      have hex : e.1 = x := Classical.byContradiction he2
      refine .inr ?_
      have h5 : ∃ o2, lookM (goM B c L) x = some o2 := by
        rcases List.mem_append.1 he1 with h | h
        · have hL : L ≠ [] := fun q => by rw [q] at h; cases h
          have := ouM_keys e h
          rw [hex] at this
          subst this
          exact ⟨_, goM_list hL⟩
        · obtain ⟨j, hj, h2⟩ := keys_tms _ _ e h
          rw [hex, Nat.zero_add] at h2
          have := goM_tr (B := B) (c := c) (List.getElem?_eq_getElem hj)
          rcases h2 with rfl | rfl
          · exact ⟨_, this.1⟩
          · exact ⟨_, this.2⟩
      obtain ⟨o2, h5⟩ := h5
      have h6 := look_app (gs := m) h5
      rw [hx] at h6
      cases h6
      have eA : ∀ j, j < L.length → 4 + tGo (1 + 2 * j) = fA j ∧ 4 + tGo (2 + 2 * j) = gA j := fun j hj => by
        unfold tGo fA gA
        rw [if_neg (by omega), if_neg (by omega)]; omega
      have eC : ∀ j, c + (1 + 2 * j) = fC c j ∧ c + (2 + 2 * j) = gC c j := fun j => by unfold fC gC; omega
      rcases goM_look h5 with ⟨rfl, hne, rfl⟩ | ⟨j, u, hj, h | h⟩
      · refine ⟨0, .grown (tcsF (fun j => 1 + 2 * j) (fun j => 2 + 2 * j) B.ns 0 L) 3, by omega, ?_, ?_⟩
        · show H1.get 7 = some (AObj.grown (AV.rens _ (tcsF _ _ B.ns 0 L)) 3)
          rw [tcsF_ren, g3 7 _ (goA_list hne)]
          refine congrArg some (congrArg (fun cs => AObj.grown cs 3) ?_)
          exact tcsF_congr L 0 0 fun j hj => by
            rw [Nat.zero_add]
            exact ⟨(eA j hj).1.symm, (eA j hj).2.symm⟩
        · show _ = AObj.grown (AV.rens _ (tcsF _ _ B.ns 0 L)) 3
          rw [tcsF_ren]
          refine congrArg (fun cs => AObj.grown cs 3) ?_
          exact tcsF_congr L 0 0 fun j hj => by
            rw [Nat.zero_add]
            exact ⟨(eC j).1.symm, (eC j).2.symm⟩
      · obtain ⟨rfl, rfl⟩ := h
        have hjl : j < L.length := Classical.byContradiction fun q => by rw [List.getElem?_eq_none (by omega)] at hj; cases hj
        refine ⟨1 + 2 * j, .grown (fE u.r B.ns) 1, (eC j).1.symm, ?_, (ren_grown _ _ _ _).symm⟩
        rw [ren_grown, (eA j hjl).1]
        exact g3 _ _ (goA_tr hj).1
      · obtain ⟨rfl, rfl⟩ := h
        have hjl : j < L.length := Classical.byContradiction fun q => by rw [List.getElem?_eq_none (by omega)] at hj; cases hj
        refine ⟨2 + 2 * j, .grown (fE u.c B.ns) 1, (eC j).2.symm, ?_, (ren_grown _ _ _ _).symm⟩
        rw [ren_grown, (eA j hjl).2]
        exact g3 _ _ (goA_tr hj).2
/-- What a call of goes leaves behind, as its caller sees it. -/
structure GoRes (B : CBook) (a1 a2 : AV) (w k : Nat) (fr : Int) (mm : List (Nat × Option AObj)) (L : List Tru) : Prop where
  ex : ∃ (v : AV) (mN : List (Nat × Option AObj)) (c' A A' : Nat), (∀ fl, OkAt 0 Try.prog fl 89 [bk B a1 a2, .agg [.int .i64 (w : Int), .gs 100000 (k + 1), .gs 100004 (k + 1)], .int .i64 fr] (ofM mm) 100008 v (ofM (mN ++ mm)) c') ∧ 100008 ≤ c' ∧ (∀ e ∈ mN, 100008 ≤ e.1 ∧ e.1 < c') ∧
    (L = [] → v = .nils ∧ mN = []) ∧ (L ≠ [] → SlC (mN ++ mm) v L.length 3 (tcsF (fun j => A + 2 * j) (fun j => A' + 2 * j) B.ns 0 L)) ∧ 100000 ≤ A ∧ 100000 ≤ A' ∧ (A' = A + 1 ∨ (L.length ≤ 1 ∧ A ≠ A')) ∧ A + 2 * L.length ≤ c' ∧ A' + 2 * L.length ≤ c' ∧
    ∀ j t, L[j]? = some t → lookM (mN ++ mm) (A + 2 * j) = some (.grown (fE t.r B.ns) 1) ∧ lookM (mN ++ mm) (A' + 2 * j) = some (.grown (fE t.c B.ns) 1)
theorem GoRes.leaf {B : CBook} {a1 a2 : AV} {w k : Nat} {fr : Int} {t : Tru} (h1 : IsSl a1 B.ns 0) (h2 : IsSl a2 B.nc 1) (hk : k + 1 = B.ns) (htw : t.w = (w : Int)) {mm : List (Nat × Option AObj)} (hm : ∀ x o, lookM mm x = some o → x < 100008) (m0 : lookM mm 0 = some (oSt B))
    (my : lookM mm 100000 = some (.grown (fE t.r (k + 1)) 1)) (mz : lookM mm 100004 = some (.grown (fE t.c (k + 1)) 1)) : GoRes B a1 a2 w k fr mm [t] := by
  refine ⟨.sl 100010 0 1 1, [(100010, some (.cells [.int .i64 (w : Int), .gs 100000 (k + 1), .gs 100004 (k + 1)]))], 100011, 100000, 100004, fun fl => ?_, by decide, fun e he => ?_, fun h => absurd h (by simp), fun _ => ?_, by decide, by decide, .inr ⟨by simp, by decide⟩, by simp, by simp, fun j u hu => ?_⟩
  · have := leaf_at (c := 100008) (y := 100000) (z := 100004) h1 h2 fr hm (by decide) (by decide) (by decide) m0 fl (w := (w : Int))
    rw [hk]
    exact this
  · simp only [List.mem_singleton] at he
    subst he
    exact ⟨show 100008 ≤ 100010 by decide, show 100010 < 100011 by decide⟩
  · have : tcsF (fun j => 100000 + 2 * j) (fun j => 100004 + 2 * j) B.ns 0 [t] = [.int .i64 (w : Int), .gs 100000 (k + 1), .gs 100004 (k + 1)] := by
      rw [← hk]; show [AV.int .i64 t.w, _, _] = _; rw [htw]; rfl
    rw [this]
    exact SlC.sl lookM_hd rfl rfl
  · cases j with
    | zero =>
      simp only [List.getElem?_cons_zero, Option.some.injEq] at hu
      subst hu
      rw [← hk]
      exact ⟨(lookM_tl (by decide)).trans my, (lookM_tl (by decide)).trans mz⟩
    | succ j => simp at hu
theorem GoRes.node {B : CBook} {a1 a2 : AV} {w k : Nat} {fr : Int} {t : Tru} {L : List Tru} (h1 : IsSl a1 B.ns 0) (h2 : IsSl a2 B.nc 1) (hL : L.length ≤ 20000)
    (hcan : CanS 0 Try.prog 89 4 [bk B a1 a2, .agg [.int .i64 (w : Int), .gs 2 (k + 1), .gs 3 (k + 1)], .int .i64 fr] [(0, some (oSt B)), (1, some (oCk B)), (2, some (.ro (fE t.r (k + 1)))), (3, some (.ro (fE t.c (k + 1))))] 4 fun v H1 c1 => v = grI 7 L.length ∧ c1 ≤ 100000 ∧ ∀ x o, lookM (goA B L) x = some o → H1.get x = some o)
    {mm : List (Nat × Option AObj)} (hm : ∀ x o, lookM mm x = some o → x < 100008) (m0 : lookM mm 0 = some (oSt B)) (m1 : lookM mm 1 = some (oCk B))
    (my : lookM mm 100000 = some (.grown (fE t.r (k + 1)) 1)) (mz : lookM mm 100004 = some (.grown (fE t.c (k + 1)) 1)) : GoRes B a1 a2 w k fr mm L := by
  refine ⟨grI 100008 L.length, goM B 100008 L, 200008, 100009, 100010, fun fl => goes_at h1 h2 hL hcan hm m0 m1 my mz fl, by decide, fun e he => ?_, fun h => ?_, fun h => ?_, by decide, by decide, .inl rfl, by omega, by omega, fun j u hu => ?_⟩
  · have := goM_keys e he
    omega
  · subst h
    exact ⟨rfl, rfl⟩
  · have e : grI 100008 L.length = .gs 100008 L.length := by
      cases L with
      | nil => exact absurd rfl h
      | cons a r => rfl
    rw [e]
    refine SlC.gs (look_app (goM_list h)) (congrArg some ?_) (tcsF_len _ _)
    exact tcsF_congr L 0 0 fun j hj => by unfold fC gC; omega
  · have := goM_tr (B := B) (c := 100008) hu
    unfold fC gC at this
    exact ⟨look_app this.1, look_app this.2⟩
end Go.Proofs.Ytlnmcadbmpiopaa

/- The reference of layer 6: goes, one stage. -/
namespace Go.Proofs.Ytlnmcadbmpiopaa
open Go Go.Ev

section
variable (B : CBook) (rem k w : Nat) (t : Tru) (fr : Int)
def miG (d r : Int) : Int := fr + d + r + B.cost w
noncomputable def gFi (d r s : Int) : List Tru := gL B rem (k + 1) (tru2 t k r (miG B w fr d r)) (miG B w fr d r + s)
noncomputable def gFm (d r : Int) : List Tru := if wrV B ((k : Int), miG B w fr d r) = 0 then (ints (B.sl k) (B.sh k)).flatMap (gFi B rem k w t fr d r) else []
noncomputable def gFo (d : Int) : List Tru := (ints (B.rl k) (B.rh k)).flatMap (gFm B rem k w t fr d)
end
theorem gL_is {B : CBook} {rem k w : Nat} {t : Tru} {fr : Int} (h : t.w = (w : Int)) : gL B (rem + 1) k t fr = (ints (B.dl k) (B.dh k)).flatMap (gFo B rem k w t fr) := by
  rw [gL, h, Int.toNat_natCast]
  rfl
section
variable {B : CBook} {rem k w : Nat} {t : Tru} {fr : Int}
theorem gFi_len (hB : bk5 B) (h : k + (rem + 1) = B.ns) (d r s : Int) : (gFi B rem k w t fr d r s).length ≤ 27 ^ rem := gL_len hB _ _ _ _ (by omega)
theorem gFm_len (hB : bk5 B) (h : k + (rem + 1) = B.ns) (d r : Int) : (gFm B rem k w t fr d r).length ≤ 3 * 27 ^ rem := by
  have hs := hB.1.2 k (by omega)
  unfold stOk at hs
  unfold gFm
  split
  · refine Nat.le_trans (flatMap_len fun s _ => gFi_len hB h d r s) ?_
    exact Nat.mul_le_mul_right _ (by rw [ints_len]; omega)
  · simp
theorem gFo_len (hB : bk5 B) (h : k + (rem + 1) = B.ns) (d : Int) : (gFo B rem k w t fr d).length ≤ 3 * (3 * 27 ^ rem) := by
  have hs := hB.1.2 k (by omega)
  unfold stOk at hs
  refine Nat.le_trans (flatMap_len fun r _ => gFm_len hB h d r) ?_
  exact Nat.mul_le_mul_right _ (by rw [ints_len]; omega)
end
theorem put_low {B : CBook} {a1 a2 a3 a4 : AV} {k w : Nat} {t : Tru} {L : List Tru} (hL : L.length ≤ 20000) : ∀ x o, lookM ([(6, some (.cells [.int .i64 (B.due k), .int .i64 (B.dl k), .int .i64 (B.dh k), .int .i64 (B.rl k), .int .i64 (B.rh k), .int .i64 (B.sl k), .int .i64 (B.sh k)])), (5, some (.cells [.int .i64 (w : Int), a3, a4])), (4, some (.cells (bk B a1 a2).cells)), (0, some (oSt B)), (1, some (oCk B)), (2, some (.ro (fE t.r k))), (3, some (.ro (fE t.c k)))] ++ (ouM fA gA B.ns 7 L ++ tmsF fA gA B.ns 0 L)) x = some o → x < 100000 := fun x o h => by
  obtain ⟨e, he, hx⟩ := List.mem_map.1 (lookM_mem h)
  rcases List.mem_append.1 he with h1 | h1
  · simp at h1
    rcases h1 with rfl | rfl | rfl | rfl | rfl | rfl | rfl <;> (simp at hx; omega)
  · have := goA_keys (B := B) (L := L) e h1
    omega
theorem low_cons {c c' y : Nat} {o : Option AObj} {m : List (Nat × Option AObj)} (h : ∀ x o, lookM m x = some o → x < c) (hc : c ≤ c') (hy : y < c') : ∀ x p, lookM ((y, o) :: m) x = some p → x < c' := fun x p hx => by
  by_cases e : x = y
  · omega
  · rw [lookM_tl e] at hx
    have := h x p hx
    omega
theorem tru2_all {t : Tru} {k : Nat} {a b : Int} (hk : k < 3) : ∀ i, i < 3 → (tru2 t k a b).r i = puF t.r k a i ∧ (tru2 t k a b).c i = puF t.c k b i := fun i hi => by
  obtain rfl | rfl | rfl : k = 0 ∨ k = 1 ∨ k = 2 := by omega
  all_goals
    obtain rfl | rfl | rfl : i = 0 ∨ i = 1 ∨ i = 2 := by omega
    all_goals exact ⟨rfl, rfl⟩
theorem tru2_fE {t : Tru} {k : Nat} {a b : Int} (hk : k < 3) : fE (tru2 t k a b).r (k + 1) = fE (puF t.r k a) (k + 1) ∧ fE (tru2 t k a b).c (k + 1) = fE (puF t.c k b) (k + 1) :=
  ⟨fE_congr fun i hi => (tru2_all hk i (by omega)).1, fE_congr fun i hi => (tru2_all hk i (by omega)).2⟩
theorem cost_bd5 {B : CBook} {w : Nat} (hB : bk5 B) (hw : w < 3) : 0 ≤ B.cost w ∧ B.cost w ≤ 30 := by
  obtain ⟨_, h0, h1, h2⟩ := hB.2.1
  obtain rfl | rfl | rfl : w = 0 ∨ w = 1 ∨ w = 2 := by omega
  · exact h0
  · exact h1
  · exact h2
set_option maxRecDepth 100000 in
set_option maxHeartbeats 4000000 in
theorem goes_step {B : CBook} {a1 a2 a3 a4 : AV} {k rem w : Nat} {t : Tru} {fr : Int} (h1 : IsSl a1 B.ns 0) (h2 : IsSl a2 B.nc 1) (h3 : IsSl a3 k 2) (h4 : IsSl a4 k 3) (hB : bk5 B) (hrem : k + (rem + 1) = B.ns) (hw3 : w < 3) (htw : t.w = (w : Int)) (hfr : 0 ≤ fr ∧ fr ≤ 200 * (k : Int))
    (hgo : ∀ (ro mi fr' : Int) (mm : List (Nat × Option AObj)), (∀ x o, lookM mm x = some o → x < 100008) → lookM mm 0 = some (oSt B) → lookM mm 1 = some (oCk B) → lookM mm 100000 = some (.grown (fE (tru2 t k ro mi).r (k + 1)) 1) → lookM mm 100004 = some (.grown (fE (tru2 t k ro mi).c (k + 1)) 1) → 0 ≤ fr' → fr' ≤ 200 * ((k + 1 : Nat) : Int) → GoRes B a1 a2 w k fr' mm (gL B rem (k + 1) (tru2 t k ro mi) fr')) :
    CanS 0 Try.prog 89 4 [bk B a1 a2, .agg [.int .i64 (w : Int), a3, a4], .int .i64 fr] [(0, some (oSt B)), (1, some (oCk B)), (2, some (.ro (fE t.r k))), (3, some (.ro (fE t.c k)))] 4 fun v H1 c1 => v = grI 7 (gL B (rem + 1) k t fr).length ∧ c1 ≤ 100000 ∧ ∀ x o, lookM (goA B (gL B (rem + 1) k t fr)) x = some o → H1.get x = some o := by
  have hns := hB.1.1
  have hkn : k < B.ns := by omega
  have hs := hB.1.2 k hkn
  unfold stOk at hs
  have hcb := cost_bd5 hB hw3
  have hK : 27 ^ rem ≤ 729 := by
    obtain rfl | rfl | rfl : rem = 0 ∨ rem = 1 ∨ rem = 2 := by omega
    all_goals decide
  have hne : ¬ (k : Int) = B.ns := by omega
  refine CanS.mk Try.func89 rfl rfl rfl ?_
  repeat' (first | refine RT.nil ?_ | refine sq_n ?_ | refine Tr.seq ?_ | refine Tr.region ?_ | refine Tr.cond_f rfl ?_ | refine Tr.skip ?_ | refine Tr.block ?_ | (refine RT.goK rfl rfl rfl rfl ?_; refine Nx.of (S.eql_f hne) ?_) | (refine RT.goK rfl rfl rfl rfl ?_; apply Nx.of; (first | exact S.move | exact S.assign | exact S.load1c rfl rfl rfl rfl | exact S.fieldAddr rfl rfl rfl | exact S.box | exact S.alloc rfl)) | (refine RT.goK0 rfl rfl rfl ?_; apply Nx.of; (first | exact S.store rfl rfl rfl rfl rfl rfl)) | (refine RT.goK rfl rfl rfl rfl ?_; apply Nx.of; (first | exact S.idx_sl rfl rfl rfl (by assumption) (by omega) | exact S.rowN0 rfl rfl rfl (fun _ => rfl) (range_at (by omega)) rfl | exact S.len_sl rfl rfl rfl (by assumption))))
  refine Tr.loop (fun p : Nat × List Tru => let q := p.1; let L := p.2; stL Try.f89.ntmps [] ((9, grI 7 L.length) :: [(2, .int .i64 fr), (3, .ptr 4 0), (4, .ptr 5 0), (7, .int .i64 (k : Int)), (8, .ptr 6 0), (10, .int .i64 (B.dl k + (q : Int)))]) ([(6, some (.cells [.int .i64 (B.due k), .int .i64 (B.dl k), .int .i64 (B.dh k), .int .i64 (B.rl k), .int .i64 (B.rh k), .int .i64 (B.sl k), .int .i64 (B.sh k)])), (5, some (.cells [.int .i64 (w : Int), a3, a4])), (4, some (.cells (bk B a1 a2).cells)), (0, some (oSt B)), (1, some (oCk B)), (2, some (.ro (fE t.r k))), (3, some (.ro (fE t.c k)))] ++ (ouM fA gA B.ns 7 L ++ tmsF fA gA B.ns 0 L)) 100000) (fun p => p.1 ≤ (B.dh k - B.dl k + 1).toNat ∧ p.2 = preL (B.dl k) (gFo B rem k w t fr) p.1) (fun p => (B.dh k - B.dl k + 1).toNat - p.1) (0, []) ⟨Nat.zero_le _, rfl⟩ ?_ (fun ⟨q0, L0⟩ ⟨hq0, hL⟩ => ?_)
  · exact go_wk (L := []) (L' := []) (A := 100000) (A' := 100001) (x := 7) (n := B.ns) h1 h2 h3 h4 (by simp) (by decide) (by decide) (.inl rfl) (.inl rfl) ⟨rfl, rfl, rfl, rfl, rfl, congrArg some (congrArg (AV.int .i64) (by omega)), trivial⟩ rfl rfl rfl rfl rfl rfl rfl rfl (fun h => absurd rfl h) (fun j u hu => by simp at hu) (fun j u hu => by simp at hu)
  replace hL : L0 = preL (B.dl k) (gFo B rem k w t fr) q0 := hL
  replace hq0 : q0 ≤ (B.dh k - B.dl k + 1).toNat := hq0
  by_cases hlt : q0 < (B.dh k - B.dl k + 1).toNat
  · have hd : B.dl k + (q0 : Int) ≤ B.dh k := by omega
    obtain ⟨d, hdd⟩ : ∃ d, B.dl k + (q0 : Int) = d := ⟨_, rfl⟩
    show Tr _ _ _ _ _ _ (stL _ _ ((9, _) :: [(2, .int .i64 fr), (3, .ptr 4 0), (4, .ptr 5 0), (7, .int .i64 (k : Int)), (8, .ptr 6 0), (10, .int .i64 (B.dl k + (q0 : Int)))]) _ _) _
    rw [hdd] at hd ⊢
    have hl0 : L0.length ≤ q0 * (3 * (3 * 27 ^ rem)) := by rw [hL]; exact preL_len (fun d => gFo_len hB hrem d) q0
    have hq2 : q0 ≤ 2 := by omega
    have hl0' : L0.length ≤ 2 * (3 * (3 * 27 ^ rem)) := Nat.le_trans hl0 (Nat.mul_le_mul_right _ hq2)
    have hdb : B.dl k ≤ d := by omega
    repeat' (first | refine RT.nil ?_ | refine sq_n ?_ | refine Tr.seq ?_ | refine Tr.region ?_ | refine Tr.cond_t rfl ?_ | refine Tr.skip ?_ | refine Tr.block ?_ | (refine RT.goK rfl rfl rfl rfl ?_; refine Nx.of (S.leq_t hd) ?_) | (refine RT.goK rfl rfl rfl rfl ?_; apply Nx.of; (first | exact S.move | exact S.assign | exact S.load1c rfl rfl rfl rfl | exact S.fieldAddr rfl rfl rfl)))
    refine Tr.loop (fun p : Nat × List Tru => let q := p.1; let L := p.2; stL Try.f89.ntmps [] ((9, grI 7 L.length) :: [(2, .int .i64 fr), (3, .ptr 4 0), (4, .ptr 5 0), (7, .int .i64 (k : Int)), (8, .ptr 6 0), (10, .int .i64 d), (11, .int .i64 (B.rl k + (q : Int)))]) ([(6, some (.cells [.int .i64 (B.due k), .int .i64 (B.dl k), .int .i64 (B.dh k), .int .i64 (B.rl k), .int .i64 (B.rh k), .int .i64 (B.sl k), .int .i64 (B.sh k)])), (5, some (.cells [.int .i64 (w : Int), a3, a4])), (4, some (.cells (bk B a1 a2).cells)), (0, some (oSt B)), (1, some (oCk B)), (2, some (.ro (fE t.r k))), (3, some (.ro (fE t.c k)))] ++ (ouM fA gA B.ns 7 L ++ tmsF fA gA B.ns 0 L)) 100000) (fun p => p.1 ≤ (B.rh k - B.rl k + 1).toNat ∧ p.2 = L0 ++ preL (B.rl k) (gFm B rem k w t fr d) p.1) (fun p => (B.rh k - B.rl k + 1).toNat - p.1) (0, L0) ⟨Nat.zero_le _, (List.append_nil _).symm⟩ ?_ (fun ⟨q1, L1⟩ ⟨hq1, hL1⟩ => ?_)
    · exact Wk.temps (by decide) (by decide) (by decide) ⟨rfl, rfl, rfl, rfl, rfl, rfl, rfl, congrArg some (congrArg (AV.int .i64) (by omega)), trivial⟩
    replace hL1 : L1 = L0 ++ preL (B.rl k) (gFm B rem k w t fr d) q1 := hL1
    replace hq1 : q1 ≤ (B.rh k - B.rl k + 1).toNat := hq1
    by_cases hlt1 : q1 < (B.rh k - B.rl k + 1).toNat
    · have hr : B.rl k + (q1 : Int) ≤ B.rh k := by omega
      obtain ⟨ro, hro⟩ : ∃ d, B.rl k + (q1 : Int) = d := ⟨_, rfl⟩
      show Tr _ _ _ _ _ _ (stL _ _ ((9, _) :: [(2, .int .i64 fr), (3, .ptr 4 0), (4, .ptr 5 0), (7, .int .i64 (k : Int)), (8, .ptr 6 0), (10, .int .i64 d), (11, .int .i64 (B.rl k + (q1 : Int)))]) _ _) _
      rw [hro] at hr ⊢
      have hq12 : q1 ≤ 2 := by omega
      have hl1 : L1.length ≤ L0.length + 2 * (3 * 27 ^ rem) := by
        rw [hL1, List.length_append]
        have := preL_len (a := B.rl k) (fun r => gFm_len (w := w) (t := t) (fr := fr) hB hrem d r) q1
        have := Nat.mul_le_mul_right (3 * 27 ^ rem) hq12
        omega
      have hrb : B.rl k ≤ ro := by omega
      have hmb : -100000 ≤ fr + d + ro + B.cost w ∧ fr + d + ro + B.cost w ≤ 100000 := by omega
      by_cases hwr : wrV B ((k : Int), fr + d + ro + B.cost w) = 0
      · have hA : AV.bool (dB (rgtP B (k : Int) (fr + d + ro + B.cost w) B.nc)) = .bool true := by rw [dB_tt ((rgtP_wr hB.2.2.1.1).2 hwr)]
        repeat' (first | refine RT.nil ?_ | refine sq_n ?_ | refine Tr.seq ?_ | refine Tr.region ?_ | refine Tr.cond_t rfl ?_ | refine Tr.cond_f rfl ?_ | refine Tr.skip ?_ | refine Tr.block ?_ | (refine RT.goK rfl rfl rfl rfl ?_; refine Nx.of (S.leq_t hr) ?_) | (refine RT.call rfl rfl rfl (val_is hA (right6_at ⟨h1, h2, rfl, rfl, by decide⟩ hB.2.2.1 _ _ hmb _)) rfl rfl (Nat.le_refl _) ?_) | (refine RT.goK rfl rfl rfl rfl ?_; apply Nx.of; (first | exact S.move | exact S.assign | exact S.load1c rfl rfl rfl rfl | exact S.loadNc rfl rfl rfl rfl | exact S.fieldAddr rfl rfl rfl | exact S.not_t | exact S.add (by unfold In64; omega) | exact S.idx_arr rfl rfl rfl (show _ < 3 by omega) | exact S.load1c rfl rfl rfl (cost_at hw3))))
        refine Tr.loop (fun p : Nat × List Tru => let q := p.1; let L := p.2; stL Try.f89.ntmps [] ((9, grI 7 L.length) :: [(2, .int .i64 fr), (3, .ptr 4 0), (4, .ptr 5 0), (7, .int .i64 (k : Int)), (8, .ptr 6 0), (10, .int .i64 d), (11, .int .i64 ro), (12, .int .i64 (fr + d + ro + B.cost w)), (13, .int .i64 (B.sl k + (q : Int)))]) ([(6, some (.cells [.int .i64 (B.due k), .int .i64 (B.dl k), .int .i64 (B.dh k), .int .i64 (B.rl k), .int .i64 (B.rh k), .int .i64 (B.sl k), .int .i64 (B.sh k)])), (5, some (.cells [.int .i64 (w : Int), a3, a4])), (4, some (.cells (bk B a1 a2).cells)), (0, some (oSt B)), (1, some (oCk B)), (2, some (.ro (fE t.r k))), (3, some (.ro (fE t.c k)))] ++ (ouM fA gA B.ns 7 L ++ tmsF fA gA B.ns 0 L)) 100000) (fun p => p.1 ≤ (B.sh k - B.sl k + 1).toNat ∧ p.2 = L1 ++ preL (B.sl k) (gFi B rem k w t fr d ro) p.1) (fun p => (B.sh k - B.sl k + 1).toNat - p.1) (0, L1) ⟨Nat.zero_le _, (List.append_nil _).symm⟩ ?_ (fun ⟨q2, L⟩ ⟨hq2', hL2⟩ => ?_)
        · exact Wk.temps (by decide) (by decide) (by decide) ⟨rfl, rfl, rfl, rfl, rfl, rfl, rfl, rfl, rfl, congrArg some (congrArg (AV.int .i64) (by omega)), trivial⟩
        replace hL2 : L = L1 ++ preL (B.sl k) (gFi B rem k w t fr d ro) q2 := hL2
        replace hq2' : q2 ≤ (B.sh k - B.sl k + 1).toNat := hq2'
        by_cases hlt2 : q2 < (B.sh k - B.sl k + 1).toNat
        · have hst : B.sl k + (q2 : Int) ≤ B.sh k := by omega
          obtain ⟨s, hss⟩ : ∃ d, B.sl k + (q2 : Int) = d := ⟨_, rfl⟩
          show Tr _ _ _ _ _ _ (stL _ _ ((9, _) :: [(2, .int .i64 fr), (3, .ptr 4 0), (4, .ptr 5 0), (7, .int .i64 (k : Int)), (8, .ptr 6 0), (10, .int .i64 d), (11, .int .i64 ro), (12, .int .i64 (fr + d + ro + B.cost w)), (13, .int .i64 (B.sl k + (q2 : Int)))]) _ _) _
          rw [hss] at hst ⊢
          have hq22 : q2 ≤ 1 := by omega
          have hl2 : L.length ≤ L1.length + 1 * (27 ^ rem) := by
            rw [hL2, List.length_append]
            have := preL_len (a := B.sl k) (fun s => gFi_len (w := w) (t := t) (fr := fr) hB hrem d ro s) q2
            have := Nat.mul_le_mul_right (27 ^ rem) hq22
            omega
          have hsb : B.sl k ≤ s := by omega
          obtain ⟨L', hL'⟩ : ∃ l, gFi B rem k w t fr d ro s = l := ⟨_, rfl⟩
          have hlL' : L'.length ≤ 27 ^ rem := by rw [← hL']; exact gFi_len hB hrem d ro s
          have hN : L.length + L'.length ≤ 20000 := by omega
          repeat' (first | refine RT.nil ?_ | refine sq_n ?_ | refine Tr.seq ?_ | refine Tr.region ?_ | refine Tr.cond_t rfl ?_ | refine Tr.skip ?_ | refine Tr.block ?_ | (refine RT.goK rfl rfl rfl rfl ?_; refine Nx.of (S.leq_t hst) ?_) | (refine RT.goK rfl rfl rfl rfl ?_; apply Nx.of; (first | exact S.move | exact S.load1c rfl rfl rfl rfl | exact S.fieldAddr rfl rfl rfl)))
          have hmm : ∀ x o, lookM ((100004, some (.grown (fE (puF t.c k (fr + d + ro + B.cost w)) (k + 1)) 1)) :: (100000, some (.grown (fE (puF t.r k ro) (k + 1)) 1)) :: ([(6, some (.cells [.int .i64 (B.due k), .int .i64 (B.dl k), .int .i64 (B.dh k), .int .i64 (B.rl k), .int .i64 (B.rh k), .int .i64 (B.sl k), .int .i64 (B.sh k)])), (5, some (.cells [.int .i64 (w : Int), a3, a4])), (4, some (.cells (bk B a1 a2).cells)), (0, some (oSt B)), (1, some (oCk B)), (2, some (.ro (fE t.r k))), (3, some (.ro (fE t.c k)))] ++ (ouM fA gA B.ns 7 L ++ tmsF fA gA B.ns 0 L))) x = some o → x < 100008 := low_cons (low_cons (put_low (a1 := a1) (a2 := a2) (a3 := a3) (a4 := a4) (k := k) (w := w) (t := t) (by omega)) (c' := 100004) (by decide) (by decide)) (by decide) (by decide)
          have hG := hgo ro (fr + d + ro + B.cost w) ((fr + d + ro + B.cost w) + s) ((100004, some (.grown (fE (puF t.c k (fr + d + ro + B.cost w)) (k + 1)) 1)) :: (100000, some (.grown (fE (puF t.r k ro) (k + 1)) 1)) :: ([(6, some (.cells [.int .i64 (B.due k), .int .i64 (B.dl k), .int .i64 (B.dh k), .int .i64 (B.rl k), .int .i64 (B.rh k), .int .i64 (B.sl k), .int .i64 (B.sh k)])), (5, some (.cells [.int .i64 (w : Int), a3, a4])), (4, some (.cells (bk B a1 a2).cells)), (0, some (oSt B)), (1, some (oCk B)), (2, some (.ro (fE t.r k))), (3, some (.ro (fE t.c k)))] ++ (ouM fA gA B.ns 7 L ++ tmsF fA gA B.ns 0 L))) hmm rfl rfl (by rw [(tru2_fE (by omega)).1]; rfl) (by rw [(tru2_fE (by omega)).2]; rfl) (by omega) (by omega)
          rw [show gL B rem (k + 1) (tru2 t k ro (fr + d + ro + B.cost w)) ((fr + d + ro + B.cost w) + s) = L' from hL'] at hG
          refine Tr.mono (Q := fun ex st2 => ex = .normal ∧ Wk 0 4 4 st2 (stL Try.f89.ntmps [] ((9, grI 7 (L ++ L').length) :: [(2, .int .i64 fr), (3, .ptr 4 0), (4, .ptr 5 0), (7, .int .i64 (k : Int)), (8, .ptr 6 0), (10, .int .i64 d), (11, .int .i64 ro), (12, .int .i64 (fr + d + ro + B.cost w)), (13, .int .i64 s)]) ([(6, some (.cells [.int .i64 (B.due k), .int .i64 (B.dl k), .int .i64 (B.dh k), .int .i64 (B.rl k), .int .i64 (B.rh k), .int .i64 (B.sl k), .int .i64 (B.sh k)])), (5, some (.cells [.int .i64 (w : Int), a3, a4])), (4, some (.cells (bk B a1 a2).cells)), (0, some (oSt B)), (1, some (oCk B)), (2, some (.ro (fE t.r k))), (3, some (.ro (fE t.c k)))] ++ (ouM fA gA B.ns 7 (L ++ L') ++ tmsF fA gA B.ns 0 (L ++ L'))) 100000)) ?_ (fun ex st2 ⟨he, hwk⟩ => ?_)
          · obtain ⟨v, mN, c', A, A', gok, gc, gkeys, gnil, gsl, gA1, gA2, gAA, gx1, gx2, gtr⟩ := hG.ex
            clear hG hgo
            have hk2 : k ≤ 1000 := by omega
            have pX : CalmC 0 Try.prog (alts [pinX 113 [a3, .int .i64 ro] ([(6, some (.cells [.int .i64 (B.due k), .int .i64 (B.dl k), .int .i64 (B.dh k), .int .i64 (B.rl k), .int .i64 (B.rh k), .int .i64 (B.sl k), .int .i64 (B.sh k)])), (5, some (.cells [.int .i64 (w : Int), a3, a4])), (4, some (.cells (bk B a1 a2).cells)), (0, some (oSt B)), (1, some (oCk B)), (2, some (.ro (fE t.r k))), (3, some (.ro (fE t.c k)))] ++ (ouM fA gA B.ns 7 L ++ tmsF fA gA B.ns 0 L)) 100000 (.gs 100000 (k + 1)) ((100000, some (.grown (fE (puF t.r k ro) (k + 1)) 1)) :: ([(6, some (.cells [.int .i64 (B.due k), .int .i64 (B.dl k), .int .i64 (B.dh k), .int .i64 (B.rl k), .int .i64 (B.rh k), .int .i64 (B.sl k), .int .i64 (B.sh k)])), (5, some (.cells [.int .i64 (w : Int), a3, a4])), (4, some (.cells (bk B a1 a2).cells)), (0, some (oSt B)), (1, some (oCk B)), (2, some (.ro (fE t.r k))), (3, some (.ro (fE t.c k)))] ++ (ouM fA gA B.ns 7 L ++ tmsF fA gA B.ns 0 L))) 100004, pinX 113 [a4, .int .i64 (fr + d + ro + B.cost w)] ((100000, some (.grown (fE (puF t.r k ro) (k + 1)) 1)) :: ([(6, some (.cells [.int .i64 (B.due k), .int .i64 (B.dl k), .int .i64 (B.dh k), .int .i64 (B.rl k), .int .i64 (B.rh k), .int .i64 (B.sl k), .int .i64 (B.sh k)])), (5, some (.cells [.int .i64 (w : Int), a3, a4])), (4, some (.cells (bk B a1 a2).cells)), (0, some (oSt B)), (1, some (oCk B)), (2, some (.ro (fE t.r k))), (3, some (.ro (fE t.c k)))] ++ (ouM fA gA B.ns 7 L ++ tmsF fA gA B.ns 0 L))) 100004 (.gs 100004 (k + 1)) ((100004, some (.grown (fE (puF t.c k (fr + d + ro + B.cost w)) (k + 1)) 1)) :: (100000, some (.grown (fE (puF t.r k ro) (k + 1)) 1)) :: ([(6, some (.cells [.int .i64 (B.due k), .int .i64 (B.dl k), .int .i64 (B.dh k), .int .i64 (B.rl k), .int .i64 (B.rh k), .int .i64 (B.sl k), .int .i64 (B.sh k)])), (5, some (.cells [.int .i64 (w : Int), a3, a4])), (4, some (.cells (bk B a1 a2).cells)), (0, some (oSt B)), (1, some (oCk B)), (2, some (.ro (fE t.r k))), (3, some (.ro (fE t.c k)))] ++ (ouM fA gA B.ns 7 L ++ tmsF fA gA B.ns 0 L))) 100008, pinX 89 [bk B a1 a2, .agg [.int .i64 (w : Int), .gs 100000 (k + 1), .gs 100004 (k + 1)], .int .i64 ((fr + d + ro + B.cost w) + s)] ((100004, some (.grown (fE (puF t.c k (fr + d + ro + B.cost w)) (k + 1)) 1)) :: (100000, some (.grown (fE (puF t.r k ro) (k + 1)) 1)) :: ([(6, some (.cells [.int .i64 (B.due k), .int .i64 (B.dl k), .int .i64 (B.dh k), .int .i64 (B.rl k), .int .i64 (B.rh k), .int .i64 (B.sl k), .int .i64 (B.sh k)])), (5, some (.cells [.int .i64 (w : Int), a3, a4])), (4, some (.cells (bk B a1 a2).cells)), (0, some (oSt B)), (1, some (oCk B)), (2, some (.ro (fE t.r k))), (3, some (.ro (fE t.c k)))] ++ (ouM fA gA B.ns 7 L ++ tmsF fA gA B.ns 0 L))) 100008 v (mN ++ (100004, some (.grown (fE (puF t.c k (fr + d + ro + B.cost w)) (k + 1)) 1)) :: (100000, some (.grown (fE (puF t.r k ro) (k + 1)) 1)) :: ([(6, some (.cells [.int .i64 (B.due k), .int .i64 (B.dl k), .int .i64 (B.dh k), .int .i64 (B.rl k), .int .i64 (B.rh k), .int .i64 (B.sl k), .int .i64 (B.sh k)])), (5, some (.cells [.int .i64 (w : Int), a3, a4])), (4, some (.cells (bk B a1 a2).cells)), (0, some (oSt B)), (1, some (oCk B)), (2, some (.ro (fE t.r k))), (3, some (.ro (fE t.c k)))] ++ (ouM fA gA B.ns 7 L ++ tmsF fA gA B.ns 0 L))) c']) := alts_calm fun g hg => by
              simp only [List.mem_cons, List.not_mem_nil, or_false] at hg
              have lw := put_low (B := B) (a1 := a1) (a2 := a2) (a3 := a3) (a4 := a4) (k := k) (w := w) (t := t) (L := L) (by omega)
              rcases hg with rfl | rfl | rfl
              · exact pinX_calm (fun fl => Put_at (f := t.r) (Li.sl h3 (x := 2) rfl rfl) lw hk2 _ fl) (fun fl => (Good.refl fl 100000 (ofM ([(6, some (.cells [.int .i64 (B.due k), .int .i64 (B.dl k), .int .i64 (B.dh k), .int .i64 (B.rl k), .int .i64 (B.rh k), .int .i64 (B.sl k), .int .i64 (B.sh k)])), (5, some (.cells [.int .i64 (w : Int), a3, a4])), (4, some (.cells (bk B a1 a2).cells)), (0, some (oSt B)), (1, some (oCk B)), (2, some (.ro (fE t.r k))), (3, some (.ro (fE t.c k)))] ++ (ouM fA gA B.ns 7 L ++ tmsF fA gA B.ns 0 L)))).cons (c2 := 100004) (by decide) (by decide) (by decide))
              · exact pinX_calm (fun fl => Put_at (f := t.c) (Li.sl h4 (x := 3) rfl rfl) (low_cons lw (c' := 100004) (by decide) (by decide)) hk2 _ fl) (fun fl => (Good.refl fl 100004 (ofM ((100000, some (.grown (fE (puF t.r k ro) (k + 1)) 1)) :: ([(6, some (.cells [.int .i64 (B.due k), .int .i64 (B.dl k), .int .i64 (B.dh k), .int .i64 (B.rl k), .int .i64 (B.rh k), .int .i64 (B.sl k), .int .i64 (B.sh k)])), (5, some (.cells [.int .i64 (w : Int), a3, a4])), (4, some (.cells (bk B a1 a2).cells)), (0, some (oSt B)), (1, some (oCk B)), (2, some (.ro (fE t.r k))), (3, some (.ro (fE t.c k)))] ++ (ouM fA gA B.ns 7 L ++ tmsF fA gA B.ns 0 L))))).cons (c2 := 100008) (by decide) (by decide) (by decide))
              · exact pinX_calm gok (fun fl => good_app gc gkeys)
            have hkeep : ∀ {x : Nat} {o : AObj}, x < 100008 → lookM ((100004, some (.grown (fE (puF t.c k (fr + d + ro + B.cost w)) (k + 1)) 1)) :: (100000, some (.grown (fE (puF t.r k ro) (k + 1)) 1)) :: ([(6, some (.cells [.int .i64 (B.due k), .int .i64 (B.dl k), .int .i64 (B.dh k), .int .i64 (B.rl k), .int .i64 (B.rh k), .int .i64 (B.sl k), .int .i64 (B.sh k)])), (5, some (.cells [.int .i64 (w : Int), a3, a4])), (4, some (.cells (bk B a1 a2).cells)), (0, some (oSt B)), (1, some (oCk B)), (2, some (.ro (fE t.r k))), (3, some (.ro (fE t.c k)))] ++ (ouM fA gA B.ns 7 L ++ tmsF fA gA B.ns 0 L))) x = some o → lookM (mN ++ (100004, some (.grown (fE (puF t.c k (fr + d + ro + B.cost w)) (k + 1)) 1)) :: (100000, some (.grown (fE (puF t.r k ro) (k + 1)) 1)) :: ([(6, some (.cells [.int .i64 (B.due k), .int .i64 (B.dl k), .int .i64 (B.dh k), .int .i64 (B.rl k), .int .i64 (B.rh k), .int .i64 (B.sl k), .int .i64 (B.sh k)])), (5, some (.cells [.int .i64 (w : Int), a3, a4])), (4, some (.cells (bk B a1 a2).cells)), (0, some (oSt B)), (1, some (oCk B)), (2, some (.ro (fE t.r k))), (3, some (.ro (fE t.c k)))] ++ (ouM fA gA B.ns 7 L ++ tmsF fA gA B.ns 0 L))) x = some o := fun {x o} hx h => (look_skip fun e he => by have := gkeys e he; omega).trans h
            have hold : ∀ j u, L[j]? = some u → lookM ((100004, some (.grown (fE (puF t.c k (fr + d + ro + B.cost w)) (k + 1)) 1)) :: (100000, some (.grown (fE (puF t.r k ro) (k + 1)) 1)) :: ([(6, some (.cells [.int .i64 (B.due k), .int .i64 (B.dl k), .int .i64 (B.dh k), .int .i64 (B.rl k), .int .i64 (B.rh k), .int .i64 (B.sl k), .int .i64 (B.sh k)])), (5, some (.cells [.int .i64 (w : Int), a3, a4])), (4, some (.cells (bk B a1 a2).cells)), (0, some (oSt B)), (1, some (oCk B)), (2, some (.ro (fE t.r k))), (3, some (.ro (fE t.c k)))] ++ (ouM fA gA B.ns 7 L ++ tmsF fA gA B.ns 0 L))) (fA j) = some (.grown (fE u.r B.ns) 1) ∧ lookM ((100004, some (.grown (fE (puF t.c k (fr + d + ro + B.cost w)) (k + 1)) 1)) :: (100000, some (.grown (fE (puF t.r k ro) (k + 1)) 1)) :: ([(6, some (.cells [.int .i64 (B.due k), .int .i64 (B.dl k), .int .i64 (B.dh k), .int .i64 (B.rl k), .int .i64 (B.rh k), .int .i64 (B.sl k), .int .i64 (B.sh k)])), (5, some (.cells [.int .i64 (w : Int), a3, a4])), (4, some (.cells (bk B a1 a2).cells)), (0, some (oSt B)), (1, some (oCk B)), (2, some (.ro (fE t.r k))), (3, some (.ro (fE t.c k)))] ++ (ouM fA gA B.ns 7 L ++ tmsF fA gA B.ns 0 L))) (gA j) = some (.grown (fE u.c B.ns) 1) := fun j u hu => by
              have hj : j < L.length := Classical.byContradiction fun q => by rw [List.getElem?_eq_none (by omega)] at hu; cases hu
              have := goA_tr (B := B) hu
              have sk : ∀ x, 100 ≤ x → x < 100000 → lookM ((100004, some (.grown (fE (puF t.c k (fr + d + ro + B.cost w)) (k + 1)) 1)) :: (100000, some (.grown (fE (puF t.r k ro) (k + 1)) 1)) :: ([(6, some (.cells [.int .i64 (B.due k), .int .i64 (B.dl k), .int .i64 (B.dh k), .int .i64 (B.rl k), .int .i64 (B.rh k), .int .i64 (B.sl k), .int .i64 (B.sh k)])), (5, some (.cells [.int .i64 (w : Int), a3, a4])), (4, some (.cells (bk B a1 a2).cells)), (0, some (oSt B)), (1, some (oCk B)), (2, some (.ro (fE t.r k))), (3, some (.ro (fE t.c k)))] ++ (ouM fA gA B.ns 7 L ++ tmsF fA gA B.ns 0 L))) x = lookM (goA B L) x := fun x h1 h2 => by
                rw [lookM_tl (by omega), lookM_tl (by omega)]
                exact look_skip fun e he => by
                  simp at he
                  rcases he with rfl | rfl | rfl | rfl | rfl | rfl | rfl <;> (simp; omega)
              rw [sk (fA j) (by unfold fA; omega) (by unfold fA; omega), sk (gA j) (by unfold gA; omega) (by unfold gA; omega)]
              exact this
            by_cases hLe : L' = []
            · obtain ⟨rfl, rfl⟩ := gnil hLe
              subst hLe
              clear gnil gsl gtr gok hL2 hl2
              cases L with
              | nil =>
                have hz : AV.nils = .nils ∨ ∃ a olds, AV.nils = .gs a 0 ∧ lookM ((100004, some (.grown (fE (puF t.c k (fr + d + ro + B.cost w)) (k + 1)) 1)) :: (100000, some (.grown (fE (puF t.r k ro) (k + 1)) 1)) :: ([(6, some (.cells [.int .i64 (B.due k), .int .i64 (B.dl k), .int .i64 (B.dh k), .int .i64 (B.rl k), .int .i64 (B.rh k), .int .i64 (B.sl k), .int .i64 (B.sh k)])), (5, some (.cells [.int .i64 (w : Int), a3, a4])), (4, some (.cells (bk B a1 a2).cells)), (0, some (oSt B)), (1, some (oCk B)), (2, some (.ro (fE t.r k))), (3, some (.ro (fE t.c k)))] ++ (ouM fA gA B.ns 7 [] ++ tmsF fA gA B.ns 0 []))) a = some (.grown olds 3) ∧ cut olds 0 (0 * 3) = some olds := .inl rfl
                refine Tr.openK un89_17 (by kernel_rfl) (by kernel_rfl) _ pX ?_
                repeat' (first | (refine RD.free rfl rfl rfl rfl rfl rfl ?_; apply Nx.of; (first | exact S.move | exact S.fieldAddr rfl rfl rfl)) | (refine RD.load rfl rfl rfl rfl rfl rfl rfl rfl ?_; apply Nx.of; (first | exact S.load1c rfl rfl rfl rfl | exact S.loadNc rfl rfl rfl rfl)))
                (refine RD.callX rfl rfl rfl rfl rfl rfl rfl rfl (by simp) (fun fl' => alts_hd (pinX_at _ _ _ _ _ _ _ fl')) (fun _ => by refine srOkX_all ?_; simp only [srOkX]; (repeat' (first | exact trivial | refine And.intro ?_ ?_)); all_goals (first | (refine ⟨_, rfl, rfl, ?_⟩; (first | (simp [bk, AV.cells, pbC, rfO, rfVs, rfV, h1.rf, h2.rf, h3.rf, h4.rf]; done))))) ?_)
                repeat' (first | (refine RD.free rfl rfl rfl rfl rfl rfl ?_; apply Nx.of; (first | exact S.move | exact S.fieldAddr rfl rfl rfl)) | (refine RD.load rfl rfl rfl rfl rfl rfl rfl (by refine us_all ?_; simp only [usOk, cond_true, cond_false]; (repeat' (first | exact trivial | refine And.intro ?_ ?_)); all_goals (first | rfl | exact .inl trivial | (refine Or.inr ⟨_, _, _, rfl, getM rfl, getM rfl, ?_⟩; (first | (simp [bk, AV.cells, pbC, rfO, rfVs, rfV, h1.rf, h2.rf, h3.rf, h4.rf]; done))))) ?_; apply Nx.of; (first | exact S.load1c rfl rfl rfl rfl)))
                (refine RD.callX rfl rfl rfl rfl rfl rfl rfl rfl (by simp) (fun fl' => (alts_tl (pinX_nc (by decide))).trans (alts_hd (pinX_at _ _ _ _ _ _ _ fl'))) (fun _ => by refine srOkX_all ?_; simp only [srOkX]; (repeat' (first | exact trivial | refine And.intro ?_ ?_)); all_goals (first | (refine ⟨_, rfl, rfl, ?_⟩; (first | (simp [bk, AV.cells, pbC, rfO, rfVs, rfV, h1.rf, h2.rf, h3.rf, h4.rf]; done))))) ?_)
                repeat' (first | (refine RD.free rfl rfl rfl rfl rfl rfl ?_; apply Nx.of; (first | exact S.move | exact S.add (by unfold In64; omega) | exact S.build rfl rfl rfl)))
                (refine RD.callX rfl rfl rfl rfl rfl rfl rfl rfl (by simp) (fun fl' => (alts_tl (pinX_nc (by decide))).trans ((alts_tl (pinX_nc (by decide))).trans (alts_hd (pinX_at _ _ _ _ _ _ _ fl')))) (fun _ => by refine srOkX_all ?_; simp only [srOkX]; (repeat' (first | exact trivial | refine And.intro ?_ ?_)); all_goals (first | exact trivial | (refine ⟨_, rfl, rfl, ?_⟩; (first | rfl | (simp [rfO, rfVs, rfV, rfVs_flat]; done) | (simp [bk, AV.cells, pbC, rfO, rfVs, rfV, h1.rf, h2.rf, h3.rf, h4.rf]; done))))) ?_)
                (refine RD.wide rfl rfl rfl rfl rfl rfl rfl (by simp) ?_; refine Nx.of (S.append_z (s := 0) (cs := []) rfl rfl rfl rfl rfl rfl rfl hz) ⟨rfl, ?_⟩)
                repeat' (first | (refine RD.free rfl rfl rfl rfl rfl rfl ?_; apply Nx.of; (first | exact S.assign)))
                refine RD.nil ⟨by first | (show 100000 ≤ c'; omega), rfl, ?_⟩
                exact go_wk (L := []) (L' := []) (A := 100000) (A' := 100001) (x := 7) (n := B.ns) (r := t.r) (e := t.c) h1 h2 h3 h4 hN (by decide) (by decide) (.inl rfl) (.inl rfl) ⟨rfl, rfl, rfl, rfl, rfl, rfl, rfl, rfl, rfl, trivial⟩ rfl rfl rfl rfl rfl rfl rfl rfl (fun h => absurd rfl h) (fun j u hu => by simp at hu) (fun j u hu => by simp at hu)
              | cons a l =>
                have hz : AV.gs 7 (l.length + 1) = .nils ∨ ∃ b olds, AV.gs 7 (l.length + 1) = .gs b (l.length + 1) ∧ lookM ((100004, some (.grown (fE (puF t.c k (fr + d + ro + B.cost w)) (k + 1)) 1)) :: (100000, some (.grown (fE (puF t.r k ro) (k + 1)) 1)) :: ([(6, some (.cells [.int .i64 (B.due k), .int .i64 (B.dl k), .int .i64 (B.dh k), .int .i64 (B.rl k), .int .i64 (B.rh k), .int .i64 (B.sl k), .int .i64 (B.sh k)])), (5, some (.cells [.int .i64 (w : Int), a3, a4])), (4, some (.cells (bk B a1 a2).cells)), (0, some (oSt B)), (1, some (oCk B)), (2, some (.ro (fE t.r k))), (3, some (.ro (fE t.c k)))] ++ (ouM fA gA B.ns 7 (a :: l) ++ tmsF fA gA B.ns 0 (a :: l)))) b = some (.grown olds 3) ∧ cut olds 0 ((l.length + 1) * 3) = some olds := .inr ⟨7, _, rfl, rfl, cut_all (tcsF_len (a :: l) 0)⟩
                refine Tr.openK un89_17 (by kernel_rfl) (by kernel_rfl) _ pX ?_
                repeat' (first | (refine RD.free rfl rfl rfl rfl rfl rfl ?_; apply Nx.of; (first | exact S.move | exact S.fieldAddr rfl rfl rfl)) | (refine RD.load rfl rfl rfl rfl rfl rfl rfl rfl ?_; apply Nx.of; (first | exact S.load1c rfl rfl rfl rfl | exact S.loadNc rfl rfl rfl rfl)))
                (refine RD.callX rfl rfl rfl rfl rfl rfl rfl rfl (by simp) (fun fl' => alts_hd (pinX_at _ _ _ _ _ _ _ fl')) (fun _ => by refine srOkX_all ?_; simp only [srOkX]; (repeat' (first | exact trivial | refine And.intro ?_ ?_)); all_goals (first | (refine ⟨_, rfl, rfl, ?_⟩; (first | (simp [bk, AV.cells, pbC, rfO, rfVs, rfV, h1.rf, h2.rf, h3.rf, h4.rf]; done))))) ?_)
                repeat' (first | (refine RD.free rfl rfl rfl rfl rfl rfl ?_; apply Nx.of; (first | exact S.move | exact S.fieldAddr rfl rfl rfl)) | (refine RD.load rfl rfl rfl rfl rfl rfl rfl (by refine us_all ?_; simp only [usOk, cond_true, cond_false]; (repeat' (first | exact trivial | refine And.intro ?_ ?_)); all_goals (first | rfl | exact .inl trivial | (refine Or.inr ⟨_, _, _, rfl, getM rfl, getM rfl, ?_⟩; (first | (simp [bk, AV.cells, pbC, rfO, rfVs, rfV, h1.rf, h2.rf, h3.rf, h4.rf]; done))))) ?_; apply Nx.of; (first | exact S.load1c rfl rfl rfl rfl)))
                (refine RD.callX rfl rfl rfl rfl rfl rfl rfl rfl (by simp) (fun fl' => (alts_tl (pinX_nc (by decide))).trans (alts_hd (pinX_at _ _ _ _ _ _ _ fl'))) (fun _ => by refine srOkX_all ?_; simp only [srOkX]; (repeat' (first | exact trivial | refine And.intro ?_ ?_)); all_goals (first | (refine ⟨_, rfl, rfl, ?_⟩; (first | (simp [bk, AV.cells, pbC, rfO, rfVs, rfV, h1.rf, h2.rf, h3.rf, h4.rf]; done))))) ?_)
                repeat' (first | (refine RD.free rfl rfl rfl rfl rfl rfl ?_; apply Nx.of; (first | exact S.move | exact S.add (by unfold In64; omega) | exact S.build rfl rfl rfl)))
                (refine RD.callX rfl rfl rfl rfl rfl rfl rfl rfl (by simp) (fun fl' => (alts_tl (pinX_nc (by decide))).trans ((alts_tl (pinX_nc (by decide))).trans (alts_hd (pinX_at _ _ _ _ _ _ _ fl')))) (fun _ => by refine srOkX_all ?_; simp only [srOkX]; (repeat' (first | exact trivial | refine And.intro ?_ ?_)); all_goals (first | exact trivial | (refine ⟨_, rfl, rfl, ?_⟩; (first | rfl | (simp [rfO, rfVs, rfV, rfVs_flat]; done) | (simp [bk, AV.cells, pbC, rfO, rfVs, rfV, h1.rf, h2.rf, h3.rf, h4.rf]; done))))) ?_)
                (refine RD.wide rfl rfl rfl rfl rfl rfl rfl (by simp) ?_; refine Nx.of (S.append_z (s := 0) (cs := []) rfl rfl rfl rfl rfl rfl rfl hz) ⟨rfl, ?_⟩)
                repeat' (first | (refine RD.free rfl rfl rfl rfl rfl rfl ?_; apply Nx.of; (first | exact S.assign)))
                refine RD.nil ⟨by first | (show 100000 ≤ c'; omega), rfl, ?_⟩
                refine go_wk (L := a :: l) (L' := []) (A := 100000) (A' := 100001) (x := 7) (n := B.ns) (r := t.r) (e := t.c) h1 h2 h3 h4 hN (by decide) (by decide) (.inl rfl) (.inl rfl) ⟨rfl, rfl, rfl, rfl, rfl, rfl, rfl, rfl, rfl, trivial⟩ ?_ rfl rfl rfl rfl rfl rfl rfl (fun _ => ?_) hold (fun j u hu => by simp at hu)
                · rw [List.append_nil]; rfl
                · show _ = some (AObj.grown (tcsF fA gA B.ns 0 (a :: l) ++ []) 3)
                  rw [List.append_nil]
                  rfl
            · have hS := gsl hLe
              have hlp : 0 < L'.length := List.length_pos_iff.2 hLe
              have hn0 := hlp
              have hn6 : L'.length ≤ 1000000 := by omega
              have eg : ∀ x, grI x L'.length = .gs x L'.length := fun x => by
                cases hq : L'.length with
                | zero => omega
                | succ n => rfl
              have hnew : ∀ j u, L'[j]? = some u → j < L'.length := fun j u hu => Classical.byContradiction fun q => by rw [List.getElem?_eq_none (by omega)] at hu; cases hu
              clear gnil gsl gok hL2 hl2
              cases L with
              | nil =>
                refine Tr.openK un89_17 (by kernel_rfl) (by kernel_rfl) _ pX ?_
                repeat' (first | (refine RD.free rfl rfl rfl rfl rfl rfl ?_; apply Nx.of; (first | exact S.move | exact S.fieldAddr rfl rfl rfl)) | (refine RD.load rfl rfl rfl rfl rfl rfl rfl rfl ?_; apply Nx.of; (first | exact S.load1c rfl rfl rfl rfl | exact S.loadNc rfl rfl rfl rfl)))
                (refine RD.callX rfl rfl rfl rfl rfl rfl rfl rfl (by simp) (fun fl' => alts_hd (pinX_at _ _ _ _ _ _ _ fl')) (fun _ => by refine srOkX_all ?_; simp only [srOkX]; (repeat' (first | exact trivial | refine And.intro ?_ ?_)); all_goals (first | (refine ⟨_, rfl, rfl, ?_⟩; (first | (simp [bk, AV.cells, pbC, rfO, rfVs, rfV, h1.rf, h2.rf, h3.rf, h4.rf]; done))))) ?_)
                repeat' (first | (refine RD.free rfl rfl rfl rfl rfl rfl ?_; apply Nx.of; (first | exact S.move | exact S.fieldAddr rfl rfl rfl)) | (refine RD.load rfl rfl rfl rfl rfl rfl rfl (by refine us_all ?_; simp only [usOk, cond_true, cond_false]; (repeat' (first | exact trivial | refine And.intro ?_ ?_)); all_goals (first | rfl | exact .inl trivial | (refine Or.inr ⟨_, _, _, rfl, getM rfl, getM rfl, ?_⟩; (first | (simp [bk, AV.cells, pbC, rfO, rfVs, rfV, h1.rf, h2.rf, h3.rf, h4.rf]; done))))) ?_; apply Nx.of; (first | exact S.load1c rfl rfl rfl rfl)))
                (refine RD.callX rfl rfl rfl rfl rfl rfl rfl rfl (by simp) (fun fl' => (alts_tl (pinX_nc (by decide))).trans (alts_hd (pinX_at _ _ _ _ _ _ _ fl'))) (fun _ => by refine srOkX_all ?_; simp only [srOkX]; (repeat' (first | exact trivial | refine And.intro ?_ ?_)); all_goals (first | (refine ⟨_, rfl, rfl, ?_⟩; (first | (simp [bk, AV.cells, pbC, rfO, rfVs, rfV, h1.rf, h2.rf, h3.rf, h4.rf]; done))))) ?_)
                repeat' (first | (refine RD.free rfl rfl rfl rfl rfl rfl ?_; apply Nx.of; (first | exact S.move | exact S.add (by unfold In64; omega) | exact S.build rfl rfl rfl)))
                (refine RD.callX rfl rfl rfl rfl rfl rfl rfl rfl (by simp) (fun fl' => (alts_tl (pinX_nc (by decide))).trans ((alts_tl (pinX_nc (by decide))).trans (alts_hd (pinX_at _ _ _ _ _ _ _ fl')))) (fun _ => by refine srOkX_all ?_; simp only [srOkX]; (repeat' (first | exact trivial | refine And.intro ?_ ?_)); all_goals (first | exact trivial | (refine ⟨_, rfl, rfl, ?_⟩; (first | rfl | (simp [rfO, rfVs, rfV, rfVs_flat]; done) | (simp [bk, AV.cells, pbC, rfO, rfVs, rfV, h1.rf, h2.rf, h3.rf, h4.rf]; done))))) ?_)
                (refine RD.wide rfl rfl rfl rfl rfl rfl rfl (by simp) ?_; refine Nx.of (S.append_n rfl rfl rfl rfl rfl rfl rfl rfl rfl hS hn6 hn0) ⟨rfl, ?_⟩)
                repeat' (first | (refine RD.free rfl rfl rfl rfl rfl rfl ?_; apply Nx.of; (first | exact S.assign)))
                refine RD.nil ⟨by first | (show 100000 ≤ c' + 1; omega), rfl, ?_⟩
                refine go_wk (L := []) (L' := L') (A := A) (A' := A') (x := c') (n := B.ns) (r := t.r) (e := t.c) h1 h2 h3 h4 hN gA1 gA2 gAA (.inr ⟨gx1, gx2, by omega⟩) ⟨rfl, rfl, rfl, rfl, rfl, rfl, rfl, rfl, rfl, trivial⟩ (congrArg some (eg c').symm) ?_ ?_ ?_ ?_ ?_ ?_ ?_ (fun _ => lookM_hd) (fun j u hu => by simp at hu) (fun j u hu => ?_)
                iterate 7 exact (lookM_tl (by omega)).trans (hkeep (by decide) rfl)
                have := hnew j u hu
                exact ⟨(lookM_tl (by omega)).trans (gtr j u hu).1, (lookM_tl (by omega)).trans (gtr j u hu).2⟩
              | cons a l =>
                have h7 : lookM (mN ++ (100004, some (.grown (fE (puF t.c k (fr + d + ro + B.cost w)) (k + 1)) 1)) :: (100000, some (.grown (fE (puF t.r k ro) (k + 1)) 1)) :: ([(6, some (.cells [.int .i64 (B.due k), .int .i64 (B.dl k), .int .i64 (B.dh k), .int .i64 (B.rl k), .int .i64 (B.rh k), .int .i64 (B.sl k), .int .i64 (B.sh k)])), (5, some (.cells [.int .i64 (w : Int), a3, a4])), (4, some (.cells (bk B a1 a2).cells)), (0, some (oSt B)), (1, some (oCk B)), (2, some (.ro (fE t.r k))), (3, some (.ro (fE t.c k)))] ++ (ouM fA gA B.ns 7 (a :: l) ++ tmsF fA gA B.ns 0 (a :: l)))) 7 = some (.grown (tcsF fA gA B.ns 0 (a :: l)) 3) := hkeep (by decide) rfl
                have hla : (a :: l).length = l.length + 1 := rfl
                have hc7 : cut (tcsF fA gA B.ns 0 (a :: l)) 0 ((l.length + 1) * 3) = some (tcsF fA gA B.ns 0 (a :: l)) := cut_all (tcsF_len (a :: l) 0)
                have hk7 : l.length + 1 ≤ 1000000 := by omega
                have hone := tcsF_one (f := fun j => A + 2 * j) (g := fun j => A' + 2 * j) (k := B.ns) L' 0
                refine Tr.openK un89_17 (by kernel_rfl) (by kernel_rfl) _ pX ?_
                repeat' (first | (refine RD.free rfl rfl rfl rfl rfl rfl ?_; apply Nx.of; (first | exact S.move | exact S.fieldAddr rfl rfl rfl)) | (refine RD.load rfl rfl rfl rfl rfl rfl rfl rfl ?_; apply Nx.of; (first | exact S.load1c rfl rfl rfl rfl | exact S.loadNc rfl rfl rfl rfl)))
                (refine RD.callX rfl rfl rfl rfl rfl rfl rfl rfl (by simp) (fun fl' => alts_hd (pinX_at _ _ _ _ _ _ _ fl')) (fun _ => by refine srOkX_all ?_; simp only [srOkX]; (repeat' (first | exact trivial | refine And.intro ?_ ?_)); all_goals (first | (refine ⟨_, rfl, rfl, ?_⟩; (first | (simp [bk, AV.cells, pbC, rfO, rfVs, rfV, h1.rf, h2.rf, h3.rf, h4.rf]; done))))) ?_)
                repeat' (first | (refine RD.free rfl rfl rfl rfl rfl rfl ?_; apply Nx.of; (first | exact S.move | exact S.fieldAddr rfl rfl rfl)) | (refine RD.load rfl rfl rfl rfl rfl rfl rfl (by refine us_all ?_; simp only [usOk, cond_true, cond_false]; (repeat' (first | exact trivial | refine And.intro ?_ ?_)); all_goals (first | rfl | exact .inl trivial | (refine Or.inr ⟨_, _, _, rfl, getM rfl, getM rfl, ?_⟩; (first | (simp [bk, AV.cells, pbC, rfO, rfVs, rfV, h1.rf, h2.rf, h3.rf, h4.rf]; done))))) ?_; apply Nx.of; (first | exact S.load1c rfl rfl rfl rfl)))
                (refine RD.callX rfl rfl rfl rfl rfl rfl rfl rfl (by simp) (fun fl' => (alts_tl (pinX_nc (by decide))).trans (alts_hd (pinX_at _ _ _ _ _ _ _ fl'))) (fun _ => by refine srOkX_all ?_; simp only [srOkX]; (repeat' (first | exact trivial | refine And.intro ?_ ?_)); all_goals (first | (refine ⟨_, rfl, rfl, ?_⟩; (first | (simp [bk, AV.cells, pbC, rfO, rfVs, rfV, h1.rf, h2.rf, h3.rf, h4.rf]; done))))) ?_)
                repeat' (first | (refine RD.free rfl rfl rfl rfl rfl rfl ?_; apply Nx.of; (first | exact S.move | exact S.add (by unfold In64; omega) | exact S.build rfl rfl rfl)))
                (refine RD.callX rfl rfl rfl rfl rfl rfl rfl rfl (by simp) (fun fl' => (alts_tl (pinX_nc (by decide))).trans ((alts_tl (pinX_nc (by decide))).trans (alts_hd (pinX_at _ _ _ _ _ _ _ fl')))) (fun _ => by refine srOkX_all ?_; simp only [srOkX]; (repeat' (first | exact trivial | refine And.intro ?_ ?_)); all_goals (first | exact trivial | (refine ⟨_, rfl, rfl, ?_⟩; (first | rfl | (simp [rfO, rfVs, rfV, rfVs_flat]; done) | (simp [bk, AV.cells, pbC, rfO, rfVs, rfV, h1.rf, h2.rf, h3.rf, h4.rf]; done))))) ?_)
                (refine RD.wide rfl rfl rfl rfl rfl rfl rfl (by simp) ?_; refine Nx.of (S.append_g rfl rfl rfl rfl rfl rfl rfl rfl rfl hS hn6 hn0 h7 rfl hc7 hk7 hone) ⟨rfl, ?_⟩)
                repeat' (first | (refine RD.free rfl rfl rfl rfl rfl rfl ?_; apply Nx.of; (first | exact S.assign)))
                refine RD.nil ⟨by first | (show 100000 ≤ c' + 1; omega), rfl, ?_⟩
                refine go_wk (L := a :: l) (L' := L') (A := A) (A' := A') (x := c') (n := B.ns) (r := t.r) (e := t.c) h1 h2 h3 h4 hN gA1 gA2 gAA (.inr ⟨gx1, gx2, by omega⟩) ⟨rfl, rfl, rfl, rfl, rfl, rfl, rfl, rfl, rfl, trivial⟩ ?_ ?_ ?_ ?_ ?_ ?_ ?_ ?_ (fun _ => lookM_hd) (fun j u hu => ?_) (fun j u hu => ?_)
                · show some (AV.gs c' (l.length + 1 + L'.length)) = some (grI c' ((a :: l) ++ L').length)
                  rw [List.length_append, hla, show l.length + 1 + L'.length = (l.length + L'.length) + 1 by omega]
                  rfl
                iterate 7 exact (lookM_tl (by omega)).trans ((lookM_tl (by decide)).trans (hkeep (by decide) rfl))
                · have hj : j < (a :: l).length := Classical.byContradiction fun q => by rw [List.getElem?_eq_none (by omega)] at hu; cases hu
                  have := hold j u hu
                  have b1 : fA j < 100000 ∧ 7 < fA j := by unfold fA; omega
                  have b2 : gA j < 100000 ∧ 7 < gA j := by unfold gA; omega
                  exact ⟨(lookM_tl (by omega)).trans ((lookM_tl (by omega)).trans (hkeep (by omega) this.1)), (lookM_tl (by omega)).trans ((lookM_tl (by omega)).trans (hkeep (by omega) this.2))⟩
                · have := hnew j u hu
                  exact ⟨(lookM_tl (by omega)).trans ((lookM_tl (by omega)).trans (gtr j u hu).1), (lookM_tl (by omega)).trans ((lookM_tl (by omega)).trans (gtr j u hu).2)⟩
          · subst he
            refine blk_n (sq_n (Tr.wk hwk ?_))
            repeat' (first | refine RT.nil ?_ | refine Tr.region ?_ | (refine RT.goK rfl rfl rfl rfl ?_; apply Nx.of; (first | exact S.move | exact S.assign | exact S.add (by unfold In64; omega))))
            refine lp_n (q2 + 1, L ++ L') ⟨hlt2, ?_⟩ (by show _ - (q2 + 1) < _ - q2; omega) ?_
            · show L ++ L' = L1 ++ preL (B.sl k) (gFi B rem k w t fr d ro) (q2 + 1)
              rw [preL, hss, hL', ← List.append_assoc, ← hL2]
            · exact Wk.temps (by decide) (by decide) (by decide) ⟨rfl, rfl, rfl, rfl, rfl, rfl, rfl, rfl, rfl, congrArg some (congrArg (AV.int .i64) (by omega)), trivial⟩
        · have hst : ¬ B.sl k + (q2 : Int) ≤ B.sh k := by omega
          repeat' (first | refine RT.nil ?_ | refine sq_n ?_ | refine Tr.seq ?_ | refine Tr.region ?_ | refine Tr.cond_f rfl ?_ | refine Tr.exit ?_ | refine sq_x ?_ | refine blk_n ?_ | refine blk_hit rfl ?_ | refine lp_x ?_ | (refine RT.goK rfl rfl rfl rfl ?_; refine Nx.of (S.leq_f hst) ?_) | (refine RT.goK rfl rfl rfl rfl ?_; apply Nx.of; (first | exact S.move | exact S.assign | exact S.load1c rfl rfl rfl rfl | exact S.fieldAddr rfl rfl rfl | exact S.add (by unfold In64; omega))))
          refine lp_n (q1 + 1, L) ⟨hlt1, ?_⟩ (by show _ - (q1 + 1) < _ - q1; omega) ?_
          · show L = L0 ++ preL (B.rl k) (gFm B rem k w t fr d) (q1 + 1)
            have hqq : q2 = (B.sh k - B.sl k + 1).toNat := by omega
            rw [preL, hro, show gFm B rem k w t fr d ro = (ints (B.sl k) (B.sh k)).flatMap (gFi B rem k w t fr d ro) from if_pos hwr, ← preL_all _ _ _ hqq, ← List.append_assoc, ← hL1]
            exact hL2
          · exact Wk.temps (by decide) (by decide) (by decide) ⟨rfl, rfl, rfl, rfl, rfl, rfl, rfl, congrArg some (congrArg (AV.int .i64) (by omega)), trivial⟩
      · have hA : AV.bool (dB (rgtP B (k : Int) (fr + d + ro + B.cost w) B.nc)) = .bool false := by rw [dB_ff (fun h => hwr ((rgtP_wr hB.2.2.1.1).1 h))]
        repeat' (first | refine RT.nil ?_ | refine sq_n ?_ | refine Tr.seq ?_ | refine Tr.region ?_ | refine Tr.cond_t rfl ?_ | refine Tr.skip ?_ | refine Tr.exit ?_ | refine sq_x ?_ | refine Tr.block ?_ | refine blk_hit rfl ?_ | (refine RT.goK rfl rfl rfl rfl ?_; refine Nx.of (S.leq_t hr) ?_) | (refine RT.call rfl rfl rfl (val_is hA (right6_at ⟨h1, h2, rfl, rfl, by decide⟩ hB.2.2.1 _ _ hmb _)) rfl rfl (Nat.le_refl _) ?_) | (refine RT.goK rfl rfl rfl rfl ?_; apply Nx.of; (first | exact S.move | exact S.assign | exact S.load1c rfl rfl rfl rfl | exact S.loadNc rfl rfl rfl rfl | exact S.fieldAddr rfl rfl rfl | exact S.not_f | exact S.add (by unfold In64; omega) | exact S.idx_arr rfl rfl rfl (show _ < 3 by omega) | exact S.load1c rfl rfl rfl (cost_at hw3))))
        refine lp_n (q1 + 1, L1) ⟨hlt1, ?_⟩ (by show _ - (q1 + 1) < _ - q1; omega) ?_
        · show L1 = L0 ++ preL (B.rl k) (gFm B rem k w t fr d) (q1 + 1)
          rw [preL, hro, show gFm B rem k w t fr d ro = [] from if_neg hwr, List.append_nil]
          exact hL1
        · exact Wk.temps (by decide) (by decide) (by decide) ⟨rfl, rfl, rfl, rfl, rfl, rfl, rfl, congrArg some (congrArg (AV.int .i64) (by omega)), trivial⟩
    · have hr : ¬ B.rl k + (q1 : Int) ≤ B.rh k := by omega
      repeat' (first | refine RT.nil ?_ | refine sq_n ?_ | refine Tr.seq ?_ | refine Tr.region ?_ | refine Tr.cond_f rfl ?_ | refine Tr.exit ?_ | refine sq_x ?_ | refine blk_n ?_ | refine blk_hit rfl ?_ | refine lp_x ?_ | (refine RT.goK rfl rfl rfl rfl ?_; refine Nx.of (S.leq_f hr) ?_) | (refine RT.goK rfl rfl rfl rfl ?_; apply Nx.of; (first | exact S.move | exact S.assign | exact S.load1c rfl rfl rfl rfl | exact S.fieldAddr rfl rfl rfl | exact S.add (by unfold In64; omega))))
      refine lp_n (q0 + 1, L1) ⟨hlt, ?_⟩ (by show _ - (q0 + 1) < _ - q0; omega) ?_
      · show L1 = preL (B.dl k) (gFo B rem k w t fr) (q0 + 1)
        have hq1' : q1 = (B.rh k - B.rl k + 1).toNat := by have : q1 ≤ (B.rh k - B.rl k + 1).toNat := hq1; omega
        rw [preL, hdd, hL1]
        rw [preL_all _ _ _ hq1', hL]
        rfl
      · exact Wk.temps (by decide) (by decide) (by decide) ⟨rfl, rfl, rfl, rfl, rfl, rfl, congrArg some (congrArg (AV.int .i64) (by omega)), trivial⟩
  · have hd : ¬ B.dl k + (q0 : Int) ≤ B.dh k := by omega
    repeat' (first | refine RT.nil ?_ | refine sq_n ?_ | refine Tr.seq ?_ | refine Tr.region ?_ | refine Tr.cond_f rfl ?_ | refine Tr.ret ?_ | refine Tr.exit ?_ | refine sq_x ?_ | refine blk_hit rfl ?_ | refine lp_x ?_ | (refine RT.goK rfl rfl rfl rfl ?_; refine Nx.of (S.leq_f hd) ?_) | (refine RT.goK rfl rfl rfl rfl ?_; apply Nx.of; (first | exact S.move | exact S.assign | exact S.load1c rfl rfl rfl rfl | exact S.fieldAddr rfl rfl rfl)))
    (first | refine rt_go rfl ?_)
    have hq0' : q0 = (B.dh k - B.dl k + 1).toNat := by have : q0 ≤ (B.dh k - B.dl k + 1).toNat := hq0; omega
    have hLL : L0 = gL B (rem + 1) k t fr := by rw [gL_is htw, ← preL_all _ _ _ hq0']; exact hL
    rw [← hLL]
    refine ⟨rfl, Nat.le_refl _, fun x o hx => ?_⟩
    rw [ofM_get]
    have hk7 : 7 ≤ x := by
      obtain ⟨e, he, hex⟩ := List.mem_map.1 (lookM_mem hx)
      have := goA_keys (B := B) (L := L0) e he
      omega
    refine (look_skip fun e he => ?_).trans hx
    simp at he
    rcases he with rfl | rfl | rfl | rfl | rfl | rfl | rfl <;> (simp; omega)
end Go.Proofs.Ytlnmcadbmpiopaa

/- The reference of layer 6: goes, all stages. -/
namespace Go.Proofs.Ytlnmcadbmpiopaa
open Go Go.Ev

theorem tru2_w' (t : Tru) (k : Nat) (a b : Int) : (tru2 t k a b).w = t.w := by
  unfold tru2 Tru.setR Tru.setC
  (repeat' split) <;> rfl
theorem goes_can {B : CBook} {a1 a2 : AV} {w : Nat} (h1 : IsSl a1 B.ns 0) (h2 : IsSl a2 B.nc 1) (hB : bk5 B) (hw3 : w < 3) : ∀ (rem k : Nat) (t : Tru) (fr : Int) (a3 a4 : AV), IsSl a3 k 2 → IsSl a4 k 3 → k + (rem + 1) = B.ns → t.w = (w : Int) → 0 ≤ fr → fr ≤ 200 * (k : Int) →
    CanS 0 Try.prog 89 4 [bk B a1 a2, .agg [.int .i64 (w : Int), a3, a4], .int .i64 fr] [(0, some (oSt B)), (1, some (oCk B)), (2, some (.ro (fE t.r k))), (3, some (.ro (fE t.c k)))] 4 fun v H1 c1 => v = grI 7 (gL B (rem + 1) k t fr).length ∧ c1 ≤ 100000 ∧ ∀ x o, lookM (goA B (gL B (rem + 1) k t fr)) x = some o → H1.get x = some o
  | 0, k, t, fr, a3, a4, h3, h4, hrem, htw, hf1, hf2 => goes_step h1 h2 h3 h4 hB hrem hw3 htw ⟨hf1, hf2⟩ fun ro mi fr' mm hm m0 m1 my mz _ _ => GoRes.leaf (t := tru2 t k ro mi) h1 h2 hrem (by rw [tru2_w']; exact htw) hm m0 my mz
  | rem + 1, k, t, fr, a3, a4, h3, h4, hrem, htw, hf1, hf2 => goes_step h1 h2 h3 h4 hB hrem hw3 htw ⟨hf1, hf2⟩ fun ro mi fr' mm hm m0 m1 my mz b1 b2 =>
    have hns := hB.1.1
    have hlen : (gL B (rem + 1) (k + 1) (tru2 t k ro mi) fr').length ≤ 20000 := by
      refine Nat.le_trans (gL_len hB (rem + 1) (k + 1) _ _ (by omega)) ?_
      obtain rfl | rfl : rem = 0 ∨ rem = 1 := by omega
      all_goals decide
    GoRes.node (t := tru2 t k ro mi) h1 h2 hlen (goes_can h1 h2 hB hw3 rem (k + 1) (tru2 t k ro mi) fr' _ _ (IsSl.gs 2 (k + 1)) (IsSl.gs 3 (k + 1)) (by omega) (by rw [tru2_w']; exact htw) b1 b2) hm m0 m1 my mz
end Go.Proofs.Ytlnmcadbmpiopaa

/- The reference of layer 6: its list of truths holds all truths. -/
namespace Go.Proofs.Ytlnmcadbmpiopaa
open Go Go.Ev

/-- When the coach may depart to a stage. -/
def frOk (B : CBook) (t0 : Tru) (i : Nat) (fr : Int) : Prop := (i = 0 ∧ fr = 0) ∨ (0 < i ∧ t0.c (i - 1) + B.sl (i - 1) ≤ fr ∧ fr ≤ t0.c (i - 1) + B.sh (i - 1))
def restOk (B : CBook) (t t0 : Tru) (i : Nat) : Prop := t.w = t0.w ∧ (∀ j, j < i → t.r j = t0.r j ∧ t.c j = t0.c j) ∧ (∀ j, i ≤ j → j < B.ns → StT B t j) ∧ ∀ j, B.ns ≤ j → j < 3 → t.r j = 0 ∧ t.c j = 0
theorem gL_to {B : CBook} (hok : stsOk B) {t : Tru} : ∀ (k i : Nat) (t0 : Tru) (fr : Int), i + k = B.ns → frOk B t0 i fr → (∀ j, i ≤ j → j < 3 → t0.r j = 0 ∧ t0.c j = 0) → t ∈ gL B k i t0 fr → restOk B t t0 i
  | 0, i, t0, fr, e, hf, hz, h => by
    rw [gL, List.mem_singleton] at h
    subst h
    exact ⟨rfl, fun j _ => ⟨rfl, rfl⟩, fun j h1 h2 => by omega, fun j h1 h2 => hz j (by omega) h2⟩
  | k + 1, i, t0, fr, e, hf, hz, h => by
    have hn := hok.1
    have hi : i < B.ns := by omega
    have hi3 : i < 3 := by omega
    rw [gL] at h
    simp only [List.mem_flatMap, ints_iff] at h
    obtain ⟨d, ⟨d1, d2⟩, r, ⟨r1, r2⟩, h⟩ := h
    split at h
    · rename_i hw
      simp only [List.mem_flatMap, ints_iff] at h
      obtain ⟨s, ⟨s1, s2⟩, h⟩ := h
      generalize hmi : fr + d + r + B.cost t0.w.toNat = mi at h hw
      obtain ⟨g1, g2, g3, g4⟩ := gL_to hok k (i + 1) (tru2 t0 i r mi) (mi + s) (by omega) (.inr ⟨by omega, by rw [Nat.add_sub_cancel, tru2_cj hi3 hi3, if_pos rfl]; omega, by rw [Nat.add_sub_cancel, tru2_cj hi3 hi3, if_pos rfl]; omega⟩) (fun j h5 h6 => by
        rw [tru2_rj hi3 h6, tru2_cj hi3 h6, if_neg (by omega), if_neg (by omega)]; exact hz j (by omega) h6) h
      rw [tru2_w hi3] at g1
      have gi := g2 i (by omega)
      rw [tru2_rj hi3 hi3, tru2_cj hi3 hi3, if_pos rfl, if_pos rfl] at gi
      have gl : ∀ j, j < i → t.r j = t0.r j ∧ t.c j = t0.c j := fun j hj => by
        have := g2 j (by omega)
        rw [tru2_rj hi3 (by omega), tru2_cj hi3 (by omega), if_neg (by omega), if_neg (by omega)] at this
        exact this
      refine ⟨g1, gl, fun j hj hjn => ?_, g4⟩
      by_cases hji : j = i
      · subst hji
        unfold StT dlo dhi
        rw [gi.1, gi.2, g1]
        refine ⟨⟨r1, r2⟩, ?_, hw⟩
        rcases hf with ⟨rfl, rfl⟩ | ⟨h0, f1, f2⟩
        · rw [if_pos rfl, if_pos rfl]; omega
        · rw [if_neg (by omega), if_neg (by omega), (gl (j - 1) (by omega)).2]; omega
      · exact g3 j (by omega) hjn
    · cases h
theorem gL_of {B : CBook} (hok : stsOk B) {t : Tru} : ∀ (k i : Nat) (t0 : Tru), i + k = B.ns → (∀ j, i ≤ j → j < 3 → t0.r j = 0 ∧ t0.c j = 0) → restOk B t t0 i → ∃ fr, frOk B t0 i fr ∧ t ∈ gL B k i t0 fr
  | 0, i, t0, e, hz, ⟨h1, h2, _, h4⟩ => by
    have hn := hok.1
    have hst := hok.2 (i - 1) (by omega)
    unfold stOk at hst
    refine ⟨t0.c (i - 1) + B.sl (i - 1), .inr ⟨by omega, by omega, by omega⟩, ?_⟩
    rw [gL, List.mem_singleton]
    refine Tru.ext3 h1 fun j hj => ?_
    by_cases hji : j < i
    · exact h2 j hji
    · rw [(h4 j (by omega) hj).1, (h4 j (by omega) hj).2, (hz j (by omega) hj).1, (hz j (by omega) hj).2]; exact ⟨rfl, rfl⟩
  | k + 1, i, t0, e, hz, ⟨h1, h2, h3, h4⟩ => by
    have hn := hok.1
    have hi : i < B.ns := by omega
    have hi3 : i < 3 := by omega
    have hst := hok.2 i hi
    unfold stOk at hst
    have gi := h3 i (Nat.le_refl _) hi
    unfold StT dlo dhi at gi
    obtain ⟨⟨r1, r2⟩, gi2, gw⟩ := gi
    have fr : ∃ fr d, frOk B t0 i fr ∧ B.dl i ≤ d ∧ d ≤ B.dh i ∧ fr + d + t.r i + B.cost t.w.toNat = t.c i := by
      by_cases h0 : i = 0
      · subst h0
        rw [if_pos rfl, if_pos rfl] at gi2
        exact ⟨0, t.c 0 - t.r 0 - B.cost t.w.toNat, .inl ⟨rfl, rfl⟩, by omega, by omega, by omega⟩
      · rw [if_neg h0, if_neg h0, (h2 (i - 1) (by omega)).2] at gi2
        have hsp := hok.2 (i - 1) (by omega)
        unfold stOk at hsp
        by_cases hm : t.c i - t.r i - B.cost t.w.toNat - B.dl i ≤ t0.c (i - 1) + B.sh (i - 1)
        · exact ⟨t.c i - t.r i - B.cost t.w.toNat - B.dl i, B.dl i, .inr ⟨by omega, by omega, by omega⟩, by omega, by omega, by omega⟩
        · exact ⟨t0.c (i - 1) + B.sh (i - 1), t.c i - t.r i - B.cost t.w.toNat - (t0.c (i - 1) + B.sh (i - 1)), .inr ⟨by omega, by omega, by omega⟩, by omega, by omega, by omega⟩
    obtain ⟨fr, d, hf, d1, d2, hsum⟩ := fr
    rw [h1] at hsum
    obtain ⟨f2, hf2, hmem⟩ := gL_of hok (t := t) k (i + 1) (tru2 t0 i (t.r i) (t.c i)) (by omega) (fun j h5 h6 => by
      rw [tru2_rj hi3 h6, tru2_cj hi3 h6, if_neg (by omega), if_neg (by omega)]; exact hz j (by omega) h6) ⟨by rw [tru2_w hi3]; exact h1, fun j hj => by
        rw [tru2_rj hi3 (by omega), tru2_cj hi3 (by omega)]
        by_cases hji : j = i
        · subst hji; rw [if_pos rfl, if_pos rfl]; exact ⟨rfl, rfl⟩
        · rw [if_neg hji, if_neg hji]; exact h2 j (by omega), fun j hj hjn => h3 j (by omega) hjn, h4⟩
    refine ⟨fr, hf, ?_⟩
    rcases hf2 with ⟨h0, _⟩ | ⟨_, f3, f4⟩
    · omega
    rw [Nat.add_sub_cancel, tru2_cj hi3 hi3, if_pos rfl] at f3 f4
    rw [gL]
    simp only [List.mem_flatMap, ints_iff]
    refine ⟨d, ⟨d1, d2⟩, t.r i, ⟨r1, r2⟩, ?_⟩
    rw [hsum, if_pos gw]
    simp only [List.mem_flatMap, ints_iff]
    refine ⟨f2 - t.c i, ⟨by omega, by omega⟩, ?_⟩
    rw [show t.c i + (f2 - t.c i) = f2 by omega]
    exact hmem
/-- All truths, in the reference's order. -/
noncomputable def gw1 (B : CBook) (k : Nat) : List Tru := bif dB (hasP B.wea k) then gL B B.ns 0 (tru0 k) 0 else []
noncomputable def gWk (B : CBook) : Nat → List Tru
  | 0 => []
  | k + 1 => gWk B k ++ gw1 B k
noncomputable def gW (B : CBook) : List Tru := gWk B 3
theorem mem_gw1 {B : CBook} (hok : stsOk B) {t : Tru} {k : Nat} : t ∈ gw1 B k ↔ hasP B.wea k ∧ t.w = k ∧ (∀ j, j < B.ns → StT B t j) ∧ ∀ j, B.ns ≤ j → j < 3 → t.r j = 0 ∧ t.c j = 0 := by
  have hz : ∀ j, 0 ≤ j → j < 3 → (tru0 k).r j = 0 ∧ (tru0 k).c j = 0 := fun j _ hj => by
    obtain rfl | rfl | rfl : j = 0 ∨ j = 1 ∨ j = 2 := by omega
    all_goals exact ⟨rfl, rfl⟩
  unfold gw1
  by_cases h : hasP B.wea k
  · rw [dB_tt h]
    show t ∈ gL B B.ns 0 (tru0 k) 0 ↔ _
    constructor
    · intro hm
      obtain ⟨a, _, b, d⟩ := gL_to hok B.ns 0 (tru0 k) 0 (by omega) (.inl ⟨rfl, rfl⟩) hz hm
      exact ⟨h, a, fun j hj => b j (Nat.zero_le _) hj, d⟩
    · rintro ⟨_, a, b, d⟩
      obtain ⟨fr, hf, hm⟩ := gL_of hok (t := t) B.ns 0 (tru0 k) (by omega) hz ⟨a, fun j hj => by omega, fun j _ hj => b j hj, d⟩
      rcases hf with ⟨_, rfl⟩ | ⟨h0, _⟩
      · exact hm
      · omega
  · rw [dB_ff h]
    exact ⟨fun hh => (by cases hh), fun hh => absurd hh.1 h⟩
theorem mem_gW {B : CBook} (hok : stsOk B) {t : Tru} : t ∈ gW B ↔ IsT B t := by
  show t ∈ (([] ++ gw1 B 0) ++ gw1 B 1) ++ gw1 B 2 ↔ _
  rw [List.nil_append, List.mem_append, List.mem_append, mem_gw1 hok, mem_gw1 hok, mem_gw1 hok]
  constructor
  · rintro ((⟨a, b, d, e⟩ | ⟨a, b, d, e⟩) | ⟨a, b, d, e⟩)
    all_goals exact ⟨⟨by omega, by omega, by rw [b]; exact a⟩, d, e⟩
  · rintro ⟨⟨a, b, d⟩, e, f⟩
    obtain h | h | h : t.w = 0 ∨ t.w = 1 ∨ t.w = 2 := by omega
    · rw [h] at d; exact .inl (.inl ⟨d, h, e, f⟩)
    · rw [h] at d; exact .inl (.inr ⟨d, h, e, f⟩)
    · rw [h] at d; exact .inr ⟨d, h, e, f⟩
theorem gw1_len {B : CBook} (hB : bk5 B) (k : Nat) : (gw1 B k).length ≤ 19683 := by
  unfold gw1
  cases dB (hasP B.wea k) with
  | false => simp
  | true =>
    have hn := hB.1.1
    refine Nat.le_trans (gL_len hB B.ns 0 (tru0 k) 0 (by omega)) ?_
    obtain h | h | h : B.ns = 1 ∨ B.ns = 2 ∨ B.ns = 3 := by omega
    all_goals (rw [h]; decide)
theorem gWk_len5 {B : CBook} (hB : bk5 B) : ∀ k, (gWk B k).length ≤ k * 19683
  | 0 => by simp [gWk]
  | k + 1 => by
    rw [gWk, List.length_append, Nat.succ_mul]
    have := gWk_len5 hB k
    have := gw1_len hB k
    omega
theorem gWk_len {B : CBook} (hB : bkOk B) : ∀ k, (gWk B k).length ≤ k * 19683 := gWk_len5 hB.five
end Go.Proofs.Ytlnmcadbmpiopaa

/- The reference of layer 6: truths; asked. -/
namespace Go.Proofs.Ytlnmcadbmpiopaa
open Go Go.Ev

set_option maxHeartbeats 4000000 in
/-- A list of truths under the usual names, behind other objects of low names. -/
theorem fam_wk {cb fl nt c x A A' n tt C : Nat} {P : List (Nat × Option AObj)} {l l2 : List (Nat × AV)} {m : List (Nat × Option AObj)} {L L' : List Tru} (hcb : cb ≤ 7) (hfl : fl ≤ cb)
    (hC : 100 + 2 * (L.length + L'.length) ≤ C) (hA : 100 + 2 * L.length ≤ A) (hA' : 100 + 2 * L.length ≤ A') (hAA : A' = A + 1 ∨ (L'.length ≤ 1 ∧ A ≠ A')) (hx : x = 7 ∨ (A + 2 * L'.length ≤ x ∧ A' + 2 * L'.length ≤ x ∧ 100 + 2 * L.length ≤ x))
    (hl : allL (fun t v => Go.Ev.look l t = some (v.ren (gsg L.length L'.length A A' x c))) l2) (t9 : Go.Ev.look l tt = some (grI x (L ++ L').length))
    (hP : allM (fun y o => lookM m y = some o ∧ ∀ σ : Nat → Nat, (∀ z, z < 7 → σ z = z) → o.ren σ = o) P) (hPk : ∀ e ∈ P, e.1 < 7)
    (gO : L ++ L' ≠ [] → lookM m x = some (.grown (tcsF fA gA n 0 L ++ tcsF (fun j => A + 2 * j) (fun j => A' + 2 * j) n 0 L') 3))
    (gold : ∀ j t, L[j]? = some t → lookM m (fA j) = some (.grown (fE t.r n) 1) ∧ lookM m (gA j) = some (.grown (fE t.c n) 1))
    (gnew : ∀ j t, L'[j]? = some t → lookM m (A + 2 * j) = some (.grown (fE t.r n) 1) ∧ lookM m (A' + 2 * j) = some (.grown (fE t.c n) 1)) :
    Wk 0 fl cb (stL nt [] l m c) (stL nt [] ((tt, grI 7 (L ++ L').length) :: l2) (P ++ (ouM fA gA n 7 (L ++ L') ++ tmsF fA gA n 0 (L ++ L'))) C) := by
  obtain ⟨σ, hσ⟩ : ∃ σ, gsg L.length L'.length A A' x c = σ := ⟨_, rfl⟩
  rw [hσ] at hl
  have s7 : σ 7 = x := by rw [← hσ]; rfl
  have sl : ∀ y, y < 7 → σ y = y := fun y hy => by rw [← hσ]; unfold gsg; rw [if_neg (by omega), if_pos (by omega)]
  have sold : ∀ j, j < L.length → σ (fA j) = fA j ∧ σ (gA j) = gA j := fun j hj => by
    rw [← hσ]
    unfold gsg fA gA
    refine ⟨?_, ?_⟩
    · rw [if_neg (by omega), if_neg (by omega), if_pos (by omega)]
    · rw [if_neg (by omega), if_neg (by omega), if_pos (by omega)]
  have snew : ∀ j, j < L'.length → σ (fA (L.length + j)) = A + 2 * j ∧ σ (gA (L.length + j)) = A' + 2 * j := fun j hj => by
    rw [← hσ]
    unfold gsg fA gA
    refine ⟨?_, ?_⟩
    · rw [if_neg (by omega), if_neg (by omega), if_neg (by omega), if_pos (by omega), if_pos (by omega)]; omega
    · rw [if_neg (by omega), if_neg (by omega), if_neg (by omega), if_pos (by omega), if_neg (by omega)]; omega
  have hP2 : ∀ {P : List (Nat × Option AObj)}, allM (fun y o => lookM m y = some o ∧ ∀ σ : Nat → Nat, (∀ z, z < 7 → σ z = z) → o.ren σ = o) P → (∀ e ∈ P, e.1 < 7) → allM (fun y o => lookM m (σ y) = some (o.ren σ)) P := fun {P} => by
    induction P with
    | nil => exact fun _ _ => trivial
    | cons e P ih =>
      obtain ⟨y, o⟩ := e
      intro h hk
      cases o with
      | none => exact ih h fun e he => hk e (List.mem_cons_of_mem _ he)
      | some o =>
        have hy : y < 7 := hk (y, some o) List.mem_cons_self
        refine ⟨?_, ih h.2 fun e he => hk e (List.mem_cons_of_mem _ he)⟩
        show lookM m (σ y) = _
        rw [sl y hy, h.1.2 σ sl]
        exact h.1.1
  have hm : allM (fun y o => lookM m (σ y) = some (o.ren σ)) (P ++ (ouM fA gA n 7 (L ++ L') ++ tmsF fA gA n 0 (L ++ L'))) := by
    refine allM_app (hP2 hP hPk) (allM_app ?_ ?_)
    · by_cases hLL : L ++ L' = []
      · rw [hLL]; trivial
      · have e : ouM fA gA n 7 (L ++ L') = [(7, some (.grown (tcsF fA gA n 0 (L ++ L')) 3))] := by
          cases hq : L ++ L' with
          | nil => exact absurd hq hLL
          | cons a q => rfl
        rw [e]
        refine ⟨?_, trivial⟩
        show lookM m (σ 7) = some (AObj.grown (AV.rens σ (tcsF fA gA n 0 (L ++ L'))) 3)
        rw [s7, gO hLL, tcsF_ren, tcsF_app]
        refine congrArg some (congrArg (fun cs => AObj.grown cs 3) (congr (congrArg _ ?_) ?_))
        · exact tcsF_congr L 0 0 fun j hj => by
            rw [Nat.zero_add]
            exact ⟨(sold j hj).1.symm, (sold j hj).2.symm⟩
        · exact tcsF_congr L' 0 (0 + L.length) fun j hj => by
            rw [Nat.zero_add, Nat.zero_add]
            exact ⟨(snew j hj).1.symm, (snew j hj).2.symm⟩
    · refine allM_tms _ _ fun j t ht => ?_
      show lookM m (σ (fA (0 + j))) = some (AObj.ren σ _) ∧ lookM m (σ (gA (0 + j))) = some (AObj.ren σ _)
      rw [Nat.zero_add, ren_grown, ren_grown]
      by_cases hj : j < L.length
      · rw [List.getElem?_append_left hj] at ht
        rw [(sold j hj).1, (sold j hj).2]
        exact gold j t ht
      · rw [List.getElem?_append_right (by omega)] at ht
        have hj2 : j - L.length < L'.length := Classical.byContradiction fun q => by rw [List.getElem?_eq_none (by omega)] at ht; cases ht
        have := snew (j - L.length) hj2
        rw [show L.length + (j - L.length) = j by omega] at this
        rw [this.1, this.2]
        exact gnew _ t ht
  have t9' : Go.Ev.look l tt = some ((grI 7 (L ++ L').length).ren σ) := by rw [grI_ren σ s7]; exact t9
  have keys : ∀ u, u ∈ (P ++ (ouM fA gA n 7 (L ++ L') ++ tmsF fA gA n 0 (L ++ L')) : List (Nat × Option AObj)).map (fun e => e.1) → u < 7 ∨ u = 7 ∨ (100 ≤ u ∧ u < 100 + 2 * (L.length + L'.length)) := fun u hu => by
    obtain ⟨q, hq, rfl⟩ := List.mem_map.1 hu
    rcases List.mem_append.1 hq with hq | hq
    · exact .inl (hPk q hq)
    rcases List.mem_append.1 hq with hq | hq
    · have : q.1 = 7 := by
        cases hq2 : L ++ L' with
        | nil => rw [hq2] at hq; cases hq
        | cons a s => rw [hq2] at hq; simp [ouM] at hq; rw [hq]
      exact .inr (.inl this)
    · obtain ⟨j, hj, h⟩ := keys_tms _ _ q hq
      rw [List.length_append] at hj
      unfold fA gA at h
      omega
  refine Wk.by σ (by omega) (Nat.zero_le _) hfl ⟨t9', hl⟩ hm rfl (fun u hu v hv huv ee => ?_) (fun u hu => ?_) (fun u hu => ?_) (fun u hu => ?_)
  · have q1 := keys u hu
    have q2 := keys v hv
    rw [← hσ] at ee
    unfold gsg at ee
    (repeat' split at ee) <;> omega
  · rw [← hσ]; unfold gsg; (repeat' split) <;> omega
  · exact sl u (by omega)
  · rw [← hσ]; unfold gsg; (repeat' split) <;> omega
theorem goes_at0 {B : CBook} {a1 a2 : AV} {w : Nat} {fr : Int} {t : Tru} {L : List Tru} (h1 : IsSl a1 B.ns 0) (h2 : IsSl a2 B.nc 1) (hL : L.length ≤ 20000)
    (hcan : CanS 0 Try.prog 89 4 [bk B a1 a2, .agg [.int .i64 (w : Int), .nils, .nils], .int .i64 fr] [(0, some (oSt B)), (1, some (oCk B)), (2, some (.ro (fE t.r 0))), (3, some (.ro (fE t.c 0)))] 4 fun v H1 c1 => v = grI 7 L.length ∧ c1 ≤ 100000 ∧ ∀ x o, lookM (goA B L) x = some o → H1.get x = some o)
    {m : List (Nat × Option AObj)} {c : Nat} (hm : ∀ x o, lookM m x = some o → x < c) (m0 : lookM m 0 = some (oSt B)) (m1 : lookM m 1 = some (oCk B)) (fl : Nat) :
    OkAt 0 Try.prog fl 89 [bk B a1 a2, .agg [.int .i64 (w : Int), .nils, .nils], .int .i64 fr] (ofM m) c (grI c L.length) (ofM (goM B c L ++ m)) (c + 100000) := by
  have := CanS.freshU tGo (H' := ofM (goM B c L ++ m)) (k := 100000) (v0 := grI 0 L.length) hcan (fun j hj => by unfold tGo; split <;> omega) tGo_inj
    (Entry.win (H := ofM m) (c := c) (W := [(0, 0, none), (1, 0, none), (0, 0, none), (0, 0, none)]) (CS := [flat (stE B) (List.range B.ns), flat (ckE B) (List.range B.nc), fE t.r 0, fE t.c 0]) rfl
      ⟨⟨_, getM m0, .inr ⟨_, rfl, cut_all rfl⟩⟩, pls_flat _ _, ⟨_, getM m1, .inr ⟨_, rfl, cut_all rfl⟩⟩, pls_flat _ _, ⟨_, getM m0, .inl rfl⟩, fE_pls _ _, ⟨_, getM m0, .inl rfl⟩, fE_pls _ _, trivial⟩
      (args := [bk B a1 a2, .agg [.int .i64 (w : Int), .nils, .nils], .int .i64 fr]) (args0 := [bk B a1 a2, .agg [.int .i64 (w : Int), .nils, .nils], .int .i64 fr])
      ⟨bk_arg h1 h2 rfl rfl, ArgW.agg (show ArgsW _ [.int .i64 (w : Int), .nils, .nils] [.int .i64 (w : Int), .nils, .nils] from ⟨.pl (fun _ => rfl), .pl Pl.nils, .pl Pl.nils, trivial⟩), .pl (fun _ => rfl), trivial⟩) (fun v1 H1 c1 ⟨g1, g2, g3⟩ => ?_) fl
  · rw [grI_ren (fun y => c + y) (y := c) rfl] at this
    exact this
  · refine ⟨by rw [g1, grI_ren (fun y => 4 + tGo y) (y := 7) rfl], by omega, fun x o hx => ?_⟩
    rw [ofM_get] at hx
    by_cases hk : ∀ e ∈ goM B c L, e.1 ≠ x
    · rw [look_skip hk] at hx
      exact .inl ⟨hm x o hx, getM hx⟩
    · obtain ⟨e, he⟩ := Classical.not_forall.1 hk
      obtain ⟨he1, he2⟩ := Classical.not_imp.1 he
      have hex : e.1 = x := Classical.byContradiction he2
      refine .inr ?_
      have h5 : ∃ o2, lookM (goM B c L) x = some o2 := by
        rcases List.mem_append.1 he1 with h | h
        · have hL : L ≠ [] := fun q => by rw [q] at h; cases h
          have := ouM_keys e h
          rw [hex] at this
          subst this
          exact ⟨_, goM_list hL⟩
        · obtain ⟨j, hj, h2⟩ := keys_tms _ _ e h
          rw [hex, Nat.zero_add] at h2
          have := goM_tr (B := B) (c := c) (List.getElem?_eq_getElem hj)
          rcases h2 with rfl | rfl
          · exact ⟨_, this.1⟩
          · exact ⟨_, this.2⟩
      obtain ⟨o2, h5⟩ := h5
      have h6 := look_app (gs := m) h5
      rw [hx] at h6
      cases h6
      have eA : ∀ j, j < L.length → 4 + tGo (1 + 2 * j) = fA j ∧ 4 + tGo (2 + 2 * j) = gA j := fun j hj => by
        unfold tGo fA gA
        rw [if_neg (by omega), if_neg (by omega)]; omega
      have eC : ∀ j, c + (1 + 2 * j) = fC c j ∧ c + (2 + 2 * j) = gC c j := fun j => by unfold fC gC; omega
      rcases goM_look h5 with ⟨rfl, hne, rfl⟩ | ⟨j, u, hj, h | h⟩
      · refine ⟨0, .grown (tcsF (fun j => 1 + 2 * j) (fun j => 2 + 2 * j) B.ns 0 L) 3, by omega, ?_, ?_⟩
        · show H1.get 7 = some (AObj.grown (AV.rens _ (tcsF _ _ B.ns 0 L)) 3)
          rw [tcsF_ren, g3 7 _ (goA_list hne)]
          refine congrArg some (congrArg (fun cs => AObj.grown cs 3) ?_)
          exact tcsF_congr L 0 0 fun j hj => by
            rw [Nat.zero_add]
            exact ⟨(eA j hj).1.symm, (eA j hj).2.symm⟩
        · show _ = AObj.grown (AV.rens _ (tcsF _ _ B.ns 0 L)) 3
          rw [tcsF_ren]
          refine congrArg (fun cs => AObj.grown cs 3) ?_
          exact tcsF_congr L 0 0 fun j hj => by
            rw [Nat.zero_add]
            exact ⟨(eC j).1.symm, (eC j).2.symm⟩
      · obtain ⟨rfl, rfl⟩ := h
        have hjl : j < L.length := Classical.byContradiction fun q => by rw [List.getElem?_eq_none (by omega)] at hj; cases hj
        refine ⟨1 + 2 * j, .grown (fE u.r B.ns) 1, (eC j).1.symm, ?_, (ren_grown _ _ _ _).symm⟩
        rw [ren_grown, (eA j hjl).1]
        exact g3 _ _ (goA_tr hj).1
      · obtain ⟨rfl, rfl⟩ := h
        have hjl : j < L.length := Classical.byContradiction fun q => by rw [List.getElem?_eq_none (by omega)] at hj; cases hj
        refine ⟨2 + 2 * j, .grown (fE u.c B.ns) 1, (eC j).2.symm, ?_, (ren_grown _ _ _ _).symm⟩
        rw [ren_grown, (eA j hjl).2]
        exact g3 _ _ (goA_tr hj).2
end Go.Proofs.Ytlnmcadbmpiopaa

/- The reference of layer 6: truths. -/
namespace Go.Proofs.Ytlnmcadbmpiopaa
open Go Go.Ev

theorem p2_wk {B : CBook} {a1 a2 : AV} (h1 : IsSl a1 B.ns 0) (h2 : IsSl a2 B.nc 1) {m : List (Nat × Option AObj)} (g2 : lookM m 2 = some (.cells (bk B a1 a2).cells)) (g0 : lookM m 0 = some (oSt B)) (g1 : lookM m 1 = some (oCk B)) :
    allM (fun y o => lookM m y = some o ∧ ∀ σ : Nat → Nat, (∀ z, z < 7 → σ z = z) → o.ren σ = o) [(2, some (.cells (bk B a1 a2).cells)), (0, some (oSt B)), (1, some (oCk B))] :=
  ⟨⟨g2, fun σ h => bkc_ren h1 h2 (h 0 (by decide)) (h 1 (by decide))⟩, ⟨g0, fun σ h => ren_ro _ _ _⟩, ⟨g1, fun σ h => ren_ro _ _ _⟩, trivial⟩
theorem p2_keys {B : CBook} {a1 a2 : AV} : ∀ e ∈ ([(2, some (.cells (bk B a1 a2).cells)), (0, some (oSt B)), (1, some (oCk B))] : List (Nat × Option AObj)), e.1 < 7 := fun e he => by
  simp at he
  rcases he with rfl | rfl | rfl <;> simp
theorem p2_low {B : CBook} {a1 a2 : AV} {L : List Tru} (hL : L.length ≤ 60000) : ∀ x o, lookM ([(2, some (.cells (bk B a1 a2).cells)), (0, some (oSt B)), (1, some (oCk B))] ++ (ouM fA gA B.ns 7 L ++ tmsF fA gA B.ns 0 L)) x = some o → x < 200000 := fun x o h => by
  obtain ⟨e, he, hx⟩ := List.mem_map.1 (lookM_mem h)
  rcases List.mem_append.1 he with h1 | h1
  · have := p2_keys e h1
    omega
  · have := goA_keys (B := B) (L := L) e h1
    omega
theorem goes_root {B : CBook} {a1 a2 : AV} {w : Nat} (h1 : IsSl a1 B.ns 0) (h2 : IsSl a2 B.nc 1) (hB : bk5 B) (hw3 : w < 3) {m : List (Nat × Option AObj)} {c : Nat} (hm : ∀ x o, lookM m x = some o → x < c) (m0 : lookM m 0 = some (oSt B)) (m1 : lookM m 1 = some (oCk B)) (fl : Nat) :
    OkAt 0 Try.prog fl 89 [bk B a1 a2, .agg [.int .i64 (w : Int), .nils, .nils], .int .i64 0] (ofM m) c (grI c (gL B B.ns 0 (tru0 w) 0).length) (ofM (goM B c (gL B B.ns 0 (tru0 w) 0) ++ m)) (c + 100000) := by
  have hns := hB.1.1
  obtain ⟨n, hn⟩ : ∃ n, B.ns = n + 1 := ⟨B.ns - 1, by omega⟩
  have hlen : (gL B B.ns 0 (tru0 w) 0).length ≤ 20000 := by
    refine Nat.le_trans (gL_len hB B.ns 0 (tru0 w) 0 (by omega)) ?_
    obtain h | h | h : B.ns = 1 ∨ B.ns = 2 ∨ B.ns = 3 := by omega
    all_goals (rw [h]; decide)
  refine goes_at0 (t := tru0 w) h1 h2 hlen ?_ hm m0 m1 fl
  have := goes_can h1 h2 hB hw3 n 0 (tru0 w) 0 .nils .nils (IsSl.nils 2) (IsSl.nils 3) (by omega) rfl (Int.le_refl _) (by simp)
  rw [← hn] at this
  exact this
set_option maxRecDepth 100000 in
set_option maxHeartbeats 4000000 in
theorem rtruths_can5 (B : CBook) (a1 a2 : AV) (h1 : IsSl a1 B.ns 0) (h2 : IsSl a2 B.nc 1) (hB : bk5 B) : CanS 0 Try.prog 51 2 [bk B a1 a2] [(0, some (oSt B)), (1, some (oCk B))] 2 fun v H1 c1 => v = grI 7 (gW B).length ∧ c1 ≤ 200000 ∧ ∀ x o, lookM (goA B (gW B)) x = some o → H1.get x = some o := by
  refine CanS.mk Try.func51 rfl rfl rfl ?_
  repeat' (first | refine RT.nil ?_ | refine sq_n ?_ | refine Tr.seq ?_ | refine Tr.region ?_ | refine Tr.block ?_ | (refine RT.goK rfl rfl rfl rfl ?_; apply Nx.of; (first | exact S.assign | exact S.box)))
  refine Tr.loop (fun q : Nat => let L := gWk B q; stL Try.f51.ntmps [] ((3, grI 7 L.length) :: [(1, .ptr 2 0), (4, .int .i64 (q : Int))]) ([(2, some (.cells (bk B a1 a2).cells)), (0, some (oSt B)), (1, some (oCk B))] ++ (ouM fA gA B.ns 7 L ++ tmsF fA gA B.ns 0 L)) 200000) (fun q => q ≤ 3) (fun q => 3 - q) 0 (Nat.zero_le _) ?_ (fun q hq => ?_)
  · exact fam_wk (tt := 3) (L := []) (L' := []) (A := 100000) (A' := 100001) (x := 7) (n := B.ns) (P := [(2, some (.cells (bk B a1 a2).cells)), (0, some (oSt B)), (1, some (oCk B))]) (by decide) (by decide) (by decide) (by decide) (by decide) (.inl rfl) (.inl rfl) ⟨rfl, rfl, trivial⟩ rfl (p2_wk h1 h2 rfl rfl rfl) p2_keys (fun h => absurd rfl h) (fun j u hu => by simp at hu) (fun j u hu => by simp at hu)
  have hlen := gWk_len5 hB q
  obtain ⟨L, hL⟩ : ∃ l, gWk B q = l := ⟨_, rfl⟩
  rw [hL] at hlen
  have hl6 : L.length ≤ 60000 := by omega
  show Tr _ _ _ _ _ _ (stL _ _ ((3, grI 7 (gWk B q).length) :: [(1, .ptr 2 0), (4, .int .i64 (q : Int))]) ([(2, some (.cells (bk B a1 a2).cells)), (0, some (oSt B)), (1, some (oCk B))] ++ (ouM fA gA B.ns 7 (gWk B q) ++ tmsF fA gA B.ns 0 (gWk B q))) _) _
  rw [hL]
  by_cases hlt : q < 3
  · have hlt' : (q : Int) < 3 := by omega
    by_cases hw : hasP B.wea q
    · have hI : AV.bool (dB (hasP B.wea q)) = .bool true := by rw [dB_tt hw]
      obtain ⟨L', hL'⟩ : ∃ l, gL B B.ns 0 (tru0 q) 0 = l := ⟨_, rfl⟩
      have hgo : ∀ fl, OkAt 0 Try.prog fl 89 [bk B a1 a2, .agg [.int .i64 (q : Int), .nils, .nils], .int .i64 0] (ofM ([(2, some (.cells (bk B a1 a2).cells)), (0, some (oSt B)), (1, some (oCk B))] ++ (ouM fA gA B.ns 7 L ++ tmsF fA gA B.ns 0 L))) 200000 (grI 200000 L'.length) (ofM (goM B 200000 L' ++ ([(2, some (.cells (bk B a1 a2).cells)), (0, some (oSt B)), (1, some (oCk B))] ++ (ouM fA gA B.ns 7 L ++ tmsF fA gA B.ns 0 L)))) 300000 := fun fl => by
        have := goes_root h1 h2 hB hlt (p2_low (B := B) (a1 := a1) (a2 := a2) hl6) rfl rfl fl
        rw [hL'] at this
        exact this
      have e1 : gw1 B q = L' := by unfold gw1; rw [dB_tt hw]; exact hL'
      have hlL' : L'.length ≤ 19683 := e1 ▸ gw1_len hB q
      have e : gWk B (q + 1) = L ++ L' := by rw [gWk, hL, e1]
      have hq2 : L.length ≤ 2 * 19683 := Nat.le_trans hlen (Nat.mul_le_mul_right _ (by omega))
      have hold : ∀ j u, L[j]? = some u → lookM ([(2, some (.cells (bk B a1 a2).cells)), (0, some (oSt B)), (1, some (oCk B))] ++ (ouM fA gA B.ns 7 L ++ tmsF fA gA B.ns 0 L)) (fA j) = some (.grown (fE u.r B.ns) 1) ∧ lookM ([(2, some (.cells (bk B a1 a2).cells)), (0, some (oSt B)), (1, some (oCk B))] ++ (ouM fA gA B.ns 7 L ++ tmsF fA gA B.ns 0 L)) (gA j) = some (.grown (fE u.c B.ns) 1) := fun j u hu => by
        have hj : j < L.length := Classical.byContradiction fun q => by rw [List.getElem?_eq_none (by omega)] at hu; cases hu
        have := goA_tr (B := B) hu
        have sk : ∀ x, 100 ≤ x → lookM ([(2, some (.cells (bk B a1 a2).cells)), (0, some (oSt B)), (1, some (oCk B))] ++ (ouM fA gA B.ns 7 L ++ tmsF fA gA B.ns 0 L)) x = lookM (goA B L) x := fun x h1 => look_skip fun e he => by have := p2_keys e he; omega
        rw [sk (fA j) (by unfold fA; omega), sk (gA j) (by unfold gA; omega)]
        exact this
      have hkeep : ∀ {x : Nat} {o : AObj}, x < 200000 → lookM ([(2, some (.cells (bk B a1 a2).cells)), (0, some (oSt B)), (1, some (oCk B))] ++ (ouM fA gA B.ns 7 L ++ tmsF fA gA B.ns 0 L)) x = some o → lookM (goM B 200000 L' ++ ([(2, some (.cells (bk B a1 a2).cells)), (0, some (oSt B)), (1, some (oCk B))] ++ (ouM fA gA B.ns 7 L ++ tmsF fA gA B.ns 0 L))) x = some o := fun {x o} hx h => (look_skip fun e he => by have := goM_keys e he; omega).trans h
      by_cases hLe : L' = []
      · subst hLe
        replace hgo : ∀ fl, OkAt 0 Try.prog fl 89 [bk B a1 a2, .agg [.int .i64 (q : Int), .nils, .nils], .int .i64 0] (ofM ([(2, some (.cells (bk B a1 a2).cells)), (0, some (oSt B)), (1, some (oCk B))] ++ (ouM fA gA B.ns 7 L ++ tmsF fA gA B.ns 0 L))) 200000 .nils (ofM ([(2, some (.cells (bk B a1 a2).cells)), (0, some (oSt B)), (1, some (oCk B))] ++ (ouM fA gA B.ns 7 L ++ tmsF fA gA B.ns 0 L))) 300000 := hgo
        clear hL
        cases L with
          | nil =>
            have hz : AV.nils = .nils ∨ ∃ a olds, AV.nils = .gs a 0 ∧ lookM ([(2, some (.cells (bk B a1 a2).cells)), (0, some (oSt B)), (1, some (oCk B))] ++ (ouM fA gA B.ns 7 [] ++ tmsF fA gA B.ns 0 [])) a = some (.grown olds 3) ∧ cut olds 0 (0 * 3) = some olds := .inl rfl
            repeat' (first | refine RT.nil ?_ | refine sq_n ?_ | refine Tr.seq ?_ | refine Tr.region ?_ | refine Tr.cond_t rfl ?_ | refine Tr.skip ?_ | refine Tr.block ?_ | refine blk_n ?_ | (refine RT.goK rfl rfl rfl rfl ?_; first | refine Nx.of (S.lss_t hlt') ?_) | (refine RT.call rfl rfl rfl (val_is hI (In_at _ _ (by omega) _ _ _)) rfl rfl (Nat.le_refl _) ?_) | (refine RT.call rfl rfl rfl (hgo _) rfl rfl (by decide) ?_) | (refine RT.goK rfl rfl rfl rfl ?_; refine Nx.of (S.append_z (s := 0) (cs := []) rfl rfl rfl rfl rfl rfl rfl hz) ?_) | (refine RT.goK rfl rfl rfl rfl ?_; apply Nx.of; (first | exact S.move | exact S.assign | exact S.load1c rfl rfl rfl rfl | exact S.loadNc rfl rfl rfl rfl | exact S.fieldAddr rfl rfl rfl | exact S.add_one (by omega) | exact S.build rfl rfl rfl)))
            refine lp_n (q + 1) (by omega) (by omega) ?_
            show Wk _ _ _ _ (stL _ _ ((3, grI 7 (gWk B (q + 1)).length) :: [(1, .ptr 2 0), (4, .int .i64 ((q + 1 : Nat) : Int))]) ([(2, some (.cells (bk B a1 a2).cells)), (0, some (oSt B)), (1, some (oCk B))] ++ (ouM fA gA B.ns 7 (gWk B (q + 1)) ++ tmsF fA gA B.ns 0 (gWk B (q + 1)))) _)
            rw [e]
            exact fam_wk (tt := 3) (L := []) (L' := []) (A := 100000) (A' := 100001) (x := 7) (n := B.ns) (P := [(2, some (.cells (bk B a1 a2).cells)), (0, some (oSt B)), (1, some (oCk B))]) (by decide) (by decide) (by decide) (by decide) (by decide) (.inl rfl) (.inl rfl) ⟨rfl, congrArg some (congrArg (AV.int .i64) (by omega)), trivial⟩ rfl (p2_wk h1 h2 rfl rfl rfl) p2_keys (fun h => absurd rfl h) (fun j u hu => by simp at hu) (fun j u hu => by simp at hu)
          | cons a l =>
            have hz : AV.gs 7 (l.length + 1) = .nils ∨ ∃ b olds, AV.gs 7 (l.length + 1) = .gs b (l.length + 1) ∧ lookM ([(2, some (.cells (bk B a1 a2).cells)), (0, some (oSt B)), (1, some (oCk B))] ++ (ouM fA gA B.ns 7 (a :: l) ++ tmsF fA gA B.ns 0 (a :: l))) b = some (.grown olds 3) ∧ cut olds 0 ((l.length + 1) * 3) = some olds := .inr ⟨7, _, rfl, rfl, cut_all (tcsF_len (a :: l) 0)⟩
            repeat' (first | refine RT.nil ?_ | refine sq_n ?_ | refine Tr.seq ?_ | refine Tr.region ?_ | refine Tr.cond_t rfl ?_ | refine Tr.skip ?_ | refine Tr.block ?_ | refine blk_n ?_ | (refine RT.goK rfl rfl rfl rfl ?_; first | refine Nx.of (S.lss_t hlt') ?_) | (refine RT.call rfl rfl rfl (val_is hI (In_at _ _ (by omega) _ _ _)) rfl rfl (Nat.le_refl _) ?_) | (refine RT.call rfl rfl rfl (hgo _) rfl rfl (by decide) ?_) | (refine RT.goK rfl rfl rfl rfl ?_; refine Nx.of (S.append_z (s := 0) (cs := []) rfl rfl rfl rfl rfl rfl rfl hz) ?_) | (refine RT.goK rfl rfl rfl rfl ?_; apply Nx.of; (first | exact S.move | exact S.assign | exact S.load1c rfl rfl rfl rfl | exact S.loadNc rfl rfl rfl rfl | exact S.fieldAddr rfl rfl rfl | exact S.add_one (by omega) | exact S.build rfl rfl rfl)))
            refine lp_n (q + 1) (by omega) (by omega) ?_
            show Wk _ _ _ _ (stL _ _ ((3, grI 7 (gWk B (q + 1)).length) :: [(1, .ptr 2 0), (4, .int .i64 ((q + 1 : Nat) : Int))]) ([(2, some (.cells (bk B a1 a2).cells)), (0, some (oSt B)), (1, some (oCk B))] ++ (ouM fA gA B.ns 7 (gWk B (q + 1)) ++ tmsF fA gA B.ns 0 (gWk B (q + 1)))) _)
            rw [e]
            have hla : (a :: l).length = l.length + 1 := rfl
            refine fam_wk (tt := 3) (L := a :: l) (L' := []) (A := 100000) (A' := 100001) (x := 7) (n := B.ns) (P := [(2, some (.cells (bk B a1 a2).cells)), (0, some (oSt B)), (1, some (oCk B))]) (by decide) (by decide) (by simp only [List.length_nil]; omega) (by omega) (by omega) (.inl rfl) (.inl rfl) ⟨rfl, congrArg some (congrArg (AV.int .i64) (by omega)), trivial⟩ ?_ (p2_wk h1 h2 rfl rfl rfl) p2_keys (fun _ => ?_) hold (fun j u hu => by simp at hu)
            · rw [List.append_nil]; rfl
            · show _ = some (AObj.grown (tcsF fA gA B.ns 0 (a :: l) ++ []) 3)
              rw [List.append_nil]
              rfl
      · have hlp : 0 < L'.length := List.length_pos_iff.2 hLe
        have hn0 := hlp
        have hn6 : L'.length ≤ 1000000 := by omega
        have eg : ∀ x, grI x L'.length = .gs x L'.length := fun x => by
          cases hq : L'.length with
          | zero => omega
          | succ n => rfl
        rw [eg] at hgo
        have hS : SlC (goM B 200000 L' ++ ([(2, some (.cells (bk B a1 a2).cells)), (0, some (oSt B)), (1, some (oCk B))] ++ (ouM fA gA B.ns 7 L ++ tmsF fA gA B.ns 0 L))) (.gs 200000 L'.length) L'.length 3 (tcsF (fC 200000) (gC 200000) B.ns 0 L') := SlC.gs (look_app (goM_list hLe)) rfl (tcsF_len _ _)
        have gtr : ∀ j u, L'[j]? = some u → lookM (goM B 200000 L' ++ ([(2, some (.cells (bk B a1 a2).cells)), (0, some (oSt B)), (1, some (oCk B))] ++ (ouM fA gA B.ns 7 L ++ tmsF fA gA B.ns 0 L))) (200001 + 2 * j) = some (.grown (fE u.r B.ns) 1) ∧ lookM (goM B 200000 L' ++ ([(2, some (.cells (bk B a1 a2).cells)), (0, some (oSt B)), (1, some (oCk B))] ++ (ouM fA gA B.ns 7 L ++ tmsF fA gA B.ns 0 L))) (200002 + 2 * j) = some (.grown (fE u.c B.ns) 1) := fun j u hu => by
          have := goM_tr (B := B) (c := 200000) hu
          unfold fC gC at this
          exact ⟨look_app this.1, look_app this.2⟩
        have hnew : ∀ j u, L'[j]? = some u → j < L'.length := fun j u hu => Classical.byContradiction fun q => by rw [List.getElem?_eq_none (by omega)] at hu; cases hu
        clear hL
        cases L with
          | nil =>
            repeat' (first | refine RT.nil ?_ | refine sq_n ?_ | refine Tr.seq ?_ | refine Tr.region ?_ | refine Tr.cond_t rfl ?_ | refine Tr.skip ?_ | refine Tr.block ?_ | refine blk_n ?_ | (refine RT.goK rfl rfl rfl rfl ?_; first | refine Nx.of (S.lss_t hlt') ?_) | (refine RT.call rfl rfl rfl (val_is hI (In_at _ _ (by omega) _ _ _)) rfl rfl (Nat.le_refl _) ?_) | (refine RT.call rfl rfl rfl (hgo _) rfl rfl (by decide) ?_) | (refine RT.goK rfl rfl rfl rfl ?_; refine Nx.of (S.append_n rfl rfl rfl rfl rfl rfl rfl rfl rfl hS hn6 hn0) ?_) | (refine RT.goK rfl rfl rfl rfl ?_; apply Nx.of; (first | exact S.move | exact S.assign | exact S.load1c rfl rfl rfl rfl | exact S.loadNc rfl rfl rfl rfl | exact S.fieldAddr rfl rfl rfl | exact S.add_one (by omega) | exact S.build rfl rfl rfl)))
            refine lp_n (q + 1) (by omega) (by omega) ?_
            show Wk _ _ _ _ (stL _ _ ((3, grI 7 (gWk B (q + 1)).length) :: [(1, .ptr 2 0), (4, .int .i64 ((q + 1 : Nat) : Int))]) ([(2, some (.cells (bk B a1 a2).cells)), (0, some (oSt B)), (1, some (oCk B))] ++ (ouM fA gA B.ns 7 (gWk B (q + 1)) ++ tmsF fA gA B.ns 0 (gWk B (q + 1)))) _)
            rw [e]
            refine fam_wk (tt := 3) (L := []) (L' := L') (A := 200001) (A' := 200002) (x := 300000) (n := B.ns) (P := [(2, some (.cells (bk B a1 a2).cells)), (0, some (oSt B)), (1, some (oCk B))]) (by decide) (by decide) (by simp only [List.length_nil]; omega) (by decide) (by decide) (.inl rfl) (.inr ⟨by omega, by omega, by decide⟩) ⟨rfl, congrArg some (congrArg (AV.int .i64) (by omega)), trivial⟩ (congrArg some (eg 300000).symm) (p2_wk h1 h2 ?_ ?_ ?_) p2_keys (fun _ => lookM_hd) (fun j u hu => by simp at hu) (fun j u hu => ?_)
            iterate 3 exact (lookM_tl (by decide)).trans (hkeep (by decide) rfl)
            have := hnew j u hu
            exact ⟨(lookM_tl (by omega)).trans (gtr j u hu).1, (lookM_tl (by omega)).trans (gtr j u hu).2⟩
          | cons a l =>
            have h7 : lookM (goM B 200000 L' ++ ([(2, some (.cells (bk B a1 a2).cells)), (0, some (oSt B)), (1, some (oCk B))] ++ (ouM fA gA B.ns 7 (a :: l) ++ tmsF fA gA B.ns 0 (a :: l)))) 7 = some (.grown (tcsF fA gA B.ns 0 (a :: l)) 3) := hkeep (by decide) rfl
            have hla : (a :: l).length = l.length + 1 := rfl
            have hc7 : cut (tcsF fA gA B.ns 0 (a :: l)) 0 ((l.length + 1) * 3) = some (tcsF fA gA B.ns 0 (a :: l)) := cut_all (tcsF_len (a :: l) 0)
            have hk7 : l.length + 1 ≤ 1000000 := by omega
            have hone := tcsF_one (f := fC 200000) (g := gC 200000) (k := B.ns) L' 0
            repeat' (first | refine RT.nil ?_ | refine sq_n ?_ | refine Tr.seq ?_ | refine Tr.region ?_ | refine Tr.cond_t rfl ?_ | refine Tr.skip ?_ | refine Tr.block ?_ | refine blk_n ?_ | (refine RT.goK rfl rfl rfl rfl ?_; first | refine Nx.of (S.lss_t hlt') ?_) | (refine RT.call rfl rfl rfl (val_is hI (In_at _ _ (by omega) _ _ _)) rfl rfl (Nat.le_refl _) ?_) | (refine RT.call rfl rfl rfl (hgo _) rfl rfl (by decide) ?_) | (refine RT.goK rfl rfl rfl rfl ?_; refine Nx.of (S.append_g rfl rfl rfl rfl rfl rfl rfl rfl rfl hS hn6 hn0 h7 rfl hc7 hk7 hone) ?_) | (refine RT.goK rfl rfl rfl rfl ?_; apply Nx.of; (first | exact S.move | exact S.assign | exact S.load1c rfl rfl rfl rfl | exact S.loadNc rfl rfl rfl rfl | exact S.fieldAddr rfl rfl rfl | exact S.add_one (by omega) | exact S.build rfl rfl rfl)))
            refine lp_n (q + 1) (by omega) (by omega) ?_
            show Wk _ _ _ _ (stL _ _ ((3, grI 7 (gWk B (q + 1)).length) :: [(1, .ptr 2 0), (4, .int .i64 ((q + 1 : Nat) : Int))]) ([(2, some (.cells (bk B a1 a2).cells)), (0, some (oSt B)), (1, some (oCk B))] ++ (ouM fA gA B.ns 7 (gWk B (q + 1)) ++ tmsF fA gA B.ns 0 (gWk B (q + 1)))) _)
            rw [e]
            refine fam_wk (tt := 3) (L := a :: l) (L' := L') (A := 200001) (A' := 200002) (x := 300000) (n := B.ns) (P := [(2, some (.cells (bk B a1 a2).cells)), (0, some (oSt B)), (1, some (oCk B))]) (by decide) (by decide) (by omega) (by omega) (by omega) (.inl rfl) (.inr ⟨by omega, by omega, by omega⟩) ⟨rfl, congrArg some (congrArg (AV.int .i64) (by omega)), trivial⟩ ?_ (p2_wk h1 h2 ?_ ?_ ?_) p2_keys (fun _ => lookM_hd) (fun j u hu => ?_) (fun j u hu => ?_)
            · show some (AV.gs 300000 (l.length + 1 + L'.length)) = some (grI 300000 ((a :: l) ++ L').length)
              rw [List.length_append, hla, show l.length + 1 + L'.length = (l.length + L'.length) + 1 by omega]
              rfl
            iterate 3 exact (lookM_tl (by decide)).trans ((lookM_tl (by decide)).trans (hkeep (by decide) rfl))
            · have hj : j < (a :: l).length := Classical.byContradiction fun q => by rw [List.getElem?_eq_none (by omega)] at hu; cases hu
              have := hold j u hu
              have b1 : fA j < 200000 ∧ 7 < fA j := by unfold fA; omega
              have b2 : gA j < 200000 ∧ 7 < gA j := by unfold gA; omega
              exact ⟨(lookM_tl (by omega)).trans ((lookM_tl (by omega)).trans (hkeep (by omega) this.1)), (lookM_tl (by omega)).trans ((lookM_tl (by omega)).trans (hkeep (by omega) this.2))⟩
            · have := hnew j u hu
              exact ⟨(lookM_tl (by omega)).trans ((lookM_tl (by omega)).trans (gtr j u hu).1), (lookM_tl (by omega)).trans ((lookM_tl (by omega)).trans (gtr j u hu).2)⟩
    · have hI : AV.bool (dB (hasP B.wea q)) = .bool false := by rw [dB_ff hw]
      repeat' (first | refine RT.nil ?_ | refine sq_n ?_ | refine Tr.seq ?_ | refine Tr.region ?_ | refine Tr.cond_t rfl ?_ | refine Tr.cond_f rfl ?_ | refine Tr.skip ?_ | refine Tr.block ?_ | refine blk_n ?_ | (refine RT.goK rfl rfl rfl rfl ?_; first | refine Nx.of (S.lss_t hlt') ?_) | (refine RT.call rfl rfl rfl (val_is hI (In_at _ _ (by omega) _ _ _)) rfl rfl (Nat.le_refl _) ?_) | (refine RT.goK rfl rfl rfl rfl ?_; apply Nx.of; (first | exact S.move | exact S.assign | exact S.load1c rfl rfl rfl rfl | exact S.fieldAddr rfl rfl rfl | exact S.add_one (by omega))))
      refine lp_n (q + 1) (by omega) (by omega) ?_
      have e : gWk B (q + 1) = L := by
        rw [gWk, hL, show gw1 B q = [] by unfold gw1; rw [dB_ff hw]; rfl, List.append_nil]
      show Wk _ _ _ _ (stL _ _ ((3, grI 7 (gWk B (q + 1)).length) :: [(1, .ptr 2 0), (4, .int .i64 ((q + 1 : Nat) : Int))]) ([(2, some (.cells (bk B a1 a2).cells)), (0, some (oSt B)), (1, some (oCk B))] ++ (ouM fA gA B.ns 7 (gWk B (q + 1)) ++ tmsF fA gA B.ns 0 (gWk B (q + 1)))) _)
      rw [e]
      exact Wk.temps (by decide) (by decide) (by decide) ⟨rfl, rfl, congrArg some (congrArg (AV.int .i64) (by omega)), trivial⟩
  · have hlt' : ¬ (q : Int) < 3 := by omega
    repeat' (first | refine RT.nil ?_ | refine sq_n ?_ | refine Tr.seq ?_ | refine Tr.region ?_ | refine Tr.cond_f rfl ?_ | refine Tr.ret ?_ | refine Tr.exit ?_ | refine sq_x ?_ | refine blk_hit rfl ?_ | refine lp_x ?_ | (refine RT.goK rfl rfl rfl rfl ?_; first | refine Nx.of (S.lss_f hlt') ?_) | (refine RT.goK rfl rfl rfl rfl ?_; apply Nx.of; (first | exact S.move | exact S.assign)))
    (first | refine rt_go rfl ?_)
    have hq3 : q = 3 := by omega
    have hLL : L = gW B := by rw [← hL, hq3]; rfl
    rw [← hLL]
    refine ⟨rfl, Nat.le_refl _, fun x o hx => ?_⟩
    rw [ofM_get]
    refine (look_skip fun e he => ?_).trans hx
    have h3 := p2_keys e he
    obtain ⟨e', he', hex⟩ := List.mem_map.1 (lookM_mem hx)
    have := goA_keys (B := B) (L := L) e' he'
    omega
end Go.Proofs.Ytlnmcadbmpiopaa
