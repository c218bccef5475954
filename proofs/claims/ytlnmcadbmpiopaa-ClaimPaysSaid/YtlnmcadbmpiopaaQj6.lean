/- Texts of one kind, one behind the other: Ej, Ek, El, Em, En, Eo, Ep, Eq, Er, Es, Et. -/
import Derived.Test.YtlnmcadbmpiopaaQj5
set_option linter.unusedVariables false
set_option linter.unusedSimpArgs false
/- The reference of layer 6: isStage; Union, ends. -/
namespace Go.Proofs.Ytlnmcadbmpiopaa
open Go Go.Ev

set_option maxRecDepth 100000 in
theorem isStage6_can (B : CBook) (a1 a2 : AV) (h1 : IsSl a1 B.ns 0) (hn : B.ns ≤ 9223372036854775807) (n : Int) : CanS 0 Try.prog 59 2 [bk B a1 a2, .int .i64 n] [(0, some (oSt B)), (1, some (oCk B))] 2 fun v _ _ => v = .bool (dB (stQ B n)) := by
  refine CanS.mk Try.func59 rfl rfl rfl ?_
  repeat' (first | refine RT.nil ?_ | refine sq_n ?_ | refine Tr.seq ?_ | refine Tr.region ?_ | refine Tr.ret ?_ | (refine RT.call rfl rfl rfl (Amid_at _ _ _ _ _ _) rfl rfl (Nat.le_refl _) ?_) | (refine RT.goK rfl rfl rfl rfl ?_; apply Nx.of; (first | exact S.move | exact S.assign | exact S.load1c rfl rfl rfl rfl | exact S.fieldAddr rfl rfl rfl | exact S.box | exact S.sub (by unfold In64; omega))) | (refine RT.goK rfl rfl rfl rfl ?_; apply Nx.of; (first | exact S.len_sl rfl rfl rfl (by assumption))))
  (first | refine rt_go rfl ?_)
  refine congrArg AV.bool ?_
  unfold dB stQ
  exact decide_eq_decide.2 Iff.rfl
theorem isStage6_at {B : CBook} {a1 a2 : AV} {m : List (Nat × Option AObj)} {c : Nat} (h : BkIn B a1 a2 m c) (hn : B.ns ≤ 9223372036854775807) (n : Int) (fl : Nat) : OkAt 0 Try.prog fl 59 [bk B a1 a2, .int .i64 n] (ofM m) c (.bool (dB (stQ B n))) (ofM m) c :=
  (isStage6_can B a1 a2 h.h1 hn n).pure (.bool _) (h.entry _ fun _ => rfl) fl

set_option maxRecDepth 100000 in
theorem Union_can (a b d e : Int) : CanS 0 Try.prog 96 0 [.agg [.int .i64 a, .int .i64 b], .agg [.int .i64 d, .int .i64 e]] [] 0 fun v _ _ => v = .agg [.int .i64 (min a d), .int .i64 (max b e)] := by
  refine CanS.mk Try.func96 rfl rfl rfl ?_
  repeat' (first | refine RT.nil ?_ | refine sq_n ?_ | refine Tr.seq ?_ | refine Tr.region ?_ | refine Tr.ret ?_ | (refine RT.call rfl rfl rfl (Reach_at _ _ _ _ _) rfl rfl (Nat.le_refl _) ?_) | (refine RT.goK rfl rfl rfl rfl ?_; apply Nx.of; (first | exact S.load1c rfl rfl rfl rfl | exact S.fieldAddr rfl rfl rfl | exact S.box | exact S.alloc rfl | exact S.min2 | exact S.max2)) | (refine RT.goK0 rfl rfl rfl ?_; apply Nx.of; (first | exact S.store rfl rfl rfl rfl rfl rfl)))
  (first | refine rt_go rfl ?_)
  rfl
theorem Union_at (a b d e : Int) (H : T AObj) (c fl : Nat) : OkAt 0 Try.prog fl 96 [.agg [.int .i64 a, .int .i64 b], .agg [.int .i64 d, .int .i64 e]] H c (.agg [.int .i64 (min a d), .int .i64 (max b e)]) H c :=
  (Union_can a b d e).pure (fun _ => rfl) (.plain fun _ => rfl) fl
noncomputable def uniF : CallFn := famA (α := Int × Int × Int × Int) 96 (fun a => [.agg [.int .i64 a.1, .int .i64 a.2.1], .agg [.int .i64 a.2.2.1, .int .i64 a.2.2.2]]) (fun a => .agg [.int .i64 (min a.1 a.2.2.1), .int .i64 (max a.2.1 a.2.2.2)]) fun _ _ _ => True
theorem uniF_calm : CalmC 0 Try.prog uniF := famA_calm fun a fl H c _ => Union_at a.1 a.2.1 a.2.2.1 a.2.2.2 H c fl
theorem uniF_at (a b d e : Int) (fl0 : Nat) (H : T AObj) (c : Nat) : uniF fl0 96 [.agg [.int .i64 a, .int .i64 b], .agg [.int .i64 d, .int .i64 e]] H c = some (.agg [.int .i64 (min a d), .int .i64 (max b e)], H, c) :=
  famA_at (α := Int × Int × Int × Int) fl0 (a, b, d, e) trivial fun x h => by
    obtain ⟨x1, x2, x3, x4⟩ := x
    simp only [List.cons.injEq, AV.agg.injEq, AV.int.injEq, true_and, and_true] at h
    obtain ⟨⟨rfl, rfl⟩, rfl, rfl⟩ := h
    rfl
/-- The least and the greatest of the first numbers, and of the first one. -/
def loN (f : Nat → Int) : Nat → Int
  | 0 => f 0
  | k + 1 => min (loN f k) (f k)
def hiN (f : Nat → Int) : Nat → Int
  | 0 => f 0
  | k + 1 => max (hiN f k) (f k)
theorem loN_spec (f : Nat → Int) : ∀ k, (∀ i, i < k → loN f k ≤ f i) ∧ (loN f k = f 0 ∨ ∃ i, i < k ∧ f i = loN f k)
  | 0 => ⟨fun i h => absurd h (Nat.not_lt_zero i), .inl rfl⟩
  | k + 1 => by
    have ⟨h1, h2⟩ := loN_spec f k
    rw [loN]
    refine ⟨fun i hi => ?_, ?_⟩
    · by_cases e : i = k
      · subst e; omega
      · have := h1 i (by omega); omega
    · by_cases hc : loN f k ≤ f k
      · rw [Int.min_eq_left hc]
        exact h2.imp id fun ⟨i, h3, h4⟩ => ⟨i, by omega, h4⟩
      · rw [Int.min_eq_right (by omega)]
        exact .inr ⟨k, by omega, rfl⟩
theorem hiN_spec (f : Nat → Int) : ∀ k, (∀ i, i < k → f i ≤ hiN f k) ∧ (hiN f k = f 0 ∨ ∃ i, i < k ∧ f i = hiN f k)
  | 0 => ⟨fun i h => absurd h (Nat.not_lt_zero i), .inl rfl⟩
  | k + 1 => by
    have ⟨h1, h2⟩ := hiN_spec f k
    rw [hiN]
    refine ⟨fun i hi => ?_, ?_⟩
    · by_cases e : i = k
      · subst e; omega
      · have := h1 i (by omega); omega
    · by_cases hc : f k ≤ hiN f k
      · rw [Int.max_eq_left hc]
        exact h2.imp id fun ⟨i, h3, h4⟩ => ⟨i, by omega, h4⟩
      · rw [Int.max_eq_right (by omega)]
        exact .inr ⟨k, by omega, rfl⟩
set_option maxRecDepth 100000 in
set_option maxHeartbeats 4000000 in
theorem ends_can (f : Nat → Int) (n : Nat) (a : AV) (h1 : IsSl a n 0) (h0 : 0 < n) (hn : n ≤ 1000000) : CanS 0 Try.prog 60 1 [a] [(0, some (.ro (fE f n)))] 1 fun v _ _ => v = .agg [.int .i64 (loN f n), .int .i64 (hiN f n)] := by
  refine CanS.mk Try.func60 rfl rfl rfl ?_
  have h0' : (0 : Int) < n := by omega
  have x1 := fE_at f h0
  repeat' (first | refine RT.nil ?_ | refine sq_n ?_ | refine Tr.seq ?_ | refine Tr.region ?_ | refine Tr.block ?_ | (refine RT.call rfl rfl rfl (Just_at _ _ _ _) rfl rfl (Nat.le_refl _) ?_) | (refine RT.goK rfl rfl rfl rfl ?_; first | refine Nx.of (S.idx_slI rfl rfl rfl h1 (by decide) h0') ?_ | refine Nx.of (S.load1r rfl rfl rfl x1) ?_) | (refine RT.goK rfl rfl rfl rfl ?_; apply Nx.of; (first | exact S.move | exact S.assign | exact S.alloc rfl)) | (refine RT.goK0 rfl rfl rfl ?_; apply Nx.of; (first | exact S.store rfl rfl rfl rfl rfl rfl)))
  refine Tr.loop (fun k : Nat => stL Try.f60.ntmps [] [(0, a), (3, .ptr 2 0), (2, .ptr 1 0), (4, .int .i64 k)] [(2, some (.cells [.int .i64 (loN f k), .int .i64 (hiN f k)])), (1, some (.cells [.int .i64 0, .int .i64 0])), (0, some (.ro (fE f n)))] 3) (fun k => k ≤ n) (fun k => n - k) 0 (Nat.zero_le _) (by (refine Wk.same (by decide) (by decide) (by decide) (by decide) ?_ ?_ rfl; all_goals ((try simp only [allL, allM]); (repeat' (first | exact trivial | refine And.intro ?_ ?_)); all_goals (first | rfl | exact IsSl.ren (by assumption) (nm_lt (by decide)) | exact ren_ro _ _ _ | decide)))) (fun k hk => ?_)
  by_cases hlt : k < n
  · have hlt' : (k : Int) < n := by omega
    replace x1 := fE_at f hlt
    repeat' (first | refine RT.nil ?_ | refine sq_n ?_ | refine Tr.seq ?_ | refine Tr.region ?_ | refine Tr.cond_t rfl ?_ | refine Tr.skip ?_ | refine Tr.block ?_ | (refine RT.goK rfl rfl rfl rfl ?_; first | refine Nx.of (S.lss_t hlt') ?_) | (refine RT.goK rfl rfl rfl rfl ?_; apply Nx.of; (first | exact S.move)) | (refine RT.goK rfl rfl rfl rfl ?_; apply Nx.of; (first | exact S.len_sl rfl rfl rfl (by assumption))))
    refine Tr.openK un60_5 (by kernel_rfl) (by kernel_rfl) (alts [justF, uniF]) (alts_calm fun g hg => by
      simp only [List.mem_cons, List.not_mem_nil, or_false] at hg
      rcases hg with rfl | rfl
      · exact justF_calm
      · exact uniF_calm) ?_
    repeat' (first | (refine RD.load rfl rfl rfl rfl rfl rfl rfl (by refine us_all ?_; simp only [usOk, cond_true, cond_false]; (repeat' (first | exact trivial | refine And.intro ?_ ?_)); all_goals (first | rfl | exact .inl trivial)) ?_; refine Nx.of (S.load1r rfl rfl rfl x1) ?_) | (refine RD.free rfl rfl rfl rfl rfl rfl ?_; apply Nx.of; (first | exact S.move | exact S.idx_sl rfl rfl rfl (by assumption) (by omega))) | (refine RD.load rfl rfl rfl rfl rfl rfl rfl rfl ?_; apply Nx.of; (first | exact S.loadNc rfl rfl rfl rfl)) | (refine RD.store rfl rfl rfl rfl rfl rfl rfl ?_; apply Nx.of; (first | exact S.store rfl rfl rfl rfl rfl rfl)) | (refine RD.callN rfl rfl rfl rfl rfl rfl rfl rfl rfl (fun fl' => alts_hd (justF_at _ _ _ _)) (fun _ => by refine srOk_all ?_; simp only [srOk]; (repeat' (first | exact trivial | refine And.intro ?_ ?_)); all_goals (first | (refine ⟨_, rfl, ?_⟩; (first | rfl)))) ?_) | (refine RD.callN rfl rfl rfl rfl rfl rfl rfl rfl rfl (fun fl' => (alts_tl (famA_ne _ (by decide))).trans (alts_hd (uniF_at _ _ _ _ _ _ _))) (fun _ => by refine srOk_all ?_; simp only [srOk]; (repeat' (first | exact trivial | refine And.intro ?_ ?_)); all_goals (first | exact trivial | (refine ⟨_, rfl, ?_⟩; (first | rfl | (simp [rfO, rfVs, rfV, rfVs_flat]; done) | (rfl; done))))) ?_) | refine RD.nil ⟨Nat.le_of_ble_eq_true rfl, ?_⟩)
    repeat' (first | refine RT.nil ?_ | refine sq_n ?_ | refine Tr.region ?_ | refine blk_n ?_ | (refine RT.goK rfl rfl rfl rfl ?_; apply Nx.of; (first | exact S.move | exact S.assign | exact S.add_one (by omega))))
    exact lp_n (k + 1) (by omega) (by omega) (by (refine Wk.same (by decide) (by decide) (by decide) (by decide) ?_ ?_ rfl; all_goals ((try simp only [allL, allM]); (repeat' (first | exact trivial | refine And.intro ?_ ?_)); all_goals (first | rfl | exact IsSl.ren (by assumption) (nm_lt (by decide)) | exact ren_ro _ _ _ | decide))))
  · obtain rfl : k = n := by omega
    have hlt' : ¬ (k : Int) < k := by omega
    repeat' (first | refine RT.nil ?_ | refine sq_n ?_ | refine Tr.seq ?_ | refine Tr.region ?_ | refine Tr.cond_f rfl ?_ | refine Tr.ret ?_ | refine Tr.exit ?_ | refine sq_x ?_ | refine blk_hit rfl ?_ | refine lp_x ?_ | (refine RT.goK rfl rfl rfl rfl ?_; first | refine Nx.of (S.lss_f hlt') ?_) | (refine RT.goK rfl rfl rfl rfl ?_; apply Nx.of; (first | exact S.move | exact S.loadNc rfl rfl rfl rfl)) | (refine RT.goK0 rfl rfl rfl ?_; apply Nx.of; (first | exact S.store rfl rfl rfl rfl rfl rfl)) | (refine RT.goK rfl rfl rfl rfl ?_; apply Nx.of; (first | exact S.len_sl rfl rfl rfl (by assumption))))
    (first | refine rt_go rfl ?_)
    rfl
end Go.Proofs.Ytlnmcadbmpiopaa

/- The reference of layer 6: isClock, Check. -/
namespace Go.Proofs.Ytlnmcadbmpiopaa
open Go Go.Ev

set_option maxRecDepth 100000 in
theorem isClock6_can (B : CBook) (a1 a2 : AV) (h1 : IsSl a1 B.ns 0) (h2 : IsSl a2 B.nc 1) (hn : B.ns ≤ 9223372036854775807) (s r e : Int) : CanS 0 Try.prog 54 2 [bk B a1 a2, .agg [.int .i64 s, .int .i64 r, .int .i64 e]] [(0, some (oSt B)), (1, some (oCk B))] 2 fun v _ _ => v = .bool (dB (ckOk B s r e)) := by
  refine CanS.mk Try.func54 rfl rfl rfl ?_
  repeat' (first | refine RT.nil ?_ | refine sq_n ?_ | refine Tr.seq ?_ | refine Tr.region ?_ | refine Tr.ret ?_ | (refine RT.splitd rfl rfl (fun _ => ?_) (fun _ => ?_)) | (refine RT.call rfl rfl rfl (isStage6_at ⟨h1, h2, rfl, rfl, by decide⟩ hn _ _) rfl rfl (Nat.le_refl _) ?_) | (refine RT.call rfl rfl rfl (Amid_at _ _ _ _ _ _) rfl rfl (Nat.le_refl _) ?_) | (refine RT.goK rfl rfl rfl rfl ?_; apply Nx.of; (first | exact S.move | exact S.assign | exact S.load1c rfl rfl rfl rfl | exact S.loadNc rfl rfl rfl rfl | exact S.fieldAddr rfl rfl rfl | exact S.pick_tt | exact S.pick_ff | exact S.box)) | (refine RT.no rfl rfl rfl ?_))
  all_goals (first | refine rt_go rfl ?_)
  all_goals first | exact dB_no fun h => (by unfold ckOk at h; unfold stQ at *; omega) | (refine dB_iff ?_; unfold ckOk; unfold stQ at *; simp_all)
theorem isClock6_at {B : CBook} {a1 a2 : AV} {m : List (Nat × Option AObj)} {c : Nat} (h : BkIn B a1 a2 m c) (hn : B.ns ≤ 9223372036854775807) (s r e : Int) (fl : Nat) : OkAt 0 Try.prog fl 54 [bk B a1 a2, .agg [.int .i64 s, .int .i64 r, .int .i64 e]] (ofM m) c (.bool (dB (ckOk B s r e))) (ofM m) c :=
  (isClock6_can B a1 a2 h.h1 h.h2 hn s r e).pure (.bool _) (h.entry _ fun _ => rfl) fl
noncomputable def amidF : CallFn := famA (α := Int × Int × Int) 39 (fun a => [.int .i64 a.1, .int .i64 a.2.1, .int .i64 a.2.2]) (fun a => .bool (decide (a.2.1 ≤ a.1 ∧ a.1 ≤ a.2.2))) fun _ _ _ => True
theorem amidF_calm : CalmC 0 Try.prog amidF := famA_calm fun a fl H c _ => Amid_at a.1 a.2.1 a.2.2 H c fl
theorem amidF_at (n lo hi : Int) (b : Bool) (h : decide (lo ≤ n ∧ n ≤ hi) = b) (fl0 : Nat) (H : T AObj) (c : Nat) : amidF fl0 39 [.int .i64 n, .int .i64 lo, .int .i64 hi] H c = some (.bool b, H, c) := by
  subst h
  exact famA_at (α := Int × Int × Int) fl0 (n, lo, hi) trivial fun x h => by
    obtain ⟨x1, x2, x3⟩ := x
    simp only [List.cons.injEq, AV.int.injEq, true_and, and_true] at h
    obtain ⟨rfl, rfl, rfl⟩ := h
    rfl
noncomputable def saneF : CallFn := famA (α := Int × Int × Int × Int × Int) 53 (fun a => [.agg [.int .i64 a.1, .int .i64 a.2.1], .int .i64 a.2.2.1, .int .i64 a.2.2.2.1, .int .i64 a.2.2.2.2]) (fun a => .bool (decide (a.2.2.1 ≤ a.1 ∧ a.1 ≤ a.2.1 ∧ a.2.1 ≤ a.2.2.2.1 ∧ a.2.1 - a.1 ≤ a.2.2.2.2))) fun a _ _ => -100000 ≤ a.2.2.1 ∧ a.2.2.2.1 ≤ 100000
theorem saneF_calm : CalmC 0 Try.prog saneF := famA_calm fun a fl H c h => Sane_at a.1 a.2.1 a.2.2.1 a.2.2.2.1 a.2.2.2.2 h H c fl
theorem saneF_at (lo hi a b d : Int) (v : Bool) (hab : -100000 ≤ a ∧ b ≤ 100000) (h : decide (a ≤ lo ∧ lo ≤ hi ∧ hi ≤ b ∧ hi - lo ≤ d) = v) (fl0 : Nat) (H : T AObj) (c : Nat) : saneF fl0 53 [.agg [.int .i64 lo, .int .i64 hi], .int .i64 a, .int .i64 b, .int .i64 d] H c = some (.bool v, H, c) := by
  subst h
  exact famA_at (α := Int × Int × Int × Int × Int) fl0 (lo, hi, a, b, d) hab fun x h => by
    obtain ⟨x1, x2, x3, x4, x5⟩ := x
    simp only [List.cons.injEq, AV.agg.injEq, AV.int.injEq, true_and, and_true] at h
    obtain ⟨⟨rfl, rfl⟩, rfl, rfl, rfl⟩ := h
    rfl
noncomputable def clF6 (B : CBook) (a1 a2 : AV) (s r e : Int) (v : Bool) : CallFn := one1 54 [bk B a1 a2, .agg [.int .i64 s, .int .i64 r, .int .i64 e]] (.bool v) fun H c => ∃ m, H = ofM m ∧ BkIn B a1 a2 m c
end Go.Proofs.Ytlnmcadbmpiopaa

/- The reference of layer 6: Check. -/
namespace Go.Proofs.Ytlnmcadbmpiopaa
open Go Go.Ev

theorem clF6_calm {B : CBook} {a1 a2 : AV} (hn : B.ns ≤ 9223372036854775807) (s r e : Int) (v : Bool) (hv : dB (ckOk B s r e) = v) : CalmC 0 Try.prog (clF6 B a1 a2 s r e v) := one1_calm fun fl H c ⟨m, hm, h⟩ => by subst hm hv; exact isClock6_at h hn s r e fl
theorem ck60 {B : CBook} (h : ¬ bkOk B) : AV.int .i64 60 = .int .i64 (ckV B) := by unfold ckV; rw [dB_ff h]; rfl
theorem ck0 {B : CBook} (h : bkOk B) : AV.int .i64 0 = .int .i64 (ckV B) := by unfold ckV; rw [dB_tt h]; rfl
def shOk (B : CBook) : Prop := (1 ≤ B.ns ∧ B.ns ≤ 3) ∧ (1 ≤ B.wea ∧ B.wea ≤ 7) ∧ B.nc ≤ 4 ∧ 0 ≤ B.rate ∧ B.rate ≤ 99
set_option maxRecDepth 100000 in
set_option maxHeartbeats 4000000 in
theorem Check6_can (B : CBook) (a1 a2 : AV) (h1 : IsSl a1 B.ns 0) (h2 : IsSl a2 B.nc 1) (hn : B.ns ≤ 9223372036854775807) : CanS 0 Try.prog 12 2 [bk B a1 a2] [(0, some (oSt B)), (1, some (oCk B))] 2 fun v _ _ => v = .int .i64 (ckV B) := by
  refine CanS.mk Try.func12 rfl rfl rfl ?_
  by_cases hr : 0 ≤ B.rate ∧ B.rate ≤ 99
  · have hR : AV.bool (decide (0 ≤ B.rate ∧ B.rate ≤ 99)) = .bool true := by rw [decide_eq_true hr]
    repeat' (first | refine RT.nil ?_ | refine sq_n ?_ | refine Tr.seq ?_ | refine Tr.region ?_ | refine Tr.block ?_ | (refine RT.splitd rfl rfl (fun _ => ?_) (fun _ => ?_)) | (refine RT.call rfl rfl rfl (val_is hR (Amid_at B.rate 0 99 _ _ _)) rfl rfl (Nat.le_refl _) ?_) | (refine RT.call rfl rfl rfl (Amid_at _ _ _ _ _ _) rfl rfl (Nat.le_refl _) ?_) | (refine RT.goK rfl rfl rfl rfl ?_; apply Nx.of; (first | exact S.move | exact S.assign | exact S.load1c rfl rfl rfl rfl | exact S.fieldAddr rfl rfl rfl | exact S.leq | exact S.pick_tt | exact S.pick_ff | exact S.box)) | (refine RT.goK rfl rfl rfl rfl ?_; apply Nx.of; (first | exact S.len_sl rfl rfl rfl (by assumption))) | (refine RT.no rfl rfl rfl ?_))
    rotate_left
    all_goals try
      repeat' (first | refine RT.nil ?_ | refine sq_n ?_ | refine Tr.seq ?_ | refine Tr.region ?_ | refine Tr.cond_t rfl ?_ | refine Tr.cond_f rfl ?_ | refine Tr.ret ?_ | refine sq_r ?_ | refine Tr.exit ?_ | refine sq_x ?_ | refine Tr.block ?_ | refine blk_hit rfl ?_ | refine un_x ?_ | (refine Tr.unroll 1 ?_) | (refine RT.goK rfl rfl rfl rfl ?_; apply Nx.of; (first | exact S.move | exact S.assign | exact S.load1c rfl rfl rfl rfl | exact S.fieldAddr rfl rfl rfl | exact S.not_f | exact S.pick_ff)) | (refine RT.no rfl rfl rfl ?_))
      (first | refine rt_go rfl ?_)
      exact ck60 fun h => by have e1 := h.1.1; have e2 := h.2.1.1; have e3 := h.2.2.1.1; omega
    rename_i hA1 hA2 hA3
    have hsh : (1 ≤ B.ns ∧ B.ns ≤ 3) ∧ (1 ≤ B.wea ∧ B.wea ≤ 7) ∧ B.nc ≤ 4 := ⟨by omega, hA2, by omega⟩
    refine Tr.loop (fun p : Nat × Bool => stL Try.f12.ntmps [] [(1, .ptr 2 0), (3, .bool p.2), (4, .int .i64 (p.1 : Int))] [(2, some (.cells (bk B a1 a2).cells)), (0, some (oSt B)), (1, some (oCk B))] 3) (fun p => (p.2 = true → p.1 ≤ B.ns ∧ ∀ i, i < p.1 → stOk B i) ∧ (p.2 = false → ¬ bkOk B)) (fun p => if p.2 then B.ns - p.1 + 1 else 0) (0, true) ⟨fun _ => ⟨Nat.zero_le _, fun i hi => absurd hi (Nat.not_lt_zero i)⟩, fun h => by cases h⟩ (by (refine Wk.same (by decide) (by decide) (by decide) (by decide) ?_ ?_ rfl; all_goals ((try simp only [allL, allM]); (repeat' (first | exact trivial | refine And.intro ?_ ?_)); all_goals (first | rfl | exact ren_ro _ _ _ | exact bkc_ren h1 h2 (nm_lt (by decide)) (nm_lt (by decide)) | decide)))) (fun ⟨k, b⟩ ⟨hb1, hb0⟩ => ?_)
    cases b with
    | false =>
      have hbad := hb0 rfl
      repeat' (first | refine RT.nil ?_ | refine sq_n ?_ | refine Tr.seq ?_ | refine Tr.region ?_ | refine Tr.cond_t rfl ?_ | refine Tr.cond_f rfl ?_ | refine Tr.ret ?_ | refine sq_r ?_ | refine Tr.exit ?_ | refine sq_x ?_ | refine Tr.block ?_ | refine blk_hit rfl ?_ | refine lp_x ?_ | refine un_x ?_ | (refine Tr.unroll 1 ?_) | (refine RT.goK rfl rfl rfl rfl ?_; apply Nx.of; (first | exact S.move | exact S.assign | exact S.not_f | exact S.pick_ff)) | (refine RT.no rfl rfl rfl ?_))
      (first | refine rt_go rfl ?_)
      exact ck60 hbad
    | true =>
      obtain ⟨hk, hall⟩ := hb1 rfl
      replace hk : k ≤ B.ns := hk
      clear hb0 hb1
      by_cases hlt : k < B.ns
      · have hlt' : (k : Int) < B.ns := by omega
        have hbf := before_bd B k hall
        obtain ⟨b1, p1⟩ : ∃ b, decide (1 ≤ B.due k ∧ B.due k ≤ 300) = b := ⟨_, rfl⟩
        obtain ⟨b3, p3⟩ : ∃ b, decide (1 ≤ B.dl k ∧ B.dl k ≤ B.dh k ∧ B.dh k ≤ 90 ∧ B.dh k - B.dl k ≤ 2) = b := ⟨_, rfl⟩
        obtain ⟨b4, p4⟩ : ∃ b, decide (0 ≤ B.rl k ∧ B.rl k ≤ B.rh k ∧ B.rh k ≤ 30 ∧ B.rh k - B.rl k ≤ 2) = b := ⟨_, rfl⟩
        obtain ⟨b5, p5⟩ : ∃ b, decide (0 ≤ B.sl k ∧ B.sl k ≤ B.sh k ∧ B.sh k ≤ 20 ∧ B.sh k - B.sl k ≤ 1) = b := ⟨_, rfl⟩
        repeat' (first | refine RT.nil ?_ | refine sq_n ?_ | refine Tr.seq ?_ | refine Tr.region ?_ | refine Tr.cond_t rfl ?_ | refine Tr.skip ?_ | refine Tr.block ?_ | (refine RT.goK rfl rfl rfl rfl ?_; refine Nx.of (S.lss_t hlt') ?_) | (refine RT.goK rfl rfl rfl rfl ?_; apply Nx.of; (first | exact S.move | exact S.load1c rfl rfl rfl rfl | exact S.fieldAddr rfl rfl rfl | exact S.pick_tt | exact S.alloc rfl)) | (refine RT.goK0 rfl rfl rfl ?_; apply Nx.of; (first | exact S.store rfl rfl rfl rfl rfl rfl)) | (refine RT.goK rfl rfl rfl rfl ?_; apply Nx.of; (first | exact S.idx_sl rfl rfl rfl (by assumption) (by omega) | exact S.rowN0 rfl rfl rfl (fun _ => rfl) (range_at (by omega)) rfl | exact S.len_sl rfl rfl rfl (by assumption))))
        refine Tr.mono (Q := fun ex st2 => ex = .normal ∧ Wk 0 2 2 st2 (stL Try.f12.ntmps [] [(1, .ptr 2 0), (3, .bool (dB (stOk B k))), (4, .int .i64 (k : Int))] [(2, some (.cells (bk B a1 a2).cells)), (0, some (oSt B)), (1, some (oCk B))] 3)) ?_ (fun ex st2 ⟨he, hwk⟩ => ?_)
        · have pc : CalmC 0 Try.prog (alts [amidF, saneF]) := alts_calm fun g hg => by
            simp only [List.mem_cons, List.not_mem_nil, or_false] at hg
            rcases hg with rfl | rfl
            · exact amidF_calm
            · exact saneF_calm
          refine Tr.openK un12_6 (by kernel_rfl) (by kernel_rfl) _ pc ?_
          have fin : ∀ {x : Bool} {st : St}, dB (stOk B k) = x → Wk 0 2 2 st (stL Try.f12.ntmps [] [(1, .ptr 2 0), (3, .bool x), (4, .int .i64 (k : Int))] [(2, some (.cells (bk B a1 a2).cells)), (0, some (oSt B)), (1, some (oCk B))] 3) → AExit.normal = .normal ∧ Wk 0 2 2 st (stL Try.f12.ntmps [] [(1, .ptr 2 0), (3, .bool (dB (stOk B k))), (4, .int .i64 (k : Int))] [(2, some (.cells (bk B a1 a2).cells)), (0, some (oSt B)), (1, some (oCk B))] 3) := fun hx hw => by subst hx; exact ⟨rfl, hw⟩
          cases b1 with
          | false =>
            repeat' (first | (refine RD.free rfl rfl rfl rfl rfl rfl ?_; apply Nx.of; (first | exact S.move | exact S.assign | exact S.fieldAddr rfl rfl rfl | exact S.pick_ff)) | (refine RD.load rfl rfl rfl rfl rfl rfl rfl rfl ?_; apply Nx.of; (first | exact S.load1c rfl rfl rfl rfl)) | (refine RD.no rfl rfl rfl rfl ?_) | (refine RD.callN rfl rfl rfl rfl rfl rfl rfl rfl rfl (fun fl' => alts_hd (amidF_at _ _ _ _ p1 _ _ _)) (fun _ => by refine srOk_all ?_; simp only [srOk]; (repeat' (first | exact trivial | refine And.intro ?_ ?_)); all_goals (first | exact trivial | (refine ⟨_, rfl, ?_⟩; (first | rfl | (simp [rfO, rfVs, rfV, rfVs_flat]; done) | (simp [bk, AV.cells, pbC, rfO, rfVs, rfV, h1.rf, h2.rf]; done))))) ?_) | refine RD.nil ⟨Nat.le_of_ble_eq_true rfl, ?_⟩)
            refine fin (x := false) (dB_ff fun h => ?_) (by (refine Wk.same (by decide) (by decide) (by decide) (by decide) ?_ ?_ rfl; all_goals ((try simp only [allL, allM]); (repeat' (first | exact trivial | refine And.intro ?_ ?_)); all_goals (first | rfl | exact ren_ro _ _ _ | exact bkc_ren h1 h2 (nm_lt (by decide)) (nm_lt (by decide)) | decide))))
            have := of_decide_eq_false p1
            unfold stOk at h
            omega
          | true =>
            have q1 := of_decide_eq_true p1
            have hp : (k : Int) = 0 ∨ ∃ j, k = j + 1 ∧ ¬ ((j + 1 : Nat) : Int) = 0 := by
              cases k with
              | zero => exact .inl rfl
              | succ j => exact .inr ⟨j, rfl, by omega⟩
            rcases hp with hk0 | ⟨j, rfl, hk0⟩
            · have ebf : before B k = 0 := by
                obtain rfl : k = 0 := by omega
                rfl
              cases b3 with
              | false =>
                repeat' (first | (refine RD.free rfl rfl rfl rfl rfl rfl ?_; apply Nx.of; (first | exact S.eql_t hk0)) | (refine RD.free rfl rfl rfl rfl rfl rfl ?_; apply Nx.of; (first | exact S.move | exact S.assign | exact S.fieldAddr rfl rfl rfl | exact S.pick_tt | exact S.pick_ff)) | (refine RD.load rfl rfl rfl rfl rfl rfl rfl rfl ?_; apply Nx.of; (first | exact S.load1c rfl rfl rfl rfl | exact S.loadNc rfl rfl rfl rfl)) | (refine RD.no rfl rfl rfl rfl ?_) | (refine RD.callN rfl rfl rfl rfl rfl rfl rfl rfl rfl (fun fl' => alts_hd (amidF_at _ _ _ _ p1 _ _ _)) (fun _ => by refine srOk_all ?_; simp only [srOk]; (repeat' (first | exact trivial | refine And.intro ?_ ?_)); all_goals (first | exact trivial | (refine ⟨_, rfl, ?_⟩; (first | rfl | (simp [rfO, rfVs, rfV, rfVs_flat]; done) | (simp [bk, AV.cells, pbC, rfO, rfVs, rfV, h1.rf, h2.rf]; done))))) ?_) | (refine RD.callN rfl rfl rfl rfl rfl rfl rfl rfl rfl (fun fl' => (alts_tl (famA_ne _ (by decide))).trans (alts_hd (saneF_at _ _ 1 90 2 _ (by decide) p3 _ _ _))) (fun _ => by refine srOk_all ?_; simp only [srOk]; (repeat' (first | exact trivial | refine And.intro ?_ ?_)); all_goals (first | exact trivial | (refine ⟨_, rfl, ?_⟩; (first | rfl | (simp [rfO, rfVs, rfV, rfVs_flat]; done) | (simp [bk, AV.cells, pbC, rfO, rfVs, rfV, h1.rf, h2.rf]; done))))) ?_) | refine RD.nil ⟨Nat.le_of_ble_eq_true rfl, ?_⟩)
                refine fin (x := false) (dB_ff fun h => ?_) (by (refine Wk.same (by decide) (by decide) (by decide) (by decide) ?_ ?_ rfl; all_goals ((try simp only [allL, allM]); (repeat' (first | exact trivial | refine And.intro ?_ ?_)); all_goals (first | rfl | exact ren_ro _ _ _ | exact bkc_ren h1 h2 (nm_lt (by decide)) (nm_lt (by decide)) | decide))))
                have := of_decide_eq_false p3
                unfold stOk at h
                omega
              | true =>
                have q3 := of_decide_eq_true p3
                cases b4 with
                | false =>
                  repeat' (first | (refine RD.free rfl rfl rfl rfl rfl rfl ?_; apply Nx.of; (first | exact S.eql_t hk0)) | (refine RD.free rfl rfl rfl rfl rfl rfl ?_; apply Nx.of; (first | exact S.move | exact S.assign | exact S.fieldAddr rfl rfl rfl | exact S.pick_tt | exact S.pick_ff)) | (refine RD.load rfl rfl rfl rfl rfl rfl rfl rfl ?_; apply Nx.of; (first | exact S.load1c rfl rfl rfl rfl | exact S.loadNc rfl rfl rfl rfl)) | (refine RD.no rfl rfl rfl rfl ?_) | (refine RD.callN rfl rfl rfl rfl rfl rfl rfl rfl rfl (fun fl' => alts_hd (amidF_at _ _ _ _ p1 _ _ _)) (fun _ => by refine srOk_all ?_; simp only [srOk]; (repeat' (first | exact trivial | refine And.intro ?_ ?_)); all_goals (first | exact trivial | (refine ⟨_, rfl, ?_⟩; (first | rfl | (simp [rfO, rfVs, rfV, rfVs_flat]; done) | (simp [bk, AV.cells, pbC, rfO, rfVs, rfV, h1.rf, h2.rf]; done))))) ?_) | (refine RD.callN rfl rfl rfl rfl rfl rfl rfl rfl rfl (fun fl' => (alts_tl (famA_ne _ (by decide))).trans (alts_hd (saneF_at _ _ 1 90 2 _ (by decide) p3 _ _ _))) (fun _ => by refine srOk_all ?_; simp only [srOk]; (repeat' (first | exact trivial | refine And.intro ?_ ?_)); all_goals (first | exact trivial | (refine ⟨_, rfl, ?_⟩; (first | rfl | (simp [rfO, rfVs, rfV, rfVs_flat]; done) | (simp [bk, AV.cells, pbC, rfO, rfVs, rfV, h1.rf, h2.rf]; done))))) ?_) | (refine RD.callN rfl rfl rfl rfl rfl rfl rfl rfl rfl (fun fl' => (alts_tl (famA_ne _ (by decide))).trans (alts_hd (saneF_at _ _ 0 30 2 _ (by decide) p4 _ _ _))) (fun _ => by refine srOk_all ?_; simp only [srOk]; (repeat' (first | exact trivial | refine And.intro ?_ ?_)); all_goals (first | exact trivial | (refine ⟨_, rfl, ?_⟩; (first | rfl | (simp [rfO, rfVs, rfV, rfVs_flat]; done) | (simp [bk, AV.cells, pbC, rfO, rfVs, rfV, h1.rf, h2.rf]; done))))) ?_) | refine RD.nil ⟨Nat.le_of_ble_eq_true rfl, ?_⟩)
                  refine fin (x := false) (dB_ff fun h => ?_) (by (refine Wk.same (by decide) (by decide) (by decide) (by decide) ?_ ?_ rfl; all_goals ((try simp only [allL, allM]); (repeat' (first | exact trivial | refine And.intro ?_ ?_)); all_goals (first | rfl | exact ren_ro _ _ _ | exact bkc_ren h1 h2 (nm_lt (by decide)) (nm_lt (by decide)) | decide))))
                  have := of_decide_eq_false p4
                  unfold stOk at h
                  omega
                | true =>
                  have q4 := of_decide_eq_true p4
                  repeat' (first | (refine RD.free rfl rfl rfl rfl rfl rfl ?_; apply Nx.of; (first | exact S.eql_t hk0)) | (refine RD.free rfl rfl rfl rfl rfl rfl ?_; apply Nx.of; (first | exact S.move | exact S.assign | exact S.fieldAddr rfl rfl rfl | exact S.pick_tt)) | (refine RD.load rfl rfl rfl rfl rfl rfl rfl rfl ?_; apply Nx.of; (first | exact S.load1c rfl rfl rfl rfl | exact S.loadNc rfl rfl rfl rfl)) | (refine RD.no rfl rfl rfl rfl ?_) | (refine RD.callN rfl rfl rfl rfl rfl rfl rfl rfl rfl (fun fl' => alts_hd (amidF_at _ _ _ _ p1 _ _ _)) (fun _ => by refine srOk_all ?_; simp only [srOk]; (repeat' (first | exact trivial | refine And.intro ?_ ?_)); all_goals (first | exact trivial | (refine ⟨_, rfl, ?_⟩; (first | rfl | (simp [rfO, rfVs, rfV, rfVs_flat]; done) | (simp [bk, AV.cells, pbC, rfO, rfVs, rfV, h1.rf, h2.rf]; done))))) ?_) | (refine RD.callN rfl rfl rfl rfl rfl rfl rfl rfl rfl (fun fl' => (alts_tl (famA_ne _ (by decide))).trans (alts_hd (saneF_at _ _ 1 90 2 _ (by decide) p3 _ _ _))) (fun _ => by refine srOk_all ?_; simp only [srOk]; (repeat' (first | exact trivial | refine And.intro ?_ ?_)); all_goals (first | exact trivial | (refine ⟨_, rfl, ?_⟩; (first | rfl | (simp [rfO, rfVs, rfV, rfVs_flat]; done) | (simp [bk, AV.cells, pbC, rfO, rfVs, rfV, h1.rf, h2.rf]; done))))) ?_) | (refine RD.callN rfl rfl rfl rfl rfl rfl rfl rfl rfl (fun fl' => (alts_tl (famA_ne _ (by decide))).trans (alts_hd (saneF_at _ _ 0 30 2 _ (by decide) p4 _ _ _))) (fun _ => by refine srOk_all ?_; simp only [srOk]; (repeat' (first | exact trivial | refine And.intro ?_ ?_)); all_goals (first | exact trivial | (refine ⟨_, rfl, ?_⟩; (first | rfl | (simp [rfO, rfVs, rfV, rfVs_flat]; done) | (simp [bk, AV.cells, pbC, rfO, rfVs, rfV, h1.rf, h2.rf]; done))))) ?_) | (refine RD.callN rfl rfl rfl rfl rfl rfl rfl rfl rfl (fun fl' => (alts_tl (famA_ne _ (by decide))).trans (alts_hd (saneF_at _ _ 0 20 1 _ (by decide) p5 _ _ _))) (fun _ => by refine srOk_all ?_; simp only [srOk]; (repeat' (first | exact trivial | refine And.intro ?_ ?_)); all_goals (first | exact trivial | (refine ⟨_, rfl, ?_⟩; (first | rfl | (simp [rfO, rfVs, rfV, rfVs_flat]; done) | (simp [bk, AV.cells, pbC, rfO, rfVs, rfV, h1.rf, h2.rf]; done))))) ?_) | refine RD.nil ⟨Nat.le_of_ble_eq_true rfl, ?_⟩)
                  refine fin (x := b5) ?_ (by (refine Wk.same (by decide) (by decide) (by decide) (by decide) ?_ ?_ rfl; all_goals ((try simp only [allL, allM]); (repeat' (first | exact trivial | refine And.intro ?_ ?_)); all_goals (first | rfl | exact ren_ro _ _ _ | exact bkc_ren h1 h2 (nm_lt (by decide)) (nm_lt (by decide)) | decide))))
                  rw [← p5]
                  unfold dB stOk
                  exact decide_eq_decide.2 (by omega)
            · have ebf : before B (j + 1) = B.due j := rfl
              by_cases p2 : B.due j < B.due (j + 1)
              · cases b3 with
                | false =>
                  repeat' (first | (refine RD.free rfl rfl rfl rfl rfl rfl ?_; apply Nx.of; (first | exact S.eql_f hk0 | exact S.gtr_t p2)) | (refine RD.free rfl rfl rfl rfl rfl rfl ?_; refine Nx.of (S.sub_one (by omega) (by omega)) ?_) | (refine RD.free rfl rfl rfl rfl rfl rfl ?_; apply Nx.of; (first | exact S.move | exact S.assign | exact S.fieldAddr rfl rfl rfl | exact S.pick_tt | exact S.pick_ff | exact S.idx_sl rfl rfl rfl (by assumption) (by omega))) | (refine RD.load rfl rfl rfl rfl rfl rfl rfl rfl ?_; apply Nx.of; (first | exact S.load1c rfl rfl rfl rfl | exact S.loadNc rfl rfl rfl rfl | exact S.row0 rfl rfl rfl (fun _ => rfl) (range_at (by omega)) rfl)) | (refine RD.no rfl rfl rfl rfl ?_) | (refine RD.callN rfl rfl rfl rfl rfl rfl rfl rfl rfl (fun fl' => alts_hd (amidF_at _ _ _ _ p1 _ _ _)) (fun _ => by refine srOk_all ?_; simp only [srOk]; (repeat' (first | exact trivial | refine And.intro ?_ ?_)); all_goals (first | exact trivial | (refine ⟨_, rfl, ?_⟩; (first | rfl | (simp [rfO, rfVs, rfV, rfVs_flat]; done) | (simp [bk, AV.cells, pbC, rfO, rfVs, rfV, h1.rf, h2.rf]; done))))) ?_) | (refine RD.callN rfl rfl rfl rfl rfl rfl rfl rfl rfl (fun fl' => (alts_tl (famA_ne _ (by decide))).trans (alts_hd (saneF_at _ _ 1 90 2 _ (by decide) p3 _ _ _))) (fun _ => by refine srOk_all ?_; simp only [srOk]; (repeat' (first | exact trivial | refine And.intro ?_ ?_)); all_goals (first | exact trivial | (refine ⟨_, rfl, ?_⟩; (first | rfl | (simp [rfO, rfVs, rfV, rfVs_flat]; done) | (simp [bk, AV.cells, pbC, rfO, rfVs, rfV, h1.rf, h2.rf]; done))))) ?_) | refine RD.nil ⟨Nat.le_of_ble_eq_true rfl, ?_⟩)
                  refine fin (x := false) (dB_ff fun h => ?_) (by (refine Wk.same (by decide) (by decide) (by decide) (by decide) ?_ ?_ rfl; all_goals ((try simp only [allL, allM]); (repeat' (first | exact trivial | refine And.intro ?_ ?_)); all_goals (first | rfl | exact ren_ro _ _ _ | exact bkc_ren h1 h2 (nm_lt (by decide)) (nm_lt (by decide)) | decide))))
                  have := of_decide_eq_false p3
                  unfold stOk at h
                  omega
                | true =>
                  have q3 := of_decide_eq_true p3
                  cases b4 with
                  | false =>
                    repeat' (first | (refine RD.free rfl rfl rfl rfl rfl rfl ?_; apply Nx.of; (first | exact S.eql_f hk0 | exact S.gtr_t p2)) | (refine RD.free rfl rfl rfl rfl rfl rfl ?_; refine Nx.of (S.sub_one (by omega) (by omega)) ?_) | (refine RD.free rfl rfl rfl rfl rfl rfl ?_; apply Nx.of; (first | exact S.move | exact S.assign | exact S.fieldAddr rfl rfl rfl | exact S.pick_tt | exact S.pick_ff | exact S.idx_sl rfl rfl rfl (by assumption) (by omega))) | (refine RD.load rfl rfl rfl rfl rfl rfl rfl rfl ?_; apply Nx.of; (first | exact S.load1c rfl rfl rfl rfl | exact S.loadNc rfl rfl rfl rfl | exact S.row0 rfl rfl rfl (fun _ => rfl) (range_at (by omega)) rfl)) | (refine RD.no rfl rfl rfl rfl ?_) | (refine RD.callN rfl rfl rfl rfl rfl rfl rfl rfl rfl (fun fl' => alts_hd (amidF_at _ _ _ _ p1 _ _ _)) (fun _ => by refine srOk_all ?_; simp only [srOk]; (repeat' (first | exact trivial | refine And.intro ?_ ?_)); all_goals (first | exact trivial | (refine ⟨_, rfl, ?_⟩; (first | rfl | (simp [rfO, rfVs, rfV, rfVs_flat]; done) | (simp [bk, AV.cells, pbC, rfO, rfVs, rfV, h1.rf, h2.rf]; done))))) ?_) | (refine RD.callN rfl rfl rfl rfl rfl rfl rfl rfl rfl (fun fl' => (alts_tl (famA_ne _ (by decide))).trans (alts_hd (saneF_at _ _ 1 90 2 _ (by decide) p3 _ _ _))) (fun _ => by refine srOk_all ?_; simp only [srOk]; (repeat' (first | exact trivial | refine And.intro ?_ ?_)); all_goals (first | exact trivial | (refine ⟨_, rfl, ?_⟩; (first | rfl | (simp [rfO, rfVs, rfV, rfVs_flat]; done) | (simp [bk, AV.cells, pbC, rfO, rfVs, rfV, h1.rf, h2.rf]; done))))) ?_) | (refine RD.callN rfl rfl rfl rfl rfl rfl rfl rfl rfl (fun fl' => (alts_tl (famA_ne _ (by decide))).trans (alts_hd (saneF_at _ _ 0 30 2 _ (by decide) p4 _ _ _))) (fun _ => by refine srOk_all ?_; simp only [srOk]; (repeat' (first | exact trivial | refine And.intro ?_ ?_)); all_goals (first | exact trivial | (refine ⟨_, rfl, ?_⟩; (first | rfl | (simp [rfO, rfVs, rfV, rfVs_flat]; done) | (simp [bk, AV.cells, pbC, rfO, rfVs, rfV, h1.rf, h2.rf]; done))))) ?_) | refine RD.nil ⟨Nat.le_of_ble_eq_true rfl, ?_⟩)
                    refine fin (x := false) (dB_ff fun h => ?_) (by (refine Wk.same (by decide) (by decide) (by decide) (by decide) ?_ ?_ rfl; all_goals ((try simp only [allL, allM]); (repeat' (first | exact trivial | refine And.intro ?_ ?_)); all_goals (first | rfl | exact ren_ro _ _ _ | exact bkc_ren h1 h2 (nm_lt (by decide)) (nm_lt (by decide)) | decide))))
                    have := of_decide_eq_false p4
                    unfold stOk at h
                    omega
                  | true =>
                    have q4 := of_decide_eq_true p4
                    repeat' (first | (refine RD.free rfl rfl rfl rfl rfl rfl ?_; apply Nx.of; (first | exact S.eql_f hk0 | exact S.gtr_t p2)) | (refine RD.free rfl rfl rfl rfl rfl rfl ?_; refine Nx.of (S.sub_one (by omega) (by omega)) ?_) | (refine RD.free rfl rfl rfl rfl rfl rfl ?_; apply Nx.of; (first | exact S.move | exact S.assign | exact S.fieldAddr rfl rfl rfl | exact S.pick_tt | exact S.pick_ff | exact S.idx_sl rfl rfl rfl (by assumption) (by omega))) | (refine RD.load rfl rfl rfl rfl rfl rfl rfl rfl ?_; apply Nx.of; (first | exact S.load1c rfl rfl rfl rfl | exact S.loadNc rfl rfl rfl rfl | exact S.row0 rfl rfl rfl (fun _ => rfl) (range_at (by omega)) rfl)) | (refine RD.callN rfl rfl rfl rfl rfl rfl rfl rfl rfl (fun fl' => alts_hd (amidF_at _ _ _ _ p1 _ _ _)) (fun _ => by refine srOk_all ?_; simp only [srOk]; (repeat' (first | exact trivial | refine And.intro ?_ ?_)); all_goals (first | exact trivial | (refine ⟨_, rfl, ?_⟩; (first | rfl | (simp [rfO, rfVs, rfV, rfVs_flat]; done) | (simp [bk, AV.cells, pbC, rfO, rfVs, rfV, h1.rf, h2.rf]; done))))) ?_) | (refine RD.callN rfl rfl rfl rfl rfl rfl rfl rfl rfl (fun fl' => (alts_tl (famA_ne _ (by decide))).trans (alts_hd (saneF_at _ _ 1 90 2 _ (by decide) p3 _ _ _))) (fun _ => by refine srOk_all ?_; simp only [srOk]; (repeat' (first | exact trivial | refine And.intro ?_ ?_)); all_goals (first | exact trivial | (refine ⟨_, rfl, ?_⟩; (first | rfl | (simp [rfO, rfVs, rfV, rfVs_flat]; done) | (simp [bk, AV.cells, pbC, rfO, rfVs, rfV, h1.rf, h2.rf]; done))))) ?_) | (refine RD.callN rfl rfl rfl rfl rfl rfl rfl rfl rfl (fun fl' => (alts_tl (famA_ne _ (by decide))).trans (alts_hd (saneF_at _ _ 0 30 2 _ (by decide) p4 _ _ _))) (fun _ => by refine srOk_all ?_; simp only [srOk]; (repeat' (first | exact trivial | refine And.intro ?_ ?_)); all_goals (first | exact trivial | (refine ⟨_, rfl, ?_⟩; (first | rfl | (simp [rfO, rfVs, rfV, rfVs_flat]; done) | (simp [bk, AV.cells, pbC, rfO, rfVs, rfV, h1.rf, h2.rf]; done))))) ?_) | (refine RD.callN rfl rfl rfl rfl rfl rfl rfl rfl rfl (fun fl' => (alts_tl (famA_ne _ (by decide))).trans (alts_hd (saneF_at _ _ 0 20 1 _ (by decide) p5 _ _ _))) (fun _ => by refine srOk_all ?_; simp only [srOk]; (repeat' (first | exact trivial | refine And.intro ?_ ?_)); all_goals (first | exact trivial | (refine ⟨_, rfl, ?_⟩; (first | rfl | (simp [rfO, rfVs, rfV, rfVs_flat]; done) | (simp [bk, AV.cells, pbC, rfO, rfVs, rfV, h1.rf, h2.rf]; done))))) ?_) | refine RD.nil ⟨Nat.le_of_ble_eq_true rfl, ?_⟩)
                    refine fin (x := b5) ?_ (by (refine Wk.same (by decide) (by decide) (by decide) (by decide) ?_ ?_ rfl; all_goals ((try simp only [allL, allM]); (repeat' (first | exact trivial | refine And.intro ?_ ?_)); all_goals (first | rfl | exact ren_ro _ _ _ | exact bkc_ren h1 h2 (nm_lt (by decide)) (nm_lt (by decide)) | decide))))
                    rw [← p5]
                    unfold dB stOk
                    exact decide_eq_decide.2 (by omega)
              · repeat' (first | (refine RD.free rfl rfl rfl rfl rfl rfl ?_; apply Nx.of; (first | exact S.eql_f hk0 | exact S.gtr_f p2)) | (refine RD.free rfl rfl rfl rfl rfl rfl ?_; refine Nx.of (S.sub_one (by omega) (by omega)) ?_) | (refine RD.free rfl rfl rfl rfl rfl rfl ?_; apply Nx.of; (first | exact S.move | exact S.assign | exact S.fieldAddr rfl rfl rfl | exact S.pick_tt | exact S.pick_ff | exact S.idx_sl rfl rfl rfl (by assumption) (by omega))) | (refine RD.load rfl rfl rfl rfl rfl rfl rfl rfl ?_; apply Nx.of; (first | exact S.load1c rfl rfl rfl rfl | exact S.row0 rfl rfl rfl (fun _ => rfl) (range_at (by omega)) rfl)) | (refine RD.no rfl rfl rfl rfl ?_) | (refine RD.callN rfl rfl rfl rfl rfl rfl rfl rfl rfl (fun fl' => alts_hd (amidF_at _ _ _ _ p1 _ _ _)) (fun _ => by refine srOk_all ?_; simp only [srOk]; (repeat' (first | exact trivial | refine And.intro ?_ ?_)); all_goals (first | exact trivial | (refine ⟨_, rfl, ?_⟩; (first | rfl | (simp [rfO, rfVs, rfV, rfVs_flat]; done) | (simp [bk, AV.cells, pbC, rfO, rfVs, rfV, h1.rf, h2.rf]; done))))) ?_) | refine RD.nil ⟨Nat.le_of_ble_eq_true rfl, ?_⟩)
                refine fin (x := false) (dB_ff fun h => ?_) (by (refine Wk.same (by decide) (by decide) (by decide) (by decide) ?_ ?_ rfl; all_goals ((try simp only [allL, allM]); (repeat' (first | exact trivial | refine And.intro ?_ ?_)); all_goals (first | rfl | exact ren_ro _ _ _ | exact bkc_ren h1 h2 (nm_lt (by decide)) (nm_lt (by decide)) | decide))))
                unfold stOk at h
                omega
        · subst he
          refine blk_n (sq_n (Tr.wk hwk ?_))
          repeat' (first | refine RT.nil ?_ | refine Tr.region ?_ | (refine RT.goK rfl rfl rfl rfl ?_; apply Nx.of; (first | exact S.move | exact S.assign | exact S.add_one (by omega))))
          refine lp_n (k + 1, dB (stOk B k)) ⟨fun h => ⟨hlt, fun i hi => ?_⟩, fun h hh => ?_⟩ ?_ (by (refine Wk.same (by decide) (by decide) (by decide) (by decide) ?_ ?_ rfl; all_goals ((try simp only [allL, allM]); (repeat' (first | exact trivial | refine And.intro ?_ ?_)); all_goals (first | rfl | exact ren_ro _ _ _ | exact bkc_ren h1 h2 (nm_lt (by decide)) (nm_lt (by decide)) | decide))))
          · by_cases e : i = k
            · subst e; exact dB_eq.1 h
            · exact hall i (by omega)
          · have h' : dB (stOk B k) = false := h
            rw [dB_tt (hh.1.2 k hlt)] at h'
            cases h'
          · show (if dB (stOk B k) = true then B.ns - (k + 1) + 1 else 0) < (if true = true then B.ns - k + 1 else 0)
            rw [if_pos rfl]
            split <;> omega
      · have hlt' : ¬ (k : Int) < B.ns := by omega
        have hst : stsOk B := ⟨hsh.1, fun i hi => hall i (by omega)⟩
        repeat' (first | refine RT.nil ?_ | refine sq_n ?_ | refine Tr.seq ?_ | refine Tr.region ?_ | refine Tr.cond_f rfl ?_ | refine Tr.exit ?_ | refine sq_x ?_ | refine Tr.block ?_ | refine blk_hit rfl ?_ | refine lp_x ?_ | (refine RT.goK rfl rfl rfl rfl ?_; refine Nx.of (S.lss_f hlt') ?_) | (refine RT.goK rfl rfl rfl rfl ?_; apply Nx.of; (first | exact S.move | exact S.assign | exact S.load1c rfl rfl rfl rfl | exact S.fieldAddr rfl rfl rfl | exact S.pick_tt)) | (refine RT.goK rfl rfl rfl rfl ?_; apply Nx.of; (first | exact S.len_sl rfl rfl rfl (by assumption))))
        refine Tr.loop (fun p : Nat × Bool => stL Try.f12.ntmps [] [(1, .ptr 2 0), (3, .bool p.2), (6, .int .i64 (p.1 : Int))] [(2, some (.cells (bk B a1 a2).cells)), (0, some (oSt B)), (1, some (oCk B))] 3) (fun p => (p.2 = true → p.1 ≤ 3 ∧ ∀ i, i < p.1 → 0 ≤ B.cost i ∧ B.cost i ≤ 30) ∧ (p.2 = false → ¬ bkOk B)) (fun p => if p.2 then 3 - p.1 + 1 else 0) (0, true) ⟨fun _ => ⟨Nat.zero_le _, fun i hi => absurd hi (Nat.not_lt_zero i)⟩, fun h => by cases h⟩ (by (refine Wk.same (by decide) (by decide) (by decide) (by decide) ?_ ?_ rfl; all_goals ((try simp only [allL, allM]); (repeat' (first | exact trivial | refine And.intro ?_ ?_)); all_goals (first | rfl | exact ren_ro _ _ _ | exact bkc_ren h1 h2 (nm_lt (by decide)) (nm_lt (by decide)) | decide)))) (fun ⟨k, b⟩ ⟨hb1, hb0⟩ => ?_)
        cases b with
        | false =>
          have hbad := hb0 rfl
          repeat' (first | refine RT.nil ?_ | refine sq_n ?_ | refine Tr.seq ?_ | refine Tr.region ?_ | refine Tr.cond_t rfl ?_ | refine Tr.cond_f rfl ?_ | refine Tr.ret ?_ | refine sq_r ?_ | refine Tr.exit ?_ | refine sq_x ?_ | refine Tr.block ?_ | refine blk_hit rfl ?_ | refine lp_x ?_ | refine un_x ?_ | (refine Tr.unroll 1 ?_) | (refine RT.goK rfl rfl rfl rfl ?_; apply Nx.of; (first | exact S.move | exact S.assign | exact S.not_f | exact S.pick_ff)) | (refine RT.no rfl rfl rfl ?_))
          (first | refine rt_go rfl ?_)
          exact ck60 hbad
        | true =>
          obtain ⟨hk, hco⟩ := hb1 rfl
          replace hk : k ≤ 3 := hk
          clear hb0 hb1
          by_cases hw3 : k < 3
          · have hw3' : (k : Int) < 3 := by omega
            obtain ⟨b, hC'⟩ : ∃ b, dB (0 ≤ B.cost k ∧ B.cost k ≤ 30) = b := ⟨_, rfl⟩
            have hC : AV.bool (decide (0 ≤ B.cost k ∧ B.cost k ≤ 30)) = .bool b := by rw [← hC']; unfold dB; exact congrArg AV.bool (decide_eq_decide.2 Iff.rfl)
            repeat' (first | refine RT.nil ?_ | refine sq_n ?_ | refine Tr.seq ?_ | refine Tr.region ?_ | refine Tr.cond_t rfl ?_ | refine Tr.skip ?_ | refine Tr.block ?_ | refine blk_n ?_ | (refine RT.goK rfl rfl rfl rfl ?_; refine Nx.of (S.lss_t hw3') ?_) | (refine RT.call rfl rfl rfl (val_is hC (Amid_at (B.cost k) 0 30 _ _ _)) rfl rfl (Nat.le_refl _) ?_) | (refine RT.goK rfl rfl rfl rfl ?_; apply Nx.of; (first | exact S.move | exact S.assign | exact S.fieldAddr rfl rfl rfl | exact S.pick_tt | exact S.add_one (by omega) | exact S.idx_arr rfl rfl rfl (show _ < 3 by omega) | exact S.load1c rfl rfl rfl (cost_at hw3))))
            refine lp_n (k + 1, b) ⟨fun h => ⟨hw3, fun i hi => ?_⟩, fun h hh => ?_⟩ ?_ (by (refine Wk.same (by decide) (by decide) (by decide) (by decide) ?_ ?_ rfl; all_goals ((try simp only [allL, allM]); (repeat' (first | exact trivial | refine And.intro ?_ ?_)); all_goals (first | rfl | exact ren_ro _ _ _ | exact bkc_ren h1 h2 (nm_lt (by decide)) (nm_lt (by decide)) | decide))))
            · by_cases e : i = k
              · subst e; exact dB_eq.1 (hC'.trans h)
              · exact hco i (by omega)
            · have hx : 0 ≤ B.cost k ∧ B.cost k ≤ 30 := by
                obtain ⟨_, c0, c1, c2⟩ := hh.2.1
                obtain rfl | rfl | rfl : k = 0 ∨ k = 1 ∨ k = 2 := by omega
                · exact c0
                · exact c1
                · exact c2
              have : b = true := hC'.symm.trans (dB_tt hx)
              rw [this] at h
              cases h
            · show (if b = true then 3 - (k + 1) + 1 else 0) < (if true = true then 3 - k + 1 else 0)
              rw [if_pos rfl]
              split <;> omega
          · have hw3' : ¬ (k : Int) < 3 := by omega
            have hwe : weaOk B := ⟨hsh.2.1, hco 0 (by omega), hco 1 (by omega), hco 2 (by omega)⟩
            repeat' (first | refine RT.nil ?_ | refine sq_n ?_ | refine Tr.seq ?_ | refine Tr.region ?_ | refine Tr.cond_f rfl ?_ | refine Tr.exit ?_ | refine sq_x ?_ | refine Tr.block ?_ | refine blk_hit rfl ?_ | refine lp_x ?_ | (refine RT.goK rfl rfl rfl rfl ?_; refine Nx.of (S.lss_f hw3') ?_) | (refine RT.goK rfl rfl rfl rfl ?_; apply Nx.of; (first | exact S.move | exact S.assign | exact S.pick_tt)))
            refine Tr.loop (fun p : Nat × Bool => stL Try.f12.ntmps [] [(1, .ptr 2 0), (3, .bool p.2), (7, .int .i64 (p.1 : Int))] [(2, some (.cells (bk B a1 a2).cells)), (0, some (oSt B)), (1, some (oCk B))] 3) (fun p => (p.2 = true → p.1 ≤ B.nc ∧ ∀ i, i < p.1 → ckOk B (B.ck i) (B.rd i) (B.er i)) ∧ (p.2 = false → ¬ bkOk B)) (fun p => if p.2 then B.nc - p.1 + 1 else 0) (0, true) ⟨fun _ => ⟨Nat.zero_le _, fun i hi => absurd hi (Nat.not_lt_zero i)⟩, fun h => by cases h⟩ (by (refine Wk.same (by decide) (by decide) (by decide) (by decide) ?_ ?_ rfl; all_goals ((try simp only [allL, allM]); (repeat' (first | exact trivial | refine And.intro ?_ ?_)); all_goals (first | rfl | exact ren_ro _ _ _ | exact bkc_ren h1 h2 (nm_lt (by decide)) (nm_lt (by decide)) | decide)))) (fun ⟨k, b⟩ ⟨hb1, hb0⟩ => ?_)
            cases b with
            | false =>
              have hbad := hb0 rfl
              repeat' (first | refine RT.nil ?_ | refine sq_n ?_ | refine Tr.seq ?_ | refine Tr.region ?_ | refine Tr.cond_t rfl ?_ | refine Tr.cond_f rfl ?_ | refine Tr.ret ?_ | refine sq_r ?_ | refine Tr.exit ?_ | refine sq_x ?_ | refine blk_hit rfl ?_ | refine lp_x ?_ | (refine RT.goK rfl rfl rfl rfl ?_; apply Nx.of; (first | exact S.move | exact S.assign | exact S.not_f | exact S.pick_ff)) | (refine RT.no rfl rfl rfl ?_))
              (first | refine rt_go rfl ?_)
              exact ck60 hbad
            | true =>
              obtain ⟨hk, hcl⟩ := hb1 rfl
              replace hk : k ≤ B.nc := hk
              clear hb0 hb1
              by_cases hlt3 : k < B.nc
              · have hlt3' : (k : Int) < B.nc := by omega
                obtain ⟨b, hC'⟩ : ∃ b, dB (ckOk B (B.ck k) (B.rd k) (B.er k)) = b := ⟨_, rfl⟩
                repeat' (first | refine RT.nil ?_ | refine sq_n ?_ | refine Tr.seq ?_ | refine Tr.region ?_ | refine Tr.cond_t rfl ?_ | refine Tr.skip ?_ | refine Tr.block ?_ | (refine RT.goK rfl rfl rfl rfl ?_; refine Nx.of (S.lss_t hlt3') ?_) | (refine RT.goK rfl rfl rfl rfl ?_; apply Nx.of; (first | exact S.move | exact S.load1c rfl rfl rfl rfl | exact S.fieldAddr rfl rfl rfl | exact S.pick_tt)) | (refine RT.goK rfl rfl rfl rfl ?_; apply Nx.of; (first | exact S.len_sl rfl rfl rfl (by assumption))))
                refine Tr.openK un12_14 (by kernel_rfl) (by kernel_rfl) (clF6 B a1 a2 (B.ck k) (B.rd k) (B.er k) b) (clF6_calm hn _ _ _ _ hC') ?_
                repeat' (first | (refine RD.free rfl rfl rfl rfl rfl rfl ?_; apply Nx.of; (first | exact S.move | exact S.assign | exact S.fieldAddr rfl rfl rfl | exact S.idx_sl rfl rfl rfl (by assumption) (by omega))) | (refine RD.load rfl rfl rfl rfl rfl rfl rfl rfl ?_; apply Nx.of; (first | exact S.load1c rfl rfl rfl rfl | exact S.loadNc rfl rfl rfl rfl | exact S.rowN0 rfl rfl rfl (fun _ => rfl) (range_at (by omega)) rfl)) | (refine RD.callN rfl rfl rfl rfl rfl rfl rfl rfl rfl (fun fl' => one1_at ⟨_, rfl, ⟨h1, h2, rfl, rfl, by decide⟩⟩ fl') (fun _ => by refine srOk_all ?_; simp only [srOk]; (repeat' (first | exact trivial | refine And.intro ?_ ?_)); all_goals (first | exact trivial | (refine ⟨_, rfl, ?_⟩; (first | rfl | (simp [rfO, rfVs, rfV, rfVs_flat]; done) | (simp [bk, AV.cells, pbC, rfO, rfVs, rfV, h1.rf, h2.rf]; done))))) ?_) | refine RD.nil ⟨Nat.le_of_ble_eq_true rfl, ?_⟩)
                repeat' (first | refine RT.nil ?_ | refine sq_n ?_ | refine Tr.region ?_ | refine blk_n ?_ | (refine RT.goK rfl rfl rfl rfl ?_; apply Nx.of; (first | exact S.move | exact S.assign | exact S.add_one (by omega))))
                refine lp_n (k + 1, b) ⟨fun h => ⟨hlt3, fun i hi => ?_⟩, fun h hh => ?_⟩ ?_ (by (refine Wk.same (by decide) (by decide) (by decide) (by decide) ?_ ?_ rfl; all_goals ((try simp only [allL, allM]); (repeat' (first | exact trivial | refine And.intro ?_ ?_)); all_goals (first | rfl | exact ren_ro _ _ _ | exact bkc_ren h1 h2 (nm_lt (by decide)) (nm_lt (by decide)) | decide))))
                · by_cases e : i = k
                  · subst e; exact dB_eq.1 (hC'.trans h)
                  · exact hcl i (by omega)
                · have : b = true := hC'.symm.trans (dB_tt (hh.2.2.1.2 k hlt3))
                  rw [this] at h
                  cases h
                · show (if b = true then B.nc - (k + 1) + 1 else 0) < (if true = true then B.nc - k + 1 else 0)
                  rw [if_pos rfl]
                  split <;> omega
              · have hlt3' : ¬ (k : Int) < B.nc := by omega
                repeat' (first | refine RT.nil ?_ | refine sq_n ?_ | refine Tr.seq ?_ | refine Tr.region ?_ | refine Tr.cond_f rfl ?_ | refine Tr.skip ?_ | refine Tr.ret ?_ | refine Tr.exit ?_ | refine sq_x ?_ | refine blk_hit rfl ?_ | refine lp_x ?_ | (refine RT.goK rfl rfl rfl rfl ?_; refine Nx.of (S.lss_f hlt3') ?_) | (refine RT.goK rfl rfl rfl rfl ?_; apply Nx.of; (first | exact S.move | exact S.assign | exact S.load1c rfl rfl rfl rfl | exact S.fieldAddr rfl rfl rfl | exact S.not_t | exact S.pick_tt)) | (refine RT.goK rfl rfl rfl rfl ?_; apply Nx.of; (first | exact S.len_sl rfl rfl rfl (by assumption))))
                (first | refine rt_go rfl ?_)
                exact ck0 ⟨hst, hwe, ⟨hsh.2.2, fun i hi => hcl i (by omega)⟩, hr⟩
  · have hR : AV.bool (decide (0 ≤ B.rate ∧ B.rate ≤ 99)) = .bool false := by rw [decide_eq_false hr]
    repeat' (first | refine RT.nil ?_ | refine sq_n ?_ | refine Tr.seq ?_ | refine Tr.region ?_ | refine Tr.block ?_ | (refine RT.splitd rfl rfl (fun _ => ?_) (fun _ => ?_)) | (refine RT.call rfl rfl rfl (val_is hR (Amid_at B.rate 0 99 _ _ _)) rfl rfl (Nat.le_refl _) ?_) | (refine RT.call rfl rfl rfl (Amid_at _ _ _ _ _ _) rfl rfl (Nat.le_refl _) ?_) | (refine RT.goK rfl rfl rfl rfl ?_; apply Nx.of; (first | exact S.move | exact S.assign | exact S.load1c rfl rfl rfl rfl | exact S.fieldAddr rfl rfl rfl | exact S.leq | exact S.pick_tt | exact S.pick_ff | exact S.box)) | (refine RT.goK rfl rfl rfl rfl ?_; apply Nx.of; (first | exact S.len_sl rfl rfl rfl (by assumption))) | (refine RT.no rfl rfl rfl ?_))
    all_goals
      repeat' (first | refine RT.nil ?_ | refine sq_n ?_ | refine Tr.seq ?_ | refine Tr.region ?_ | refine Tr.cond_t rfl ?_ | refine Tr.cond_f rfl ?_ | refine Tr.ret ?_ | refine sq_r ?_ | refine Tr.exit ?_ | refine sq_x ?_ | refine Tr.block ?_ | refine blk_hit rfl ?_ | refine un_x ?_ | (refine Tr.unroll 1 ?_) | (refine RT.goK rfl rfl rfl rfl ?_; apply Nx.of; (first | exact S.move | exact S.assign | exact S.not_f | exact S.pick_ff)) | (refine RT.no rfl rfl rfl ?_))
      (first | refine rt_go rfl ?_)
      exact ck60 fun h => hr h.2.2.2
end Go.Proofs.Ytlnmcadbmpiopaa

/- The reference of layer 6: Check, truths and asked at any memory. -/
namespace Go.Proofs.Ytlnmcadbmpiopaa
open Go Go.Ev

theorem Check6_at {B : CBook} {a1 a2 : AV} {m : List (Nat × Option AObj)} {c : Nat} (h : BkIn B a1 a2 m c) (hn : B.ns ≤ 9223372036854775807) (fl : Nat) : OkAt 0 Try.prog fl 12 [bk B a1 a2] (ofM m) c (.int .i64 (ckV B)) (ofM m) c :=
  (Check6_can B a1 a2 h.h1 h.h2 hn).pure (.int _ _) (h.entry _ fun _ => rfl) fl
def tTr (j : Nat) : Nat := if j = 0 then 5 else 97 + j
theorem tTr_inj : ∀ i j, tTr i = tTr j → i = j := fun i j h => by unfold tTr at h; (repeat' split at h) <;> omega
theorem rtruths_en {B : CBook} {a1 a2 v1 v2 : AV} (h1 : IsSl a1 B.ns 0) (h2 : IsSl a2 B.nc 1) (hB : bk5 B) {m : List (Nat × Option AObj)} {c : Nat} (hm : ∀ x o, lookM m x = some o → x < c) (hen : Entry 0 (ofM m) c [bk B v1 v2] [(0, some (oSt B)), (1, some (oCk B))] 2 [bk B a1 a2]) (fl : Nat) :
    OkAt 0 Try.prog fl 51 [bk B v1 v2] (ofM m) c (grI c (gW B).length) (ofM (goM B c (gW B) ++ m)) (c + 200000) := by
  obtain ⟨L, hL⟩ : ∃ l, gW B = l := ⟨_, rfl⟩
  have hcan := rtruths_can5 B a1 a2 h1 h2 hB
  rw [hL] at hcan ⊢
  have := CanS.freshU tTr (H' := ofM (goM B c L ++ m)) (k := 200000) (v0 := grI 0 L.length) hcan (fun j hj => by unfold tTr; split <;> omega) tTr_inj
    hen (fun v1 H1 c1 ⟨g1, g2, g3⟩ => ?_) fl
  · rw [grI_ren (fun y => c + y) (y := c) rfl] at this
    exact this
  · refine ⟨by rw [g1, grI_ren (fun y => 2 + tTr y) (y := 7) rfl], by omega, fun x o hx => ?_⟩
    rw [ofM_get] at hx
    by_cases hk : ∀ e ∈ goM B c L, e.1 ≠ x
    · rw [look_skip hk] at hx
      exact .inl ⟨hm x o hx, getM hx⟩
    · obtain ⟨e, he⟩ := Classical.not_forall.1 hk
      obtain ⟨he1, he2⟩ := Classical.not_imp.1 he
      have hex : e.1 = x := Classical.byContradiction he2
      refine .inr ?_
      have h5 : ∃ o2, lookM (goM B c L) x = some o2 := by
        rcases List.mem_append.1 he1 with h | h
        · have hL : L ≠ [] := fun q => by rw [q] at h; cases h
          have := ouM_keys e h
          rw [hex] at this
          subst this
          exact ⟨_, goM_list hL⟩
        · obtain ⟨j, hj, h2⟩ := keys_tms _ _ e h
          rw [hex, Nat.zero_add] at h2
          have := goM_tr (B := B) (c := c) (List.getElem?_eq_getElem hj)
          rcases h2 with rfl | rfl
          · exact ⟨_, this.1⟩
          · exact ⟨_, this.2⟩
      obtain ⟨o2, h5⟩ := h5
      have h6 := look_app (gs := m) h5
      rw [hx] at h6
      cases h6
      have eA : ∀ j, j < L.length → 2 + tTr (1 + 2 * j) = fA j ∧ 2 + tTr (2 + 2 * j) = gA j := fun j hj => by
        unfold tTr fA gA
        rw [if_neg (by omega), if_neg (by omega)]; omega
      have eC : ∀ j, c + (1 + 2 * j) = fC c j ∧ c + (2 + 2 * j) = gC c j := fun j => by unfold fC gC; omega
      rcases goM_look h5 with ⟨rfl, hne, rfl⟩ | ⟨j, u, hj, h | h⟩
      · refine ⟨0, .grown (tcsF (fun j => 1 + 2 * j) (fun j => 2 + 2 * j) B.ns 0 L) 3, by omega, ?_, ?_⟩
        · show H1.get 7 = some (AObj.grown (AV.rens _ (tcsF _ _ B.ns 0 L)) 3)
          rw [tcsF_ren, g3 7 _ (goA_list hne)]
          refine congrArg some (congrArg (fun cs => AObj.grown cs 3) ?_)
          exact tcsF_congr L 0 0 fun j hj => by
            rw [Nat.zero_add]
            exact ⟨(eA j hj).1.symm, (eA j hj).2.symm⟩
        · show _ = AObj.grown (AV.rens _ (tcsF _ _ B.ns 0 L)) 3
          rw [tcsF_ren]
          refine congrArg (fun cs => AObj.grown cs 3) ?_
          exact tcsF_congr L 0 0 fun j hj => by
            rw [Nat.zero_add]
            exact ⟨(eC j).1.symm, (eC j).2.symm⟩
      · obtain ⟨rfl, rfl⟩ := h
        have hjl : j < L.length := Classical.byContradiction fun q => by rw [List.getElem?_eq_none (by omega)] at hj; cases hj
        refine ⟨1 + 2 * j, .grown (fE u.r B.ns) 1, (eC j).1.symm, ?_, (ren_grown _ _ _ _).symm⟩
        rw [ren_grown, (eA j hjl).1]
        exact g3 _ _ (goA_tr hj).1
      · obtain ⟨rfl, rfl⟩ := h
        have hjl : j < L.length := Classical.byContradiction fun q => by rw [List.getElem?_eq_none (by omega)] at hj; cases hj
        refine ⟨2 + 2 * j, .grown (fE u.c B.ns) 1, (eC j).2.symm, ?_, (ren_grown _ _ _ _).symm⟩
        rw [ren_grown, (eA j hjl).2]
        exact g3 _ _ (goA_tr hj).2

theorem rtruths_at {B : CBook} {a1 a2 : AV} (h1 : IsSl a1 B.ns 0) (h2 : IsSl a2 B.nc 1) (hB : bkOk B) {m : List (Nat × Option AObj)} {c : Nat} (hm : ∀ x o, lookM m x = some o → x < c) (m0 : lookM m 0 = some (oSt B)) (m1 : lookM m 1 = some (oCk B)) (fl : Nat) :
    OkAt 0 Try.prog fl 51 [bk B a1 a2] (ofM m) c (grI c (gW B).length) (ofM (goM B c (gW B) ++ m)) (c + 200000) :=
  rtruths_en h1 h2 hB.five hm
    (Entry.win (H := ofM m) (c := c) (W := [(0, 0, none), (1, 0, none)]) (CS := [flat (stE B) (List.range B.ns), flat (ckE B) (List.range B.nc)]) rfl
      ⟨⟨_, getM m0, .inr ⟨_, rfl, cut_all rfl⟩⟩, pls_flat _ _, ⟨_, getM m1, .inr ⟨_, rfl, cut_all rfl⟩⟩, pls_flat _ _, trivial⟩
      (show ArgsW _ [bk B a1 a2] [bk B a1 a2] from ⟨bk_arg h1 h2 rfl rfl, trivial⟩)) fl
set_option maxRecDepth 100000 in
theorem asked_no (B : CBook) (a1 a2 : AV) (h1 : IsSl a1 B.ns 0) (h2 : IsSl a2 B.nc 1) (hn : B.ns ≤ 9223372036854775807) (hB : ¬ bkOk B) (q : Bool) : CanS 0 Try.prog 58 2 [bk B a1 a2, .bool q] [(0, some (oSt B)), (1, some (oCk B))] 2 fun v _ _ => v = .tup [.nils, .int .i64 60] := by
  have hk : AV.int .i64 (ckV B) = .int .i64 60 := (ck60 hB).symm
  refine CanS.mk Try.func58 rfl rfl rfl ?_
  repeat' (first | refine RT.nil ?_ | refine sq_n ?_ | refine Tr.seq ?_ | refine Tr.region ?_ | refine Tr.cond_t rfl ?_ | refine Tr.ret ?_ | refine sq_r ?_ | (refine RT.call rfl rfl rfl (val_is hk (Check6_at ⟨h1, h2, rfl, rfl, by decide⟩ hn _)) rfl rfl (Nat.le_refl _) ?_) | (refine RT.goK rfl rfl rfl rfl ?_; apply Nx.of; (first | exact S.neq_t (by decide))) | (refine RT.goK rfl rfl rfl rfl ?_; apply Nx.of; (first | exact S.move | exact S.assign | exact S.loadNc rfl rfl rfl rfl | exact S.box)))
  (first | refine rt_go rfl ?_)
  rfl
theorem m3_low {B : CBook} {a1 a2 : AV} : ∀ x o, lookM [(2, some (.cells (bk B a1 a2).cells)), (0, some (oSt B)), (1, some (oCk B))] x = some o → x < 3 := fun x o hx => by have := lookM_mem hx; simp at this; omega
set_option maxRecDepth 100000 in
theorem asked_false (B : CBook) (a1 a2 : AV) (h1 : IsSl a1 B.ns 0) (h2 : IsSl a2 B.nc 1) (hn : B.ns ≤ 9223372036854775807) (hB : bkOk B) (hW : gW B = []) : CanS 0 Try.prog 58 2 [bk B a1 a2, .bool true] [(0, some (oSt B)), (1, some (oCk B))] 2 fun v _ _ => v = .tup [.nils, .int .i64 62] := by
  have hk : AV.int .i64 (ckV B) = .int .i64 0 := (ck0 hB).symm
  have htr : ∀ fl, OkAt 0 Try.prog fl 51 [bk B a1 a2] (ofM [(2, some (.cells (bk B a1 a2).cells)), (0, some (oSt B)), (1, some (oCk B))]) 3 .nils (ofM [(2, some (.cells (bk B a1 a2).cells)), (0, some (oSt B)), (1, some (oCk B))]) 200003 := fun fl => by
    have := rtruths_at h1 h2 hB (m3_low (B := B) (a1 := a1) (a2 := a2)) rfl rfl fl
    rw [hW] at this
    exact this
  have hsl : IsSl AV.nils 0 3 := IsSl.nils 3
  refine CanS.mk Try.func58 rfl rfl rfl ?_
  repeat' (first | refine RT.nil ?_ | refine sq_n ?_ | refine Tr.seq ?_ | refine Tr.region ?_ | refine Tr.cond_t rfl ?_ | refine Tr.cond_f rfl ?_ | refine Tr.skip ?_ | refine Tr.ret ?_ | refine sq_r ?_ | (refine RT.call rfl rfl rfl (val_is hk (Check6_at ⟨h1, h2, rfl, rfl, by decide⟩ hn _)) rfl rfl (Nat.le_refl _) ?_) | (refine RT.call rfl rfl rfl (htr _) rfl rfl (by decide) ?_) | (refine RT.goK rfl rfl rfl rfl ?_; first | refine Nx.of (S.len_sl rfl rfl rfl hsl) ?_) | (refine RT.goK rfl rfl rfl rfl ?_; apply Nx.of; (first | exact S.eql_t (by decide) | exact S.neq_f (by decide))) | (refine RT.goK rfl rfl rfl rfl ?_; apply Nx.of; (first | exact S.move | exact S.assign | exact S.loadNc rfl rfl rfl rfl | exact S.not_t | exact S.box)))
  (first | refine rt_go rfl ?_)
  rfl
set_option maxRecDepth 100000 in
theorem asked_yes (B : CBook) (a1 a2 : AV) (h1 : IsSl a1 B.ns 0) (h2 : IsSl a2 B.nc 1) (hn : B.ns ≤ 9223372036854775807) (hB : bkOk B) (hW : gW B ≠ []) : CanS 0 Try.prog 58 2 [bk B a1 a2, .bool true] [(0, some (oSt B)), (1, some (oCk B))] 2 fun v H1 c1 => v = .tup [.gs 3 (gW B).length, .int .i64 0] ∧ c1 = 200003 ∧ ∀ x o, lookM (goM B 3 (gW B)) x = some o → H1.get x = some o := by
  have hk : AV.int .i64 (ckV B) = .int .i64 0 := (ck0 hB).symm
  have hlp : 0 < (gW B).length := List.length_pos_iff.2 hW
  have htr : ∀ fl, OkAt 0 Try.prog fl 51 [bk B a1 a2] (ofM [(2, some (.cells (bk B a1 a2).cells)), (0, some (oSt B)), (1, some (oCk B))]) 3 (.gs 3 (gW B).length) (ofM (goM B 3 (gW B) ++ [(2, some (.cells (bk B a1 a2).cells)), (0, some (oSt B)), (1, some (oCk B))])) 200003 := fun fl => by
    have := rtruths_at h1 h2 hB (m3_low (B := B) (a1 := a1) (a2 := a2)) rfl rfl fl
    rw [show grI 3 (gW B).length = .gs 3 (gW B).length by cases hq : (gW B).length with | zero => omega | succ n => rfl] at this
    exact this
  have hsl : IsSl (AV.gs 3 (gW B).length) (gW B).length 3 := IsSl.gs 3 _
  have hne : ¬ ((gW B).length : Int) = 0 := by omega
  refine CanS.mk Try.func58 rfl rfl rfl ?_
  repeat' (first | refine RT.nil ?_ | refine sq_n ?_ | refine Tr.seq ?_ | refine Tr.region ?_ | refine Tr.cond_f rfl ?_ | refine Tr.skip ?_ | refine Tr.ret ?_ | (refine RT.call rfl rfl rfl (val_is hk (Check6_at ⟨h1, h2, rfl, rfl, by decide⟩ hn _)) rfl rfl (Nat.le_refl _) ?_) | (refine RT.call rfl rfl rfl (htr _) rfl rfl (by decide) ?_) | (refine RT.goK rfl rfl rfl rfl ?_; first | refine Nx.of (S.len_sl rfl rfl rfl hsl) ?_ | refine Nx.of (S.eql_f hne) ?_) | (refine RT.goK rfl rfl rfl rfl ?_; apply Nx.of; (first | exact S.neq_f (by decide))) | (refine RT.goK rfl rfl rfl rfl ?_; apply Nx.of; (first | exact S.move | exact S.assign | exact S.loadNc rfl rfl rfl rfl | exact S.not_t | exact S.box)))
  (first | refine rt_go rfl ?_)
  refine ⟨rfl, rfl, fun x o hx => ?_⟩
  rw [ofM_get]
  exact look_app hx
end Go.Proofs.Ytlnmcadbmpiopaa

/- The reference of layer 6: asked, ends at any memory; spans. -/
namespace Go.Proofs.Ytlnmcadbmpiopaa
open Go Go.Ev

section
variable {B : CBook} {a1 a2 : AV} {m : List (Nat × Option AObj)} {c : Nat}
theorem asked_no_at (h : BkIn B a1 a2 m c) (hn : B.ns ≤ 9223372036854775807) (hB : ¬ bkOk B) (q : Bool) (fl : Nat) : OkAt 0 Try.prog fl 58 [bk B a1 a2, .bool q] (ofM m) c (.tup [.nils, .int .i64 60]) (ofM m) c :=
  (asked_no B a1 a2 h.h1 h.h2 hn hB q).pure (fun _ => rfl) (h.entry _ fun _ => rfl) fl
theorem asked_false_at (h : BkIn B a1 a2 m c) (hn : B.ns ≤ 9223372036854775807) (hB : bkOk B) (hW : gW B = []) (fl : Nat) : OkAt 0 Try.prog fl 58 [bk B a1 a2, .bool true] (ofM m) c (.tup [.nils, .int .i64 62]) (ofM m) c :=
  (asked_false B a1 a2 h.h1 h.h2 hn hB hW).pure (fun _ => rfl) (h.entry _ fun _ => rfl) fl
theorem asked_yes_at (h1 : IsSl a1 B.ns 0) (h2 : IsSl a2 B.nc 1) (hn : B.ns ≤ 9223372036854775807) (hB : bkOk B) (hW : gW B ≠ []) (hm : ∀ x o, lookM m x = some o → x < c) (m0 : lookM m 0 = some (oSt B)) (m1 : lookM m 1 = some (oCk B)) (fl : Nat) :
    OkAt 0 Try.prog fl 58 [bk B a1 a2, .bool true] (ofM m) c (.tup [.gs (c + 1) (gW B).length, .int .i64 0]) (ofM (goM B (c + 1) (gW B) ++ m)) (c + 200001) := by
  have hcan := asked_yes B a1 a2 h1 h2 hn hB hW
  obtain ⟨L, hL⟩ : ∃ l, gW B = l := ⟨_, rfl⟩
  rw [hL] at hcan hW ⊢
  have := CanS.fresh (H' := ofM (goM B (c + 1) L ++ m)) (k := 200001) (v0 := .tup [.gs 1 L.length, .int .i64 0]) hcan
    (Entry.win (H := ofM m) (c := c) (W := [(0, 0, none), (1, 0, none)]) (CS := [flat (stE B) (List.range B.ns), flat (ckE B) (List.range B.nc)]) rfl
      ⟨⟨_, getM m0, .inr ⟨_, rfl, cut_all rfl⟩⟩, pls_flat _ _, ⟨_, getM m1, .inr ⟨_, rfl, cut_all rfl⟩⟩, pls_flat _ _, trivial⟩
      (show ArgsW _ [bk B a1 a2, .bool true] [bk B a1 a2, .bool true] from ⟨bk_arg h1 h2 rfl rfl, .pl (fun _ => rfl), trivial⟩)) (fun v1 H1 c1 ⟨g1, g2, g3⟩ => ?_) fl
  · exact this
  · refine ⟨by rw [g1]; rfl, g2, fun x o hx => ?_⟩
    rw [ofM_get] at hx
    by_cases hk : ∀ e ∈ goM B (c + 1) L, e.1 ≠ x
    · rw [look_skip hk] at hx
      exact .inl ⟨hm x o hx, getM hx⟩
    · obtain ⟨e, he⟩ := Classical.not_forall.1 hk
      obtain ⟨he1, he2⟩ := Classical.not_imp.1 he
      have hex : e.1 = x := Classical.byContradiction he2
      refine .inr ?_
      have h5 : ∃ o2, lookM (goM B (c + 1) L) x = some o2 := by
        rcases List.mem_append.1 he1 with h | h
        · have := ouM_keys e h
          rw [hex] at this
          subst this
          exact ⟨_, goM_list hW⟩
        · obtain ⟨j, hj, h2⟩ := keys_tms _ _ e h
          rw [hex, Nat.zero_add] at h2
          have := goM_tr (B := B) (c := c + 1) (List.getElem?_eq_getElem hj)
          rcases h2 with rfl | rfl
          · exact ⟨_, this.1⟩
          · exact ⟨_, this.2⟩
      obtain ⟨o2, h5⟩ := h5
      have h6 := look_app (gs := m) h5
      rw [hx] at h6
      cases h6
      have eA : ∀ j, 2 + (2 + 2 * j) = fC 3 j ∧ 2 + (3 + 2 * j) = gC 3 j := fun j => by unfold fC gC; omega
      have eC : ∀ j, c + (2 + 2 * j) = fC (c + 1) j ∧ c + (3 + 2 * j) = gC (c + 1) j := fun j => by unfold fC gC; omega
      rcases goM_look h5 with ⟨rfl, hne, rfl⟩ | ⟨j, u, hj, h | h⟩
      · refine ⟨1, .grown (tcsF (fun j => 2 + 2 * j) (fun j => 3 + 2 * j) B.ns 0 L) 3, by omega, ?_, ?_⟩
        · show H1.get 3 = some (AObj.grown (AV.rens _ (tcsF _ _ B.ns 0 L)) 3)
          rw [tcsF_ren, g3 3 _ (goM_list hne)]
          refine congrArg some (congrArg (fun cs => AObj.grown cs 3) ?_)
          exact tcsF_congr L 0 0 fun j hj => by
            rw [Nat.zero_add]
            exact ⟨(eA j).1.symm, (eA j).2.symm⟩
        · show _ = AObj.grown (AV.rens _ (tcsF _ _ B.ns 0 L)) 3
          rw [tcsF_ren]
          refine congrArg (fun cs => AObj.grown cs 3) ?_
          exact tcsF_congr L 0 0 fun j hj => by
            rw [Nat.zero_add]
            exact ⟨(eC j).1.symm, (eC j).2.symm⟩
      · obtain ⟨rfl, rfl⟩ := h
        refine ⟨2 + 2 * j, .grown (fE u.r B.ns) 1, (eC j).1.symm, ?_, (ren_grown _ _ _ _).symm⟩
        rw [ren_grown, (eA j).1]
        exact g3 _ _ (goM_tr hj).1
      · obtain ⟨rfl, rfl⟩ := h
        refine ⟨3 + 2 * j, .grown (fE u.c B.ns) 1, (eC j).2.symm, ?_, (ren_grown _ _ _ _).symm⟩
        rw [ren_grown, (eA j).2]
        exact g3 _ _ (goM_tr hj).2
theorem ends_at {v : AV} {f : Nat → Int} {n : Nat} (h : Li m v f n) (h0 : 0 < n) (hn : n ≤ 1000000) (fl : Nat) : OkAt 0 Try.prog fl 60 [v] (ofM m) c (.agg [.int .i64 (loN f n), .int .i64 (hiN f n)]) (ofM m) c := by
  obtain ⟨w, hw, ha⟩ := h.ex
  obtain ⟨a, h1, h2⟩ := ha [w] 0 rfl
  exact (ends_can f n a h2 h0 hn).pure (fun _ => rfl) (Entry.win (H := ofM m) (c := c) (W := [w]) (CS := [fE f n]) rfl ⟨hw, fE_pls f n, trivial⟩ (show ArgsW [w] [v] [a] from ⟨h1, trivial⟩)) fl
end
/-- The list's truths, by their places. -/
noncomputable def gT (B : CBook) (i : Nat) : Tru := (gW B)[i]?.getD (tru0 0)
theorem gT_at {B : CBook} {i : Nat} (h : i < (gW B).length) : (gW B)[i]? = some (gT B i) := by
  unfold gT
  rw [List.getElem?_eq_getElem h]
  rfl
theorem gW_nil {B : CBook} (hB : bkOk B) : gW B = [] ↔ Ws B = [] := by
  constructor
  · intro h
    refine List.eq_nil_iff_forall_not_mem.2 fun t ht => ?_
    have := (mem_gW hB.1).2 ((mem_Ws hB.1 hB.2.1).1 ht)
    rw [h] at this
    cases this
  · intro h
    refine List.eq_nil_iff_forall_not_mem.2 fun t ht => ?_
    have := (mem_Ws hB.1 hB.2.1).2 ((mem_gW hB.1).1 ht)
    rw [h] at this
    cases this
theorem gW_sp {B : CBook} (hB : bkOk B) (hW : gW B ≠ []) (num : Tru → Int) : IsSp num (Ws B) (loN (fun i => num (gT B i)) (gW B).length) (hiN (fun i => num (gT B i)) (gW B).length) := by
  have hlp : 0 < (gW B).length := List.length_pos_iff.2 hW
  have mem : ∀ i, i < (gW B).length → gT B i ∈ Ws B := fun i hi => (mem_Ws hB.1 hB.2.1).2 ((mem_gW hB.1).1 (List.mem_of_getElem? (gT_at hi)))
  have of : ∀ t ∈ Ws B, ∃ i, i < (gW B).length ∧ gT B i = t := fun t ht => by
    obtain ⟨i, hi, he⟩ := List.getElem_of_mem ((mem_gW hB.1).2 ((mem_Ws hB.1 hB.2.1).1 ht))
    refine ⟨i, hi, ?_⟩
    have := gT_at hi
    rw [List.getElem?_eq_getElem hi, he] at this
    exact (Option.some.inj this).symm
  obtain ⟨l1, l2⟩ := loN_spec (fun i => num (gT B i)) (gW B).length
  obtain ⟨u1, u2⟩ := hiN_spec (fun i => num (gT B i)) (gW B).length
  refine ⟨fun t ht => ?_, ?_, ?_⟩
  · obtain ⟨i, hi, rfl⟩ := of t ht
    exact ⟨l1 i hi, u1 i hi⟩
  · rcases l2 with h | ⟨i, hi, h⟩
    · exact ⟨gT B 0, mem 0 hlp, h.symm⟩
    · exact ⟨gT B i, mem i hi, h⟩
  · rcases u2 with h | ⟨i, hi, h⟩
    · exact ⟨gT B 0, mem 0 hlp, h.symm⟩
    · exact ⟨gT B i, mem i hi, h⟩
theorem ans_gW {B : CBook} {q : Prop} (hB : bkOk B) (hq : q) (hW : gW B ≠ []) (num : Tru → Int) : AV.tup [.agg [.int .i64 (loN (fun i => num (gT B i)) (gW B).length), .int .i64 (hiN (fun i => num (gT B i)) (gW B).length)], .int .i64 0] = ansV B q num := by
  have hW' : Ws B ≠ [] := fun h => hW ((gW_nil hB).2 h)
  have e := ansE_ok hB hq hW'
  obtain ⟨x1, x2⟩ := (gW_sp hB hW num).uniq (sp_is num hW')
  unfold ansV ansL ansH
  rw [e, if_pos rfl, if_pos rfl, x1, x2]
end Go.Proofs.Ytlnmcadbmpiopaa

/- The reference of layer 6: Comes, Rough. -/
namespace Go.Proofs.Ytlnmcadbmpiopaa
open Go Go.Ev

theorem pinX_nf {f f1 : Nat} {args : List AV} {m m' : List (Nat × Option AObj)} {c c' c1 fl : Nat} {v : AV} {args1 : List AV} {H1 : T AObj} (h : f1 ≠ f) : pinX f args m c v m' c' fl f1 args1 H1 c1 = none := by
  unfold pinX
  rw [if_neg fun q => h q.1]
/-- The list of numbers that is built. -/
def tEx (x k : Nat) : AV := match k with | 0 => .sl x 0 0 0 | j + 1 => .gs x (j + 1)
def tO (f : Nat → Int) (k : Nat) : AObj := match k with | 0 => .cells [] | j + 1 => .grown (fE f (j + 1)) 1
def gsn (x y : Nat) : Nat := if y = 300000 then x else if y < 300000 then y else y + 2
theorem num_wk {B : CBook} {a1 a2 : AV} (h1 : IsSl a1 B.ns 0) (h2 : IsSl a2 B.nc 1) (hB : bkOk B) {f : Nat → Int} {k nt c x tt : Nat} {l l2 : List (Nat × AV)} {m : List (Nat × Option AObj)} (hx : 200005 ≤ x) (hc : c ≤ 300003)
    (hl : allL (fun t v => Go.Ev.look l t = some (v.ren (gsn x))) l2) (t8 : Go.Ev.look l tt = some (tEx x k)) (g8 : lookM m x = some (tO f k)) (hk : ∀ y o, y < 200005 → lookM (goM B 5 (gW B) ++ [(3, some (.cells [.int .i64 0, .int .i64 0])), (2, some (.cells (bk B a1 a2).cells)), (0, some (oSt B)), (1, some (oCk B))]) y = some o → lookM m y = some o) :
    Wk 0 2 2 (stL nt [] l m c) (stL nt [] ((tt, tEx 300000 k) :: l2) ((300000, some (tO f k)) :: (goM B 5 (gW B) ++ [(3, some (.cells [.int .i64 0, .int .i64 0])), (2, some (.cells (bk B a1 a2).cells)), (0, some (oSt B)), (1, some (oCk B))])) 300001) := by
  obtain ⟨σ, hσ⟩ : ∃ σ, gsn x = σ := ⟨_, rfl⟩
  rw [hσ] at hl
  have s3 : σ 300000 = x := by rw [← hσ]; rfl
  have sl : ∀ y, y < 300000 → σ y = y := fun y hy => by rw [← hσ]; unfold gsn; rw [if_neg (by omega), if_pos hy]
  have hlen := gWk_len hB 3
  have hlen : (gW B).length ≤ 59049 := hlen
  have keysM : ∀ e ∈ ((goM B 5 (gW B) ++ [(3, some (.cells [.int .i64 0, .int .i64 0])), (2, some (.cells (bk B a1 a2).cells)), (0, some (oSt B)), (1, some (oCk B))]) : List (Nat × Option AObj)), e.1 < 200005 := fun e he => by
    rcases List.mem_append.1 he with h | h
    · have := goM_keys e h
      omega
    · simp at h
      rcases h with rfl | rfl | rfl | rfl <;> simp
  have e8 : (tEx 300000 k).ren σ = tEx x k := by
    cases k with
    | zero => show AV.sl (σ 300000) _ _ _ = _; rw [s3]; rfl
    | succ j => show AV.gs (σ 300000) _ = _; rw [s3]; rfl
  have eO : (tO f k).ren σ = tO f k := by
    cases k with
    | zero => rfl
    | succ j => exact ren_grown _ _ _ _
  have hM : allM (fun y o => lookM m (σ y) = some (o.ren σ)) (goM B 5 (gW B) ++ [(3, some (.cells [.int .i64 0, .int .i64 0])), (2, some (.cells (bk B a1 a2).cells)), (0, some (oSt B)), (1, some (oCk B))]) := by
    have base : ∀ (P : List (Nat × Option AObj)), (∀ e ∈ P, e.1 < 200005) → allM (fun y o => lookM (goM B 5 (gW B) ++ [(3, some (.cells [.int .i64 0, .int .i64 0])), (2, some (.cells (bk B a1 a2).cells)), (0, some (oSt B)), (1, some (oCk B))]) y = some o ∧ o.ren σ = o) P → allM (fun y o => lookM m (σ y) = some (o.ren σ)) P := fun P => by
      induction P with
      | nil => exact fun _ _ => trivial
      | cons e P ih =>
        obtain ⟨y, o⟩ := e
        intro h0 h
        cases o with
        | none => exact ih (fun e he => h0 e (List.mem_cons_of_mem _ he)) h
        | some o =>
          have hy : y < 200005 := h0 _ List.mem_cons_self
          refine ⟨?_, ih (fun e he => h0 e (List.mem_cons_of_mem _ he)) h.2⟩
          show lookM m (σ y) = _
          rw [sl y (by omega), h.1.2]
          exact hk y o hy h.1.1
    refine base _ keysM (allM_app ?_ ?_)
    · refine allM_app ?_ (allM_tms _ _ fun j t ht => ?_)
      · by_cases hL : gW B = []
        · rw [hL]; trivial
        · rw [ouM_hd hL]
          refine ⟨⟨look_app (goM_list hL), ?_⟩, trivial⟩
          show AObj.grown (AV.rens σ (tcsF _ _ B.ns 0 (gW B))) 3 = _
          rw [tcsF_ren]
          refine congrArg (fun cs => AObj.grown cs 3) (tcsF_congr _ 0 0 fun j hj => ?_)
          rw [Nat.zero_add]
          exact ⟨sl _ (by unfold fC; omega), sl _ (by unfold gC; omega)⟩
      · rw [Nat.zero_add]
        have := goM_tr (B := B) (c := 5) ht
        exact ⟨⟨look_app this.1, ren_grown _ _ _ _⟩, look_app this.2, ren_grown _ _ _ _⟩
    · have sk : ∀ {y : Nat} {o : AObj}, y < 5 → lookM [(3, some (.cells [.int .i64 0, .int .i64 0])), (2, some (.cells (bk B a1 a2).cells)), (0, some (oSt B)), (1, some (oCk B))] y = some o → lookM (goM B 5 (gW B) ++ [(3, some (.cells [.int .i64 0, .int .i64 0])), (2, some (.cells (bk B a1 a2).cells)), (0, some (oSt B)), (1, some (oCk B))]) y = some o := fun {y o} hy h => (look_skip fun e he => by have := goM_keys e he; omega).trans h
      exact ⟨⟨sk (by decide) rfl, rfl⟩, ⟨sk (by decide) rfl, bkc_ren h1 h2 (sl 0 (by decide)) (sl 1 (by decide))⟩, ⟨sk (by decide) rfl, ren_ro _ _ _⟩, ⟨sk (by decide) rfl, ren_ro _ _ _⟩, trivial⟩
  refine Wk.by σ (by decide) (by decide) (by decide) ⟨by show _ = some ((tEx 300000 k).ren σ); rw [e8]; exact t8, hl⟩ ⟨by show lookM m (σ 300000) = some ((tO f k).ren σ); rw [s3, eO]; exact g8, hM⟩ rfl (fun u hu v hv huv ee => ?_) (fun u hu => ?_) (fun u hu => ?_) (fun u hu => ?_)
  · have key : ∀ u, u ∈ ((300000, some (tO f k)) :: (goM B 5 (gW B) ++ [(3, some (.cells [.int .i64 0, .int .i64 0])), (2, some (.cells (bk B a1 a2).cells)), (0, some (oSt B)), (1, some (oCk B))]) : List (Nat × Option AObj)).map (fun e => e.1) → u = 300000 ∨ u < 200005 := fun u hu => by
      rcases List.mem_cons.1 hu with h | h
      · exact .inl h
      · obtain ⟨e, he, rfl⟩ := List.mem_map.1 h
        exact .inr (keysM e he)
    have q1 := key u hu
    have q2 := key v hv
    rw [← hσ] at ee
    unfold gsn at ee
    (repeat' split at ee) <;> omega
  · rw [← hσ]; unfold gsn; (repeat' split) <;> omega
  · exact sl u (by omega)
  · rw [← hσ]; unfold gsn; (repeat' split) <;> omega
theorem m4_low {B : CBook} {a1 a2 : AV} : ∀ x o, lookM [(3, some (.cells [.int .i64 0, .int .i64 0])), (2, some (.cells (bk B a1 a2).cells)), (0, some (oSt B)), (1, some (oCk B))] x = some o → x < 4 := fun x o hx => by have := lookM_mem hx; simp at this; omega
theorem n5_at {B : CBook} {k : Nat} (hB : bkOk B) (hk : k < (gW B).length) : (tcsF (fC 5) (gC 5) B.ns 0 (gW B))[k * 3 + 1]? = some (.gs (fC 5 k) B.ns) ∧ (tcsF (fC 5) (gC 5) B.ns 0 (gW B))[k * 3 + 2]? = some (.gs (gC 5 k) B.ns) := by
  have hns := hB.1.1
  have eg : ∀ x, grI x B.ns = .gs x B.ns := fun x => by
    cases hq : B.ns with
    | zero => omega
    | succ n => rfl
  have := tcsF_at (f := fC 5) (g := gC 5) (k := B.ns) (gW B) 0 k (gT B k) (gT_at hk)
  rw [Nat.zero_add, eg, eg] at this
  exact ⟨this.2.1, this.2.2⟩
end Go.Proofs.Ytlnmcadbmpiopaa

/- The reference of layer 6: late, Late, Right. -/
namespace Go.Proofs.Ytlnmcadbmpiopaa
open Go Go.Ev

theorem tcsF_cut {f g : Nat → Nat} {k : Nat} {L : List Tru} {j : Nat} {t : Tru} (h : L[j]? = some t) : cut (tcsF f g k 0 L) (j * 3) 3 = some [.int .i64 t.w, grI (f j) k, grI (g j) k] := by
  have hj : j < L.length := Classical.byContradiction fun q => by rw [List.getElem?_eq_none (by omega)] at h; cases h
  obtain ⟨x0, x1, x2⟩ := tcsF_at (f := f) (g := g) (k := k) L 0 j t h
  have hl := tcsF_len (f := f) (g := g) (k := k) L 0
  rw [Nat.zero_add] at x1 x2
  have e : ((tcsF f g k 0 L).drop (j * 3)).take 3 = [.int .i64 t.w, grI (f j) k, grI (g j) k] := by
    refine List.ext_getElem? fun i => ?_
    rw [List.getElem?_take]
    by_cases h3 : i < 3
    · rw [if_pos h3, List.getElem?_drop]
      obtain rfl | rfl | rfl : i = 0 ∨ i = 1 ∨ i = 2 := by omega
      · exact x0
      · exact x1
      · exact x2
    · rw [if_neg h3, List.getElem?_eq_none (by simp; omega)]
  unfold cut
  rw [e]
  rfl
set_option maxRecDepth 100000 in
set_option maxHeartbeats 4000000 in
theorem late6_can (B : CBook) (a1 a2 : AV) (h1 : IsSl a1 B.ns 0) (h2 : IsSl a2 B.nc 1) (hB : bkOk B) (t : Tru) (w n : Int) (hq : stQ B n) (hcb : 0 ≤ t.c n.toNat ∧ t.c n.toNat ≤ 600) : CanS 0 Try.prog 63 4 [bk B a1 a2, .agg [.int .i64 w, .gs 2 B.ns, .gs 3 B.ns], .int .i64 n] [(0, some (oSt B)), (1, some (oCk B)), (2, some (.ro (fE t.r B.ns))), (3, some (.ro (fE t.c B.ns)))] 4 fun v _ _ => v = .int .i64 (ltV B n.toNat t) := by
  have hn1 : n < B.ns := by have := hq.2; omega
  have hnn : n.toNat < B.ns := by have := hq.1; omega
  have xv := fE_at t.c hnn
  have hs := hB.1.2 n.toNat hnn
  unfold stOk at hs
  have hbf := before_bd B n.toNat fun i hi => hB.1.2 i (by omega)
  refine CanS.mk Try.func63 rfl rfl rfl ?_
  repeat' (first | refine RT.nil ?_ | refine sq_n ?_ | refine Tr.seq ?_ | refine Tr.region ?_ | (refine RT.goK rfl rfl rfl rfl ?_; apply Nx.of; (first | exact S.assign | exact S.box)))
  refine Tr.openK un63_1 (by kernel_rfl) (by kernel_rfl) noCall noCall_calm ?_
  repeat' (first | (refine RD.free rfl rfl rfl rfl rfl rfl ?_; apply Nx.of; (first | exact S.idx_slI rfl rfl rfl (IsSl.gs 3 B.ns) hq.1 hn1 | exact S.idx_slI rfl rfl rfl h1 hq.1 hn1)) | (refine RD.load rfl rfl rfl rfl rfl rfl rfl (by refine us_all ?_; simp only [usOk, cond_true, cond_false]; (repeat' (first | exact trivial | refine And.intro ?_ ?_)); all_goals (first | rfl | exact .inl trivial)) ?_; apply Nx.of; (first | exact S.load1r rfl rfl rfl xv)) | (refine RD.free rfl rfl rfl rfl rfl rfl ?_; apply Nx.of; (first | exact S.move | exact S.assign | exact S.fieldAddr rfl rfl rfl | exact S.sub (by unfold In64; omega) | exact S.max2)) | (refine RD.load rfl rfl rfl rfl rfl rfl rfl rfl ?_; apply Nx.of; (first | exact S.load1c rfl rfl rfl rfl | exact S.row0 rfl rfl rfl (fun _ => rfl) (range_at (by omega)) rfl)) | refine RD.nil ⟨Nat.le_of_ble_eq_true rfl, ?_⟩)
  repeat' (first | refine sq_n ?_ | refine Tr.ret ?_)
  (first | refine rt_go rfl ?_)
  rfl
theorem late6_at {B : CBook} {a1 a2 : AV} {m : List (Nat × Option AObj)} {c y z : Nat} {t : Tru} {n : Int} (h1 : IsSl a1 B.ns 0) (h2 : IsSl a2 B.nc 1) (hB : bkOk B) (hq : stQ B n) (hcb : 0 ≤ t.c n.toNat ∧ t.c n.toNat ≤ 600) (m0 : lookM m 0 = some (oSt B)) (m1 : lookM m 1 = some (oCk B)) (my : lookM m y = some (.grown (fE t.r B.ns) 1)) (mz : lookM m z = some (.grown (fE t.c B.ns) 1)) (fl : Nat) :
    OkAt 0 Try.prog fl 63 [bk B a1 a2, .agg [.int .i64 t.w, .gs y B.ns, .gs z B.ns], .int .i64 n] (ofM m) c (.int .i64 (ltV B n.toNat t)) (ofM m) c :=
  (late6_can B a1 a2 h1 h2 hB t t.w n hq hcb).pure (.int _ _)
    (Entry.win (H := ofM m) (c := c) (W := [(0, 0, none), (1, 0, none), (y, 0, none), (z, 0, none)]) (CS := [flat (stE B) (List.range B.ns), flat (ckE B) (List.range B.nc), fE t.r B.ns, fE t.c B.ns]) rfl
      ⟨⟨_, getM m0, .inr ⟨_, rfl, cut_all rfl⟩⟩, pls_flat _ _, ⟨_, getM m1, .inr ⟨_, rfl, cut_all rfl⟩⟩, pls_flat _ _, ⟨_, getM my, .inr ⟨_, rfl, cut_all rfl⟩⟩, fE_pls _ _, ⟨_, getM mz, .inr ⟨_, rfl, cut_all rfl⟩⟩, fE_pls _ _, trivial⟩
      (args := [bk B a1 a2, .agg [.int .i64 t.w, .gs y B.ns, .gs z B.ns], .int .i64 n]) (args0 := [bk B a1 a2, .agg [.int .i64 t.w, .gs 2 B.ns, .gs 3 B.ns], .int .i64 n])
      ⟨bk_arg h1 h2 rfl rfl, ArgW.agg (show ArgsW _ [.int .i64 t.w, .gs y B.ns, .gs z B.ns] [.int .i64 t.w, .gs 2 B.ns, .gs 3 B.ns] from ⟨.pl (fun _ => rfl), ArgW.gs rfl, ArgW.gs rfl, trivial⟩), .pl (fun _ => rfl), trivial⟩) fl
end Go.Proofs.Ytlnmcadbmpiopaa

/- The reference of layer 6: Right; its answers at any memory. -/
namespace Go.Proofs.Ytlnmcadbmpiopaa
open Go Go.Ev

section
variable {B : CBook} {a1 a2 : AV} {m : List (Nat × Option AObj)} {c : Nat}
end
end Go.Proofs.Ytlnmcadbmpiopaa

/- The reference of layer 6: Weather. -/
namespace Go.Proofs.Ytlnmcadbmpiopaa
open Go Go.Ev

theorem setV_or (p : Nat → Prop) {w : Nat} (hw : w < 3) : orI (setV p 3) (1 * 2 ^ w) = setV (fun v => p v ∨ v = w) 3 := by
  by_cases h0 : p 0 <;> by_cases h1 : p 1 <;> by_cases h2 : p 2
  all_goals
    obtain rfl | rfl | rfl : w = 0 ∨ w = 1 ∨ w = 2 := by omega
  all_goals
    simp only [setV, h0, h1, h2, dB_tt trivial, dB_ff not_false, cond_true, cond_false, true_or, false_or, dB_tt rfl, show dB ((0 : Nat) = 1) = false from dB_ff (by decide), show dB ((0 : Nat) = 2) = false from dB_ff (by decide), show dB ((1 : Nat) = 0) = false from dB_ff (by decide), show dB ((1 : Nat) = 2) = false from dB_ff (by decide), show dB ((2 : Nat) = 0) = false from dB_ff (by decide), show dB ((2 : Nat) = 1) = false from dB_ff (by decide)]
    try decide +kernel
theorem setV_congr {p q : Nat → Prop} (h : ∀ v, p v ↔ q v) : ∀ k, setV p k = setV q k
  | 0 => rfl
  | k + 1 => by
    have : p = q := funext fun v => propext (h v)
    rw [this]
set_option maxRecDepth 100000 in
set_option maxHeartbeats 4000000 in
theorem Weather6_can (B : CBook) (a1 a2 : AV) (h1 : IsSl a1 B.ns 0) (h2 : IsSl a2 B.nc 1) (hn : B.ns ≤ 9223372036854775807) : CanS 0 Try.prog 21 2 [bk B a1 a2] [(0, some (oSt B)), (1, some (oCk B))] 2 fun v _ _ => v = numA B (setV (weaP B) 3) := by
  refine CanS.mk Try.func21 rfl rfl rfl ?_
  by_cases hB : bkOk B
  · by_cases hW : gW B = []
    · have hask := fun fl => asked_false_at (m := [(2, some (.cells (bk B a1 a2).cells)), (0, some (oSt B)), (1, some (oCk B))]) (c := 3) ⟨h1, h2, rfl, rfl, by decide⟩ hn hB hW fl
      rw [numA_err (ansE_false hB trivial ((gW_nil hB).1 hW)) (by decide)]
      repeat' (first | refine RT.nil ?_ | refine sq_n ?_ | refine Tr.seq ?_ | refine Tr.region ?_ | refine Tr.cond_t rfl ?_ | refine Tr.ret ?_ | refine sq_r ?_ | (refine RT.call rfl rfl rfl (hask _) rfl rfl (by decide) ?_) | (refine RT.goK rfl rfl rfl rfl ?_; apply Nx.of; (first | exact S.neq_t (by decide))) | (refine RT.goK rfl rfl rfl rfl ?_; apply Nx.of; (first | exact S.move | exact S.assign | exact S.loadNc rfl rfl rfl rfl | exact S.box | exact S.extract rfl)))
      (first | refine rt_go rfl ?_)
      rfl
    · have hlp : 0 < (gW B).length := List.length_pos_iff.2 hW
      have hlen : (gW B).length ≤ 59049 := gWk_len hB 3
      have hask : ∀ fl, OkAt 0 Try.prog fl 58 [bk B a1 a2, .bool true] (ofM [(2, some (.cells (bk B a1 a2).cells)), (0, some (oSt B)), (1, some (oCk B))]) 3 (.tup [.gs 4 (gW B).length, .int .i64 0]) (ofM (goM B 4 (gW B) ++ [(2, some (.cells (bk B a1 a2).cells)), (0, some (oSt B)), (1, some (oCk B))])) 200004 := fun fl => asked_yes_at h1 h2 hn hB hW m3_low rfl rfl fl
      rw [numA_ok (ansE_ok hB trivial fun h => hW ((gW_nil hB).2 h))]
      repeat' (first | refine RT.nil ?_ | refine sq_n ?_ | refine Tr.seq ?_ | refine Tr.region ?_ | refine Tr.cond_f rfl ?_ | refine Tr.skip ?_ | refine Tr.block ?_ | (refine RT.call rfl rfl rfl (hask _) rfl rfl (by decide) ?_) | (refine RT.goK rfl rfl rfl rfl ?_; apply Nx.of; (first | exact S.neq_f (by decide))) | (refine RT.goK rfl rfl rfl rfl ?_; apply Nx.of; (first | exact S.move | exact S.assign | exact S.loadNc rfl rfl rfl rfl | exact S.box | exact S.extract rfl)))
      refine Tr.loop (fun k : Nat => stL Try.f21.ntmps [] [(6, .int .i64 (setV (fun v => ∃ i, i < k ∧ (gT B i).w = v) 3)), (1, .ptr 2 0), (4, .gs 4 (gW B).length), (7, .int .i64 (k : Int))] (goM B 4 (gW B) ++ [(2, some (.cells (bk B a1 a2).cells)), (0, some (oSt B)), (1, some (oCk B))]) 200004) (fun k => k ≤ (gW B).length) (fun k => (gW B).length - k) 0 (Nat.zero_le _) ?_ (fun k hk => ?_)
      · refine Wk.temps (by decide) (by decide) (by decide) ⟨congrArg some (congrArg (AV.int .i64) ?_), rfl, rfl, rfl, trivial⟩
        rw [setV_congr (q := fun _ => False) fun v => ⟨fun ⟨i, h, _⟩ => absurd h (Nat.not_lt_zero i), False.elim⟩]
        simp only [setV, dB_ff not_false, cond_false]
      by_cases hlt : k < (gW B).length
      · have hlt' : (k : Int) < (gW B).length := by omega
        have ht := (mem_gW hB.1).1 (List.mem_of_getElem? (gT_at hlt))
        obtain ⟨w, hw⟩ : ∃ w : Nat, (gT B k).w = (w : Int) := ⟨(gT B k).w.toNat, by have := ht.w.1; omega⟩
        have hw3 : w < 3 := by have := ht.w.2.1; omega
        have hs64 : In64 (1 * 2 ^ w) := by
          obtain rfl | rfl | rfl : w = 0 ∨ w = 1 ∨ w = 2 := by omega
          all_goals (unfold In64; decide)
        have x5 : lookM (goM B 4 (gW B) ++ [(2, some (.cells (bk B a1 a2).cells)), (0, some (oSt B)), (1, some (oCk B))]) 4 = some (.grown (tcsF (fC 4) (gC 4) B.ns 0 (gW B)) 3) := look_app (goM_list hW)
        have x6 := (tcsF_at (f := fC 4) (g := gC 4) (k := B.ns) (gW B) 0 k (gT B k) (gT_at hlt)).1
        rw [hw] at x6
        have hs5 : IsSl (AV.gs 4 (gW B).length) (gW B).length 4 := IsSl.gs 4 _
        repeat' (first | refine RT.nil ?_ | refine sq_n ?_ | refine Tr.seq ?_ | refine Tr.region ?_ | refine Tr.cond_t rfl ?_ | refine Tr.skip ?_ | refine Tr.block ?_ | refine blk_n ?_ | (refine RT.goK rfl rfl rfl rfl ?_; first | refine Nx.of (S.lss_t hlt') ?_ | refine Nx.of (S.idx_sl rfl rfl rfl hs5 hlt) ?_ | refine Nx.of (S.load1g rfl rfl x5 x6) ?_ | refine Nx.of (S.shl (by omega) hs64) ?_ | refine Nx.of S.or ?_) | (refine RT.goK rfl rfl rfl rfl ?_; apply Nx.of; (first | exact S.move | exact S.assign | exact S.fieldAddr rfl rfl rfl | exact S.add_one (by omega))) | (refine RT.goK rfl rfl rfl rfl ?_; apply Nx.of; (first | exact S.len_sl rfl rfl rfl (by assumption))))
        refine lp_n (k + 1) hlt (by omega) (Wk.temps (by decide) (by decide) (by decide) ⟨congrArg some (congrArg (AV.int .i64) ?_), rfl, rfl, congrArg some (congrArg (AV.int .i64) (by omega)), trivial⟩)
        rw [setV_or _ hw3]
        refine setV_congr (fun v => ⟨fun h => ?_, fun ⟨i, h3, h4⟩ => ?_⟩) 3
        · rcases h with ⟨i, h3, h4⟩ | rfl
          · exact ⟨i, by omega, h4⟩
          · exact ⟨k, by omega, hw⟩
        · by_cases e : i = k
          · subst e; exact .inr (by omega)
          · exact .inl ⟨i, by omega, h4⟩
      · have hkN : k = (gW B).length := by have : k ≤ (gW B).length := hk; omega
        have hlt' : ¬ (k : Int) < (gW B).length := by omega
        have hs5 : IsSl (AV.gs 4 (gW B).length) (gW B).length 4 := IsSl.gs 4 _
        repeat' (first | refine RT.nil ?_ | refine sq_n ?_ | refine Tr.seq ?_ | refine Tr.region ?_ | refine Tr.cond_f rfl ?_ | refine Tr.ret ?_ | refine Tr.exit ?_ | refine sq_x ?_ | refine blk_hit rfl ?_ | refine lp_x ?_ | (refine RT.goK rfl rfl rfl rfl ?_; first | refine Nx.of (S.lss_f hlt') ?_) | (refine RT.goK rfl rfl rfl rfl ?_; apply Nx.of; (first | exact S.move | exact S.assign)) | (refine RT.goK rfl rfl rfl rfl ?_; apply Nx.of; (first | exact S.len_sl rfl rfl rfl (by assumption))))
        (first | refine rt_go rfl ?_)
        refine congrArg (fun x => AV.tup [.int .i64 x, .int .i64 0]) (setV_congr (fun v => ⟨fun ⟨i, h3, h4⟩ => ?_, fun ⟨t, h3, h4⟩ => ?_⟩) 3)
        · exact ⟨gT B i, (mem_Ws hB.1 hB.2.1).2 ((mem_gW hB.1).1 (List.mem_of_getElem? (gT_at (by omega)))), h4⟩
        · obtain ⟨i, hi, he⟩ := List.getElem_of_mem ((mem_gW hB.1).2 ((mem_Ws hB.1 hB.2.1).1 h3))
          have := gT_at hi
          rw [List.getElem?_eq_getElem hi, he] at this
          exact ⟨i, by omega, by rw [← Option.some.inj this]; exact h4⟩
  · have hask := fun fl => asked_no_at (m := [(2, some (.cells (bk B a1 a2).cells)), (0, some (oSt B)), (1, some (oCk B))]) (c := 3) ⟨h1, h2, rfl, rfl, by decide⟩ hn hB true fl
    rw [numA_err (ansE_no hB) (by decide)]
    repeat' (first | refine RT.nil ?_ | refine sq_n ?_ | refine Tr.seq ?_ | refine Tr.region ?_ | refine Tr.cond_t rfl ?_ | refine Tr.ret ?_ | refine sq_r ?_ | (refine RT.call rfl rfl rfl (hask _) rfl rfl (by decide) ?_) | (refine RT.goK rfl rfl rfl rfl ?_; apply Nx.of; (first | exact S.neq_t (by decide))) | (refine RT.goK rfl rfl rfl rfl ?_; apply Nx.of; (first | exact S.move | exact S.assign | exact S.loadNc rfl rfl rfl rfl | exact S.box | exact S.extract rfl)))
    (first | refine rt_go rfl ?_)
    rfl
end Go.Proofs.Ytlnmcadbmpiopaa

/- The reference of layer 6: blamed. -/
namespace Go.Proofs.Ytlnmcadbmpiopaa
open Go Go.Ev

theorem tot_rg {B : CBook} {t : Tru} (hB : bkOk B) (hz : ∀ i, B.ns ≤ i → i < 3 → t.r i = 0 ∧ t.c i = 0) : totV t.r B.ns = rgV t := by
  have hn := hB.1.1
  have r0 : t.r 0 = t.r0 := rfl
  have r1 : t.r 1 = t.r1 := rfl
  have r2 : t.r 2 = t.r2 := rfl
  unfold rgV
  obtain h | h | h : B.ns = 1 ∨ B.ns = 2 ∨ B.ns = 3 := by omega
  · have e1 := (hz 1 (by omega) (by omega)).1
    have e2 := (hz 2 (by omega) (by omega)).1
    rw [h]
    simp only [totV]
    omega
  · have e2 := (hz 2 (by omega) (by omega)).1
    rw [h]
    simp only [totV]
    omega
  · rw [h]
    simp only [totV]
    omega
theorem late6_ro {B : CBook} {a1 a2 : AV} {m : List (Nat × Option AObj)} {c : Nat} {t : Tru} {w n : Int} (h1 : IsSl a1 B.ns 0) (h2 : IsSl a2 B.nc 1) (hB : bkOk B) (hq : stQ B n) (hcb : 0 ≤ t.c n.toNat ∧ t.c n.toNat ≤ 600) (m0 : lookM m 0 = some (oSt B)) (m1 : lookM m 1 = some (oCk B)) (my : lookM m 2 = some (.ro (fE t.r B.ns))) (mz : lookM m 3 = some (.ro (fE t.c B.ns))) (fl : Nat) :
    OkAt 0 Try.prog fl 63 [bk B a1 a2, .agg [.int .i64 w, .gs 2 B.ns, .gs 3 B.ns], .int .i64 n] (ofM m) c (.int .i64 (ltV B n.toNat t)) (ofM m) c :=
  (late6_can B a1 a2 h1 h2 hB t w n hq hcb).pure (.int _ _)
    (Entry.win (H := ofM m) (c := c) (W := [(0, 0, none), (1, 0, none), (2, 0, none), (3, 0, none)]) (CS := [flat (stE B) (List.range B.ns), flat (ckE B) (List.range B.nc), fE t.r B.ns, fE t.c B.ns]) rfl
      ⟨⟨_, getM m0, .inr ⟨_, rfl, cut_all rfl⟩⟩, pls_flat _ _, ⟨_, getM m1, .inr ⟨_, rfl, cut_all rfl⟩⟩, pls_flat _ _, ⟨_, getM my, .inr ⟨_, rfl, cut_all rfl⟩⟩, fE_pls _ _, ⟨_, getM mz, .inr ⟨_, rfl, cut_all rfl⟩⟩, fE_pls _ _, trivial⟩
      (args := [bk B a1 a2, .agg [.int .i64 w, .gs 2 B.ns, .gs 3 B.ns], .int .i64 n]) (args0 := [bk B a1 a2, .agg [.int .i64 w, .gs 2 B.ns, .gs 3 B.ns], .int .i64 n])
      ⟨bk_arg h1 h2 rfl rfl, .agg (show ArgsW _ [.int .i64 w, .gs 2 B.ns, .gs 3 B.ns] [.int .i64 w, .gs 2 B.ns, .gs 3 B.ns] from ⟨.pl (fun _ => rfl), ArgW.gs rfl, ArgW.gs rfl, trivial⟩), .pl (fun _ => rfl), trivial⟩) fl
set_option maxRecDepth 100000 in
set_option maxHeartbeats 4000000 in
theorem blamed6_can (B : CBook) (a1 a2 : AV) (h1 : IsSl a1 B.ns 0) (h2 : IsSl a2 B.nc 1) (hB : bkOk B) (t : Tru) (w : Int) (ht : IsT B t) : CanS 0 Try.prog 75 4 [bk B a1 a2, .agg [.int .i64 w, .gs 2 B.ns, .gs 3 B.ns]] [(0, some (oSt B)), (1, some (oCk B)), (2, some (.ro (fE t.r B.ns))), (3, some (.ro (fE t.c B.ns)))] 4 fun v _ _ => v = .bool (dB (blP B t)) := by
  have hn := hB.1.1
  have hrf : rfVs (bk B a1 a2).cells = true := by simp [bk, AV.cells, rfVs, rfV, h1.rf, h2.rf]
  obtain ⟨i, hi⟩ : ∃ i, B.ns = i + 1 := ⟨B.ns - 1, by omega⟩
  have hnn : i < B.ns := by omega
  have hi0 : (0 : Int) ≤ ((B.ns - 1 : Nat) : Int) := by omega
  have hi1 : ((B.ns - 1 : Nat) : Int) < B.ns := by omega
  have eI : (((B.ns - 1 : Nat) : Int)).toNat = i := by omega
  have hq : stQ B (((B.ns - 1 : Nat) : Int)) := ⟨hi0, by omega⟩
  have hbd := IsT.bd0 hB.1 hB.2.1 ht (show i < 3 by omega)
  have hcb : 0 ≤ t.c (((B.ns - 1 : Nat) : Int)).toNat ∧ t.c (((B.ns - 1 : Nat) : Int)).toNat ≤ 600 := by rw [eI]; exact hbd.1
  have xv : (fE t.c B.ns)[(((B.ns - 1 : Nat) : Int)).toNat * 1]? = some (.int .i64 (t.c (((B.ns - 1 : Nat) : Int)).toNat)) := fE_at t.c (by omega)
  have hs := hB.1.2 i hnn
  unfold stOk at hs
  have hbf := before_bd B i fun j hj => hB.1.2 j (by omega)
  replace hnn : (((B.ns - 1 : Nat) : Int)).toNat < B.ns := by omega
  have htot := tot_rg hB ht.z
  have hr0 := (IsT.bd0 hB.1 hB.2.1 ht (show 0 < 3 by decide)).2
  have hr1 := (IsT.bd0 hB.1 hB.2.1 ht (show 1 < 3 by decide)).2
  have hr2 := (IsT.bd0 hB.1 hB.2.1 ht (show 2 < 3 by decide)).2
  have hrb : 0 ≤ totV t.r B.ns ∧ totV t.r B.ns ≤ 90 := by
    rw [htot]
    unfold rgV
    have e0 : t.r 0 = t.r0 := rfl
    have e1 : t.r 1 = t.r1 := rfl
    have e2 : t.r 2 = t.r2 := rfl
    omega
  have hf : ∀ k, k ≤ B.ns → -1000000 ≤ totV t.r k ∧ totV t.r k ≤ 1000000 := fun k hk => by
    have e0 : t.r 0 = t.r0 := rfl
    have e1 : t.r 1 = t.r1 := rfl
    have e2 : t.r 2 = t.r2 := rfl
    obtain rfl | rfl | rfl | rfl : k = 0 ∨ k = 1 ∨ k = 2 ∨ k = 3 := by omega
    all_goals (simp only [totV]; omega)
  have hdue : B.due (((B.ns - 1 : Nat) : Int)).toNat = B.due i := by rw [eI]
  have hbl : blP B t ↔ 0 < ltV B (((B.ns - 1 : Nat) : Int)).toNat t ∧ t.c (((B.ns - 1 : Nat) : Int)).toNat - totV t.r B.ns ≤ B.due (((B.ns - 1 : Nat) : Int)).toNat := by
    unfold blP
    rw [htot, eI, show B.ns - 1 = i by omega]
    unfold ltV
    omega
  have pc : CalmC 0 Try.prog (pinX 41 [.gs 2 B.ns] [(5, some (.cells [.int .i64 w, .gs 2 B.ns, .gs 3 B.ns])), (4, some (.cells (bk B a1 a2).cells)), (0, some (oSt B)), (1, some (oCk B)), (2, some (.ro (fE t.r B.ns))), (3, some (.ro (fE t.c B.ns)))] 6 (.int .i64 (totV t.r B.ns)) [(5, some (.cells [.int .i64 w, .gs 2 B.ns, .gs 3 B.ns])), (4, some (.cells (bk B a1 a2).cells)), (0, some (oSt B)), (1, some (oCk B)), (2, some (.ro (fE t.r B.ns))), (3, some (.ro (fE t.c B.ns)))] 6) := pinX_calm (fun fl => Total_at (Li.sl (IsSl.gs 2 B.ns) rfl rfl) (by omega) hf fl) (fun fl => Good.refl fl 6 _)
  refine CanS.mk Try.func75 rfl rfl rfl ?_
  repeat' (first | refine RT.nil ?_ | refine sq_n ?_ | refine Tr.seq ?_ | refine Tr.region ?_ | (refine RT.call rfl rfl rfl (late6_ro h1 h2 hB hq hcb rfl rfl rfl rfl _) rfl rfl (Nat.le_refl _) ?_) | (refine RT.goK rfl rfl rfl rfl ?_; apply Nx.of; (first | exact S.move | exact S.assign | exact S.load1c rfl rfl rfl rfl | exact S.loadNc rfl rfl rfl rfl | exact S.fieldAddr rfl rfl rfl | exact S.box | exact S.sub_one (by omega) (by omega))) | (refine RT.goK rfl rfl rfl rfl ?_; apply Nx.of; (first | exact S.len_sl rfl rfl rfl (by assumption))))
  refine Tr.openK un75_3 (by kernel_rfl) (by kernel_rfl) _ pc ?_
  by_cases hp : 0 < ltV B (((B.ns - 1 : Nat) : Int)).toNat t
  · by_cases hr : t.c (((B.ns - 1 : Nat) : Int)).toNat - totV t.r B.ns ≤ B.due (((B.ns - 1 : Nat) : Int)).toNat
    · repeat' (first | (refine RD.free rfl rfl rfl rfl rfl rfl ?_; apply Nx.of; (first | exact S.idx_slI rfl rfl rfl (IsSl.gs 3 B.ns) hi0 hi1 | exact S.idx_slI rfl rfl rfl h1 hi0 hi1 | exact S.gtr_t hp | exact S.leq_t hr)) | (refine RD.load rfl rfl rfl rfl rfl rfl rfl (by refine us_all ?_; simp only [usOk, cond_true, cond_false]; (repeat' (first | exact trivial | refine And.intro ?_ ?_)); all_goals (first | rfl | exact .inl trivial | (refine Or.inr ⟨_, _, _, rfl, getM rfl, getM rfl, ?_⟩; (first | exact hrf | (simp [rfO, rfVs, rfV, rfVs_flat]; done))))) ?_; apply Nx.of; (first | exact S.load1r rfl rfl rfl xv | exact S.row rfl rfl rfl (fun _ => rfl) (range_at hnn) rfl | exact S.load1c rfl rfl rfl rfl)) | (refine RD.free rfl rfl rfl rfl rfl rfl ?_; apply Nx.of; (first | exact S.move | exact S.assign | exact S.fieldAddr rfl rfl rfl | exact S.pick_tt | exact S.sub (by unfold In64; omega))) | (refine RD.callX rfl rfl rfl rfl rfl rfl rfl rfl (by simp) (fun fl' => pinX_at _ _ _ _ _ _ _ fl') (fun _ => by refine srOkX_all ?_; simp only [srOkX]; (repeat' (first | exact trivial | refine And.intro ?_ ?_)); all_goals (first | (refine ⟨_, rfl, rfl, ?_⟩; (first | rfl | (simp [rfO, rfVs, rfV, rfVs_flat]; done))))) ?_) | refine RD.nil ⟨Nat.le_of_ble_eq_true rfl, ?_⟩)
      repeat' (first | refine sq_n ?_ | refine Tr.ret ?_)
      (first | refine rt_go rfl ?_)
      rw [dB_tt (hbl.2 ⟨hp, hr⟩)]
      rfl
    · repeat' (first | (refine RD.free rfl rfl rfl rfl rfl rfl ?_; apply Nx.of; (first | exact S.idx_slI rfl rfl rfl (IsSl.gs 3 B.ns) hi0 hi1 | exact S.idx_slI rfl rfl rfl h1 hi0 hi1 | exact S.gtr_t hp | exact S.leq_f hr)) | (refine RD.load rfl rfl rfl rfl rfl rfl rfl (by refine us_all ?_; simp only [usOk, cond_true, cond_false]; (repeat' (first | exact trivial | refine And.intro ?_ ?_)); all_goals (first | rfl | exact .inl trivial | (refine Or.inr ⟨_, _, _, rfl, getM rfl, getM rfl, ?_⟩; (first | exact hrf | (simp [rfO, rfVs, rfV, rfVs_flat]; done))))) ?_; apply Nx.of; (first | exact S.load1r rfl rfl rfl xv | exact S.row rfl rfl rfl (fun _ => rfl) (range_at hnn) rfl | exact S.load1c rfl rfl rfl rfl)) | (refine RD.free rfl rfl rfl rfl rfl rfl ?_; apply Nx.of; (first | exact S.move | exact S.assign | exact S.fieldAddr rfl rfl rfl | exact S.pick_tt | exact S.sub (by unfold In64; omega))) | (refine RD.callX rfl rfl rfl rfl rfl rfl rfl rfl (by simp) (fun fl' => pinX_at _ _ _ _ _ _ _ fl') (fun _ => by refine srOkX_all ?_; simp only [srOkX]; (repeat' (first | exact trivial | refine And.intro ?_ ?_)); all_goals (first | (refine ⟨_, rfl, rfl, ?_⟩; (first | rfl | (simp [rfO, rfVs, rfV, rfVs_flat]; done))))) ?_) | refine RD.nil ⟨Nat.le_of_ble_eq_true rfl, ?_⟩)
      repeat' (first | refine sq_n ?_ | refine Tr.ret ?_)
      (first | refine rt_go rfl ?_)
      rw [dB_ff fun h => hr (hbl.1 h).2]
      rfl
  · repeat' (first | (refine RD.free rfl rfl rfl rfl rfl rfl ?_; apply Nx.of; (first | exact S.gtr_f hp)) | (refine RD.free rfl rfl rfl rfl rfl rfl ?_; apply Nx.of; (first | exact S.move | exact S.assign | exact S.pick_ff)) | (refine RD.no rfl rfl rfl rfl ?_) | refine RD.nil ⟨Nat.le_of_ble_eq_true rfl, ?_⟩)
    repeat' (first | refine sq_n ?_ | refine Tr.ret ?_)
    (first | refine rt_go rfl ?_)
    rw [dB_ff fun h => hp (hbl.1 h).1]
    rfl
end Go.Proofs.Ytlnmcadbmpiopaa

/- The reference of layer 6: Blame. -/
namespace Go.Proofs.Ytlnmcadbmpiopaa
open Go Go.Ev

theorem blamed6_at {B : CBook} {a1 a2 : AV} {m : List (Nat × Option AObj)} {c y z : Nat} {t : Tru} (h1 : IsSl a1 B.ns 0) (h2 : IsSl a2 B.nc 1) (hB : bkOk B) (ht : IsT B t) (m0 : lookM m 0 = some (oSt B)) (m1 : lookM m 1 = some (oCk B)) (my : lookM m y = some (.grown (fE t.r B.ns) 1)) (mz : lookM m z = some (.grown (fE t.c B.ns) 1)) (fl : Nat) :
    OkAt 0 Try.prog fl 75 [bk B a1 a2, .agg [.int .i64 t.w, .gs y B.ns, .gs z B.ns]] (ofM m) c (.bool (dB (blP B t))) (ofM m) c :=
  (blamed6_can B a1 a2 h1 h2 hB t t.w ht).pure (.bool _)
    (Entry.win (H := ofM m) (c := c) (W := [(0, 0, none), (1, 0, none), (y, 0, none), (z, 0, none)]) (CS := [flat (stE B) (List.range B.ns), flat (ckE B) (List.range B.nc), fE t.r B.ns, fE t.c B.ns]) rfl
      ⟨⟨_, getM m0, .inr ⟨_, rfl, cut_all rfl⟩⟩, pls_flat _ _, ⟨_, getM m1, .inr ⟨_, rfl, cut_all rfl⟩⟩, pls_flat _ _, ⟨_, getM my, .inr ⟨_, rfl, cut_all rfl⟩⟩, fE_pls _ _, ⟨_, getM mz, .inr ⟨_, rfl, cut_all rfl⟩⟩, fE_pls _ _, trivial⟩
      (args := [bk B a1 a2, .agg [.int .i64 t.w, .gs y B.ns, .gs z B.ns]]) (args0 := [bk B a1 a2, .agg [.int .i64 t.w, .gs 2 B.ns, .gs 3 B.ns]])
      ⟨bk_arg h1 h2 rfl rfl, ArgW.agg (show ArgsW _ [.int .i64 t.w, .gs y B.ns, .gs z B.ns] [.int .i64 t.w, .gs 2 B.ns, .gs 3 B.ns] from ⟨.pl (fun _ => rfl), ArgW.gs rfl, ArgW.gs rfl, trivial⟩), trivial⟩) fl
/-- How many of the first truths are so. -/
noncomputable def cnN (p : Nat → Prop) : Nat → Nat
  | 0 => 0
  | k + 1 => bif dB (p k) then cnN p k + 1 else cnN p k
theorem cnN_t {p : Nat → Prop} {k : Nat} (h : p k) : cnN p (k + 1) = cnN p k + 1 := by
  show (bif dB (p k) then _ else _) = _
  rw [dB_tt h]; rfl
theorem cnN_f {p : Nat → Prop} {k : Nat} (h : ¬ p k) : cnN p (k + 1) = cnN p k := by
  show (bif dB (p k) then _ else _) = _
  rw [dB_ff h]; rfl
theorem cnN_le (p : Nat → Prop) : ∀ k, cnN p k ≤ k
  | 0 => Nat.le_refl _
  | k + 1 => by
    have := cnN_le p k
    by_cases h : p k
    · rw [cnN_t h]; omega
    · rw [cnN_f h]; omega
theorem cnN_0 {p : Nat → Prop} : ∀ {k}, cnN p k = 0 ↔ ∀ i, i < k → ¬ p i
  | 0 => ⟨fun _ i hi => by omega, fun _ => rfl⟩
  | k + 1 => by
    by_cases h : p k
    · rw [cnN_t h]
      exact ⟨fun q => by omega, fun q => absurd h (q k (by omega))⟩
    · rw [cnN_f h, cnN_0]
      refine ⟨fun q i hi => ?_, fun q i hi => q i (by omega)⟩
      by_cases e : i = k
      · subst e; exact h
      · exact q i (by omega)
theorem cnN_all {p : Nat → Prop} : ∀ {k}, cnN p k = k ↔ ∀ i, i < k → p i
  | 0 => ⟨fun _ i hi => by omega, fun _ => rfl⟩
  | k + 1 => by
    have := cnN_le p k
    by_cases h : p k
    · rw [cnN_t h]
      refine ⟨fun q i hi => ?_, fun q => ?_⟩
      · by_cases e : i = k
        · subst e; exact h
        · exact (cnN_all (p := p) (k := k)).1 (by omega) i (by omega)
      · have := (cnN_all (p := p) (k := k)).2 fun i hi => q i (by omega)
        omega
    · rw [cnN_f h]
      exact ⟨fun q => by omega, fun q => absurd (q k (by omega)) h⟩
/-- The list of truths holds just what is a truth. -/
theorem gT_mem {B : CBook} (hB : bkOk B) {t : Tru} : t ∈ Ws B ↔ ∃ i, i < (gW B).length ∧ gT B i = t := by
  rw [mem_Ws hB.1 hB.2.1, ← mem_gW hB.1]
  refine ⟨fun h => ?_, fun ⟨i, hi, e⟩ => e ▸ List.mem_of_getElem? (gT_at hi)⟩
  obtain ⟨i, hi, he⟩ := List.getElem_of_mem h
  have := gT_at hi
  rw [List.getElem?_eq_getElem hi, he] at this
  exact ⟨i, hi, (Option.some.inj this).symm⟩
set_option maxRecDepth 100000 in
set_option maxHeartbeats 4000000 in
theorem Blame6_can (B : CBook) (a1 a2 : AV) (h1 : IsSl a1 B.ns 0) (h2 : IsSl a2 B.nc 1) (hn : B.ns ≤ 9223372036854775807) : CanS 0 Try.prog 23 2 [bk B a1 a2] [(0, some (oSt B)), (1, some (oCk B))] 2 fun v _ _ => v = numA B (whV B (blP B)) := by
  have hrf : rfVs (bk B a1 a2).cells = true := by simp [bk, AV.cells, rfVs, rfV, h1.rf, h2.rf]
  refine CanS.mk Try.func23 rfl rfl rfl ?_
  by_cases hB : bkOk B
  · by_cases hW : gW B = []
    · have hask := fun fl => asked_false_at (m := [(2, some (.cells (bk B a1 a2).cells)), (0, some (oSt B)), (1, some (oCk B))]) (c := 3) ⟨h1, h2, rfl, rfl, by decide⟩ hn hB hW fl
      rw [numA_err (ansE_false hB trivial ((gW_nil hB).1 hW)) (by decide)]
      repeat' (first | refine RT.nil ?_ | refine sq_n ?_ | refine Tr.seq ?_ | refine Tr.region ?_ | refine Tr.cond_t rfl ?_ | refine Tr.ret ?_ | refine sq_r ?_ | (refine RT.call rfl rfl rfl (hask _) rfl rfl (by decide) ?_) | (refine RT.goK rfl rfl rfl rfl ?_; apply Nx.of; (first | exact S.neq_t (by decide))) | (refine RT.goK rfl rfl rfl rfl ?_; apply Nx.of; (first | exact S.move | exact S.assign | exact S.loadNc rfl rfl rfl rfl | exact S.box | exact S.extract rfl)))
      (first | refine rt_go rfl ?_)
      rfl
    · have hlp : 0 < (gW B).length := List.length_pos_iff.2 hW
      have hlen : (gW B).length ≤ 59049 := gWk_len hB 3
      have hask : ∀ fl, OkAt 0 Try.prog fl 58 [bk B a1 a2, .bool true] (ofM [(2, some (.cells (bk B a1 a2).cells)), (0, some (oSt B)), (1, some (oCk B))]) 3 (.tup [.gs 4 (gW B).length, .int .i64 0]) (ofM (goM B 4 (gW B) ++ [(2, some (.cells (bk B a1 a2).cells)), (0, some (oSt B)), (1, some (oCk B))])) 200004 := fun fl => asked_yes_at h1 h2 hn hB hW m3_low rfl rfl fl
      rw [numA_ok (ansE_ok hB trivial fun h => hW ((gW_nil hB).2 h))]
      repeat' (first | refine RT.nil ?_ | refine sq_n ?_ | refine Tr.seq ?_ | refine Tr.region ?_ | refine Tr.cond_f rfl ?_ | refine Tr.skip ?_ | refine Tr.block ?_ | (refine RT.call rfl rfl rfl (hask _) rfl rfl (by decide) ?_) | (refine RT.goK rfl rfl rfl rfl ?_; apply Nx.of; (first | exact S.neq_f (by decide))) | (refine RT.goK rfl rfl rfl rfl ?_; apply Nx.of; (first | exact S.move | exact S.assign | exact S.loadNc rfl rfl rfl rfl | exact S.box | exact S.extract rfl)))
      refine Tr.loop (fun k : Nat => stL Try.f23.ntmps [] [(6, .int .i64 (cnN (fun i => blP B (gT B i)) k : Nat)), (1, .ptr 2 0), (4, .gs 4 (gW B).length), (7, .int .i64 (k : Int))] (goM B 4 (gW B) ++ [(2, some (.cells (bk B a1 a2).cells)), (0, some (oSt B)), (1, some (oCk B))]) 200004) (fun k => k ≤ (gW B).length) (fun k => (gW B).length - k) 0 (Nat.zero_le _) (Wk.temps (by decide) (by decide) (by decide) ⟨rfl, rfl, rfl, rfl, trivial⟩) (fun k hk => ?_)
      have hcn := cnN_le (fun i => blP B (gT B i)) k
      by_cases hlt : k < (gW B).length
      · have hlt' : (k : Int) < (gW B).length := by omega
        have ht := (mem_gW hB.1).1 (List.mem_of_getElem? (gT_at hlt))
        have hns := hB.1.1
        have eg : ∀ x, grI x B.ns = .gs x B.ns := fun x => by
          cases hq : B.ns with
          | zero => omega
          | succ n => rfl
        have x5 : lookM (goM B 4 (gW B) ++ [(2, some (.cells (bk B a1 a2).cells)), (0, some (oSt B)), (1, some (oCk B))]) 4 = some (.grown (tcsF (fC 4) (gC 4) B.ns 0 (gW B)) 3) := look_app (goM_list hW)
        have x6 := tcsF_cut (f := fC 4) (g := gC 4) (k := B.ns) (gT_at hlt)
        rw [eg, eg] at x6
        have hs5 : IsSl (AV.gs 4 (gW B).length) (gW B).length 4 := IsSl.gs 4 _
        have s4 : ∀ {y : Nat} {o : AObj}, y < 4 → lookM [(2, some (.cells (bk B a1 a2).cells)), (0, some (oSt B)), (1, some (oCk B))] y = some o → lookM (goM B 4 (gW B) ++ [(2, some (.cells (bk B a1 a2).cells)), (0, some (oSt B)), (1, some (oCk B))]) y = some o := fun {y o} hy h => (look_skip fun e he => by have := goM_keys e he; omega).trans h
        have x2 : lookM (goM B 4 (gW B) ++ [(2, some (.cells (bk B a1 a2).cells)), (0, some (oSt B)), (1, some (oCk B))]) 2 = some (.cells (bk B a1 a2).cells) := s4 (by decide) rfl
        have xt := goM_tr (B := B) (c := 4) (gT_at hlt)
        have hbl := fun fl => blamed6_at (m := (goM B 4 (gW B) ++ [(2, some (.cells (bk B a1 a2).cells)), (0, some (oSt B)), (1, some (oCk B))])) (c := 200004) h1 h2 hB ht (s4 (by decide) rfl) (s4 (by decide) rfl) (look_app xt.1) (look_app xt.2) fl
        by_cases hp : blP B (gT B k)
        · rw [dB_tt hp] at hbl
          repeat' (first | refine RT.nil ?_ | refine sq_n ?_ | refine Tr.seq ?_ | refine Tr.region ?_ | refine Tr.cond_t rfl ?_ | refine Tr.skip ?_ | refine Tr.block ?_ | (refine RT.goK rfl rfl rfl rfl ?_; first | refine Nx.of (S.lss_t hlt') ?_) | (refine RT.goK rfl rfl rfl rfl ?_; apply Nx.of; (first | exact S.move)) | (refine RT.goK rfl rfl rfl rfl ?_; apply Nx.of; (first | exact S.len_sl rfl rfl rfl (by assumption))))
          refine Tr.openK un23_8 (by kernel_rfl) (by kernel_rfl) _ (pinX_calm (m := (goM B 4 (gW B) ++ [(2, some (.cells (bk B a1 a2).cells)), (0, some (oSt B)), (1, some (oCk B))])) (c := 200004) (m' := (goM B 4 (gW B) ++ [(2, some (.cells (bk B a1 a2).cells)), (0, some (oSt B)), (1, some (oCk B))])) (c' := 200004) hbl (fun fl => Good.refl fl 200004 _)) ?_
          repeat' (first | (refine RD.load rfl rfl rfl rfl rfl rfl rfl (by refine us_all ?_; simp only [usOk, cond_true, cond_false]; (repeat' (first | exact trivial | refine And.intro ?_ ?_)); all_goals (first | rfl | exact .inl trivial)) ?_; apply Nx.of; (first | exact S.loadN rfl rfl x2 rfl rfl | exact S.loadN rfl rfl x5 rfl x6)) | (refine RD.free rfl rfl rfl rfl rfl rfl ?_; refine Nx.of (S.idx_sl rfl rfl rfl hs5 hlt) ?_) | (refine RD.free rfl rfl rfl rfl rfl rfl ?_; apply Nx.of; (first | exact S.move)))
          (refine RD.callX rfl rfl rfl rfl rfl rfl rfl rfl (by simp) (fun fl' => pinX_at _ _ _ _ _ _ _ fl') (fun _ => by refine srOkX_all ?_; simp only [srOkX]; (repeat' (first | exact trivial | refine And.intro ?_ ?_)); all_goals (first | exact trivial | (refine ⟨_, rfl, rfl, ?_⟩; (first | exact hrf | rfl | (simp [rfO, rfVs, rfV, rfVs_flat]; done))))) ?_)
          repeat' (first | refine RD.nil ⟨Nat.le_of_ble_eq_true rfl, ?_⟩)
          repeat' (first | refine RT.nil ?_ | refine sq_n ?_ | refine Tr.region ?_ | refine Tr.cond_t rfl ?_ | refine blk_n ?_ | (refine RT.goK rfl rfl rfl rfl ?_; first | refine Nx.of (S.add_one (by omega)) ?_) | (refine RT.goK rfl rfl rfl rfl ?_; apply Nx.of; (first | exact S.move | exact S.assign)))
          refine lp_n (k + 1) hlt (by omega) (Wk.temps (by decide) (by decide) (by decide) ⟨congrArg some (congrArg (AV.int .i64) (by rw [cnN_t hp] <;> omega)), rfl, rfl, congrArg some (congrArg (AV.int .i64) (by omega)), trivial⟩)
        · rw [dB_ff hp] at hbl
          repeat' (first | refine RT.nil ?_ | refine sq_n ?_ | refine Tr.seq ?_ | refine Tr.region ?_ | refine Tr.cond_t rfl ?_ | refine Tr.skip ?_ | refine Tr.block ?_ | (refine RT.goK rfl rfl rfl rfl ?_; first | refine Nx.of (S.lss_t hlt') ?_) | (refine RT.goK rfl rfl rfl rfl ?_; apply Nx.of; (first | exact S.move)) | (refine RT.goK rfl rfl rfl rfl ?_; apply Nx.of; (first | exact S.len_sl rfl rfl rfl (by assumption))))
          refine Tr.openK un23_8 (by kernel_rfl) (by kernel_rfl) _ (pinX_calm (m := (goM B 4 (gW B) ++ [(2, some (.cells (bk B a1 a2).cells)), (0, some (oSt B)), (1, some (oCk B))])) (c := 200004) (m' := (goM B 4 (gW B) ++ [(2, some (.cells (bk B a1 a2).cells)), (0, some (oSt B)), (1, some (oCk B))])) (c' := 200004) hbl (fun fl => Good.refl fl 200004 _)) ?_
          repeat' (first | (refine RD.load rfl rfl rfl rfl rfl rfl rfl (by refine us_all ?_; simp only [usOk, cond_true, cond_false]; (repeat' (first | exact trivial | refine And.intro ?_ ?_)); all_goals (first | rfl | exact .inl trivial)) ?_; apply Nx.of; (first | exact S.loadN rfl rfl x2 rfl rfl | exact S.loadN rfl rfl x5 rfl x6)) | (refine RD.free rfl rfl rfl rfl rfl rfl ?_; refine Nx.of (S.idx_sl rfl rfl rfl hs5 hlt) ?_) | (refine RD.free rfl rfl rfl rfl rfl rfl ?_; apply Nx.of; (first | exact S.move)))
          (refine RD.callX rfl rfl rfl rfl rfl rfl rfl rfl (by simp) (fun fl' => pinX_at _ _ _ _ _ _ _ fl') (fun _ => by refine srOkX_all ?_; simp only [srOkX]; (repeat' (first | exact trivial | refine And.intro ?_ ?_)); all_goals (first | exact trivial | (refine ⟨_, rfl, rfl, ?_⟩; (first | exact hrf | rfl | (simp [rfO, rfVs, rfV, rfVs_flat]; done))))) ?_)
          repeat' (first | refine RD.nil ⟨Nat.le_of_ble_eq_true rfl, ?_⟩)
          repeat' (first | refine RT.nil ?_ | refine sq_n ?_ | refine Tr.region ?_ | refine Tr.cond_f rfl ?_ | refine Tr.skip ?_ | refine blk_n ?_ | (refine RT.goK rfl rfl rfl rfl ?_; first | refine Nx.of (S.add_one (by omega)) ?_) | (refine RT.goK rfl rfl rfl rfl ?_; apply Nx.of; (first | exact S.move | exact S.assign)))
          refine lp_n (k + 1) hlt (by omega) (Wk.temps (by decide) (by decide) (by decide) ⟨congrArg some (congrArg (AV.int .i64) (by rw [cnN_f hp])), rfl, rfl, congrArg some (congrArg (AV.int .i64) (by omega)), trivial⟩)
      · have hkN : k = (gW B).length := by have : k ≤ (gW B).length := hk; omega
        have hlt' : ¬ (k : Int) < (gW B).length := by omega
        have hs5 : IsSl (AV.gs 4 (gW B).length) (gW B).length 4 := IsSl.gs 4 _
        have e0 : ∀ k, cnN (fun i => blP B (gT B i)) k = cnN (fun i => blP B (gT B i)) k := fun _ => rfl
        by_cases c0 : cnN (fun i => blP B (gT B i)) k = 0
        · have hw : whV B (blP B) = 0 := whV_0 (fun q => cnN_0.1 c0 0 (by omega) (q _ ((gT_mem hB).2 ⟨0, hlp, rfl⟩))) (fun ⟨t, ht, q⟩ => by
            obtain ⟨i, hi, rfl⟩ := (gT_mem hB).1 ht
            exact cnN_0.1 c0 i (by omega) q)
          have c0' : ((cnN (fun i => blP B (gT B i)) k : Nat) : Int) = 0 := by omega
          repeat' (first | refine RT.nil ?_ | refine sq_n ?_ | refine Tr.seq ?_ | refine Tr.region ?_ | refine Tr.cond_t rfl ?_ | refine Tr.cond_f rfl ?_ | refine Tr.ret ?_ | refine sq_r ?_ | refine Tr.exit ?_ | refine sq_x ?_ | refine Tr.block ?_ | refine blk_r ?_ | refine blk_hit rfl ?_ | refine lp_x ?_ | (refine RT.goK rfl rfl rfl rfl ?_; first | refine Nx.of (S.lss_f hlt') ?_ | refine Nx.of (S.eql_t c0') ?_) | (refine RT.goK rfl rfl rfl rfl ?_; apply Nx.of; (first | exact S.move | exact S.assign)) | (refine RT.goK rfl rfl rfl rfl ?_; apply Nx.of; (first | exact S.len_sl rfl rfl rfl (by assumption))))
          (first | refine rt_go rfl ?_)
          rw [hw]
          rfl
        · have c0' : ¬ ((cnN (fun i => blP B (gT B i)) k : Nat) : Int) = 0 := by omega
          by_cases cN : cnN (fun i => blP B (gT B i)) k = (gW B).length
          · have cN' : ((cnN (fun i => blP B (gT B i)) k : Nat) : Int) = (gW B).length := by omega
            have hw : whV B (blP B) = 2 := whV_2 fun t ht => by
              obtain ⟨i, hi, rfl⟩ := (gT_mem hB).1 ht
              exact cnN_all.1 (cN.trans hkN.symm) i (by omega)
            repeat' (first | refine RT.nil ?_ | refine sq_n ?_ | refine Tr.seq ?_ | refine Tr.region ?_ | refine Tr.cond_t rfl ?_ | refine Tr.cond_f rfl ?_ | refine Tr.ret ?_ | refine sq_r ?_ | refine Tr.exit ?_ | refine sq_x ?_ | refine Tr.block ?_ | refine blk_r ?_ | refine blk_hit rfl ?_ | refine lp_x ?_ | (refine RT.goK rfl rfl rfl rfl ?_; first | refine Nx.of (S.lss_f hlt') ?_ | refine Nx.of (S.eql_f c0') ?_ | refine Nx.of (S.eql_t cN') ?_) | (refine RT.goK rfl rfl rfl rfl ?_; apply Nx.of; (first | exact S.move | exact S.assign)) | (refine RT.goK rfl rfl rfl rfl ?_; apply Nx.of; (first | exact S.len_sl rfl rfl rfl (by assumption))))
            (first | refine rt_go rfl ?_)
            rw [hw]
            rfl
          · have cN' : ¬ ((cnN (fun i => blP B (gT B i)) k : Nat) : Int) = (gW B).length := by omega
            have hw : whV B (blP B) = 1 := whV_1 (fun q => cN (by
                rw [← hkN]
                exact cnN_all.2 fun i hi => q _ ((gT_mem hB).2 ⟨i, by omega, rfl⟩))) (Classical.byContradiction fun q => c0 (cnN_0.2 fun i hi h => q ⟨_, (gT_mem hB).2 ⟨i, by omega, rfl⟩, h⟩))
            repeat' (first | refine RT.nil ?_ | refine sq_n ?_ | refine Tr.seq ?_ | refine Tr.region ?_ | refine Tr.cond_f rfl ?_ | refine Tr.skip ?_ | refine Tr.ret ?_ | refine Tr.exit ?_ | refine sq_x ?_ | refine Tr.block ?_ | refine blk_n ?_ | refine blk_hit rfl ?_ | refine lp_x ?_ | (refine RT.goK rfl rfl rfl rfl ?_; first | refine Nx.of (S.lss_f hlt') ?_ | refine Nx.of (S.eql_f c0') ?_ | refine Nx.of (S.eql_f cN') ?_) | (refine RT.goK rfl rfl rfl rfl ?_; apply Nx.of; (first | exact S.move | exact S.assign)) | (refine RT.goK rfl rfl rfl rfl ?_; apply Nx.of; (first | exact S.len_sl rfl rfl rfl (by assumption))))
            (first | refine rt_go rfl ?_)
            rw [hw]
            rfl
  · have hask := fun fl => asked_no_at (m := [(2, some (.cells (bk B a1 a2).cells)), (0, some (oSt B)), (1, some (oCk B))]) (c := 3) ⟨h1, h2, rfl, rfl, by decide⟩ hn hB true fl
    rw [numA_err (ansE_no hB) (by decide)]
    repeat' (first | refine RT.nil ?_ | refine sq_n ?_ | refine Tr.seq ?_ | refine Tr.region ?_ | refine Tr.cond_t rfl ?_ | refine Tr.ret ?_ | refine sq_r ?_ | (refine RT.call rfl rfl rfl (hask _) rfl rfl (by decide) ?_) | (refine RT.goK rfl rfl rfl rfl ?_; apply Nx.of; (first | exact S.neq_t (by decide))) | (refine RT.goK rfl rfl rfl rfl ?_; apply Nx.of; (first | exact S.move | exact S.assign | exact S.loadNc rfl rfl rfl rfl | exact S.box | exact S.extract rfl)))
    (first | refine rt_go rfl ?_)
    rfl
end Go.Proofs.Ytlnmcadbmpiopaa
