/- Texts of one kind, one behind the other: Cd, SyK, SyL, Ce, Cf, Cg, SyM. -/
import Derived.Test.YtcoklgmdifggbaaEN2
set_option linter.unusedVariables false
set_option linter.unusedSimpArgs false
/- The truths of package claim: wrongAt. -/
namespace Go.Proofs.Ytcoklgmdifggbaa
open Go Go.Ev

abbrev moE (k : Int × Int) : AV := moV k.1 k.2
abbrev moW (k : Int × Int) : Value := .agg #[.int .i64 k.1, .int .i64 k.2]
theorem moKeys : Keys Try.prog 124 moE moW where
  plain := fun k => rfl
  eq := fun k k' => by
    have : eqV Try.prog 100 124 (moW k) (moW k') = andV (some (k.1 == k'.1)) (andV (some (k.2 == k'.2)) (some true)) := by kernel_rfl
    rw [this]
    obtain ⟨a, b⟩ := k
    obtain ⟨e, d⟩ := k'
    by_cases h1 : a = e <;> by_cases h2 : b = d <;> simp [andV, h1, h2]
  ok := fun k => by kernel_rfl

/-- The clocks of a stage, of the first ones, that are wrong if the coach comes in a minute. -/
noncomputable def wrS (B : CBook) (s mi : Int) : Nat → Int
  | 0 => 0
  | k + 1 => bif dB (B.ck k = s ∧ ¬ (B.rd k - B.er k ≤ mi ∧ mi ≤ B.rd k + B.er k)) then orI (wrS B s mi k) (1 * 2 ^ k) else wrS B s mi k
noncomputable def wrV (B : CBook) (k : Int × Int) : Int := wrS B k.1 k.2 B.nc
noncomputable def wrA (B : CBook) (k : Int × Int) : AV := .int .i64 (wrV B k)
def insL (L : List (Int × Int)) (k : Int × Int) : List (Int × Int) := if k ∈ L then L else L ++ [k]
noncomputable abbrev oMap (B : CBook) (L : List (Int × Int)) : AObj := .map (mapOf moE (wrA B) L)
theorem ren_mapA (B : CBook) (L : List (Int × Int)) (σ : Nat → Nat) : (oMap B L).ren σ = oMap B L := by
  have : ∀ L : List (Int × Int), renE σ (mapOf moE (wrA B) L) = mapOf moE (wrA B) L := fun L => by
    induction L with
    | nil => rfl
    | cons k L ih =>
      show (_, _) :: renE σ (mapOf moE (wrA B) L) = _
      rw [ih]
      rfl
  show AObj.map _ = _
  rw [this]

theorem pbc_ren {B : CBook} {a1 a2 : AV} {q : Nat} (h1 : IsSl a1 B.ns 0) (h2 : IsSl a2 B.nc 1) {σ : Nat → Nat} (e1 : σ 0 = 0) (e2 : σ 1 = 1) (e3 : σ q = q) : (AObj.cells (pbC B a1 a2 q)).ren σ = .cells (pbC B a1 a2 q) := by simp only [pbC, AObj.ren, AV.ren, AV.rens, h1.ren e1, h2.ren e2, e3]
theorem isRight_at' (fl : Nat) (t : Tru) (i : Nat) (hi : i < 3) (s r e : Int) (hs : s = i) (hr : 0 ≤ r ∧ r ≤ 600) (he : 0 ≤ e ∧ e ≤ 5) (H : T AObj) (c : Nat) : OkAt 0 Try.prog fl 87 [.agg [.int .i64 s, .int .i64 r, .int .i64 e], trV t] H c (.bool (dB (r - e ≤ t.c i ∧ t.c i ≤ r + e))) H c := by
  subst hs; exact isRight_at fl t i hi r e hr he H c

set_option maxRecDepth 100000 in
set_option maxHeartbeats 4000000 in
theorem wrongAt_can (B : CBook) (a1 a2 : AV) (h1 : IsSl a1 B.ns 0) (h2 : IsSl a2 B.nc 1) (hck : cksOk B) (L : List (Int × Int)) (t : Tru) (i : Nat) (hi : i < 3) : CanS 0 Try.prog 116 3 [.ptr 2 0, .int .i64 (i : Int), trV t] [(0, some (oSt B)), (1, some (oCk B)), (2, some (.cells (pbC B a1 a2 3))), (3, some (oMap B L))] 4 fun v H1 _ => v = .int .i64 (wrV B (i, t.c i)) ∧ H1.get 3 = some (oMap B (insL L (i, t.c i))) := by
  refine CanS.mk Try.func116 rfl rfl rfl ?_
  repeat' (first | refine RT.nil ?_ | refine sq_n ?_ | refine Tr.seq ?_ | refine Tr.region ?_ | refine Tr.cond_t rfl ?_ | refine Tr.cond_f rfl ?_ | refine Tr.cond_d rfl (fun _ => ?_) (fun _ => ?_) | refine Tr.skip ?_ | refine Tr.ret ?_ | refine sq_r ?_ | refine Tr.exit ?_ | refine sq_x ?_ | refine Tr.block ?_ | refine blk_n ?_ | refine blk_r ?_ | refine blk_hit rfl ?_ | refine blk_pass rfl ?_ | refine Tr.label ?_ | refine Tr.scope ?_ | refine scp_n ?_ | refine scp_r ?_ | refine scp_x ?_ | refine lp_r ?_ | refine lp_x ?_ | (refine RT.splitd rfl rfl (fun _ => ?_) (fun _ => ?_)) | (refine RT.call rfl rfl rfl (moment_at _ _ _ hi _ _) rfl rfl (Nat.le_refl _) ?_) | (refine RT.goK rfl rfl rfl rfl ?_; apply Nx.of; (first | exact S.move | exact S.assign | exact S.load1c rfl rfl rfl rfl | exact S.loadNc rfl rfl rfl rfl | exact S.fieldAddr rfl rfl rfl | exact S.leq | exact S.lss | exact S.eql | exact S.neq | exact S.geq | exact S.gtr | exact S.not_t | exact S.not_f | exact S.not_d | exact S.pick_tt | exact S.pick_ff | exact S.pick_td (by assumption) | exact S.pick_fd (by assumption) | exact S.pick_b | exact S.box | exact S.alloc rfl | exact S.add_one (by omega) | exact S.sub_one (by omega) (by omega) | exact S.add (by unfold In64; omega) | exact S.sub (by unfold In64; omega) | exact S.mul (by unfold In64; omega) | exact S.add_w | exact S.sub_w | exact S.mul_w | exact S.min2 | exact S.max2 | exact S.build rfl rfl rfl | exact S.buildA rfl rfl rfl rfl | exact S.nilCheck | exact S.extract rfl | exact S.eqlA (eqMo _ _ _ _))) | (refine RT.goK0 rfl rfl rfl ?_; apply Nx.of; (first | exact S.store rfl rfl rfl rfl rfl rfl | exact S.eqlA (eqMo _ _ _ _))) | (refine RT.no rfl rfl rfl ?_))
  refine Tr.openK un116_2 (by kernel_rfl) (by kernel_rfl) noCall noCall_calm ?_
  by_cases hL : ((i : Int), t.c i) ∈ L
  · repeat' (first | (refine RD.free rfl rfl rfl rfl rfl rfl ?_; apply Nx.of; (first | exact S.move | exact S.assign | exact S.fieldAddr rfl rfl rfl | exact S.leq | exact S.lss | exact S.eql | exact S.neq | exact S.geq | exact S.gtr | exact S.not_t | exact S.not_f | exact S.not_d | exact S.pick_tt | exact S.pick_ff | exact S.pick_td (by assumption) | exact S.pick_fd (by assumption) | exact S.pick_b | exact S.add_one (by omega) | exact S.sub_one (by omega) (by omega) | exact S.add (by unfold In64; omega) | exact S.sub (by unfold In64; omega) | exact S.mul (by unfold In64; omega) | exact S.add_w | exact S.sub_w | exact S.mul_w | exact S.min2 | exact S.max2 | exact S.build rfl rfl rfl | exact S.buildA rfl rfl rfl rfl | exact S.nilCheck | exact S.extract rfl | exact S.eqlA (eqMo _ _ _ _) | exact S.idx_sl rfl rfl rfl (by assumption) (by omega) | exact S.idx_slI rfl rfl rfl (by assumption) (by omega) (by omega) | exact S.rowN0 rfl rfl rfl (fun _ => rfl) (range_at (by omega)) rfl | exact S.rowN rfl rfl rfl (fun _ => rfl) (range_at (by omega)) rfl | exact S.row0 rfl rfl rfl (fun _ => rfl) (range_at (by omega)) rfl | exact S.row rfl rfl rfl (fun _ => rfl) (range_at (by omega)) rfl | exact S.row2 rfl rfl rfl (fun _ => rfl) (range_at (by omega)) rfl | exact S.len_sl rfl rfl rfl (by assumption) | exact S.index_arrI rfl rfl rfl rfl (by decide) (by decide) rfl | exact S.idx_arrI rfl rfl rfl (by decide) (by decide))) | (refine RD.new rfl rfl rfl rfl rfl rfl ?_; apply Nx.of; (first | exact S.box | exact S.alloc rfl | exact S.eqlA (eqMo _ _ _ _))) | (refine RD.load rfl rfl rfl rfl rfl rfl rfl rfl ?_; apply Nx.of; (first | exact S.load1c rfl rfl rfl rfl | exact S.loadNc rfl rfl rfl rfl | exact S.eqlA (eqMo _ _ _ _) | exact S.idx_sl rfl rfl rfl (by assumption) (by omega) | exact S.idx_slI rfl rfl rfl (by assumption) (by omega) (by omega) | exact S.rowN0 rfl rfl rfl (fun _ => rfl) (range_at (by omega)) rfl | exact S.rowN rfl rfl rfl (fun _ => rfl) (range_at (by omega)) rfl | exact S.row0 rfl rfl rfl (fun _ => rfl) (range_at (by omega)) rfl | exact S.row rfl rfl rfl (fun _ => rfl) (range_at (by omega)) rfl | exact S.row2 rfl rfl rfl (fun _ => rfl) (range_at (by omega)) rfl | exact S.len_sl rfl rfl rfl (by assumption))) | (refine RD.store rfl rfl rfl rfl rfl rfl rfl ?_; apply Nx.of; (first | exact S.store rfl rfl rfl rfl rfl rfl | exact S.eqlA (eqMo _ _ _ _))) | (refine RD.no rfl rfl rfl rfl ?_) | (refine RD.load rfl rfl rfl rfl rfl rfl rfl (by refine us_all ?_; simp only [usOk, cond_true, cond_false]; (repeat' (first | exact trivial | refine And.intro ?_ ?_)); all_goals (first | rfl | exact .inl trivial | exact .inl rfl | (refine Or.inr (was_same rfl ?_); (first | (exact ⟨_, rfl, rfl⟩) | (exact ⟨_, rfl, by simp [rfO, rfVs, rfV, rfVs_flat]⟩))))) ?_; apply Nx.of; (first | exact S.load1c rfl rfl rfl rfl | exact S.loadNc rfl rfl rfl rfl | exact S.eqlA (eqMo _ _ _ _) | exact S.idx_sl rfl rfl rfl (by assumption) (by omega) | exact S.idx_slI rfl rfl rfl (by assumption) (by omega) (by omega) | exact S.rowN0 rfl rfl rfl (fun _ => rfl) (range_at (by omega)) rfl | exact S.rowN rfl rfl rfl (fun _ => rfl) (range_at (by omega)) rfl | exact S.row0 rfl rfl rfl (fun _ => rfl) (range_at (by omega)) rfl | exact S.row rfl rfl rfl (fun _ => rfl) (range_at (by omega)) rfl | exact S.row2 rfl rfl rfl (fun _ => rfl) (range_at (by omega)) rfl | exact S.len_sl rfl rfl rfl (by assumption))) | (refine RD.load rfl rfl rfl rfl rfl rfl rfl (by refine us_all ?_; simp only [usOk, cond_true, cond_false]; (repeat' (first | exact trivial | refine And.intro ?_ ?_)); all_goals (first | rfl | exact .inl trivial | exact .inl rfl | (refine Or.inr (was_same rfl ?_); (first | (exact ⟨_, rfl, rfl⟩) | (exact ⟨_, rfl, by simp [rfO, rfVs, rfV, rfVs_flat]⟩))))) ?_; (refine Nx.of (S.look_hit (enc := moE) (f := wrA B) (L := L) (k := ((i : Int), t.c i)) moKeys rfl rfl rfl hL) ?_)) | refine RD.nil ⟨Nat.le_of_ble_eq_true rfl, ?_⟩)
    repeat' (first | refine RT.nil ?_ | refine sq_n ?_ | refine Tr.seq ?_ | refine Tr.region ?_ | refine Tr.cond_t rfl ?_ | refine Tr.cond_f rfl ?_ | refine Tr.cond_d rfl (fun _ => ?_) (fun _ => ?_) | refine Tr.skip ?_ | refine Tr.ret ?_ | refine sq_r ?_ | refine Tr.exit ?_ | refine sq_x ?_ | refine Tr.block ?_ | refine blk_n ?_ | refine blk_r ?_ | refine blk_hit rfl ?_ | refine blk_pass rfl ?_ | refine Tr.label ?_ | refine Tr.scope ?_ | refine scp_n ?_ | refine scp_r ?_ | refine scp_x ?_ | refine lp_r ?_ | refine lp_x ?_ | (refine RT.goK rfl rfl rfl rfl ?_; apply Nx.of; (first | exact S.move | exact S.assign | exact S.load1c rfl rfl rfl rfl | exact S.loadNc rfl rfl rfl rfl | exact S.fieldAddr rfl rfl rfl | exact S.leq | exact S.lss | exact S.eql | exact S.neq | exact S.geq | exact S.gtr | exact S.not_t | exact S.not_f | exact S.not_d | exact S.pick_tt | exact S.pick_ff | exact S.pick_td (by assumption) | exact S.pick_fd (by assumption) | exact S.pick_b | exact S.box | exact S.alloc rfl | exact S.add_one (by omega) | exact S.sub_one (by omega) (by omega) | exact S.add (by unfold In64; omega) | exact S.sub (by unfold In64; omega) | exact S.mul (by unfold In64; omega) | exact S.add_w | exact S.sub_w | exact S.mul_w | exact S.min2 | exact S.max2 | exact S.build rfl rfl rfl | exact S.buildA rfl rfl rfl rfl | exact S.nilCheck | exact S.extract rfl | exact S.eqlA (eqMo _ _ _ _))) | (refine RT.goK0 rfl rfl rfl ?_; apply Nx.of; (first | exact S.store rfl rfl rfl rfl rfl rfl | exact S.eqlA (eqMo _ _ _ _))))
    (first | refine rt_go rfl ?_ | refine rt_go (by exact rfl) ?_)
    refine ⟨rfl, ?_⟩
    rw [insL, if_pos hL]
    exact getM rfl
  · repeat' (first | (refine RD.free rfl rfl rfl rfl rfl rfl ?_; apply Nx.of; (first | exact S.move | exact S.assign | exact S.fieldAddr rfl rfl rfl | exact S.leq | exact S.lss | exact S.eql | exact S.neq | exact S.geq | exact S.gtr | exact S.not_t | exact S.not_f | exact S.not_d | exact S.pick_tt | exact S.pick_ff | exact S.pick_td (by assumption) | exact S.pick_fd (by assumption) | exact S.pick_b | exact S.add_one (by omega) | exact S.sub_one (by omega) (by omega) | exact S.add (by unfold In64; omega) | exact S.sub (by unfold In64; omega) | exact S.mul (by unfold In64; omega) | exact S.add_w | exact S.sub_w | exact S.mul_w | exact S.min2 | exact S.max2 | exact S.build rfl rfl rfl | exact S.buildA rfl rfl rfl rfl | exact S.nilCheck | exact S.extract rfl | exact S.eqlA (eqMo _ _ _ _) | exact S.idx_sl rfl rfl rfl (by assumption) (by omega) | exact S.idx_slI rfl rfl rfl (by assumption) (by omega) (by omega) | exact S.rowN0 rfl rfl rfl (fun _ => rfl) (range_at (by omega)) rfl | exact S.rowN rfl rfl rfl (fun _ => rfl) (range_at (by omega)) rfl | exact S.row0 rfl rfl rfl (fun _ => rfl) (range_at (by omega)) rfl | exact S.row rfl rfl rfl (fun _ => rfl) (range_at (by omega)) rfl | exact S.row2 rfl rfl rfl (fun _ => rfl) (range_at (by omega)) rfl | exact S.len_sl rfl rfl rfl (by assumption) | exact S.index_arrI rfl rfl rfl rfl (by decide) (by decide) rfl | exact S.idx_arrI rfl rfl rfl (by decide) (by decide))) | (refine RD.new rfl rfl rfl rfl rfl rfl ?_; apply Nx.of; (first | exact S.box | exact S.alloc rfl | exact S.eqlA (eqMo _ _ _ _))) | (refine RD.load rfl rfl rfl rfl rfl rfl rfl rfl ?_; apply Nx.of; (first | exact S.load1c rfl rfl rfl rfl | exact S.loadNc rfl rfl rfl rfl | exact S.eqlA (eqMo _ _ _ _) | exact S.idx_sl rfl rfl rfl (by assumption) (by omega) | exact S.idx_slI rfl rfl rfl (by assumption) (by omega) (by omega) | exact S.rowN0 rfl rfl rfl (fun _ => rfl) (range_at (by omega)) rfl | exact S.rowN rfl rfl rfl (fun _ => rfl) (range_at (by omega)) rfl | exact S.row0 rfl rfl rfl (fun _ => rfl) (range_at (by omega)) rfl | exact S.row rfl rfl rfl (fun _ => rfl) (range_at (by omega)) rfl | exact S.row2 rfl rfl rfl (fun _ => rfl) (range_at (by omega)) rfl | exact S.len_sl rfl rfl rfl (by assumption))) | (refine RD.store rfl rfl rfl rfl rfl rfl rfl ?_; apply Nx.of; (first | exact S.store rfl rfl rfl rfl rfl rfl | exact S.eqlA (eqMo _ _ _ _))) | (refine RD.no rfl rfl rfl rfl ?_) | (refine RD.load rfl rfl rfl rfl rfl rfl rfl (by refine us_all ?_; simp only [usOk, cond_true, cond_false]; (repeat' (first | exact trivial | refine And.intro ?_ ?_)); all_goals (first | rfl | exact .inl trivial | exact .inl rfl | (refine Or.inr (was_same rfl ?_); (first | (exact ⟨_, rfl, rfl⟩) | (exact ⟨_, rfl, by simp [rfO, rfVs, rfV, rfVs_flat]⟩))))) ?_; apply Nx.of; (first | exact S.load1c rfl rfl rfl rfl | exact S.loadNc rfl rfl rfl rfl | exact S.eqlA (eqMo _ _ _ _) | exact S.idx_sl rfl rfl rfl (by assumption) (by omega) | exact S.idx_slI rfl rfl rfl (by assumption) (by omega) (by omega) | exact S.rowN0 rfl rfl rfl (fun _ => rfl) (range_at (by omega)) rfl | exact S.rowN rfl rfl rfl (fun _ => rfl) (range_at (by omega)) rfl | exact S.row0 rfl rfl rfl (fun _ => rfl) (range_at (by omega)) rfl | exact S.row rfl rfl rfl (fun _ => rfl) (range_at (by omega)) rfl | exact S.row2 rfl rfl rfl (fun _ => rfl) (range_at (by omega)) rfl | exact S.len_sl rfl rfl rfl (by assumption))) | (refine RD.load rfl rfl rfl rfl rfl rfl rfl (by refine us_all ?_; simp only [usOk, cond_true, cond_false]; (repeat' (first | exact trivial | refine And.intro ?_ ?_)); all_goals (first | rfl | exact .inl trivial | exact .inl rfl | (refine Or.inr (was_same rfl ?_); (first | (exact ⟨_, rfl, rfl⟩) | (exact ⟨_, rfl, by simp [rfO, rfVs, rfV, rfVs_flat]⟩))))) ?_; (refine Nx.of (S.look_miss (enc := moE) (f := wrA B) (L := L) (k := ((i : Int), t.c i)) moKeys rfl rfl rfl rfl hL) ?_)) | refine RD.nil ⟨Nat.le_of_ble_eq_true rfl, ?_⟩)
    repeat' (first | refine RT.nil ?_ | refine sq_n ?_ | refine Tr.seq ?_ | refine Tr.region ?_ | refine Tr.cond_t rfl ?_ | refine Tr.cond_f rfl ?_ | refine Tr.cond_d rfl (fun _ => ?_) (fun _ => ?_) | refine Tr.skip ?_ | refine Tr.ret ?_ | refine sq_r ?_ | refine Tr.exit ?_ | refine sq_x ?_ | refine Tr.block ?_ | refine blk_n ?_ | refine blk_r ?_ | refine blk_hit rfl ?_ | refine blk_pass rfl ?_ | refine Tr.label ?_ | refine Tr.scope ?_ | refine scp_n ?_ | refine scp_r ?_ | refine scp_x ?_ | refine lp_r ?_ | refine lp_x ?_ | (refine RT.goK rfl rfl rfl rfl ?_; apply Nx.of; (first | exact S.move | exact S.assign | exact S.load1c rfl rfl rfl rfl | exact S.loadNc rfl rfl rfl rfl | exact S.fieldAddr rfl rfl rfl | exact S.leq | exact S.lss | exact S.eql | exact S.neq | exact S.geq | exact S.gtr | exact S.not_t | exact S.not_f | exact S.not_d | exact S.pick_tt | exact S.pick_ff | exact S.pick_td (by assumption) | exact S.pick_fd (by assumption) | exact S.pick_b | exact S.box | exact S.alloc rfl | exact S.add_one (by omega) | exact S.sub_one (by omega) (by omega) | exact S.add (by unfold In64; omega) | exact S.sub (by unfold In64; omega) | exact S.mul (by unfold In64; omega) | exact S.add_w | exact S.sub_w | exact S.mul_w | exact S.min2 | exact S.max2 | exact S.build rfl rfl rfl | exact S.buildA rfl rfl rfl rfl | exact S.nilCheck | exact S.extract rfl | exact S.eqlA (eqMo _ _ _ _))) | (refine RT.goK0 rfl rfl rfl ?_; apply Nx.of; (first | exact S.store rfl rfl rfl rfl rfl rfl | exact S.eqlA (eqMo _ _ _ _))) | (refine RT.goK rfl rfl rfl rfl ?_; apply Nx.of; (first | exact S.idx_sl rfl rfl rfl (by assumption) (by omega) | exact S.idx_slI rfl rfl rfl (by assumption) (by omega) (by omega) | exact S.rowN0 rfl rfl rfl (fun _ => rfl) (range_at (by omega)) rfl | exact S.rowN rfl rfl rfl (fun _ => rfl) (range_at (by omega)) rfl | exact S.row0 rfl rfl rfl (fun _ => rfl) (range_at (by omega)) rfl | exact S.row rfl rfl rfl (fun _ => rfl) (range_at (by omega)) rfl | exact S.row2 rfl rfl rfl (fun _ => rfl) (range_at (by omega)) rfl | exact S.len_sl rfl rfl rfl (by assumption))))
    refine Tr.loop (fun k : Nat => stL Try.f116.ntmps [] [(0, .ptr 2 0), (1, .int .i64 (i : Int)), (5, .ptr 4 0), (7, .ptr 5 0), (8, .int .i64 (wrS B i (t.c i) k)), (30, a2), (31, .int .i64 B.nc), (32, .int .i64 k)] [(5, some (.cells [.int .i64 (i : Int), .int .i64 (t.c i)])), (4, some (.cells (trV t).cells)), (0, some (oSt B)), (1, some (oCk B)), (2, some (.cells (pbC B a1 a2 3))), (3, some (oMap B L))] 6) (fun k => k ≤ B.nc) (fun k => B.nc - k) 0 (Nat.zero_le _) (by (refine Wk.same (by decide) (by decide) (by decide) (by decide) ?_ ?_ rfl; all_goals ((try simp only [allL, allM]); (repeat' (first | exact trivial | refine And.intro ?_ ?_)); all_goals (first | rfl | exact congrArg some (congrArg (AV.int .i64) (by omega)) | exact IsSl.ren (by assumption) (nm_lt (by decide)) | exact ren_ro _ _ _ | exact ren_grown _ _ _ _ | exact ren_mapA _ _ _ | exact pbc_ren h1 h2 (nm_lt (by decide)) (nm_lt (by decide)) (nm_lt (by decide)) | decide)))) (fun k hk => ?_)
    have hk4 : k < B.nc → ckOk B (B.ck k) (B.rd k) (B.er k) := fun h => hck.2 k h
    have hnc := hck.1
    have hsh : k < B.nc → In64 (1 * 2 ^ k) := fun h => by
      obtain rfl | rfl | rfl | rfl : k = 0 ∨ k = 1 ∨ k = 2 ∨ k = 3 := by omega
      all_goals (unfold In64; decide)
    by_cases hkn : k < B.nc
    · have hsh := hsh hkn
      obtain ⟨_, hr, he⟩ := hk4 hkn
      repeat' (first | refine RT.nil ?_ | refine sq_n ?_ | refine Tr.seq ?_ | refine Tr.region ?_ | refine Tr.cond_t rfl ?_ | refine Tr.cond_f rfl ?_ | refine Tr.cond_d rfl (fun _ => ?_) (fun _ => ?_) | refine Tr.skip ?_ | refine Tr.ret ?_ | refine sq_r ?_ | refine Tr.exit ?_ | refine sq_x ?_ | refine Tr.block ?_ | refine blk_n ?_ | refine blk_r ?_ | refine blk_hit rfl ?_ | refine blk_pass rfl ?_ | refine Tr.label ?_ | refine Tr.scope ?_ | refine scp_n ?_ | refine scp_r ?_ | refine scp_x ?_ | refine lp_r ?_ | refine lp_x ?_ | (refine RT.splitd rfl rfl (fun _ => ?_) (fun _ => ?_)) | (refine RT.call rfl rfl rfl (isRight_at' _ _ _ hi _ _ _ (by assumption) (by assumption) (by assumption) _ _) rfl rfl (Nat.le_refl _) ?_) | (refine RT.goK rfl rfl rfl rfl ?_; apply Nx.of; (first | exact S.move | exact S.assign | exact S.load1c rfl rfl rfl rfl | exact S.loadNc rfl rfl rfl rfl | exact S.fieldAddr rfl rfl rfl | exact S.leq | exact S.lss | exact S.eql | exact S.neq | exact S.geq | exact S.gtr | exact S.not_t | exact S.not_f | exact S.not_d | exact S.pick_tt | exact S.pick_ff | exact S.pick_td (by assumption) | exact S.pick_fd (by assumption) | exact S.pick_b | exact S.box | exact S.alloc rfl | exact S.add_one (by omega) | exact S.sub_one (by omega) (by omega) | exact S.add (by unfold In64; omega) | exact S.sub (by unfold In64; omega) | exact S.mul (by unfold In64; omega) | exact S.add_w | exact S.sub_w | exact S.mul_w | exact S.min2 | exact S.max2 | exact S.build rfl rfl rfl | exact S.buildA rfl rfl rfl rfl | exact S.nilCheck | exact S.extract rfl | exact S.eqlA (eqMo _ _ _ _))) | (refine RT.goK0 rfl rfl rfl ?_; apply Nx.of; (first | exact S.store rfl rfl rfl rfl rfl rfl | exact S.eqlA (eqMo _ _ _ _))) | (refine RT.goK rfl rfl rfl rfl ?_; apply Nx.of; (first | exact S.idx_sl rfl rfl rfl (by assumption) (by omega) | exact S.idx_slI rfl rfl rfl (by assumption) (by omega) (by omega) | exact S.rowN0 rfl rfl rfl (fun _ => rfl) (range_at (by omega)) rfl | exact S.rowN rfl rfl rfl (fun _ => rfl) (range_at (by omega)) rfl | exact S.row0 rfl rfl rfl (fun _ => rfl) (range_at (by omega)) rfl | exact S.row rfl rfl rfl (fun _ => rfl) (range_at (by omega)) rfl | exact S.row2 rfl rfl rfl (fun _ => rfl) (range_at (by omega)) rfl | exact S.len_sl rfl rfl rfl (by assumption))) | (refine RT.goK rfl rfl rfl rfl ?_; apply Nx.of; (first | exact S.shl (by omega) hsh | exact S.or)) | (refine RT.no rfl rfl rfl ?_))
      · have e1 : wrS B (i : Int) (t.c i) (k + 1) = orI (wrS B (i : Int) (t.c i) k) (1 * 2 ^ k) := by
          rw [wrS, show dB (B.ck k = (i : Int) ∧ ¬ (B.rd k - B.er k ≤ t.c i ∧ t.c i ≤ B.rd k + B.er k)) = true from dB_tt ⟨by assumption, by assumption⟩]; rfl
        exact lp_n (k + 1) (by omega) (by omega) (by (refine Wk.same (by decide) (by decide) (by decide) (by decide) ?_ ?_ rfl; all_goals ((try simp only [allL, allM]); (repeat' (first | exact trivial | refine And.intro ?_ ?_)); all_goals (first | rfl | exact congrArg some (congrArg (AV.int .i64) (by omega)) | exact IsSl.ren (by assumption) (nm_lt (by decide)) | exact ren_ro _ _ _ | exact ren_grown _ _ _ _ | exact ren_mapA _ _ _ | exact pbc_ren h1 h2 (nm_lt (by decide)) (nm_lt (by decide)) (nm_lt (by decide)) | decide))))
      · have e1 : wrS B (i : Int) (t.c i) (k + 1) = wrS B (i : Int) (t.c i) k := by
          rw [wrS, show dB (B.ck k = (i : Int) ∧ ¬ (B.rd k - B.er k ≤ t.c i ∧ t.c i ≤ B.rd k + B.er k)) = false from dB_ff fun h => absurd h.2 (by assumption)]; rfl
        exact lp_n (k + 1) (by omega) (by omega) (by (refine Wk.same (by decide) (by decide) (by decide) (by decide) ?_ ?_ rfl; all_goals ((try simp only [allL, allM]); (repeat' (first | exact trivial | refine And.intro ?_ ?_)); all_goals (first | rfl | exact congrArg some (congrArg (AV.int .i64) (by omega)) | exact IsSl.ren (by assumption) (nm_lt (by decide)) | exact ren_ro _ _ _ | exact ren_grown _ _ _ _ | exact ren_mapA _ _ _ | exact pbc_ren h1 h2 (nm_lt (by decide)) (nm_lt (by decide)) (nm_lt (by decide)) | decide))))
      · have e1 : wrS B (i : Int) (t.c i) (k + 1) = wrS B (i : Int) (t.c i) k := by
          rw [wrS, show dB (B.ck k = (i : Int) ∧ ¬ (B.rd k - B.er k ≤ t.c i ∧ t.c i ≤ B.rd k + B.er k)) = false from dB_ff fun h => absurd h.1 (by assumption)]; rfl
        exact lp_n (k + 1) (by omega) (by omega) (by (refine Wk.same (by decide) (by decide) (by decide) (by decide) ?_ ?_ rfl; all_goals ((try simp only [allL, allM]); (repeat' (first | exact trivial | refine And.intro ?_ ?_)); all_goals (first | rfl | exact congrArg some (congrArg (AV.int .i64) (by omega)) | exact IsSl.ren (by assumption) (nm_lt (by decide)) | exact ren_ro _ _ _ | exact ren_grown _ _ _ _ | exact ren_mapA _ _ _ | exact pbc_ren h1 h2 (nm_lt (by decide)) (nm_lt (by decide)) (nm_lt (by decide)) | decide))))
      · exfalso; omega
    · have hkn' : k = B.nc := by omega
      repeat' (first | refine RT.nil ?_ | refine sq_n ?_ | refine Tr.seq ?_ | refine Tr.region ?_ | refine Tr.cond_t rfl ?_ | refine Tr.cond_f rfl ?_ | refine Tr.cond_d rfl (fun _ => ?_) (fun _ => ?_) | refine Tr.skip ?_ | refine Tr.ret ?_ | refine sq_r ?_ | refine Tr.exit ?_ | refine sq_x ?_ | refine Tr.block ?_ | refine blk_n ?_ | refine blk_r ?_ | refine blk_hit rfl ?_ | refine blk_pass rfl ?_ | refine Tr.label ?_ | refine Tr.scope ?_ | refine scp_n ?_ | refine scp_r ?_ | refine scp_x ?_ | refine lp_r ?_ | refine lp_x ?_ | (refine RT.splitd rfl rfl (fun _ => ?_) (fun _ => ?_)) | (refine RT.goK rfl rfl rfl rfl ?_; apply Nx.of; (first | exact S.move | exact S.assign | exact S.load1c rfl rfl rfl rfl | exact S.loadNc rfl rfl rfl rfl | exact S.fieldAddr rfl rfl rfl | exact S.leq | exact S.lss | exact S.eql | exact S.neq | exact S.geq | exact S.gtr | exact S.not_t | exact S.not_f | exact S.not_d | exact S.pick_tt | exact S.pick_ff | exact S.pick_td (by assumption) | exact S.pick_fd (by assumption) | exact S.pick_b | exact S.box | exact S.alloc rfl | exact S.add_one (by omega) | exact S.sub_one (by omega) (by omega) | exact S.add (by unfold In64; omega) | exact S.sub (by unfold In64; omega) | exact S.mul (by unfold In64; omega) | exact S.add_w | exact S.sub_w | exact S.mul_w | exact S.min2 | exact S.max2 | exact S.build rfl rfl rfl | exact S.buildA rfl rfl rfl rfl | exact S.nilCheck | exact S.extract rfl | exact S.eqlA (eqMo _ _ _ _))) | (refine RT.goK0 rfl rfl rfl ?_; apply Nx.of; (first | exact S.store rfl rfl rfl rfl rfl rfl | exact S.eqlA (eqMo _ _ _ _))))
      · exfalso; omega
      refine Tr.openK un116_11 (by kernel_rfl) (by kernel_rfl) noCall noCall_calm ?_
      repeat' (first | (refine RD.free rfl rfl rfl rfl rfl rfl ?_; apply Nx.of; (first | exact S.move | exact S.assign | exact S.fieldAddr rfl rfl rfl | exact S.leq | exact S.lss | exact S.eql | exact S.neq | exact S.geq | exact S.gtr | exact S.not_t | exact S.not_f | exact S.not_d | exact S.pick_tt | exact S.pick_ff | exact S.pick_td (by assumption) | exact S.pick_fd (by assumption) | exact S.pick_b | exact S.add_one (by omega) | exact S.sub_one (by omega) (by omega) | exact S.add (by unfold In64; omega) | exact S.sub (by unfold In64; omega) | exact S.mul (by unfold In64; omega) | exact S.add_w | exact S.sub_w | exact S.mul_w | exact S.min2 | exact S.max2 | exact S.build rfl rfl rfl | exact S.buildA rfl rfl rfl rfl | exact S.nilCheck | exact S.extract rfl | exact S.eqlA (eqMo _ _ _ _) | exact S.idx_sl rfl rfl rfl (by assumption) (by omega) | exact S.idx_slI rfl rfl rfl (by assumption) (by omega) (by omega) | exact S.rowN0 rfl rfl rfl (fun _ => rfl) (range_at (by omega)) rfl | exact S.rowN rfl rfl rfl (fun _ => rfl) (range_at (by omega)) rfl | exact S.row0 rfl rfl rfl (fun _ => rfl) (range_at (by omega)) rfl | exact S.row rfl rfl rfl (fun _ => rfl) (range_at (by omega)) rfl | exact S.row2 rfl rfl rfl (fun _ => rfl) (range_at (by omega)) rfl | exact S.len_sl rfl rfl rfl (by assumption) | exact S.index_arrI rfl rfl rfl rfl (by decide) (by decide) rfl | exact S.idx_arrI rfl rfl rfl (by decide) (by decide))) | (refine RD.new rfl rfl rfl rfl rfl rfl ?_; apply Nx.of; (first | exact S.box | exact S.alloc rfl | exact S.eqlA (eqMo _ _ _ _))) | (refine RD.load rfl rfl rfl rfl rfl rfl rfl rfl ?_; apply Nx.of; (first | exact S.load1c rfl rfl rfl rfl | exact S.loadNc rfl rfl rfl rfl | exact S.eqlA (eqMo _ _ _ _) | exact S.idx_sl rfl rfl rfl (by assumption) (by omega) | exact S.idx_slI rfl rfl rfl (by assumption) (by omega) (by omega) | exact S.rowN0 rfl rfl rfl (fun _ => rfl) (range_at (by omega)) rfl | exact S.rowN rfl rfl rfl (fun _ => rfl) (range_at (by omega)) rfl | exact S.row0 rfl rfl rfl (fun _ => rfl) (range_at (by omega)) rfl | exact S.row rfl rfl rfl (fun _ => rfl) (range_at (by omega)) rfl | exact S.row2 rfl rfl rfl (fun _ => rfl) (range_at (by omega)) rfl | exact S.len_sl rfl rfl rfl (by assumption))) | (refine RD.store rfl rfl rfl rfl rfl rfl rfl ?_; apply Nx.of; (first | exact S.store rfl rfl rfl rfl rfl rfl | exact S.eqlA (eqMo _ _ _ _))) | (refine RD.no rfl rfl rfl rfl ?_) | (refine RD.load rfl rfl rfl rfl rfl rfl rfl (by refine us_all ?_; simp only [usOk, cond_true, cond_false]; (repeat' (first | exact trivial | refine And.intro ?_ ?_)); all_goals (first | rfl | exact .inl trivial | exact .inl rfl | (refine Or.inr (was_same rfl ?_); (first | (exact ⟨_, rfl, rfl⟩) | (exact ⟨_, rfl, by simp [rfO, rfVs, rfV, rfVs_flat]⟩))))) ?_; apply Nx.of; (first | exact S.load1c rfl rfl rfl rfl | exact S.loadNc rfl rfl rfl rfl | exact S.eqlA (eqMo _ _ _ _) | exact S.idx_sl rfl rfl rfl (by assumption) (by omega) | exact S.idx_slI rfl rfl rfl (by assumption) (by omega) (by omega) | exact S.rowN0 rfl rfl rfl (fun _ => rfl) (range_at (by omega)) rfl | exact S.rowN rfl rfl rfl (fun _ => rfl) (range_at (by omega)) rfl | exact S.row0 rfl rfl rfl (fun _ => rfl) (range_at (by omega)) rfl | exact S.row rfl rfl rfl (fun _ => rfl) (range_at (by omega)) rfl | exact S.row2 rfl rfl rfl (fun _ => rfl) (range_at (by omega)) rfl | exact S.len_sl rfl rfl rfl (by assumption))) | (refine RD.wide0 rfl rfl rfl rfl rfl rfl rfl ?_; (refine Nx.of (S.put_new (enc := moE) (f := wrA B) (L := L) (k := ((i : Int), t.c i)) moKeys rfl rfl rfl rfl hL (by rw [hkn']; rfl)) ⟨rfl, ?_⟩)) | refine RD.nil ⟨Nat.le_of_ble_eq_true rfl, ?_⟩)
      repeat' (first | refine RT.nil ?_ | refine sq_n ?_ | refine Tr.seq ?_ | refine Tr.region ?_ | refine Tr.cond_t rfl ?_ | refine Tr.cond_f rfl ?_ | refine Tr.cond_d rfl (fun _ => ?_) (fun _ => ?_) | refine Tr.skip ?_ | refine Tr.ret ?_ | refine sq_r ?_ | refine Tr.exit ?_ | refine sq_x ?_ | refine Tr.block ?_ | refine blk_n ?_ | refine blk_r ?_ | refine blk_hit rfl ?_ | refine blk_pass rfl ?_ | refine Tr.label ?_ | refine Tr.scope ?_ | refine scp_n ?_ | refine scp_r ?_ | refine scp_x ?_ | refine lp_r ?_ | refine lp_x ?_ | (refine RT.goK rfl rfl rfl rfl ?_; apply Nx.of; (first | exact S.move | exact S.assign | exact S.load1c rfl rfl rfl rfl | exact S.loadNc rfl rfl rfl rfl | exact S.fieldAddr rfl rfl rfl | exact S.leq | exact S.lss | exact S.eql | exact S.neq | exact S.geq | exact S.gtr | exact S.not_t | exact S.not_f | exact S.not_d | exact S.pick_tt | exact S.pick_ff | exact S.pick_td (by assumption) | exact S.pick_fd (by assumption) | exact S.pick_b | exact S.box | exact S.alloc rfl | exact S.add_one (by omega) | exact S.sub_one (by omega) (by omega) | exact S.add (by unfold In64; omega) | exact S.sub (by unfold In64; omega) | exact S.mul (by unfold In64; omega) | exact S.add_w | exact S.sub_w | exact S.mul_w | exact S.min2 | exact S.max2 | exact S.build rfl rfl rfl | exact S.buildA rfl rfl rfl rfl | exact S.nilCheck | exact S.extract rfl | exact S.eqlA (eqMo _ _ _ _))) | (refine RT.goK0 rfl rfl rfl ?_; apply Nx.of; (first | exact S.store rfl rfl rfl rfl rfl rfl | exact S.eqlA (eqMo _ _ _ _))))
      (first | refine rt_go rfl ?_ | refine rt_go (by exact rfl) ?_)
      refine ⟨by rw [hkn']; rfl, ?_⟩
      rw [insL, if_neg hL]
      exact getM rfl

theorem wrongAt_at {B : CBook} {a1 a2 : AV} {p q : Nat} {m : List (Nat × Option AObj)} {c : Nat} {L : List (Int × Int)} (h : PbIn B a1 a2 p q m c) (hm : lookM m q = some (oMap B L)) (hck : cksOk B) (t : Tru) (i : Nat) (hi : i < 3) (fl : Nat) (hfl : fl ≤ q) : OkAt 0 Try.prog fl 116 [.ptr p 0, .int .i64 (i : Int), trV t] (ofM m) c (.int .i64 (wrV B (i, t.c i))) (ofM ((q, some (oMap B (insL L (i, t.c i)))) :: m)) c := by
  have e0 : tau [0, 1, p, q] c 0 = 0 := rfl
  have e1 : tau [0, 1, p, q] c 1 = 1 := rfl
  have e2 : tau [0, 1, p, q] c 2 = p := rfl
  have e3 : tau [0, 1, p, q] c 3 = q := rfl
  have hp0 : p ≠ 0 := fun e => by have := h.m3; rw [e, h.m1] at this; cases this
  have hp1 : p ≠ 1 := fun e => by have := h.m3; rw [e, h.m2] at this; cases this
  have hq0 : q ≠ 0 := fun e => by rw [e, h.m1] at hm; cases hm
  have hq1 : q ≠ 1 := fun e => by rw [e, h.m2] at hm; cases hm
  have hqp : q ≠ p := fun e => by rw [e, h.m3] at hm; cases hm
  have ha : AV.rens (tau [0, 1, p, q] c) [.ptr 2 0, .int .i64 (i : Int), trV t] = [.ptr p 0, .int .i64 (i : Int), trV t] := rfl
  rw [← ha]
  have low : ∀ {z : Nat} {ob : AObj}, lookM [(0, some (oSt B)), (1, some (oCk B)), (2, some (.cells (pbC B a1 a2 3))), (3, some (oMap B L))] z = some ob → z = 0 ∨ z = 1 ∨ z = 2 ∨ z = 3 := fun {z ob} hz => by
    rcases Nat.lt_or_ge z 4 with h3 | h3
    · omega
    · exfalso
      simp only [lookM, Bool.cond_eq_ite] at hz
      rw [if_neg (by simp; omega), if_neg (by simp; omega), if_neg (by simp; omega), if_neg (by simp; omega)] at hz
      cases hz
  refine CanS.write (o0 := oMap B L) (wrongAt_can B a1 a2 h.h1 h.h2 hck L t i hi) (.int _ _) (ren_mapA _ _) rfl (tau [0, 1, p, q] c) (Nat.zero_le _) (fun g hg => by omega) (fun y hy => by rw [tau_ge hy]; omega) (fun y o hy => ?_) (fun x y o o' hx hy hxy => ?_) rfl hfl rfl rfl
  · rcases low hy with rfl | rfl | rfl | rfl
    · cases hy
      rw [e0, ren_ro]; exact getM h.m1
    · cases hy
      rw [e1, ren_ro]; exact getM h.m2
    · cases hy
      have : (AObj.cells (pbC B a1 a2 3)).ren (tau [0, 1, p, q] c) = .cells (pbC B a1 a2 q) := by simp only [pbC, AObj.ren, AV.ren, AV.rens, h.h1.ren e0, h.h2.ren e1, e3]
      rw [e2, this]; exact getM h.m3
    · cases hy
      rw [e3, ren_mapA]; exact getM hm
  · refine .inl ?_
    rcases low hx with rfl | rfl | rfl | rfl <;> rcases low hy with rfl | rfl | rfl | rfl <;> simp only [e0, e1, e2, e3] <;> omega
end Go.Proofs.Ytcoklgmdifggbaa

/- Code that hands things to a consumer: what holds of the world beside the memory at hand goes along. -/
namespace Go.Ev
open Go

/-- A consumer: its state, what holds of the world then, in which blocks that lies, and which it only reads; its loop's block; what it is handed, what it answers, and when it still takes something. -/
structure Cons where
  γ : Type
  J : γ → (Nat → Prop) → World → Prop
  Rd : Nat → Prop
  keep : ∀ s F w w', J s F w → w.heap.size ≤ w'.heap.size → (∀ b, F b ∨ Rd b → w'.heap[b]? = w.heap[b]?) → J s F w'
  lt : ∀ s F w b, J s F w → F b ∨ Rd b → b < w.heap.size
  lb : Nat
  ok : γ → List AV → Prop
  step : γ → List AV → γ × Bool
  lv : Nat → γ → Prop
  live : ∀ k s args, lv (k + 1) s → (step s args).2 = true → lv k (step s args).1

structure FrJ (ρ : Rho) (fl : Nat) (F : Nat → Prop) (w w' : World) : Prop where
  os : w'.os = w.os
  tape : w'.tape = w.tape
  output : w'.output = w.output
  size : w.heap.size ≤ w'.heap.size
  keep : ∀ b, b < w.heap.size → (∀ x p, fl ≤ x → ρ x = some p → p.b ≠ b) → ¬ F b → w'.heap[b]? = w.heap[b]?

/-- The consumer lies apart. -/
structure Beside (C : Cons) (ρ : Rho) (l fl : Nat) (F : Nat → Prop) (s : C.γ) (w : World) : Prop where
  j : C.J s F w
  d : ∀ x p, x ≠ l → ρ x = some p → ¬ F p.b
  rd : ∀ x p, fl ≤ x → ρ x = some p → ¬ C.Rd p.b
  lb : ∃ p, ρ l = some p ∧ p.b = C.lb

section
variable {G : Nat} {P : Program} {C : Cons} {ρ ρ1 ρ2 : Rho} {fl cb c c' lo : Nat} {w w1 w2 : World} {F F1 F2 : Nat → Prop} {s s' : C.γ}

theorem FrJ.of (h : Fr ρ fl w w1) : FrJ ρ fl F w w1 := ⟨h.os, h.tape, h.output, h.size, fun b hb hn _ => h.keep b hb hn⟩
theorem FrJ.refl : FrJ ρ fl F w w := .of (.refl _ _ _)
theorem FrJ.trans (h : FrJ ρ fl F w w1) (e : ExtB ρ ρ1 fl cb w) (hF : ∀ b, F1 b → F b ∨ w.heap.size ≤ b) (k : FrJ ρ1 fl F1 w1 w2) : FrJ ρ fl F w w2 := by
  refine ⟨k.os.trans h.os, k.tape.trans h.tape, k.output.trans h.output, Nat.le_trans h.size k.size, fun b hb hn hf => ?_⟩
  refine (k.keep b (Nat.lt_of_lt_of_le hb h.size) (fun x p hx hp hpb => ?_) fun hf1 => ?_).trans (h.keep b hb hn hf)
  · rcases e.2 x p hx hp with h1 | ⟨y, q, hy, hq, hqb⟩
    · omega
    · exact hn y q hy hq (hqb.trans hpb)
  · rcases hF b hf1 with h1 | h1
    · exact hf h1
    · omega

theorem Beside.stab (h : Beside C ρ lo fl F s w) (h1 : lo < fl) (h2 : fl ≤ cb) (hE : ExtB ρ ρ1 fl cb w) (hF : Fr ρ fl w w1) : Beside C ρ1 lo fl F s w1 := by
  refine ⟨C.keep s F w w1 h.j hF.size fun b hb => hF.keep b (C.lt _ _ _ _ h.j hb) fun x p hx hp e => hb.elim (fun hb => h.d x p (by omega) hp (e ▸ hb)) fun hb => h.rd x p hx hp (e ▸ hb), fun x p hx hp hf => ?_, fun x p hx hp hf => ?_, ?_⟩
  · by_cases hc : x < cb
    · rw [hE.1 x hc] at hp; exact h.d x p hx hp hf
    · rcases hE.2 x p (by omega) hp with h3 | ⟨y, q, hy, hq, hb⟩
      · have := C.lt _ _ _ _ h.j (.inl hf); omega
      · exact h.d y q (by omega) hq (hb ▸ hf)
  · rcases hE.2 x p hx hp with h3 | ⟨y, q, hy, hq, hb⟩
    · have := C.lt _ _ _ _ h.j (.inr hf); omega
    · exact h.rd y q hy hq (hb ▸ hf)
  · obtain ⟨p, h3, h4⟩ := h.lb
    exact ⟨p, by rw [hE.1 lo (by omega)]; exact h3, h4⟩

def PostJ (G : Nat) (C : Cons) (ρ : Rho) (fl cb lo : Nat) (F : Nat → Prop) (w : World) (Q : AExit → St → C.γ → Prop) : Exit → Act → World → Prop := fun e' a' w' =>
  ∃ e st' ρ' s' F', e' = e.conc ∧ Q e st' s' ∧ SR G ρ' st' a' w' ∧ cb ≤ st'.c ∧ ExtB ρ ρ' fl cb w ∧ FrJ ρ fl F w w' ∧ Beside C ρ' lo fl F' s' w' ∧ ∀ b, F' b → F b ∨ w.heap.size ≤ b

structure TrJ (G : Nat) (P : Program) (C : Cons) (fl cb lo : Nat) (code : Code) (st : St) (s : C.γ) (Q : AExit → St → C.γ → Prop) : Prop where
  run : ∀ ρ a w F n, lo < fl → fl ≤ cb → SR G ρ st a w → cb ≤ st.c → Beside C ρ lo fl F s w → code.wpIn (FR none) n P (PostJ G C ρ fl cb lo F w Q) a w

variable {code x y : Code} {st st' st2 : St} {Q Q' : AExit → St → C.γ → Prop}

theorem PostJ.trans {e' : Exit} {a' : Act} {w' : World} (he : ExtB ρ ρ1 fl cb w) (hf : FrJ ρ fl F w w1) (hF : ∀ b, F1 b → F b ∨ w.heap.size ≤ b) (h : PostJ G C ρ1 fl cb lo F1 w1 Q e' a' w') : PostJ G C ρ fl cb lo F w Q e' a' w' := by
  obtain ⟨e, st', ρ', s', F', h1, h2, h3, h4, h5, h6, h7, h8⟩ := h
  refine ⟨e, st', ρ', s', F', h1, h2, h3, h4, he.trans hf.size h5, hf.trans he hF h6, h7, fun b hb => ?_⟩
  rcases h8 b hb with h9 | h9
  · exact hF b h9
  · exact .inr (Nat.le_trans hf.size h9)

theorem PostJ.of_T {e' : Exit} {a' : Act} {w' : World} (h1 : lo < fl) (h2 : fl ≤ cb) (hb : Beside C ρ lo fl F s w) (h : PostT G ρ fl cb w (fun e st => Q e st s) e' a' w') : PostJ G C ρ fl cb lo F w Q e' a' w' := by
  obtain ⟨e, st', ρ', g1, g2, g3, g4, g5, g6⟩ := h
  exact ⟨e, st', ρ', s, F, g1, g2, g3, g4, g5, .of g6, hb.stab h1 h2 g5 g6, fun b hb => .inl hb⟩

/-- Code that hands nothing over. -/
theorem TrJ.lift (h : Tr G P fl cb none code st (fun e st' => Q e st' s)) : TrJ G P C fl cb lo code st s Q :=
  ⟨fun ρ a w F n h1 h2 hs hc hb => wpIn_mono (h.run ρ a w none n hs hc (fun l hl => by cases hl) trivial) fun _ _ _ hp => .of_T h1 h2 hb hp⟩

/-! ### Code -/
def sqJ0 (G : Nat) (P : Program) (C : Cons) (fl cb lo : Nat) (y : Code) (Q : AExit → St → C.γ → Prop) : AExit → St → C.γ → Prop
  | .normal, st, s => TrJ G P C fl cb lo y st s Q
  | e, st, s => Q e st s
structure sqJ (G : Nat) (P : Program) (C : Cons) (fl cb lo : Nat) (y : Code) (Q : AExit → St → C.γ → Prop) (e : AExit) (st : St) (s : C.γ) : Prop where
  go : sqJ0 G P C fl cb lo y Q e st s
theorem sqJ_n (h : TrJ G P C fl cb lo y st s Q) : sqJ G P C fl cb lo y Q .normal st s := ⟨h⟩
theorem sqJ_r (h : Q .ret st s) : sqJ G P C fl cb lo y Q .ret st s := ⟨h⟩
theorem sqJ_x {id : Nat} (h : Q (.exit id) st s) : sqJ G P C fl cb lo y Q (.exit id) st s := ⟨h⟩

theorem TrJ.seq (h : TrJ G P C fl cb lo x st s (sqJ G P C fl cb lo y Q)) : TrJ G P C fl cb lo (.seq x y) st s Q := by
  refine ⟨fun ρ a w F n h1 h2 hs hc hb => ?_⟩
  refine wpIn_seq (wpIn_mono (h.run ρ a w F n h1 h2 hs hc hb) fun e1 a1 w1 hp => ?_)
  obtain ⟨e, st1, ρ1, s1, F1, rfl, ⟨hq⟩, hs1, hc1, he1, hf1, hb1, hF1⟩ := hp
  cases e with
  | normal => exact wpIn_mono (TrJ.run hq ρ1 a1 w1 F1 n h1 h2 hs1 hc1 hb1) fun _ _ _ hp2 => hp2.trans he1 hf1 hF1
  | exit id => exact ⟨.exit id, st1, ρ1, s1, F1, rfl, hq, hs1, hc1, he1, hf1, hb1, hF1⟩
  | goto l => exact ⟨.goto l, st1, ρ1, s1, F1, rfl, hq, hs1, hc1, he1, hf1, hb1, hF1⟩
  | ret => exact ⟨.ret, st1, ρ1, s1, F1, rfl, hq, hs1, hc1, he1, hf1, hb1, hF1⟩

theorem TrJ.skip (h : Q .normal st s) : TrJ G P C fl cb lo .skip st s Q := .lift (.skip h)
theorem TrJ.label {l : Nat} (h : Q .normal st s) : TrJ G P C fl cb lo (.label l) st s Q := .lift (.label h)
theorem TrJ.exit {id : Nat} (h : Q (.exit id) st s) : TrJ G P C fl cb lo (.exit id) st s Q := .lift (.exit h)
theorem TrJ.ret (h : Q .ret st s) : TrJ G P C fl cb lo .ret st s Q := .lift (.ret h)

theorem TrJ.cond {n : Nat} {dfs : List Nat} {l : List (Nat × AV)} {m : List (Nat × Option AObj)} {t : Nat} {v : Bool} (hv : look l t = some (.bool v))
    (h : if v then TrJ G P C fl cb lo x (stL n dfs l m c) s Q else TrJ G P C fl cb lo y (stL n dfs l m c) s Q) : TrJ G P C fl cb lo (.cond (.tmp t) x y) (stL n dfs l m c) s Q := by
  refine ⟨fun ρ a w F k h1 h2 hs hc hb => ?_⟩
  have := hs.env.2 t (.bool v) (by rw [← hv]; exact ofL_get l t)
  simp only [VR] at this
  refine wpIn_cond (t := v) this.2 ?_
  cases v with
  | true => exact h.run ρ a w F k h1 h2 hs hc hb
  | false => exact h.run ρ a w F k h1 h2 hs hc hb
theorem TrJ.cond_t {n : Nat} {dfs : List Nat} {l : List (Nat × AV)} {m : List (Nat × Option AObj)} {t : Nat} (hv : look l t = some (.bool true)) (h : TrJ G P C fl cb lo x (stL n dfs l m c) s Q) : TrJ G P C fl cb lo (.cond (.tmp t) x y) (stL n dfs l m c) s Q := TrJ.cond hv h
theorem TrJ.cond_f {n : Nat} {dfs : List Nat} {l : List (Nat × AV)} {m : List (Nat × Option AObj)} {t : Nat} (hv : look l t = some (.bool false)) (h : TrJ G P C fl cb lo y (stL n dfs l m c) s Q) : TrJ G P C fl cb lo (.cond (.tmp t) x y) (stL n dfs l m c) s Q := TrJ.cond hv h
theorem TrJ.cond_d {n : Nat} {dfs : List Nat} {l : List (Nat × AV)} {m : List (Nat × Option AObj)} {t : Nat} {p : Prop} {inst : Decidable p} (hv : look l t = some (.bool (@decide p inst)))
    (h1 : p → TrJ G P C fl cb lo x (stL n dfs l m c) s Q) (h2 : ¬ p → TrJ G P C fl cb lo y (stL n dfs l m c) s Q) : TrJ G P C fl cb lo (.cond (.tmp t) x y) (stL n dfs l m c) s Q := by
  refine TrJ.cond hv ?_
  by_cases hp : p
  · rw [if_pos (by simpa using hp)]; exact h1 hp
  · rw [if_neg (by simpa using hp)]; exact h2 hp

def blkJ0 (C : Cons) (id : Nat) (Q : AExit → St → C.γ → Prop) : AExit → St → C.γ → Prop
  | .exit id', st, s => bif Nat.beq id' id then Q .normal st s else Q (.exit id') st s
  | e, st, s => Q e st s
structure blkJ (C : Cons) (id : Nat) (Q : AExit → St → C.γ → Prop) (e : AExit) (st : St) (s : C.γ) : Prop where
  go : blkJ0 C id Q e st s
theorem blkJ_n {id : Nat} (h : Q .normal st s) : blkJ C id Q .normal st s := ⟨h⟩
theorem blkJ_r {id : Nat} (h : Q .ret st s) : blkJ C id Q .ret st s := ⟨h⟩
theorem blkJ_hit {id id' : Nat} (e : Nat.beq id' id = true) (h : Q .normal st s) : blkJ C id Q (.exit id') st s := ⟨by show (bif Nat.beq id' id then Q .normal st s else Q (.exit id') st s); rw [e]; exact h⟩
theorem TrJ.block {id : Nat} (h : TrJ G P C fl cb lo x st s (blkJ C id Q)) : TrJ G P C fl cb lo (.block id x) st s Q := by
  refine ⟨fun ρ a w F n h1 h2 hs hc hb => ?_⟩
  refine wpIn_block (wpIn_mono (h.run ρ a w F n h1 h2 hs hc hb) fun e1 a1 w1 hp => ?_)
  obtain ⟨e, st1, ρ1, s1, F1, rfl, ⟨hq⟩, hs1, hc1, he1, hf1, hb1, hF1⟩ := hp
  cases e with
  | normal => exact ⟨.normal, st1, ρ1, s1, F1, rfl, hq, hs1, hc1, he1, hf1, hb1, hF1⟩
  | exit id' =>
    simp only [AExit.conc, Exit.inBlock]
    simp only [blkJ0, Bool.cond_eq_ite] at hq
    by_cases hid : id' = id
    · rw [if_pos (by simp [hid])] at hq
      rw [if_pos hid]
      exact ⟨.normal, st1, ρ1, s1, F1, rfl, hq, hs1, hc1, he1, hf1, hb1, hF1⟩
    · rw [if_neg (by simp [hid])] at hq
      rw [if_neg hid]
      exact ⟨.exit id', st1, ρ1, s1, F1, rfl, hq, hs1, hc1, he1, hf1, hb1, hF1⟩
  | goto l => exact ⟨.goto l, st1, ρ1, s1, F1, rfl, hq, hs1, hc1, he1, hf1, hb1, hF1⟩
  | ret => exact ⟨.ret, st1, ρ1, s1, F1, rfl, hq, hs1, hc1, he1, hf1, hb1, hF1⟩

def scpJ0 (C : Cons) (Q : AExit → St → C.γ → Prop) : AExit → St → C.γ → Prop
  | .goto _, _, _ => False
  | e, st, s => Q e st s
structure scpJ (C : Cons) (Q : AExit → St → C.γ → Prop) (e : AExit) (st : St) (s : C.γ) : Prop where
  go : scpJ0 C Q e st s
theorem scpJ_n (h : Q .normal st s) : scpJ C Q .normal st s := ⟨h⟩
theorem scpJ_r (h : Q .ret st s) : scpJ C Q .ret st s := ⟨h⟩
theorem TrJ.scope (h : TrJ G P C fl cb lo x st s (scpJ C Q)) : TrJ G P C fl cb lo (.scope x) st s Q := by
  refine ⟨fun ρ a w F n h1 h2 hs hc hb => ?_⟩
  refine wpIn_scope_straight (wpIn_mono (h.run ρ a w F n h1 h2 hs hc hb) fun e1 a1 w1 hp => ?_)
  obtain ⟨e, st1, ρ1, s1, F1, rfl, ⟨hq⟩, hs1, hc1, he1, hf1, hb1, hF1⟩ := hp
  cases e with
  | normal => exact ⟨by simp [AExit.conc], .normal, st1, ρ1, s1, F1, rfl, hq, hs1, hc1, he1, hf1, hb1, hF1⟩
  | exit id => exact ⟨by simp [AExit.conc], .exit id, st1, ρ1, s1, F1, rfl, hq, hs1, hc1, he1, hf1, hb1, hF1⟩
  | goto l => exact hq.elim
  | ret => exact ⟨by simp [AExit.conc], .ret, st1, ρ1, s1, F1, rfl, hq, hs1, hc1, he1, hf1, hb1, hF1⟩

/-- A loop: a family of states of both, and a measure. -/
def lpJ0 {α : Type} (G : Nat) (C : Cons) (fl cb : Nat) (S : α → St) (I : α → C.γ → Prop) (μ : α → Nat) (i : α) (Q : AExit → St → C.γ → Prop) : AExit → St → C.γ → Prop
  | .normal, st, s => ∃ j, I j s ∧ μ j < μ i ∧ Wk G fl cb st (S j)
  | e, st, s => Q e st s
structure lpJ {α : Type} (G : Nat) (C : Cons) (fl cb : Nat) (S : α → St) (I : α → C.γ → Prop) (μ : α → Nat) (i : α) (Q : AExit → St → C.γ → Prop) (e : AExit) (st : St) (s : C.γ) : Prop where
  go : lpJ0 G C fl cb S I μ i Q e st s
section
variable {α : Type} {S : α → St} {I : α → C.γ → Prop} {μ : α → Nat} {i : α}
theorem lpJ_r (h : Q .ret st s) : lpJ G C fl cb S I μ i Q .ret st s := ⟨h⟩
theorem lpJ_x {id : Nat} (h : Q (.exit id) st s) : lpJ G C fl cb S I μ i Q (.exit id) st s := ⟨h⟩
theorem lpJ_n (j : α) (h1 : I j s) (h2 : μ j < μ i) (h3 : Wk G fl cb st (S j)) : lpJ G C fl cb S I μ i Q .normal st s := ⟨⟨j, h1, h2, h3⟩⟩
end

theorem TrJ.loop {α : Type} (S : α → St) (I : α → C.γ → Prop) (μ : α → Nat) (i0 : α) (h0 : I i0 s) (hw : Wk G fl cb st (S i0))
    (h : ∀ i s, I i s → TrJ G P C fl cb lo x (S i) s (lpJ G C fl cb S I μ i Q)) : TrJ G P C fl cb lo (.loop x) st s Q := by
  refine ⟨fun ρ a w F n h1 h2 hs hc hb => ?_⟩
  refine wpIn_loop_fuel (fun g a1 w1 => ∃ i ρ1 s1 F1, I i s1 ∧ μ i = g ∧ SR G ρ1 (S i) a1 w1 ∧ cb ≤ (S i).c ∧ ExtB ρ ρ1 fl cb w ∧ FrJ ρ fl F w w1 ∧ Beside C ρ1 lo fl F1 s1 w1 ∧ ∀ b, F1 b → F b ∨ w.heap.size ≤ b) (μ i0) ?_ ?_
  · obtain ⟨ρ1, hs1, he1⟩ := hw.sr hs
    exact ⟨i0, ρ1, s, F, h0, rfl, hs1, hw.c, he1, .refl, hb.stab h1 h2 he1 (.refl _ _ _), fun b hb => .inl hb⟩
  · rintro g a1 w1 ⟨i, ρ1, s1, F1, hi, rfl, hs1, hc1, he1, hf1, hb1, hF1⟩
    refine wpIn_mono ((h i s1 hi).run ρ1 a1 w1 F1 n h1 h2 hs1 hc1 hb1) fun e1 a2 w2 hp => ?_
    obtain ⟨e, st2, ρ2, s2, F2, rfl, ⟨hq⟩, hs2, hc2, he2, hf2, hb2, hF2⟩ := hp
    have hE := he1.trans hf1.size he2
    have hF := hf1.trans he1 hF1 hf2
    have hFF : ∀ b, F2 b → F b ∨ w.heap.size ≤ b := fun b hb => (hF2 b hb).elim (hF1 b) fun h => .inr (Nat.le_trans hf1.size h)
    cases e with
    | normal =>
      obtain ⟨j, hj, hlt, hwk⟩ := hq
      obtain ⟨ρ3, hs3, he3⟩ := hwk.sr hs2
      exact ⟨μ j, hlt, j, ρ3, s2, F2, hj, rfl, hs3, hwk.c, hE.trans hF.size he3, hF, hb2.stab h1 h2 he3 (.refl _ _ _), hFF⟩
    | exit id => exact ⟨.exit id, st2, ρ2, s2, F2, rfl, hq, hs2, hc2, hE, hF, hb2, hFF⟩
    | goto l => exact ⟨.goto l, st2, ρ2, s2, F2, rfl, hq, hs2, hc2, hE, hF, hb2, hFF⟩
    | ret => exact ⟨.ret, st2, ρ2, s2, F2, rfl, hq, hs2, hc2, hE, hF, hb2, hFF⟩

/-- A loop, so many times. -/
def unJ0 (G : Nat) (P : Program) (C : Cons) (fl cb lo : Nat) (x : Code) (Q : AExit → St → C.γ → Prop) : Nat → AExit → St → C.γ → Prop
  | _, .exit id, st, s => Q (.exit id) st s
  | _, .goto id, st, s => Q (.goto id) st s
  | _, .ret, st, s => Q .ret st s
  | 0, .normal, _, _ => False
  | k + 1, .normal, st, s => TrJ G P C fl cb lo x st s (unJ0 G P C fl cb lo x Q k)
structure unJ (G : Nat) (P : Program) (C : Cons) (fl cb lo : Nat) (x : Code) (Q : AExit → St → C.γ → Prop) (k : Nat) (e : AExit) (st : St) (s : C.γ) : Prop where
  go : unJ0 G P C fl cb lo x Q k e st s
end
end Go.Ev

/- Consumers: regions that hand over or call on; contracts. -/
namespace Go.Ev
open Go

section
variable {G : Nat} {P : Program} {C : Cons} {ρ ρ1 ρ2 : Rho} {fl cb c c' lo : Nat} {w w1 w2 : World} {F F1 F2 : Nat → Prop} {s s' : C.γ}
variable {code x y : Code} {st st' st2 : St} {Q Q' : AExit → St → C.γ → Prop} {ops : Array Oper} {rest : List Oper} {o : Oper} {n d : Nat} {dfs : List Nat} {l : List (Nat × AV)} {m m' : List (Nat × Option AObj)} {v : AV} {vs : List AV}

structure RTJ (G : Nat) (P : Program) (C : Cons) (fl cb lo : Nat) (ops : Array Oper) (rest : List Oper) (st : St) (s : C.γ) (Q : AExit → St → C.γ → Prop) : Prop where
  run : ∀ ρ a w F k (K : Exit → Act → World → Prop), lo < fl → fl ≤ cb → SR G ρ st a w → cb ≤ st.c → Beside C ρ lo fl F s w → (∀ a' w', PostJ G C ρ fl cb lo F w Q .normal a' w' → K .normal a' w') → wpListIn (FR none) k P ops K rest a w

theorem TrJ.region {id : Nat} (h : RTJ G P C fl cb lo ops ops.toList st s Q) : TrJ G P C fl cb lo (.region id ops false) st s Q :=
  ⟨fun ρ a w F n h1 h2 hs hc hb => wpIn_region_list (h.run ρ a w F n _ h1 h2 hs hc hb fun a' w' hp => hp)⟩
theorem RTJ.nil (h : Q .normal st s) : RTJ G P C fl cb lo ops [] st s Q := ⟨fun ρ _ _ F _ _ h1 h2 hs hc hb hK => hK _ _ ⟨.normal, st, ρ, s, F, rfl, h, hs, hc, .refl _ _ _ _, .refl, hb, fun b hb => .inl hb⟩⟩
theorem RTJ.cons [hP : PG P G] {call round : CallFn} (hcall : CallOK G P call) (hround : RoundOK G P round) (e : sOp P call round fl ops.toList o st = some st2) (hc2 : cb ≤ st2.c)
    (h : RTJ G P C fl cb lo ops rest st2 s Q) : RTJ G P C fl cb lo ops (o :: rest) st s Q := by
  refine ⟨fun ρ a w F k K h1 h2 hs hc hb hK => ?_⟩
  exact sOp_sound hP.size hcall hround hs e fun a' w' hg => by
    obtain ⟨ρ1, hs1, he1, hf1⟩ := hg
    have hE := ExtB.of_ext he1 hc
    exact h.run ρ1 a' w' F k K h1 h2 hs1 hc2 (hb.stab h1 h2 hE hf1) fun a2 w2 hp => hK a2 w2 (hp.trans hE (.of hf1) fun b hb => .inl hb)
theorem RTJ.low {st : St} (h : cb ≤ st.c → RTJ G P C fl cb lo ops rest st s Q) : RTJ G P C fl cb lo ops rest st s Q := ⟨fun ρ a w F k K h1 h2 hs hc hb hK => (h hc).run ρ a w F k K h1 h2 hs hc hb hK⟩
theorem RTJ.goK [hP : PG P G] (hw : wantedL ops.toList o l = some true) (hv : operandsL G l (opArgs o.op) = some vs) (hd : o.dst = some d) (hn : Nat.blt d n = true)
    (h : Nx P fl o.op vs m c fun v m' c' => RTJ G P C fl cb lo ops rest (stL n dfs ((d, v) :: l) m' c') s Q) : RTJ G P C fl cb lo ops (o :: rest) (stL n dfs l m c) s Q := by
  obtain ⟨v, m', c', hs, h⟩ := h.ex
  refine RTJ.low fun hcb => RTJ.cons noCall_ok noRound_ok (st2 := stL n dfs ((d, v) :: l) m' c') ?_ (Nat.le_trans hcb hs.le) h
  unfold sOp
  have h1 : wantedA ops.toList o (stL n dfs l m c).env = some true := by rw [← hw]; exact wantedL_eq _ _ _
  have h2 : operandsA P.globals.size (stL n dfs l m c).env (opArgs o.op) = some vs := by rw [hP.size, ← hv]; exact operandsL_eq _ _ _
  have h3 : stepA P noCall noCall fl o.op vs (stL n dfs l m c).H (stL n dfs l m c).c = some (v, ofM m', c') := hs.step noCall noCall
  simp only [h1, h2, sRun, h3, sDone, putA, hd]
  have h4 : Nat.blt d (stL n dfs l m c).n = true := hn
  rw [h4]
  rfl
theorem RTJ.goK0 [hP : PG P G] (hw : wantedL ops.toList o l = some true) (hv : operandsL G l (opArgs o.op) = some vs) (hd : o.dst = none)
    (h : Nx P fl o.op vs m c fun _ m' c' => RTJ G P C fl cb lo ops rest (stL n dfs l m' c') s Q) : RTJ G P C fl cb lo ops (o :: rest) (stL n dfs l m c) s Q := by
  obtain ⟨v, m', c', hs, h⟩ := h.ex
  refine RTJ.low fun hcb => RTJ.cons noCall_ok noRound_ok (st2 := stL n dfs l m' c') ?_ (Nat.le_trans hcb hs.le) h
  unfold sOp
  have h1 : wantedA ops.toList o (stL n dfs l m c).env = some true := by rw [← hw]; exact wantedL_eq _ _ _
  have h2 : operandsA P.globals.size (stL n dfs l m c).env (opArgs o.op) = some vs := by rw [hP.size, ← hv]; exact operandsL_eq _ _ _
  have h3 : stepA P noCall noCall fl o.op vs (stL n dfs l m c).H (stL n dfs l m c).c = some (v, ofM m', c') := hs.step noCall noCall
  simp only [h1, h2, sRun, h3, sDone, putA, hd]
  rfl
theorem RTJ.no [PG P G] (hw : wantedL ops.toList o l = some false) (hd : o.dst = some d) (hn : Nat.blt d n = true) (h : RTJ G P C fl cb lo ops rest (stL n dfs ((d, undefA) :: l) m c) s Q) : RTJ G P C fl cb lo ops (o :: rest) (stL n dfs l m c) s Q := by
  refine RTJ.low fun hcb => RTJ.cons noCall_ok noRound_ok (st2 := stL n dfs ((d, undefA) :: l) m c) ?_ hcb h
  unfold sOp
  have h1 : wantedA ops.toList o (stL n dfs l m c).env = some false := by rw [← hw]; exact wantedL_eq _ _ _
  simp only [h1, putA, hd]
  have h4 : Nat.blt d (stL n dfs l m c).n = true := hn
  rw [h4]
  rfl
theorem RTJ.call [hP : PG P G] {f : Nat} {first cap args : List AV} (hw : wantedL ops.toList o l = some true) (hk : isCall o.op = true) (hv : operandsL G l (opArgs o.op) = some (.fn f first cap :: args)) (hs : OkAt G P fl f (first ++ args ++ cap) (ofM m) c v (ofM m') c')
    (hd : o.dst = some d) (hn : Nat.blt d n = true) (hc : c ≤ c') (h : RTJ G P C fl cb lo ops rest (stL n dfs ((d, v) :: l) m' c') s Q) : RTJ G P C fl cb lo ops (o :: rest) (stL n dfs l m c) s Q := by
  refine RTJ.low fun hcb => RTJ.cons (one_ok hs) noRound_ok (st2 := stL n dfs ((d, v) :: l) m' c') ?_ (Nat.le_trans hcb hc) h
  unfold sOp
  have h1 : wantedA ops.toList o (stL n dfs l m c).env = some true := by rw [← hw]; exact wantedL_eq _ _ _
  have h2 : operandsA P.globals.size (stL n dfs l m c).env (opArgs o.op) = some (.fn f first cap :: args) := by rw [hP.size, ← hv]; exact operandsL_eq _ _ _
  have h3 : stepA P (oneS fl f (first ++ args ++ cap) (ofM m) c v (ofM m') c') noCall fl o.op (.fn f first cap :: args) (stL n dfs l m c).H (stL n dfs l m c).c = some (v, ofM m', c') := by
    unfold stepA
    rw [hk]
    exact one_at _ _ _ _ _ _ _ _
  simp only [h1, h2, sRun, h3, sDone, putA, hd]
  have h4 : Nat.blt d (stL n dfs l m c).n = true := hn
  rw [h4]
  rfl
theorem RTJ.env {l' : List (Nat × AV)} (h : ∀ t, look l' t = look l t) (k : RTJ G P C fl cb lo ops rest (stL n dfs l' m c) s Q) : RTJ G P C fl cb lo ops rest (stL n dfs l m c) s Q := by
  refine ⟨fun ρ a w F j K h1 h2 hs hc hb hK => k.run ρ a w F j K h1 h2 ⟨⟨hs.env.1, fun t v ht => hs.env.2 t v ?_⟩, hs.mem, hs.dfs⟩ hc hb hK⟩
  show (ofL l).get t = _
  rw [ofL_get, ← h]
  have : (ofL l').get t = some v := ht
  rwa [ofL_get] at this
theorem RTJ.splitd {d0 : Nat} {p : Prop} {inst : Decidable p} (hg : gtmp ops.toList o = some d0) (hv : look l d0 = some (.bool (@decide p inst))) (h1 : p → RTJ G P C fl cb lo ops (o :: rest) (stL n dfs ((d0, .bool true) :: l) m c) s Q) (h2 : ¬ p → RTJ G P C fl cb lo ops (o :: rest) (stL n dfs ((d0, .bool false) :: l) m c) s Q) :
    RTJ G P C fl cb lo ops (o :: rest) (stL n dfs l m c) s Q := by
  by_cases hp : p
  · exact RTJ.env (look_put hv (by rw [decide_eq_true hp])) (h1 hp)
  · exact RTJ.env (look_put hv (by rw [decide_eq_false hp])) (h2 hp)

/-- What a consumer does with what it is handed. -/
def YldOK (P : Program) (C : Cons) : Prop := ∀ s F w us args, C.J s F w → C.ok s args → VRs (fun _ => none) args us → ∃ fn tmps assign body, (Instr.yield C.lb us.toArray).run P w = .ok (.round C.lb fn tmps assign body) w ∧
  ∀ r n, RoundIn (FR r) n P C.lb fn tmps assign body w fun e w' => ∃ F', e = .returned (.bool (C.step s args).2) ∧ C.J (C.step s args).1 F' w' ∧ w'.os = w.os ∧ w'.tape = w.tape ∧ w'.output = w.output ∧ w.heap.size ≤ w'.heap.size ∧
    (∀ b, b < w.heap.size → ¬ F b → w'.heap[b]? = w.heap[b]?) ∧ ∀ b, F' b → F b ∨ w.heap.size ≤ b

/-- A call that hands things over, and leaves the names as they were. -/
structure OkJ (G : Nat) (P : Program) (C : Cons) (fl lo f : Nat) (args : List AV) (m : List (Nat × Option AObj)) (c : Nat) (s : C.γ) (R : AV → List (Nat × Option AObj) → C.γ → Prop) : Prop where
  enter : ∀ us w, (callFunc f us).run P w = .ok (.enter f us) w
  run : ∀ ρ w F us, Holds G ρ (ofM m) c w → VRs ρ args us → Beside C ρ lo fl F s w → ∀ r n, CallsIn (FR r) n P f us.toArray w fun e w' =>
    ∃ u v m' s' F', e = .returned u ∧ R v m' s' ∧ VR ρ v u ∧ Holds G ρ (ofM m') c w' ∧ FrJ ρ fl F w w' ∧ Beside C ρ lo fl F' s' w' ∧ ∀ b, F' b → F b ∨ w.heap.size ≤ b

theorem wantedT {a : Act} (he : EnvR ρ (ofL l) n a.tmps) (hw : wantedL ops.toList o l = some true) : Region.wanted o (yielded ops a.tmps) = true := wanted_sound he (by rw [wantedL_eq]; exact hw)

/-- An operation that calls something on. -/
theorem RTJ.callJ [hP : PG P G] {f : Nat} {first cap args : List AV} {R : AV → List (Nat × Option AObj) → C.γ → Prop} (hw : wantedL ops.toList o l = some true) (hk : isCall o.op = true) (hv : operandsL G l (opArgs o.op) = some (.fn f first cap :: args)) (hs : OkJ G P C fl lo f (first ++ args ++ cap) m c s R)
    (hd : o.dst = some d) (hn : Nat.blt d n = true) (h : ∀ v m' s', R v m' s' → RTJ G P C fl cb lo ops rest (stL n dfs ((d, v) :: l) m' c) s' Q) : RTJ G P C fl cb lo ops (o :: rest) (stL n dfs l m c) s Q := by
  refine ⟨fun ρ a w F k K h1 h2 hs0 hc hb hK => ?_⟩
  show (if Region.wanted o (yielded ops a.tmps) then _ else _)
  rw [wantedT hs0.env hw, if_pos rfl]
  have hvs := operands_sound (G := G) hs0.mem hs0.env (xs := opArgs o.op) (vs := .fn f first cap :: args) (by rw [← hv]; exact operandsL_eq _ _ _)
  refine ⟨fun f _ => FR_fn none f, ?_⟩
  obtain ⟨dst, op, type, pos, after, guard⟩ := o
  simp only at hk hvs hd ⊢
  subst hd
  cases op <;> simp only [isCall, Bool.false_eq_true] at hk
  rename_i kk
  obtain ⟨callee, cargs, argTypes⟩ := kk
  cases callee <;> simp only [Bool.false_eq_true] at hk
  rename_i g
  rw [semAt_eq (r := (FR none).round) (by intro k h; cases h)]
  have hv' : VRs ρ (.fn f first cap :: args) (a.eval g :: (cargs.map a.eval).toList) := by simpa [opArgs, Op.operands, Call.operands] using hvs
  obtain ⟨u, us, e0, g1, g2⟩ := hv'.cons_inv
  simp only [List.cons.injEq] at e0
  obtain ⟨e1, e2⟩ := e0
  simp only [VR] at g1
  obtain ⟨fs, cs, hf, hc2, rfl⟩ := g1
  have hex : (execOp a.eval { dst := some d, op := .call { callee := .value g, args := cargs, argTypes := argTypes }, type := type, pos := pos, after := after, guard := guard }).run P w = .ok (.enter f (fs.toArray ++ cargs.map a.eval ++ cs.toArray)) w := by
    simp only [execOp, resolve, e1, Deferred.ofValue, Sem.run_bind, Sem.run_pure, Result.andThen_ok, invoke, hs.enter]
  rw [hex]
  simp only [Oper.uponIn_enter]
  refine ⟨fun h => (by rw [FR_depth] at h; cases h), ?_⟩
  have := hs.run ρ w F _ hs0.mem ((hf.append g2).append hc2) hb none (k - 1)
  rw [show (fs ++ us ++ cs).toArray = fs.toArray ++ cargs.map a.eval ++ cs.toArray by rw [← e2]; simp] at this
  refine this.mono fun e' w' hh => ?_
  obtain ⟨u, v, m', s', F', rfl, hR, hvu, hw', hfr, hb', hFF⟩ := hh
  exact (h v m' s' hR).run ρ (a.put (some d) u) w' F' k K h1 h2 ⟨put_sound hs0.env hvu (put_some (o := ⟨some d, .call ⟨.value g, cargs, argTypes⟩, type, pos, after, guard⟩) hn rfl), hw', by rw [put_defers]; exact hs0.dfs⟩ hc hb'
    fun a2 w2 hp => hK a2 w2 (hp.trans (.refl _ _ _ _) hfr hFF)

/-- Something is handed over. -/
theorem RTJ.yield [hP : PG P G] {args : List AV} (hY : YldOK P C) (hw : wantedL ops.toList o l = some true) (hk : isCall o.op = true) (hv : operandsL G l (opArgs o.op) = some (.yld lo :: args)) (hp : Pls args) (hok : C.ok s args) (hlo : lookM m lo = none)
    (hd : o.dst = some d) (hn : Nat.blt d n = true) (h : RTJ G P C fl cb lo ops rest (stL n dfs ((d, .bool (C.step s args).2) :: l) m c) (C.step s args).1 Q) : RTJ G P C fl cb lo ops (o :: rest) (stL n dfs l m c) s Q := by
  refine ⟨fun ρ a w F k K h1 h2 hs0 hc hb hK => ?_⟩
  show (if Region.wanted o (yielded ops a.tmps) then _ else _)
  rw [wantedT hs0.env hw, if_pos rfl]
  have hvs := operands_sound (G := G) hs0.mem hs0.env (xs := opArgs o.op) (vs := .yld lo :: args) (by rw [← hv]; exact operandsL_eq _ _ _)
  refine ⟨fun f _ => FR_fn none f, ?_⟩
  obtain ⟨dst, op, type, pos, after, guard⟩ := o
  simp only at hk hvs hd ⊢
  subst hd
  cases op <;> simp only [isCall, Bool.false_eq_true] at hk
  rename_i kk
  obtain ⟨callee, cargs, argTypes⟩ := kk
  cases callee <;> simp only [Bool.false_eq_true] at hk
  rename_i g
  rw [semAt_eq (r := (FR none).round) (by intro k h; cases h)]
  have hv' : VRs ρ (.yld lo :: args) (a.eval g :: (cargs.map a.eval).toList) := by simpa [opArgs, Op.operands, Call.operands] using hvs
  obtain ⟨u, us, e0, g1, g2⟩ := hv'.cons_inv
  simp only [List.cons.injEq] at e0
  obtain ⟨e1, e2⟩ := e0
  simp only [VR] at g1
  obtain ⟨p, hpl, rfl⟩ := g1
  obtain ⟨p', hp1, hp2⟩ := hb.lb
  rw [hpl] at hp1
  cases hp1
  have hno : ∃ x, ρ x = none := ⟨c, hs0.mem.fresh c (Nat.le_refl _)⟩
  obtain ⟨fn, tmps, assign, body, hy, hr⟩ := hY s F w us args hb.j hok (hp.vrs hno g2)
  rw [← hp2] at hy hr
  have hex : (execOp a.eval { dst := some d, op := .call { callee := .value g, args := cargs, argTypes := argTypes }, type := type, pos := pos, after := after, guard := guard }).run P w = .ok (.round p.b fn tmps assign body) w := by
    have : #[] ++ cargs.map a.eval = us.toArray := by rw [← e2, Array.toArray_toList]; exact Array.empty_append
    simp only [execOp, resolve, e1, Deferred.ofValue, Sem.run_bind, Sem.run_pure, Result.andThen_ok, invoke, this, hy]
  rw [hex]
  simp only [Oper.uponIn_round]
  refine ⟨fun h => (by rw [FR_depth] at h; cases h), (hr none (k - 1)).mono fun e' w' hh => ?_⟩
  obtain ⟨F', rfl, hJ, q1, q2, q3, q4, q5, q6⟩ := hh
  have hmem : Holds G ρ (ofM m) c w' := by
    refine ⟨fun x ob hx => ?_, hs0.mem.sep, hs0.mem.fresh, fun x p hp => Nat.lt_of_lt_of_le (hs0.mem.lt x p hp) q4, hs0.mem.glob⟩
    obtain ⟨px, hx1, hx2⟩ := hs0.mem.obj x ob hx
    have hne : x ≠ lo := fun e => by (have hx0 : (ofM m).get x = some ob := hx; rw [e, ofM_get, hlo] at hx0; cases hx0)
    exact ⟨px, hx1, hx2.world (q5 px.b (hs0.mem.lt x px hx1) (hb.d x px hne hx1))⟩
  exact h.run ρ (a.put (some d) (.bool (C.step s args).2)) w' F' k K h1 h2 ⟨put_sound hs0.env (by simp only [VR]) (put_some (o := ⟨some d, .call ⟨.value g, cargs, argTypes⟩, type, pos, after, guard⟩) hn rfl), hmem, by rw [put_defers]; exact hs0.dfs⟩ hc
    ⟨hJ, fun x px hx hpx hf => (q6 px.b hf).elim (hb.d x px hx hpx) fun h => by (have := hs0.mem.lt x px hpx); omega, hb.rd, ⟨p, hpl, hp2⟩⟩
    fun a2 w2 hp => hK a2 w2 (hp.trans (.refl _ _ _ _) ⟨q1, q2, q3, q4, fun b hb _ hf => q5 b hb hf⟩ q6)

/-- A function that hands things over, in a memory that holds just what it looks at. -/
structure CanJ (G : Nat) (P : Program) (C : Cons) (fl lo f : Nat) (args : List AV) (m : List (Nat × Option AObj)) (c : Nat) (s : C.γ) (Qf : AV → T AObj → C.γ → Prop) : Prop where
  enter : ∀ us w, (callFunc f us).run P w = .ok (.enter f us) w
  run : ∀ ρ w F us, Holds G ρ (ofM m) c w → VRs ρ args us → Beside C ρ lo fl F s w → ∀ r n, CallsIn (FR r) n P f us.toArray w fun e w' =>
    ∃ u v H' c' ρ' s' F', e = .returned u ∧ Qf v H' s' ∧ VR ρ' v u ∧ Holds G ρ' H' c' w' ∧ c ≤ c' ∧ ExtB ρ ρ' fl c w ∧ FrJ ρ fl F w w' ∧ Beside C ρ' lo fl F' s' w' ∧ ∀ b, F' b → F b ∨ w.heap.size ≤ b

structure rtJ (P : Program) (C : Cons) (fl : Nat) (rs : List ResultVar) (Qf : AV → T AObj → C.γ → Prop) (e : AExit) (st : St) (s : C.γ) : Prop where
  go : rtQ P fl rs (fun v H _ => Qf v H s) e st

theorem CanJ.mk' {f : Nat} {fn : Func} {args : List AV} {Qf : AV → T AObj → C.γ → Prop}
    (h1 : P.funcs[f]? = some fn) (h2 : fn.body = some code) (h3 : (fn.name == "runtime.NumGoroutine") = false) (hn : args.length + (fn.ntmps - args.length) = n) (hlo : lo < fl) (hfl : fl ≤ c)
    (h : TrJ G P C fl c lo code (stL n [] (argL args 0) m c) s (rtJ P C fl fn.results.toList Qf)) : CanJ G P C fl lo f args m c s Qf := by
  refine ⟨fun us w => ?_, fun ρ w F us hH hv hb b k => ?_⟩
  · simp only [callFunc, Sem.run_bind, run_program, Result.andThen_ok, h1, h3, Bool.false_eq_true, if_false, h2, Option.isNone_some]
    rfl
  · have he := env_args hv fn.ntmps
    have hs : SR G ρ (stL n [] (argL args 0) m c) { tmps := us.toArray ++ Array.replicate (fn.ntmps - us.toArray.size) undef, defers := [] } w :=
      ⟨⟨by rw [← hn]; exact he.1, fun t v ht => by
        have h4 : look (argL args 0) t = some v := by rw [← ofL_get]; exact ht
        have := he.2 t v (argL_get h4)
        rw [hn] at this
        exact this⟩, hH, rfl⟩
    have fin : ∀ st1 a' w' s1 F1, (∃ H' v, leaveA fl st1.H st1.dfs = some H' ∧ resultsA P st1.env H' fn.results.toList = some v ∧ Qf v H' s1) → (∃ ρ1, SR G ρ1 st1 a' w' ∧ c ≤ st1.c ∧ ExtB ρ ρ1 fl c w ∧ FrJ ρ fl F w w' ∧ Beside C ρ1 lo fl F1 s1 w' ∧ ∀ b, F1 b → F b ∨ w.heap.size ≤ b) →
        LeavesInM (FR none) k P fn a'.tmps (fun e w' => ∃ u v H' c' ρ' s' F', e = .returned u ∧ Qf v H' s' ∧ VR ρ' v u ∧ Holds G ρ' H' c' w' ∧ c ≤ c' ∧ ExtB ρ ρ' fl c w ∧ FrJ ρ fl F w w' ∧ Beside C ρ' lo fl F' s' w' ∧ ∀ b, F' b → F b ∨ w.heap.size ≤ b) a'.defers .returning w' := by
      rintro st1 a' w' s1 F1 ⟨H', v, hl, hv', hq⟩ ⟨ρ1, hs1, hc1, he1, hf1, hb1, hF1⟩
      refine leave_sound (b := none) hs1.mem hs1.dfs hl fun w2 hw2 hf2 => ?_
      obtain ⟨u, hu, hvu⟩ := results_sound (P := P) hw2 hs1.env hv'
      exact ⟨u, hu, u, v, H', st1.c, ρ1, s1, F1, rfl, hq, hvu, hw2, hc1, he1, hf1.trans he1 hF1 (.of hf2), hb1.stab hlo hfl (.refl _ _ _ _) hf2, hF1⟩
    have main : CallsIn (FR none) k P f us.toArray w fun e w' => ∃ u v H' c' ρ' s' F', e = .returned u ∧ Qf v H' s' ∧ VR ρ' v u ∧ Holds G ρ' H' c' w' ∧ c ≤ c' ∧ ExtB ρ ρ' fl c w ∧ FrJ ρ fl F w w' ∧ Beside C ρ' lo fl F' s' w' ∧ ∀ b, F' b → F b ∨ w.heap.size ≤ b := by
      refine callsIn_of_wp_marks h1 h2 trivial ?_
      refine wpIn_mono (h.run ρ _ w F k hlo hfl hs (Nat.le_refl _) hb) fun e1 a1 w1 hp => ?_
      obtain ⟨e, st1, ρ1, s1, F1, rfl, ⟨⟨hq⟩⟩, hs1, hc1, he1, hf1, hb1, hF1⟩ := hp
      cases e with
      | normal => exact fin st1 a1 w1 s1 F1 hq ⟨ρ1, hs1, hc1, he1, hf1, hb1, hF1⟩
      | ret => exact fin st1 a1 w1 s1 F1 hq ⟨ρ1, hs1, hc1, he1, hf1, hb1, hF1⟩
      | exit id => exact hq.elim
      | goto l => exact hq.elim
    cases b with
    | none => exact main
    | some l => exact main

/-- A call that writes one object, and leaves no other name behind. -/
theorem CanJ.write {f q fl0 lo0 : Nat} {args0 : List AV} {m0 : List (Nat × Option AObj)} {o0 : AObj} {R : AV → AObj → C.γ → Prop} (h : CanJ G P C fl0 lo0 f args0 m0 (fl0 + 1) s fun v H1 s' => ∃ ob, R v ob s' ∧ H1.get fl0 = some ob) (hR : ∀ v ob s', R v ob s' → Pl v ∧ (∀ σ, ob.ren σ = ob) ∧ ob.share = none)
    (τ : Nat → Nat) (hG : G ≤ fl0) (hτg : ∀ g, g < G → τ g = g) (hτ2 : ∀ y, fl0 + 1 ≤ y → c ≤ τ y) (hobj : ∀ y o, lookM m0 y = some o → lookM m (τ y) = some (o.ren τ))
    (hinj : ∀ x y o o', lookM m0 x = some o → lookM m0 y = some o' → x ≠ y → τ x ≠ τ y ∨ ∃ n m, o.share = some (false, n) ∧ o'.share = some (false, m))
    (hq : τ fl0 = q) (hfl : fl ≤ q) (ho0 : lookM m0 fl0 = some o0) (hs0 : o0.share = none) (hlo0 : lo0 < fl0) (hτl : τ lo0 = lo) (hτi : ∀ x, x < fl0 + 1 → τ x = lo → x = lo0) (hml : lookM m lo = none) : OkJ G P C fl lo f (AV.rens τ args0) m c s fun v m' s' => ∃ ob, R v ob s' ∧ m' = (q, some ob) :: m := by
  refine ⟨h.enter, fun ρ w F us hH hargs hb r n => ?_⟩
  have h0 : Holds G (fun x => ρ (τ x)) (ofM m0) (fl0 + 1) w := hH.ren τ (fun x o hx => by rw [ofM_get]; exact hobj x o (by rw [← ofM_get]; exact hx)) (fun x y o o' hx hy => hinj x y o o' (by rw [← ofM_get]; exact hx) (by rw [← ofM_get]; exact hy)) hτ2 hτg
  have hlow : ∀ y t, ρ (τ y) = some t → y < fl0 + 1 := fun y t ht => by
    rcases Nat.lt_or_ge y (fl0 + 1) with h | h
    · exact h
    · have := h0.fresh y h
      replace this : ρ (τ y) = none := this
      rw [this] at ht; cases ht
  have hb0 : Beside C (fun x => ρ (τ x)) lo0 fl0 F s w := ⟨hb.j, fun x p hx hp => hb.d (τ x) p (fun e => hx (hτi x (hlow x p hp) e)) hp, fun x p hx hp => hb.rd (τ x) p (by
    have := hlow x p hp
    have e : x = fl0 := by omega
    rw [e, hq]; exact hfl) hp, by
    obtain ⟨p, h1, h2⟩ := hb.lb
    exact ⟨p, by show ρ (τ lo0) = _; rw [hτl]; exact h1, h2⟩⟩
  refine (h.run _ w F us h0 ((VRs_ren ρ τ args0 us).1 hargs) hb0 r n).mono ?_
  rintro e w' ⟨u, v1, H1, c1, ρ1, s1, F1, rfl, ⟨ob, hRv, hq1⟩, h3, h4, h5, h6, h7, h8, h9⟩
  obtain ⟨hv, hob, hsh⟩ := hR _ _ _ hRv
  have hfr : ∃ x, ρ1 x = none := ⟨c1, h4.fresh c1 (Nat.le_refl _)⟩
  have hqo : (ofM m).get q = some (o0.ren τ) := by rw [← hq, ofM_get]; exact hobj _ _ ho0
  have hqs : (o0.ren τ).share = none := by rw [AObj.ren_share]; exact hs0
  obtain ⟨pq, hpq, hobq⟩ := h4.obj _ _ hq1
  have hρq : ρ q = some pq := by
    have := h6.1 fl0 (by omega)
    rw [hpq] at this
    rw [← hq]; exact this.symm
  have hown : ∀ y t, fl0 ≤ y → ρ (τ y) = some t → y = fl0 := fun y t hy ht => by have := hlow y t ht; omega
  have hap : ∀ x o p, (ofM m).get x = some o → ρ x = some p → x ≠ q → p.b ≠ pq.b := fun x o p hx hp hn hb => by
    have := (hH.sep x q o _ p pq hn hx hqo hp hρq hb).ro
    unfold AObj.isRo at this
    rw [hqs] at this
    simp at this
  have hkeep : ∀ b, b < w.heap.size → b ≠ pq.b → ¬ F b → w'.heap[b]? = w.heap[b]? := fun b hb hne hF => h7.keep b hb (fun y t hy ht => by
    have e := hown y t hy ht
    replace ht : ρ (τ y) = some t := ht
    rw [e, hq, hρq] at ht
    cases ht
    exact fun e => hne e.symm) hF
  refine ⟨u, v1, (q, some ob) :: m, s1, F1, rfl, ⟨ob, hRv, rfl⟩, hv.vr hfr h3, ⟨fun x o hx => ?_, fun x y o o' p p' hxy hx hy hp hp' hb => ?_, hH.fresh, fun x p hp => Nat.lt_of_lt_of_le (hH.lt x p hp) h7.size, hH.glob⟩,
    ⟨h7.os, h7.tape, h7.output, h7.size, fun b hb hn hF => hkeep b hb (fun e => hn q pq hfl hρq e.symm) hF⟩, ⟨h8.j, fun x p hx hp hf => (h9 p.b hf).elim (hb.d x p hx hp) fun h => by have := hH.lt x p hp; omega, hb.rd, hb.lb⟩, h9⟩
  · replace hx : ((ofM m).set q ob).get x = some o := hx
    rw [T.get_set] at hx
    split at hx
    · rename_i e
      subst e
      cases hx
      exact ⟨pq, hρq, hobq.plain hob hfr⟩
    · rename_i e
      obtain ⟨p, h1, h2⟩ := hH.obj x o hx
      have hne : x ≠ lo := fun e => by rw [e, ofM_get, hml] at hx; cases hx
      exact ⟨p, h1, h2.world (hkeep p.b (hH.lt x p h1) (hap x o p hx h1 e) (hb.d x p hne h1))⟩
  · replace hx : ((ofM m).set q ob).get x = some o := hx
    replace hy : ((ofM m).set q ob).get y = some o' := hy
    rw [T.get_set] at hx hy
    split at hx
    · rename_i e
      subst e
      cases hx
      split at hy
      · rename_i e; exact absurd e.symm hxy
      · exact (hH.sep x y _ o' p p' hxy hqo hy hp hp' hb).congr (by rw [hqs, hsh]) rfl
    · split at hy
      · rename_i e e'
        subst e'
        cases hy
        exact (hH.sep x y o _ p p' hxy hx hqo hp hp' hb).congr rfl (by rw [hqs, hsh])
      · exact hH.sep x y o o' p p' hxy hx hy hp hp' hb
end
end Go.Ev

/- The truths of package claim: one by one. -/
namespace Go.Proofs.Ytcoklgmdifggbaa
open Go Go.Ev

def Tru.setR (t : Tru) (i : Nat) (a : Int) : Tru := if i = 0 then { t with r0 := a } else if i = 1 then { t with r1 := a } else { t with r2 := a }
def Tru.setC (t : Tru) (i : Nat) (a : Int) : Tru := if i = 0 then { t with c0 := a } else if i = 1 then { t with c1 := a } else { t with c2 := a }
def tru2 (t : Tru) (i : Nat) (a b : Int) : Tru := (t.setR i a).setC i b
def ints (a b : Int) : List Int := (List.range (b - a + 1).toNat).map fun k : Nat => a + (k : Int)
theorem ints_cons {a b : Int} (h : a ≤ b) : ints a b = a :: ints (a + 1) b := by
  unfold ints
  obtain ⟨n, hn⟩ : ∃ n, (b - a + 1).toNat = n + 1 := ⟨(b - a).toNat, by omega⟩
  rw [hn, show (b - (a + 1) + 1).toNat = n by omega, List.range_succ_eq_map, List.map_cons, List.map_map]
  refine congr (congrArg _ (by simp)) ?_
  refine List.map_congr_left fun k _ => ?_
  show a + ((k + 1 : Nat) : Int) = a + 1 + k
  omega
theorem ints_nil {a b : Int} (h : b < a) : ints a b = [] := by
  unfold ints
  rw [show (b - a + 1).toNat = 0 by omega]; rfl

/-- All truths from a stage on. -/
noncomputable def trs (B : CBook) : Nat → Nat → Tru → List Tru
  | 0, _, t => [t]
  | k + 1, i, t => (ints (B.rl i) (B.rh i)).flatMap fun r => (ints (smL B t i + r) (smH B t i + r)).flatMap fun mi => if wrV B (i, mi) = 0 then trs B k (i + 1) (tru2 t i r mi) else []

/-- A consumer is handed truths. -/
def foldC (C : Cons) : C.γ → List Tru → C.γ × Bool
  | s, [] => (s, true)
  | s, t :: ts => if (C.step s [trV t]).2 then foldC C (C.step s [trV t]).1 ts else ((C.step s [trV t]).1, false)
theorem foldC_append (C : Cons) : ∀ (s : C.γ) (xs ys : List Tru), foldC C s (xs ++ ys) = if (foldC C s xs).2 then foldC C (foldC C s xs).1 ys else ((foldC C s xs).1, false)
  | s, [], ys => by simp [foldC]
  | s, t :: xs, ys => by
    simp only [List.cons_append, foldC]
    split
    · exact foldC_append C _ xs ys
    · rfl

theorem foldC_live (C : Cons) (r : Nat) : ∀ (s : C.γ) (xs : List Tru), C.lv (r + xs.length) s → (foldC C s xs).2 = true → C.lv r (foldC C s xs).1
  | s, [], h, _ => h
  | s, t :: xs, h, e => by
    simp only [foldC] at e ⊢
    split
    · rename_i g
      rw [if_pos g] at e
      exact foldC_live C r _ xs (C.live _ s _ h g) e
    · rename_i g
      rw [if_neg g] at e
      cases e
theorem trV_setr {t : Tru} {i : Nat} {a : Int} (hi : i < 3) : Ev.splice (trV t).cells (0 + 1 + i * 1) (AV.int .i64 a).cells = some (trV (t.setR i a)).cells := by
  obtain rfl | rfl | rfl : i = 0 ∨ i = 1 ∨ i = 2 := by omega
  all_goals rfl
theorem trV_setc {t : Tru} {i : Nat} {a : Int} (hi : i < 3) : Ev.splice (trV t).cells (0 + 4 + i * 1) (AV.int .i64 a).cells = some (trV (t.setC i a)).cells := by
  obtain rfl | rfl | rfl : i = 0 ∨ i = 1 ∨ i = 2 := by omega
  all_goals rfl
theorem tru2_self {t : Tru} {i : Nat} (hi : i < 3) : tru2 t i (t.r i) (t.c i) = t := by
  obtain rfl | rfl | rfl : i = 0 ∨ i = 1 ∨ i = 2 := by omega
  all_goals rfl
theorem tru2_r {t : Tru} {i : Nat} {a b r : Int} (hi : i < 3) : (tru2 t i a b).setR i r = tru2 t i r b := by
  obtain rfl | rfl | rfl : i = 0 ∨ i = 1 ∨ i = 2 := by omega
  all_goals rfl
theorem tru2_c {t : Tru} {i : Nat} {a b r : Int} (hi : i < 3) : (tru2 t i a b).setC i r = tru2 t i a r := by
  obtain rfl | rfl | rfl : i = 0 ∨ i = 1 ∨ i = 2 := by omega
  all_goals rfl
theorem tru2_at {t : Tru} {i : Nat} {a b : Int} (hi : i < 3) : (tru2 t i a b).c i = b := by
  obtain rfl | rfl | rfl : i = 0 ∨ i = 1 ∨ i = 2 := by omega
  all_goals rfl
theorem tru2_w {t : Tru} {i : Nat} {a b : Int} (hi : i < 3) : (tru2 t i a b).w = t.w := by
  obtain rfl | rfl | rfl : i = 0 ∨ i = 1 ∨ i = 2 := by omega
  all_goals rfl

/-- A truth that is known up to a stage. -/
def drvOk (t : Tru) (i : Nat) : Prop := (i = 0 ∧ t.c0 = 0 ∧ t.c1 = 0 ∧ t.c2 = 0) ∨ (1 ≤ i ∧ 1 ≤ t.c (i - 1) ∧ t.c (i - 1) ≤ 170 * i)
theorem drvOk.tru {t : Tru} {i : Nat} (h : drvOk t i) (hi : i ≤ 3) : truOk t i := by
  unfold drvOk at h
  unfold truOk
  omega

/-- What the drive finds in memory. -/
structure DrvIn (B : CBook) (a1 a2 : AV) (lo p x y z q : Nat) (L : List (Int × Int)) (m : List (Nat × Option AObj)) (c : Nat) : Prop where
  pb : PbIn B a1 a2 p q m c
  hl : lookM m lo = none
  hx : lookM m x = some (.cells [.ptr p 0])
  hy : lookM m y = some (.cells [.yld lo])
  hz : lookM m z = some (.cells [.fn 114 [] [.ptr x 0, .ptr y 0, .ptr z 0]])
  hq : lookM m q = some (oMap B L)

/-- What the drive leaves. -/
def drvR (B : CBook) (C : Cons) (s : C.γ) (ts : List Tru) (v : AV) (ob : AObj) (s' : C.γ) : Prop := ∃ L, v = .bool (foldC C s ts).2 ∧ s' = (foldC C s ts).1 ∧ ob = oMap B L

theorem drive_ok {B : CBook} {C : Cons} {a1 a2 : AV} {lo p x y z q : Nat} {L : List (Int × Int)} {m : List (Nat × Option AObj)} {c i : Nat} {t : Tru} {s : C.γ} {ts : List Tru} (h : DrvIn B a1 a2 lo p x y z q L m c)
    (hc : CanJ 0 Try.prog C 7 2 114 [.int .i64 (i : Int), trV t, .ptr 4 0, .ptr 5 0, .ptr 6 0] [(0, some (oSt B)), (1, some (oCk B)), (3, some (.cells (pbC B a1 a2 7))), (4, some (.cells [.ptr 3 0])), (5, some (.cells [.yld 2])), (6, some (.cells [.fn 114 [] [.ptr 4 0, .ptr 5 0, .ptr 6 0]])), (7, some (oMap B L))] 8 s fun v H1 s' => ∃ ob, drvR B C s ts v ob s' ∧ H1.get 7 = some ob) (fl : Nat) (hfl : fl ≤ q) :
    OkJ 0 Try.prog C fl lo 114 [.int .i64 (i : Int), trV t, .ptr x 0, .ptr y 0, .ptr z 0] m c s fun v m' s' => ∃ ob, drvR B C s ts v ob s' ∧ m' = (q, some ob) :: m := by
  have e0 : tau [0, 1, lo, p, x, y, z, q] c 0 = 0 := rfl
  have e1 : tau [0, 1, lo, p, x, y, z, q] c 1 = 1 := rfl
  have e2 : tau [0, 1, lo, p, x, y, z, q] c 2 = lo := rfl
  have e3 : tau [0, 1, lo, p, x, y, z, q] c 3 = p := rfl
  have e4 : tau [0, 1, lo, p, x, y, z, q] c 4 = x := rfl
  have e5 : tau [0, 1, lo, p, x, y, z, q] c 5 = y := rfl
  have e6 : tau [0, 1, lo, p, x, y, z, q] c 6 = z := rfl
  have e7 : tau [0, 1, lo, p, x, y, z, q] c 7 = q := rfl
  have ha : AV.rens (tau [0, 1, lo, p, x, y, z, q] c) [.int .i64 (i : Int), trV t, .ptr 4 0, .ptr 5 0, .ptr 6 0] = [.int .i64 (i : Int), trV t, .ptr x 0, .ptr y 0, .ptr z 0] := rfl
  rw [← ha]
  have low : ∀ {u : Nat} {ob : AObj}, lookM [(0, some (oSt B)), (1, some (oCk B)), (3, some (.cells (pbC B a1 a2 7))), (4, some (.cells [.ptr 3 0])), (5, some (.cells [.yld 2])), (6, some (.cells [.fn 114 [] [.ptr 4 0, .ptr 5 0, .ptr 6 0]])), (7, some (oMap B L))] u = some ob → u = 0 ∨ u = 1 ∨ u = 3 ∨ u = 4 ∨ u = 5 ∨ u = 6 ∨ u = 7 := fun {u ob} hz => by
    simp only [lookM, Bool.cond_eq_ite, Nat.beq_eq] at hz
    by_cases g : u = 0 ∨ u = 1 ∨ u = 3 ∨ u = 4 ∨ u = 5 ∨ u = 6 ∨ u = 7
    · exact g
    · exfalso
      rw [if_neg (by omega), if_neg (by omega), if_neg (by omega), if_neg (by omega), if_neg (by omega), if_neg (by omega), if_neg (by omega)] at hz
      cases hz
  have hobj : ∀ u o, lookM [(0, some (oSt B)), (1, some (oCk B)), (3, some (.cells (pbC B a1 a2 7))), (4, some (.cells [.ptr 3 0])), (5, some (.cells [.yld 2])), (6, some (.cells [.fn 114 [] [.ptr 4 0, .ptr 5 0, .ptr 6 0]])), (7, some (oMap B L))] u = some o → lookM m (tau [0, 1, lo, p, x, y, z, q] c u) = some (o.ren (tau [0, 1, lo, p, x, y, z, q] c)) := fun u o hu => by
    rcases low hu with rfl | rfl | rfl | rfl | rfl | rfl | rfl
    · cases hu; rw [e0, ren_ro]; exact h.pb.m1
    · cases hu; rw [e1, ren_ro]; exact h.pb.m2
    · cases hu
      have : (AObj.cells (pbC B a1 a2 7)).ren (tau [0, 1, lo, p, x, y, z, q] c) = .cells (pbC B a1 a2 q) := by simp only [pbC, AObj.ren, AV.ren, AV.rens, h.pb.h1.ren e0, h.pb.h2.ren e1, e7]
      rw [e3, this]; exact h.pb.m3
    · cases hu; exact h.hx
    · cases hu; exact h.hy
    · cases hu; exact h.hz
    · cases hu; rw [e7, ren_mapA]; exact h.hq
  refine CanJ.write (o0 := oMap B L) (R := drvR B C s ts) hc (fun v ob s' ⟨L', h1, _, h3⟩ => by subst h1 h3; exact ⟨.bool _, ren_mapA _ _, rfl⟩) (tau [0, 1, lo, p, x, y, z, q] c) (Nat.zero_le _) (fun g hg => by omega) (fun u hu => by rw [tau_ge hu]; omega) hobj (fun u u' o o' hu hu' hne => .inl fun e => ?_) rfl hfl rfl rfl (by decide) rfl (fun u hu e => ?_) h.hl
  · have g1 := hobj u o hu
    have g2 := hobj u' o' hu'
    rw [e] at g1
    rw [g1] at g2
    rcases low hu with rfl | rfl | rfl | rfl | rfl | rfl | rfl <;> rcases low hu' with rfl | rfl | rfl | rfl | rfl | rfl | rfl <;> first | exact absurd rfl hne | exact absurd (show (0 : Nat) = 1 from e) (by decide) | exact absurd (show (1 : Nat) = 0 from e) (by decide) | (cases hu; cases hu'; simp [AObj.ren, AV.rens, AV.ren, pbC, oSt, oCk] at g2)
  · rcases (by omega : u = 0 ∨ u = 1 ∨ u = 2 ∨ u = 3 ∨ u = 4 ∨ u = 5 ∨ u = 6 ∨ u = 7) with rfl | rfl | rfl | rfl | rfl | rfl | rfl | rfl
    · have := hobj 0 _ rfl; rw [e, h.hl] at this; cases this
    · have := hobj 1 _ rfl; rw [e, h.hl] at this; cases this
    · rfl
    · have := hobj 3 _ rfl; rw [e, h.hl] at this; cases this
    · have := hobj 4 _ rfl; rw [e, h.hl] at this; cases this
    · have := hobj 5 _ rfl; rw [e, h.hl] at this; cases this
    · have := hobj 6 _ rfl; rw [e, h.hl] at this; cases this
    · have := hobj 7 _ rfl; rw [e, h.hl] at this; cases this
end Go.Proofs.Ytcoklgmdifggbaa

/- The truths of package claim: the drive. -/
namespace Go.Proofs.Ytcoklgmdifggbaa
open Go Go.Ev

set_option maxRecDepth 100000 in
set_option maxHeartbeats 4000000 in
theorem drive0_can (B : CBook) (a1 a2 : AV) (h1 : IsSl a1 B.ns 0) (h2 : IsSl a2 B.nc 1) (C : Cons) (hY : YldOK Try.prog C) (hC : ∀ k s t, C.lv (k + 1) s → C.ok s [trV t]) (t : Tru) (L : List (Int × Int)) (s : C.γ) (r : Nat) (hl : C.lv (r + 1) s) : CanJ 0 Try.prog C 7 2 114 [.int .i64 (B.ns : Int), trV t, .ptr 4 0, .ptr 5 0, .ptr 6 0] [(0, some (oSt B)), (1, some (oCk B)), (3, some (.cells (pbC B a1 a2 7))), (4, some (.cells [.ptr 3 0])), (5, some (.cells [.yld 2])), (6, some (.cells [.fn 114 [] [.ptr 4 0, .ptr 5 0, .ptr 6 0]])), (7, some (oMap B L))] 8 s fun v H1 s' => ∃ ob, drvR B C s [t] v ob s' ∧ H1.get 7 = some ob := by
  refine CanJ.mk' Try.func114 rfl rfl rfl (by decide) (by decide) ?_
  repeat' (first | refine RTJ.nil ?_ | refine sqJ_n ?_ | refine TrJ.seq ?_ | refine TrJ.region ?_ | refine TrJ.cond_t rfl ?_ | refine TrJ.cond_f rfl ?_ | refine TrJ.cond_d rfl (fun _ => ?_) (fun _ => ?_) | refine TrJ.skip ?_ | refine TrJ.ret ?_ | refine sqJ_r ?_ | refine TrJ.exit ?_ | refine sqJ_x ?_ | refine TrJ.block ?_ | refine blkJ_n ?_ | refine blkJ_r ?_ | refine blkJ_hit rfl ?_ | refine blkJ_pass rfl ?_ | refine TrJ.label ?_ | refine TrJ.scope ?_ | refine scpJ_n ?_ | refine scpJ_r ?_ | refine scpJ_x ?_ | refine lpJ_r ?_ | refine lpJ_x ?_ | (refine RTJ.splitd rfl rfl (fun _ => ?_) (fun _ => ?_)) | (refine RTJ.yield hY rfl rfl rfl (fun _ => rfl) (hC r _ t hl) rfl rfl rfl ?_) | (refine RTJ.goK rfl rfl rfl rfl ?_; apply Nx.of; (first | exact S.move | exact S.assign | exact S.load1c rfl rfl rfl rfl | exact S.loadNc rfl rfl rfl rfl | exact S.fieldAddr rfl rfl rfl | exact S.leq | exact S.lss | exact S.eql | exact S.neq | exact S.geq | exact S.gtr | exact S.not_t | exact S.not_f | exact S.not_d | exact S.pick_tt | exact S.pick_ff | exact S.pick_td (by assumption) | exact S.pick_fd (by assumption) | exact S.pick_b | exact S.box | exact S.alloc rfl | exact S.add_one (by omega) | exact S.sub_one (by omega) (by omega) | exact S.add (by unfold In64; omega) | exact S.sub (by unfold In64; omega) | exact S.mul (by unfold In64; omega) | exact S.add_w | exact S.sub_w | exact S.mul_w | exact S.min2 | exact S.max2 | exact S.build rfl rfl rfl | exact S.buildA rfl rfl rfl rfl | exact S.nilCheck | exact S.extract rfl | exact S.nilCheck_fn)) | (refine RTJ.goK0 rfl rfl rfl ?_; apply Nx.of; (first | exact S.store rfl rfl rfl rfl rfl rfl | exact S.nilCheck_fn)) | (refine RTJ.goK rfl rfl rfl rfl ?_; apply Nx.of; (first | exact S.idx_sl rfl rfl rfl (by assumption) (by omega) | exact S.idx_slI rfl rfl rfl (by assumption) (by omega) (by omega) | exact S.rowN0 rfl rfl rfl (fun _ => rfl) (range_at (by omega)) rfl | exact S.rowN rfl rfl rfl (fun _ => rfl) (range_at (by omega)) rfl | exact S.row0 rfl rfl rfl (fun _ => rfl) (range_at (by omega)) rfl | exact S.row rfl rfl rfl (fun _ => rfl) (range_at (by omega)) rfl | exact S.row2 rfl rfl rfl (fun _ => rfl) (range_at (by omega)) rfl | exact S.len_sl rfl rfl rfl (by assumption))) | (refine RTJ.no rfl rfl rfl ?_))
  · (first | refine ⟨rt_go rfl ?_⟩ | refine ⟨rt_go (by exact rfl) ?_⟩)
    refine ⟨_, ⟨L, ?_, ?_, rfl⟩, getM rfl⟩
    · show AV.bool (C.step s [trV t]).2 = _
      unfold foldC
      cases hq : (C.step s [trV t]).2
      · rfl
      · rfl
    · show (C.step s [trV t]).1 = _
      unfold foldC
      cases hq : (C.step s [trV t]).2
      · rfl
      · rfl
  · exact absurd rfl (by assumption)

noncomputable def smF (B : CBook) (a1 a2 : AV) (p q : Nat) (t : Tru) (i : Nat) : CallFn := one1 115 [.ptr p 0, .int .i64 (i : Int), trV t] (.agg [.int .i64 (smL B t i), .int .i64 (smH B t i)]) fun H c => ∃ m, H = ofM m ∧ PbIn B a1 a2 p q m c
theorem smF_calm {B : CBook} {a1 a2 : AV} {p q : Nat} (hok : stsOk B) (hw : weaOk B) (t : Tru) (i : Nat) (hi : i < B.ns) (ht : truOk t i) (hwt : 0 ≤ t.w ∧ t.w < 3) : CalmC 0 Try.prog (smF B a1 a2 p q t i) :=
  one1_calm fun fl H c ⟨m, hm, h⟩ => by subst hm; exact smooth_at h hok hw t i hi ht hwt fl

theorem sm_bd {B : CBook} (hok : stsOk B) (hw : weaOk B) {t : Tru} {i : Nat} (hi : i < B.ns) (ht : drvOk t i) (hwt : 0 ≤ t.w ∧ t.w < 3) : 1 ≤ smL B t i ∧ smL B t i ≤ smH B t i ∧ smH B t i ≤ 170 * i + 140 := by
  obtain ⟨hn, hst⟩ := hok
  have hs := hst (i - 1) (by omega)
  have hs' := hst i hi
  unfold stOk at hs hs'
  unfold weaOk at hw
  have hc : 0 ≤ B.cost t.w.toNat ∧ B.cost t.w.toNat ≤ 30 := by
    obtain h | h | h : t.w.toNat = 0 ∨ t.w.toNat = 1 ∨ t.w.toNat = 2 := by omega
    all_goals (rw [h]; omega)
  unfold drvOk at ht
  unfold smL smH depL depH
  rcases ht with ⟨h1, h2⟩ | ht
  · rw [if_pos h2, if_pos h2]; omega
  · split <;> omega

/-- What the drive still has to do. -/
noncomputable def innR (B : CBook) (k i : Nat) (t : Tru) (r mi : Int) : List Tru := (ints mi (smH B t i + r)).flatMap fun mi => if wrV B (i, mi) = 0 then trs B k (i + 1) (tru2 t i r mi) else []
noncomputable def outR (B : CBook) (k i : Nat) (t : Tru) (n : Int) : List Tru := (ints n (B.rh i)).flatMap fun r => innR B k i t r (smL B t i + r)
theorem outR_cons {B : CBook} {k i : Nat} {t : Tru} {n : Int} (h : n ≤ B.rh i) : outR B k i t n = innR B k i t n (smL B t i + n) ++ outR B k i t (n + 1) := by unfold outR; rw [ints_cons h, List.flatMap_cons]
theorem outR_nil {B : CBook} {k i : Nat} {t : Tru} {n : Int} (h : B.rh i < n) : outR B k i t n = [] := by unfold outR; rw [ints_nil h]; rfl
theorem innR_cons {B : CBook} {k i : Nat} {t : Tru} {r n : Int} (h : n ≤ smH B t i + r) : innR B k i t r n = (if wrV B (i, n) = 0 then trs B k (i + 1) (tru2 t i r n) else []) ++ innR B k i t r (n + 1) := by unfold innR; rw [ints_cons h, List.flatMap_cons]
theorem innR_nil {B : CBook} {k i : Nat} {t : Tru} {r n : Int} (h : smH B t i + r < n) : innR B k i t r n = [] := by unfold innR; rw [ints_nil h]; rfl

set_option maxRecDepth 100000 in
set_option maxHeartbeats 8000000 in
theorem drive1_can (B : CBook) (a1 a2 : AV) (h1 : IsSl a1 B.ns 0) (h2 : IsSl a2 B.nc 1) (hok : stsOk B) (hw : weaOk B) (hck : cksOk B) (C : Cons) (k i : Nat) (hi : i < B.ns) (t : Tru) (ht : drvOk t i) (hwt : 0 ≤ t.w ∧ t.w < 3) (L : List (Int × Int)) (s : C.γ) (r : Nat) (hl : C.lv (r + (trs B (k + 1) i t).length) s)
    (ih : ∀ (t : Tru) (L : List (Int × Int)) (s : C.γ) (r : Nat), C.lv (r + (trs B k (i + 1) t).length) s → drvOk t (i + 1) → 0 ≤ t.w ∧ t.w < 3 → CanJ 0 Try.prog C 7 2 114 [.int .i64 ((i + 1 : Nat) : Int), trV t, .ptr 4 0, .ptr 5 0, .ptr 6 0] [(0, some (oSt B)), (1, some (oCk B)), (3, some (.cells (pbC B a1 a2 7))), (4, some (.cells [.ptr 3 0])), (5, some (.cells [.yld 2])), (6, some (.cells [.fn 114 [] [.ptr 4 0, .ptr 5 0, .ptr 6 0]])), (7, some (oMap B L))] 8 s fun v H1 s' => ∃ ob, drvR B C s (trs B k (i + 1) t) v ob s' ∧ H1.get 7 = some ob) :
    CanJ 0 Try.prog C 7 2 114 [.int .i64 (i : Int), trV t, .ptr 4 0, .ptr 5 0, .ptr 6 0] [(0, some (oSt B)), (1, some (oCk B)), (3, some (.cells (pbC B a1 a2 7))), (4, some (.cells [.ptr 3 0])), (5, some (.cells [.yld 2])), (6, some (.cells [.fn 114 [] [.ptr 4 0, .ptr 5 0, .ptr 6 0]])), (7, some (oMap B L))] 8 s fun v H1 s' => ∃ ob, drvR B C s (trs B (k + 1) i t) v ob s' ∧ H1.get 7 = some ob := by
  obtain ⟨hsm1, hsm3, hsm2⟩ := sm_bd hok hw hi ht hwt
  have hi3 : i < 3 := by have := hok.1; omega
  have hs := hok.2 i hi
  unfold stOk at hs
  have htr := ht.tru (by omega)
  refine CanJ.mk' Try.func114 rfl rfl rfl (by decide) (by decide) ?_
  repeat' (first | refine RTJ.nil ?_ | refine sqJ_n ?_ | refine TrJ.seq ?_ | refine TrJ.region ?_ | refine TrJ.cond_t rfl ?_ | refine TrJ.cond_f rfl ?_ | refine TrJ.cond_d rfl (fun _ => ?_) (fun _ => ?_) | refine TrJ.skip ?_ | refine TrJ.ret ?_ | refine sqJ_r ?_ | refine TrJ.exit ?_ | refine sqJ_x ?_ | refine TrJ.block ?_ | refine blkJ_n ?_ | refine blkJ_r ?_ | refine blkJ_hit rfl ?_ | refine blkJ_pass rfl ?_ | refine TrJ.label ?_ | refine TrJ.scope ?_ | refine scpJ_n ?_ | refine scpJ_r ?_ | refine scpJ_x ?_ | refine lpJ_r ?_ | refine lpJ_x ?_ | (refine RTJ.splitd rfl rfl (fun _ => ?_) (fun _ => ?_)) | (refine RTJ.goK rfl rfl rfl rfl ?_; apply Nx.of; (first | exact S.move | exact S.assign | exact S.load1c rfl rfl rfl rfl | exact S.loadNc rfl rfl rfl rfl | exact S.fieldAddr rfl rfl rfl | exact S.leq | exact S.lss | exact S.eql | exact S.neq | exact S.geq | exact S.gtr | exact S.not_t | exact S.not_f | exact S.not_d | exact S.pick_tt | exact S.pick_ff | exact S.pick_td (by assumption) | exact S.pick_fd (by assumption) | exact S.pick_b | exact S.box | exact S.alloc rfl | exact S.add_one (by omega) | exact S.sub_one (by omega) (by omega) | exact S.add (by unfold In64; omega) | exact S.sub (by unfold In64; omega) | exact S.mul (by unfold In64; omega) | exact S.add_w | exact S.sub_w | exact S.mul_w | exact S.min2 | exact S.max2 | exact S.build rfl rfl rfl | exact S.buildA rfl rfl rfl rfl | exact S.nilCheck | exact S.extract rfl | exact S.nilCheck_fn)) | (refine RTJ.goK0 rfl rfl rfl ?_; apply Nx.of; (first | exact S.store rfl rfl rfl rfl rfl rfl | exact S.nilCheck_fn)) | (refine RTJ.goK rfl rfl rfl rfl ?_; apply Nx.of; (first | exact S.idx_sl rfl rfl rfl (by assumption) (by omega) | exact S.idx_slI rfl rfl rfl (by assumption) (by omega) (by omega) | exact S.rowN0 rfl rfl rfl (fun _ => rfl) (range_at (by omega)) rfl | exact S.rowN rfl rfl rfl (fun _ => rfl) (range_at (by omega)) rfl | exact S.row0 rfl rfl rfl (fun _ => rfl) (range_at (by omega)) rfl | exact S.row rfl rfl rfl (fun _ => rfl) (range_at (by omega)) rfl | exact S.row2 rfl rfl rfl (fun _ => rfl) (range_at (by omega)) rfl | exact S.len_sl rfl rfl rfl (by assumption))) | (refine RTJ.no rfl rfl rfl ?_))
  · exfalso; omega
  refine TrJ.lift (Tr.openK un114_3 (by kernel_rfl) (by kernel_rfl) (smF B a1 a2 3 7 t i) (smF_calm hok hw t i hi htr hwt) ?_)
  repeat' (first | (refine RD.free rfl rfl rfl rfl rfl rfl ?_; apply Nx.of; (first | exact S.move | exact S.assign | exact S.fieldAddr rfl rfl rfl | exact S.leq | exact S.lss | exact S.eql | exact S.neq | exact S.geq | exact S.gtr | exact S.not_t | exact S.not_f | exact S.not_d | exact S.pick_tt | exact S.pick_ff | exact S.pick_td (by assumption) | exact S.pick_fd (by assumption) | exact S.pick_b | exact S.add_one (by omega) | exact S.sub_one (by omega) (by omega) | exact S.add (by unfold In64; omega) | exact S.sub (by unfold In64; omega) | exact S.mul (by unfold In64; omega) | exact S.add_w | exact S.sub_w | exact S.mul_w | exact S.min2 | exact S.max2 | exact S.build rfl rfl rfl | exact S.buildA rfl rfl rfl rfl | exact S.nilCheck | exact S.extract rfl | exact S.nilCheck_fn | exact S.idx_sl rfl rfl rfl (by assumption) (by omega) | exact S.idx_slI rfl rfl rfl (by assumption) (by omega) (by omega) | exact S.rowN0 rfl rfl rfl (fun _ => rfl) (range_at (by omega)) rfl | exact S.rowN rfl rfl rfl (fun _ => rfl) (range_at (by omega)) rfl | exact S.row0 rfl rfl rfl (fun _ => rfl) (range_at (by omega)) rfl | exact S.row rfl rfl rfl (fun _ => rfl) (range_at (by omega)) rfl | exact S.row2 rfl rfl rfl (fun _ => rfl) (range_at (by omega)) rfl | exact S.len_sl rfl rfl rfl (by assumption) | exact S.index_arrI rfl rfl rfl rfl (by decide) (by decide) rfl | exact S.idx_arrI rfl rfl rfl (by decide) (by decide))) | (refine RD.new rfl rfl rfl rfl rfl rfl ?_; apply Nx.of; (first | exact S.box | exact S.alloc rfl | exact S.nilCheck_fn)) | (refine RD.load rfl rfl rfl rfl rfl rfl rfl rfl ?_; apply Nx.of; (first | exact S.load1c rfl rfl rfl rfl | exact S.loadNc rfl rfl rfl rfl | exact S.nilCheck_fn | exact S.idx_sl rfl rfl rfl (by assumption) (by omega) | exact S.idx_slI rfl rfl rfl (by assumption) (by omega) (by omega) | exact S.rowN0 rfl rfl rfl (fun _ => rfl) (range_at (by omega)) rfl | exact S.rowN rfl rfl rfl (fun _ => rfl) (range_at (by omega)) rfl | exact S.row0 rfl rfl rfl (fun _ => rfl) (range_at (by omega)) rfl | exact S.row rfl rfl rfl (fun _ => rfl) (range_at (by omega)) rfl | exact S.row2 rfl rfl rfl (fun _ => rfl) (range_at (by omega)) rfl | exact S.len_sl rfl rfl rfl (by assumption))) | (refine RD.store rfl rfl rfl rfl rfl rfl rfl ?_; apply Nx.of; (first | exact S.store rfl rfl rfl rfl rfl rfl | exact S.nilCheck_fn)) | (refine RD.no rfl rfl rfl rfl ?_) | (refine RD.load rfl rfl rfl rfl rfl rfl rfl (by refine us_all ?_; simp only [usOk, cond_true, cond_false]; (repeat' (first | exact trivial | refine And.intro ?_ ?_)); all_goals (first | rfl | exact .inl trivial | exact .inl rfl | (refine Or.inr (was_same rfl ?_); (first | (exact ⟨_, rfl, rfl⟩) | (exact ⟨_, rfl, by simp [rfO, rfVs, rfV, rfVs_flat]⟩))))) ?_; apply Nx.of; (first | exact S.load1c rfl rfl rfl rfl | exact S.loadNc rfl rfl rfl rfl | exact S.nilCheck_fn | exact S.idx_sl rfl rfl rfl (by assumption) (by omega) | exact S.idx_slI rfl rfl rfl (by assumption) (by omega) (by omega) | exact S.rowN0 rfl rfl rfl (fun _ => rfl) (range_at (by omega)) rfl | exact S.rowN rfl rfl rfl (fun _ => rfl) (range_at (by omega)) rfl | exact S.row0 rfl rfl rfl (fun _ => rfl) (range_at (by omega)) rfl | exact S.row rfl rfl rfl (fun _ => rfl) (range_at (by omega)) rfl | exact S.row2 rfl rfl rfl (fun _ => rfl) (range_at (by omega)) rfl | exact S.len_sl rfl rfl rfl (by assumption))) | (refine RD.callN rfl rfl rfl rfl rfl rfl rfl rfl rfl (one1_at ⟨_, rfl, h1, h2, rfl, rfl, rfl, by decide, by decide, by decide⟩) (fun _ => rfl) ?_) | refine RD.nil ⟨Nat.le_of_ble_eq_true rfl, ?_⟩)
  repeat' (first | refine RTJ.nil ?_ | refine sqJ_n ?_ | refine TrJ.seq ?_ | refine TrJ.region ?_ | refine TrJ.cond_t rfl ?_ | refine TrJ.cond_f rfl ?_ | refine TrJ.cond_d rfl (fun _ => ?_) (fun _ => ?_) | refine TrJ.skip ?_ | refine TrJ.ret ?_ | refine sqJ_r ?_ | refine TrJ.exit ?_ | refine sqJ_x ?_ | refine TrJ.block ?_ | refine blkJ_n ?_ | refine blkJ_r ?_ | refine blkJ_hit rfl ?_ | refine blkJ_pass rfl ?_ | refine TrJ.label ?_ | refine TrJ.scope ?_ | refine scpJ_n ?_ | refine scpJ_r ?_ | refine scpJ_x ?_ | refine lpJ_r ?_ | refine lpJ_x ?_ | (refine RTJ.goK rfl rfl rfl rfl ?_; apply Nx.of; (first | exact S.move | exact S.assign | exact S.load1c rfl rfl rfl rfl | exact S.loadNc rfl rfl rfl rfl | exact S.fieldAddr rfl rfl rfl | exact S.leq | exact S.lss | exact S.eql | exact S.neq | exact S.geq | exact S.gtr | exact S.not_t | exact S.not_f | exact S.not_d | exact S.pick_tt | exact S.pick_ff | exact S.pick_td (by assumption) | exact S.pick_fd (by assumption) | exact S.pick_b | exact S.box | exact S.alloc rfl | exact S.add_one (by omega) | exact S.sub_one (by omega) (by omega) | exact S.add (by unfold In64; omega) | exact S.sub (by unfold In64; omega) | exact S.mul (by unfold In64; omega) | exact S.add_w | exact S.sub_w | exact S.mul_w | exact S.min2 | exact S.max2 | exact S.build rfl rfl rfl | exact S.buildA rfl rfl rfl rfl | exact S.nilCheck | exact S.extract rfl | exact S.nilCheck_fn)) | (refine RTJ.goK0 rfl rfl rfl ?_; apply Nx.of; (first | exact S.store rfl rfl rfl rfl rfl rfl | exact S.nilCheck_fn)) | (refine RTJ.goK rfl rfl rfl rfl ?_; apply Nx.of; (first | exact S.idx_sl rfl rfl rfl (by assumption) (by omega) | exact S.idx_slI rfl rfl rfl (by assumption) (by omega) (by omega) | exact S.rowN0 rfl rfl rfl (fun _ => rfl) (range_at (by omega)) rfl | exact S.rowN rfl rfl rfl (fun _ => rfl) (range_at (by omega)) rfl | exact S.row0 rfl rfl rfl (fun _ => rfl) (range_at (by omega)) rfl | exact S.row rfl rfl rfl (fun _ => rfl) (range_at (by omega)) rfl | exact S.row2 rfl rfl rfl (fun _ => rfl) (range_at (by omega)) rfl | exact S.len_sl rfl rfl rfl (by assumption))))
  refine TrJ.loop (fun j : Int × Int × Int × List (Int × Int) => stL Try.f114.ntmps [] [(0, .int .i64 (i : Int)), (2, .ptr 4 0), (3, .ptr 5 0), (4, .ptr 6 0), (6, .ptr 8 0), (8, .ptr 9 0), (9, .ptr 10 0), (10, .int .i64 j.1)] [(10, some (.cells [.int .i64 (B.rl i), .int .i64 (B.rh i)])), (9, some (.cells [.int .i64 (smL B t i), .int .i64 (smH B t i)])), (8, some (.cells (trV (tru2 t i j.2.1 j.2.2.1)).cells)), (0, some (oSt B)), (1, some (oCk B)), (3, some (.cells (pbC B a1 a2 7))), (4, some (.cells [.ptr 3 0])), (5, some (.cells [.yld 2])), (6, some (.cells [.fn 114 [] [.ptr 4 0, .ptr 5 0, .ptr 6 0]])), (7, some (oMap B j.2.2.2))] 11)
    (fun j s' => (B.rl i ≤ j.1 ∧ j.1 ≤ B.rh i + 1) ∧ foldC C s' (outR B k i t j.1) = foldC C s (trs B (k + 1) i t) ∧ C.lv (r + (outR B k i t j.1).length) s') (fun j => (B.rh i + 1 - j.1).toNat) (B.rl i, t.r i, t.c i, L) ⟨⟨by omega, by omega⟩, rfl, hl⟩ (by (refine Wk.same (by decide) (by decide) (by decide) (by decide) ?_ ?_ rfl; all_goals ((try simp only [allL, allM]); (repeat' (first | exact trivial | refine And.intro ?_ ?_)); all_goals (first | rfl | exact congrArg some (congrArg (AV.int .i64) (by omega)) | exact IsSl.ren (by assumption) (nm_lt (by decide)) | exact ren_ro _ _ _ | exact ren_grown _ _ _ _ | exact congrArg (fun t => some (AObj.cells (trV t).cells)) (tru2_self hi3).symm | exact congrArg (fun t => some (AObj.cells (trV t).cells)) (tru2_r hi3) | exact congrArg (fun t => some (AObj.cells (trV t).cells)) (tru2_c hi3) | exact ren_mapA _ _ _ | exact pbc_ren h1 h2 (nm_lt (by decide)) (nm_lt (by decide)) (nm_lt (by decide)) | decide)))) ?_
  rintro ⟨n, a, b, L1⟩ s1 ⟨hn, hf, hl1⟩
  simp only at hn hf ⊢
  repeat' (first | refine RTJ.nil ?_ | refine sqJ_n ?_ | refine TrJ.seq ?_ | refine TrJ.region ?_ | refine TrJ.cond_t rfl ?_ | refine TrJ.cond_f rfl ?_ | refine TrJ.cond_d rfl (fun _ => ?_) (fun _ => ?_) | refine TrJ.skip ?_ | refine TrJ.ret ?_ | refine sqJ_r ?_ | refine TrJ.exit ?_ | refine sqJ_x ?_ | refine TrJ.block ?_ | refine blkJ_n ?_ | refine blkJ_r ?_ | refine blkJ_hit rfl ?_ | refine blkJ_pass rfl ?_ | refine TrJ.label ?_ | refine TrJ.scope ?_ | refine scpJ_n ?_ | refine scpJ_r ?_ | refine scpJ_x ?_ | refine lpJ_r ?_ | refine lpJ_x ?_ | (refine RTJ.splitd rfl rfl (fun _ => ?_) (fun _ => ?_)) | (refine RTJ.goK rfl rfl rfl rfl ?_; (refine Nx.of (S.idx_arr rfl rfl rfl (show _ < 3 by omega)) ?_)) | (refine RTJ.goK0 rfl rfl rfl ?_; apply Nx.of; (first | exact S.store rfl rfl rfl rfl rfl (trV_setr hi3) | exact S.store rfl rfl rfl rfl rfl (trV_setc hi3))) | (refine RTJ.goK rfl rfl rfl rfl ?_; apply Nx.of; (first | exact S.move | exact S.assign | exact S.load1c rfl rfl rfl rfl | exact S.loadNc rfl rfl rfl rfl | exact S.fieldAddr rfl rfl rfl | exact S.leq | exact S.lss | exact S.eql | exact S.neq | exact S.geq | exact S.gtr | exact S.not_t | exact S.not_f | exact S.not_d | exact S.pick_tt | exact S.pick_ff | exact S.pick_td (by assumption) | exact S.pick_fd (by assumption) | exact S.pick_b | exact S.box | exact S.alloc rfl | exact S.add_one (by omega) | exact S.sub_one (by omega) (by omega) | exact S.add (by unfold In64; omega) | exact S.sub (by unfold In64; omega) | exact S.mul (by unfold In64; omega) | exact S.add_w | exact S.sub_w | exact S.mul_w | exact S.min2 | exact S.max2 | exact S.build rfl rfl rfl | exact S.buildA rfl rfl rfl rfl | exact S.nilCheck | exact S.extract rfl | exact S.nilCheck_fn)) | (refine RTJ.goK0 rfl rfl rfl ?_; apply Nx.of; (first | exact S.store rfl rfl rfl rfl rfl rfl | exact S.nilCheck_fn)) | (refine RTJ.goK rfl rfl rfl rfl ?_; apply Nx.of; (first | exact S.idx_sl rfl rfl rfl (by assumption) (by omega) | exact S.idx_slI rfl rfl rfl (by assumption) (by omega) (by omega) | exact S.rowN0 rfl rfl rfl (fun _ => rfl) (range_at (by omega)) rfl | exact S.rowN rfl rfl rfl (fun _ => rfl) (range_at (by omega)) rfl | exact S.row0 rfl rfl rfl (fun _ => rfl) (range_at (by omega)) rfl | exact S.row rfl rfl rfl (fun _ => rfl) (range_at (by omega)) rfl | exact S.row2 rfl rfl rfl (fun _ => rfl) (range_at (by omega)) rfl | exact S.len_sl rfl rfl rfl (by assumption))) | (refine RTJ.no rfl rfl rfl ?_))
  · have hnb : n ≤ B.rh i := by assumption
    refine TrJ.loop (fun j : Int × Int × List (Int × Int) => stL Try.f114.ntmps [] [(0, .int .i64 (i : Int)), (2, .ptr 4 0), (3, .ptr 5 0), (4, .ptr 6 0), (6, .ptr 8 0), (8, .ptr 9 0), (9, .ptr 10 0), (10, .int .i64 n), (11, .int .i64 j.1)] [(10, some (.cells [.int .i64 (B.rl i), .int .i64 (B.rh i)])), (9, some (.cells [.int .i64 (smL B t i), .int .i64 (smH B t i)])), (8, some (.cells (trV (tru2 t i n j.2.1)).cells)), (0, some (oSt B)), (1, some (oCk B)), (3, some (.cells (pbC B a1 a2 7))), (4, some (.cells [.ptr 3 0])), (5, some (.cells [.yld 2])), (6, some (.cells [.fn 114 [] [.ptr 4 0, .ptr 5 0, .ptr 6 0]])), (7, some (oMap B j.2.2))] 11)
      (fun j s' => (smL B t i + n ≤ j.1 ∧ j.1 ≤ smH B t i + n + 1) ∧ foldC C s' (innR B k i t n j.1 ++ outR B k i t (n + 1)) = foldC C s (trs B (k + 1) i t) ∧ C.lv (r + (innR B k i t n j.1 ++ outR B k i t (n + 1)).length) s') (fun j => (smH B t i + n + 1 - j.1).toNat) (smL B t i + n, b, L1) ⟨⟨by omega, by omega⟩, by rw [← outR_cons hnb]; exact hf, by rw [← outR_cons hnb]; exact hl1⟩ (by (refine Wk.same (by decide) (by decide) (by decide) (by decide) ?_ ?_ rfl; all_goals ((try simp only [allL, allM]); (repeat' (first | exact trivial | refine And.intro ?_ ?_)); all_goals (first | rfl | exact congrArg some (congrArg (AV.int .i64) (by omega)) | exact IsSl.ren (by assumption) (nm_lt (by decide)) | exact ren_ro _ _ _ | exact ren_grown _ _ _ _ | exact congrArg (fun t => some (AObj.cells (trV t).cells)) (tru2_self hi3).symm | exact congrArg (fun t => some (AObj.cells (trV t).cells)) (tru2_r hi3) | exact congrArg (fun t => some (AObj.cells (trV t).cells)) (tru2_c hi3) | exact ren_mapA _ _ _ | exact pbc_ren h1 h2 (nm_lt (by decide)) (nm_lt (by decide)) (nm_lt (by decide)) | decide)))) ?_
    rintro ⟨mi, b2, L2⟩ s2 ⟨hmi, hf2, hl2⟩
    simp only at hmi hf2 ⊢
    repeat' (first | refine RTJ.nil ?_ | refine sqJ_n ?_ | refine TrJ.seq ?_ | refine TrJ.region ?_ | refine TrJ.cond_t rfl ?_ | refine TrJ.cond_f rfl ?_ | refine TrJ.cond_d rfl (fun _ => ?_) (fun _ => ?_) | refine TrJ.skip ?_ | refine TrJ.ret ?_ | refine sqJ_r ?_ | refine TrJ.exit ?_ | refine sqJ_x ?_ | refine TrJ.block ?_ | refine blkJ_n ?_ | refine blkJ_r ?_ | refine blkJ_hit rfl ?_ | refine blkJ_pass rfl ?_ | refine TrJ.label ?_ | refine TrJ.scope ?_ | refine scpJ_n ?_ | refine scpJ_r ?_ | refine scpJ_x ?_ | refine lpJ_r ?_ | refine lpJ_x ?_ | (refine RTJ.splitd rfl rfl (fun _ => ?_) (fun _ => ?_)) | (refine RTJ.goK rfl rfl rfl rfl ?_; (refine Nx.of (S.idx_arr rfl rfl rfl (show _ < 3 by omega)) ?_)) | (refine RTJ.goK0 rfl rfl rfl ?_; apply Nx.of; (first | exact S.store rfl rfl rfl rfl rfl (trV_setr hi3) | exact S.store rfl rfl rfl rfl rfl (trV_setc hi3))) | (refine RTJ.call rfl rfl rfl (wrongAt_at (L := L2) ⟨h1, h2, rfl, rfl, rfl, by decide, by decide, by decide⟩ rfl hck ((tru2 t i n b2).setC i mi) i hi3 7 (Nat.le_refl _)) rfl rfl (Nat.le_refl _) ?_) | (refine RTJ.goK rfl rfl rfl rfl ?_; apply Nx.of; (first | exact S.move | exact S.assign | exact S.load1c rfl rfl rfl rfl | exact S.loadNc rfl rfl rfl rfl | exact S.fieldAddr rfl rfl rfl | exact S.leq | exact S.lss | exact S.eql | exact S.neq | exact S.geq | exact S.gtr | exact S.not_t | exact S.not_f | exact S.not_d | exact S.pick_tt | exact S.pick_ff | exact S.pick_td (by assumption) | exact S.pick_fd (by assumption) | exact S.pick_b | exact S.box | exact S.alloc rfl | exact S.add_one (by omega) | exact S.sub_one (by omega) (by omega) | exact S.add (by unfold In64; omega) | exact S.sub (by unfold In64; omega) | exact S.mul (by unfold In64; omega) | exact S.add_w | exact S.sub_w | exact S.mul_w | exact S.min2 | exact S.max2 | exact S.build rfl rfl rfl | exact S.buildA rfl rfl rfl rfl | exact S.nilCheck | exact S.extract rfl | exact S.nilCheck_fn)) | (refine RTJ.goK0 rfl rfl rfl ?_; apply Nx.of; (first | exact S.store rfl rfl rfl rfl rfl rfl | exact S.nilCheck_fn)) | (refine RTJ.goK rfl rfl rfl rfl ?_; apply Nx.of; (first | exact S.idx_sl rfl rfl rfl (by assumption) (by omega) | exact S.idx_slI rfl rfl rfl (by assumption) (by omega) (by omega) | exact S.rowN0 rfl rfl rfl (fun _ => rfl) (range_at (by omega)) rfl | exact S.rowN rfl rfl rfl (fun _ => rfl) (range_at (by omega)) rfl | exact S.row0 rfl rfl rfl (fun _ => rfl) (range_at (by omega)) rfl | exact S.row rfl rfl rfl (fun _ => rfl) (range_at (by omega)) rfl | exact S.row2 rfl rfl rfl (fun _ => rfl) (range_at (by omega)) rfl | exact S.len_sl rfl rfl rfl (by assumption))) | (refine RTJ.no rfl rfl rfl ?_))
    · have hT : ((tru2 t i n b2).setC i mi).c i = mi := by rw [tru2_c hi3, tru2_at hi3]
      have hne : wrV B ((i : Int), ((tru2 t i n b2).setC i mi).c i) ≠ 0 := by assumption
      rw [hT] at hne
      refine lpJ_n (mi + 1, mi, insL L2 ((i : Int), ((tru2 t i n b2).setC i mi).c i)) ⟨⟨by show _ ≤ mi + 1; omega, by show mi + 1 ≤ _; omega⟩, ?_, ?_⟩ (by show (smH B t i + n + 1 - (mi + 1)).toNat < (smH B t i + n + 1 - mi).toNat; omega) (by (refine Wk.same (by decide) (by decide) (by decide) (by decide) ?_ ?_ rfl; all_goals ((try simp only [allL, allM]); (repeat' (first | exact trivial | refine And.intro ?_ ?_)); all_goals (first | rfl | exact congrArg some (congrArg (AV.int .i64) (by omega)) | exact IsSl.ren (by assumption) (nm_lt (by decide)) | exact ren_ro _ _ _ | exact ren_grown _ _ _ _ | exact congrArg (fun t => some (AObj.cells (trV t).cells)) (tru2_self hi3).symm | exact congrArg (fun t => some (AObj.cells (trV t).cells)) (tru2_r hi3) | exact congrArg (fun t => some (AObj.cells (trV t).cells)) (tru2_c hi3) | exact ren_mapA _ _ _ | exact pbc_ren h1 h2 (nm_lt (by decide)) (nm_lt (by decide)) (nm_lt (by decide)) | decide))))
      · rw [innR_cons (by assumption), if_neg hne] at hf2
        exact hf2
      · rw [innR_cons (by assumption), if_neg hne] at hl2
        exact hl2
    · have hT : ((tru2 t i n b2).setC i mi).c i = mi := by rw [tru2_c hi3, tru2_at hi3]
      have hne : ¬ wrV B ((i : Int), ((tru2 t i n b2).setC i mi).c i) ≠ 0 := by assumption
      rw [hT] at hne
      have hle : mi ≤ smH B t i + n := by assumption
      rw [innR_cons hle, if_pos (Classical.not_not.1 hne), ← tru2_c (b := b2) hi3, List.append_assoc, foldC_append] at hf2
      have hl2' : C.lv ((r + (innR B k i t n (mi + 1) ++ outR B k i t (n + 1)).length) + (trs B k (i + 1) ((tru2 t i n b2).setC i mi)).length) s2 := by
        rw [innR_cons hle, if_pos (Classical.not_not.1 hne), ← tru2_c (b := b2) hi3, List.append_assoc, List.length_append] at hl2
        rw [show ∀ a b c : Nat, a + b + c = a + (c + b) by intros; omega]
        exact hl2
      have hdrv : drvOk ((tru2 t i n b2).setC i mi) (i + 1) := by
        refine .inr ⟨by omega, ?_⟩
        rw [Nat.add_sub_cancel, hT]
        omega
      have hwt' : 0 ≤ ((tru2 t i n b2).setC i mi).w ∧ ((tru2 t i n b2).setC i mi).w < 3 := by rw [tru2_c hi3, tru2_w hi3]; exact hwt
      refine RTJ.callJ rfl rfl rfl (drive_ok (B := B) (L := insL L2 ((i : Int), ((tru2 t i n b2).setC i mi).c i)) (t := (tru2 t i n b2).setC i mi) (i := i + 1) ⟨⟨h1, h2, rfl, rfl, rfl, by decide, by decide, by decide⟩, rfl, rfl, rfl, rfl, rfl⟩ (ih _ _ _ _ hl2' hdrv hwt') 7 (Nat.le_refl _)) rfl rfl ?_
      rintro v m' s3 ⟨ob, ⟨L3, hv, hs3, hob⟩, hm'⟩
      subst hm' hob
      cases hb : (foldC C s2 (trs B k (i + 1) ((tru2 t i n b2).setC i mi))).2
      · rw [hb] at hv hf2
        subst hv
        repeat' (first | refine RTJ.nil ?_ | refine sqJ_n ?_ | refine TrJ.seq ?_ | refine TrJ.region ?_ | refine TrJ.cond_t rfl ?_ | refine TrJ.cond_f rfl ?_ | refine TrJ.cond_d rfl (fun _ => ?_) (fun _ => ?_) | refine TrJ.skip ?_ | refine TrJ.ret ?_ | refine sqJ_r ?_ | refine TrJ.exit ?_ | refine sqJ_x ?_ | refine TrJ.block ?_ | refine blkJ_n ?_ | refine blkJ_r ?_ | refine blkJ_hit rfl ?_ | refine blkJ_pass rfl ?_ | refine TrJ.label ?_ | refine TrJ.scope ?_ | refine scpJ_n ?_ | refine scpJ_r ?_ | refine scpJ_x ?_ | refine lpJ_r ?_ | refine lpJ_x ?_ | (refine RTJ.splitd rfl rfl (fun _ => ?_) (fun _ => ?_)) | (refine RTJ.goK rfl rfl rfl rfl ?_; (refine Nx.of (S.idx_arr rfl rfl rfl (show _ < 3 by omega)) ?_)) | (refine RTJ.goK0 rfl rfl rfl ?_; apply Nx.of; (first | exact S.store rfl rfl rfl rfl rfl (trV_setr hi3) | exact S.store rfl rfl rfl rfl rfl (trV_setc hi3))) | (refine RTJ.goK rfl rfl rfl rfl ?_; apply Nx.of; (first | exact S.move | exact S.assign | exact S.load1c rfl rfl rfl rfl | exact S.loadNc rfl rfl rfl rfl | exact S.fieldAddr rfl rfl rfl | exact S.leq | exact S.lss | exact S.eql | exact S.neq | exact S.geq | exact S.gtr | exact S.not_t | exact S.not_f | exact S.not_d | exact S.pick_tt | exact S.pick_ff | exact S.pick_td (by assumption) | exact S.pick_fd (by assumption) | exact S.pick_b | exact S.box | exact S.alloc rfl | exact S.add_one (by omega) | exact S.sub_one (by omega) (by omega) | exact S.add (by unfold In64; omega) | exact S.sub (by unfold In64; omega) | exact S.mul (by unfold In64; omega) | exact S.add_w | exact S.sub_w | exact S.mul_w | exact S.min2 | exact S.max2 | exact S.build rfl rfl rfl | exact S.buildA rfl rfl rfl rfl | exact S.nilCheck | exact S.extract rfl | exact S.nilCheck_fn)) | (refine RTJ.goK0 rfl rfl rfl ?_; apply Nx.of; (first | exact S.store rfl rfl rfl rfl rfl rfl | exact S.nilCheck_fn)) | (refine RTJ.goK rfl rfl rfl rfl ?_; apply Nx.of; (first | exact S.idx_sl rfl rfl rfl (by assumption) (by omega) | exact S.idx_slI rfl rfl rfl (by assumption) (by omega) (by omega) | exact S.rowN0 rfl rfl rfl (fun _ => rfl) (range_at (by omega)) rfl | exact S.rowN rfl rfl rfl (fun _ => rfl) (range_at (by omega)) rfl | exact S.row0 rfl rfl rfl (fun _ => rfl) (range_at (by omega)) rfl | exact S.row rfl rfl rfl (fun _ => rfl) (range_at (by omega)) rfl | exact S.row2 rfl rfl rfl (fun _ => rfl) (range_at (by omega)) rfl | exact S.len_sl rfl rfl rfl (by assumption))) | (refine RTJ.no rfl rfl rfl ?_))
        (first | refine ⟨rt_go rfl ?_⟩ | refine ⟨rt_go (by exact rfl) ?_⟩)
        refine ⟨_, ⟨L3, ?_, ?_, rfl⟩, getM rfl⟩
        · rw [← hf2]; rfl
        · rw [← hf2]; exact hs3
      · rw [hb] at hv hf2
        subst hv
        repeat' (first | refine RTJ.nil ?_ | refine sqJ_n ?_ | refine TrJ.seq ?_ | refine TrJ.region ?_ | refine TrJ.cond_t rfl ?_ | refine TrJ.cond_f rfl ?_ | refine TrJ.cond_d rfl (fun _ => ?_) (fun _ => ?_) | refine TrJ.skip ?_ | refine TrJ.ret ?_ | refine sqJ_r ?_ | refine TrJ.exit ?_ | refine sqJ_x ?_ | refine TrJ.block ?_ | refine blkJ_n ?_ | refine blkJ_r ?_ | refine blkJ_hit rfl ?_ | refine blkJ_pass rfl ?_ | refine TrJ.label ?_ | refine TrJ.scope ?_ | refine scpJ_n ?_ | refine scpJ_r ?_ | refine scpJ_x ?_ | refine lpJ_r ?_ | refine lpJ_x ?_ | (refine RTJ.splitd rfl rfl (fun _ => ?_) (fun _ => ?_)) | (refine RTJ.goK rfl rfl rfl rfl ?_; (refine Nx.of (S.idx_arr rfl rfl rfl (show _ < 3 by omega)) ?_)) | (refine RTJ.goK0 rfl rfl rfl ?_; apply Nx.of; (first | exact S.store rfl rfl rfl rfl rfl (trV_setr hi3) | exact S.store rfl rfl rfl rfl rfl (trV_setc hi3))) | (refine RTJ.goK rfl rfl rfl rfl ?_; apply Nx.of; (first | exact S.move | exact S.assign | exact S.load1c rfl rfl rfl rfl | exact S.loadNc rfl rfl rfl rfl | exact S.fieldAddr rfl rfl rfl | exact S.leq | exact S.lss | exact S.eql | exact S.neq | exact S.geq | exact S.gtr | exact S.not_t | exact S.not_f | exact S.not_d | exact S.pick_tt | exact S.pick_ff | exact S.pick_td (by assumption) | exact S.pick_fd (by assumption) | exact S.pick_b | exact S.box | exact S.alloc rfl | exact S.add_one (by omega) | exact S.sub_one (by omega) (by omega) | exact S.add (by unfold In64; omega) | exact S.sub (by unfold In64; omega) | exact S.mul (by unfold In64; omega) | exact S.add_w | exact S.sub_w | exact S.mul_w | exact S.min2 | exact S.max2 | exact S.build rfl rfl rfl | exact S.buildA rfl rfl rfl rfl | exact S.nilCheck | exact S.extract rfl | exact S.nilCheck_fn)) | (refine RTJ.goK0 rfl rfl rfl ?_; apply Nx.of; (first | exact S.store rfl rfl rfl rfl rfl rfl | exact S.nilCheck_fn)) | (refine RTJ.goK rfl rfl rfl rfl ?_; apply Nx.of; (first | exact S.idx_sl rfl rfl rfl (by assumption) (by omega) | exact S.idx_slI rfl rfl rfl (by assumption) (by omega) (by omega) | exact S.rowN0 rfl rfl rfl (fun _ => rfl) (range_at (by omega)) rfl | exact S.rowN rfl rfl rfl (fun _ => rfl) (range_at (by omega)) rfl | exact S.row0 rfl rfl rfl (fun _ => rfl) (range_at (by omega)) rfl | exact S.row rfl rfl rfl (fun _ => rfl) (range_at (by omega)) rfl | exact S.row2 rfl rfl rfl (fun _ => rfl) (range_at (by omega)) rfl | exact S.len_sl rfl rfl rfl (by assumption))) | (refine RTJ.no rfl rfl rfl ?_))
        refine lpJ_n (mi + 1, mi, L3) ⟨⟨by show _ ≤ mi + 1; omega, by show mi + 1 ≤ _; omega⟩, ?_, ?_⟩ (by show (smH B t i + n + 1 - (mi + 1)).toNat < (smH B t i + n + 1 - mi).toNat; omega) (by (refine Wk.same (by decide) (by decide) (by decide) (by decide) ?_ ?_ rfl; all_goals ((try simp only [allL, allM]); (repeat' (first | exact trivial | refine And.intro ?_ ?_)); all_goals (first | rfl | exact congrArg some (congrArg (AV.int .i64) (by omega)) | exact IsSl.ren (by assumption) (nm_lt (by decide)) | exact ren_ro _ _ _ | exact ren_grown _ _ _ _ | exact congrArg (fun t => some (AObj.cells (trV t).cells)) (tru2_self hi3).symm | exact congrArg (fun t => some (AObj.cells (trV t).cells)) (tru2_r hi3) | exact congrArg (fun t => some (AObj.cells (trV t).cells)) (tru2_c hi3) | exact ren_mapA _ _ _ | exact pbc_ren h1 h2 (nm_lt (by decide)) (nm_lt (by decide)) (nm_lt (by decide)) | decide))))
        · rw [hs3]
          exact hf2
        · rw [hs3]
          exact foldC_live C _ _ _ hl2' hb
    · refine lpJ_n (n + 1, n, b2, L2) ⟨⟨by show _ ≤ n + 1; omega, by show n + 1 ≤ _; omega⟩, ?_, by rw [innR_nil (by omega)] at hl2; exact hl2⟩ (by show (B.rh i + 1 - (n + 1)).toNat < (B.rh i + 1 - n).toNat; omega) (by (refine Wk.same (by decide) (by decide) (by decide) (by decide) ?_ ?_ rfl; all_goals ((try simp only [allL, allM]); (repeat' (first | exact trivial | refine And.intro ?_ ?_)); all_goals (first | rfl | exact congrArg some (congrArg (AV.int .i64) (by omega)) | exact IsSl.ren (by assumption) (nm_lt (by decide)) | exact ren_ro _ _ _ | exact ren_grown _ _ _ _ | exact congrArg (fun t => some (AObj.cells (trV t).cells)) (tru2_self hi3).symm | exact congrArg (fun t => some (AObj.cells (trV t).cells)) (tru2_r hi3) | exact congrArg (fun t => some (AObj.cells (trV t).cells)) (tru2_c hi3) | exact ren_mapA _ _ _ | exact pbc_ren h1 h2 (nm_lt (by decide)) (nm_lt (by decide)) (nm_lt (by decide)) | decide))))
      rw [innR_nil (by omega)] at hf2
      exact hf2
  · (first | refine ⟨rt_go rfl ?_⟩ | refine ⟨rt_go (by exact rfl) ?_⟩)
    rw [outR_nil (by omega)] at hf
    refine ⟨_, ⟨L1, ?_, ?_, rfl⟩, getM rfl⟩
    · rw [← hf]; rfl
    · rw [← hf]; rfl
end Go.Proofs.Ytcoklgmdifggbaa

/- The truths of package claim: all of them. -/
namespace Go.Proofs.Ytcoklgmdifggbaa
open Go Go.Ev

theorem drive_can (B : CBook) (a1 a2 : AV) (h1 : IsSl a1 B.ns 0) (h2 : IsSl a2 B.nc 1) (hok : stsOk B) (hw : weaOk B) (hck : cksOk B) (C : Cons) (hY : YldOK Try.prog C) (hC : ∀ k s t, C.lv (k + 1) s → C.ok s [trV t]) : ∀ (k i : Nat), i + k = B.ns → ∀ (t : Tru) (L : List (Int × Int)) (s : C.γ) (r : Nat), C.lv (r + (trs B k i t).length) s → drvOk t i → 0 ≤ t.w ∧ t.w < 3 →
    CanJ 0 Try.prog C 7 2 114 [.int .i64 (i : Int), trV t, .ptr 4 0, .ptr 5 0, .ptr 6 0] [(0, some (oSt B)), (1, some (oCk B)), (3, some (.cells (pbC B a1 a2 7))), (4, some (.cells [.ptr 3 0])), (5, some (.cells [.yld 2])), (6, some (.cells [.fn 114 [] [.ptr 4 0, .ptr 5 0, .ptr 6 0]])), (7, some (oMap B L))] 8 s fun v H1 s' => ∃ ob, drvR B C s (trs B k i t) v ob s' ∧ H1.get 7 = some ob
  | 0, i, e, t, L, s, r, hl, _, _ => by
    obtain rfl : i = B.ns := by omega
    exact drive0_can B a1 a2 h1 h2 C hY hC t L s r hl
  | k + 1, i, e, t, L, s, r, hl, ht, hwt => drive1_can B a1 a2 h1 h2 hok hw hck C k i (by omega) t ht hwt L s r hl fun t L s r hl ht hwt => drive_can B a1 a2 h1 h2 hok hw hck C hY hC k (i + 1) (by omega) t L s r hl ht hwt

/-- A truth before the first stage. -/
abbrev tru0 (k : Nat) : Tru := ⟨k, 0, 0, 0, 0, 0, 0⟩
/-- The truths of a weather, and of all from one on. -/
noncomputable def wth (B : CBook) (k : Nat) : List Tru := bif dB (hasP B.wea k) then trs B B.ns 0 (tru0 k) else []
noncomputable def wths (B : CBook) (k : Nat) : List Tru := ((List.range 3).drop k).flatMap (wth B)
theorem wths_cons {B : CBook} {k : Nat} (h : k < 3) : wths B k = wth B k ++ wths B (k + 1) := by
  obtain rfl | rfl | rfl : k = 0 ∨ k = 1 ∨ k = 2 := by omega
  all_goals rfl

def truR (B : CBook) (C : Cons) (s : C.γ) (v : AV) (ob : AObj) (s' : C.γ) : Prop := ∃ L, v = .tup [] ∧ s' = (foldC C s (wths B 0)).1 ∧ ob = oMap B L
set_option maxRecDepth 100000 in
set_option maxHeartbeats 8000000 in
theorem truths_can (B : CBook) (a1 a2 : AV) (h1 : IsSl a1 B.ns 0) (h2 : IsSl a2 B.nc 1) (hok : stsOk B) (hw : weaOk B) (hck : cksOk B) (C : Cons) (hY : YldOK Try.prog C) (hC : ∀ k s t, C.lv (k + 1) s → C.ok s [trV t]) (L : List (Int × Int)) (s : C.γ) (hl : C.lv (wths B 0).length s) :
    CanJ 0 Try.prog C 4 2 95 [.ptr 3 0, .yld 2] [(0, some (oSt B)), (1, some (oCk B)), (3, some (.cells (pbC B a1 a2 4))), (4, some (oMap B L))] 5 s fun v H1 s' => ∃ ob, truR B C s v ob s' ∧ H1.get 4 = some ob := by
  refine CanJ.mk' Try.func95 rfl rfl rfl (by decide) (by decide) ?_
  repeat' (first | refine RTJ.nil ?_ | refine sqJ_n ?_ | refine TrJ.seq ?_ | refine TrJ.region ?_ | refine TrJ.cond_t rfl ?_ | refine TrJ.cond_f rfl ?_ | refine TrJ.cond_d rfl (fun _ => ?_) (fun _ => ?_) | refine TrJ.skip ?_ | refine TrJ.ret ?_ | refine sqJ_r ?_ | refine TrJ.exit ?_ | refine sqJ_x ?_ | refine TrJ.block ?_ | refine blkJ_n ?_ | refine blkJ_r ?_ | refine blkJ_hit rfl ?_ | refine blkJ_pass rfl ?_ | refine TrJ.label ?_ | refine TrJ.scope ?_ | refine scpJ_n ?_ | refine scpJ_r ?_ | refine scpJ_x ?_ | refine lpJ_r ?_ | refine lpJ_x ?_ | (refine RTJ.splitd rfl rfl (fun _ => ?_) (fun _ => ?_)) | (refine RTJ.goK rfl rfl rfl rfl ?_; apply Nx.of; (first | exact S.move | exact S.assign | exact S.load1c rfl rfl rfl rfl | exact S.loadNc rfl rfl rfl rfl | exact S.fieldAddr rfl rfl rfl | exact S.leq | exact S.lss | exact S.eql | exact S.neq | exact S.geq | exact S.gtr | exact S.not_t | exact S.not_f | exact S.not_d | exact S.pick_tt | exact S.pick_ff | exact S.pick_td (by assumption) | exact S.pick_fd (by assumption) | exact S.pick_b | exact S.box | exact S.alloc rfl | exact S.add_one (by omega) | exact S.sub_one (by omega) (by omega) | exact S.add (by unfold In64; omega) | exact S.sub (by unfold In64; omega) | exact S.mul (by unfold In64; omega) | exact S.add_w | exact S.sub_w | exact S.mul_w | exact S.min2 | exact S.max2 | exact S.build rfl rfl rfl | exact S.buildA rfl rfl rfl rfl | exact S.nilCheck | exact S.extract rfl | exact S.nilCheck_fn | exact S.makeFunc)) | (refine RTJ.goK0 rfl rfl rfl ?_; apply Nx.of; (first | exact S.store rfl rfl rfl rfl rfl rfl | exact S.nilCheck_fn | exact S.makeFunc)) | (refine RTJ.no rfl rfl rfl ?_))
  refine TrJ.loop (fun j : Nat × List (Int × Int) => stL Try.f95.ntmps [] [(2, .ptr 5 0), (3, .ptr 6 0), (4, .ptr 7 0), (7, .int .i64 (j.1 : Int))] [(5, some (.cells [.ptr 3 0])), (6, some (.cells [.yld 2])), (7, some (.cells [.fn 114 [] [.ptr 5 0, .ptr 6 0, .ptr 7 0]])), (0, some (oSt B)), (1, some (oCk B)), (3, some (.cells (pbC B a1 a2 4))), (4, some (oMap B j.2))] 8)
    (fun j s' => j.1 ≤ 3 ∧ foldC C s' (wths B j.1) = foldC C s (wths B 0) ∧ C.lv (wths B j.1).length s') (fun j => 3 - j.1) (0, L) ⟨Nat.zero_le _, rfl, hl⟩ (by (refine Wk.same (by decide) (by decide) (by decide) (by decide) ?_ ?_ rfl; all_goals ((try simp only [allL, allM]); (repeat' (first | exact trivial | refine And.intro ?_ ?_)); all_goals (first | rfl | exact congrArg some (congrArg (AV.int .i64) (by omega)) | exact IsSl.ren (by assumption) (nm_lt (by decide)) | exact ren_ro _ _ _ | exact ren_grown _ _ _ _ | exact ren_mapA _ _ _ | exact pbc_ren h1 h2 (nm_lt (by decide)) (nm_lt (by decide)) (nm_lt (by decide)) | decide)))) ?_
  rintro ⟨k, L1⟩ s1 ⟨hk, hf, hl1⟩
  simp only at hk hf ⊢
  repeat' (first | refine RTJ.nil ?_ | refine sqJ_n ?_ | refine TrJ.seq ?_ | refine TrJ.region ?_ | refine TrJ.cond_t rfl ?_ | refine TrJ.cond_f rfl ?_ | refine TrJ.cond_d rfl (fun _ => ?_) (fun _ => ?_) | refine TrJ.skip ?_ | refine TrJ.ret ?_ | refine sqJ_r ?_ | refine TrJ.exit ?_ | refine sqJ_x ?_ | refine TrJ.block ?_ | refine blkJ_n ?_ | refine blkJ_r ?_ | refine blkJ_hit rfl ?_ | refine blkJ_pass rfl ?_ | refine TrJ.label ?_ | refine TrJ.scope ?_ | refine scpJ_n ?_ | refine scpJ_r ?_ | refine scpJ_x ?_ | refine lpJ_r ?_ | refine lpJ_x ?_ | (refine RTJ.call rfl rfl rfl (has_at _ _ (by omega) _ _ _) rfl rfl (Nat.le_refl _) ?_) | (refine RTJ.splitd rfl rfl (fun _ => ?_) (fun _ => ?_)) | (refine RTJ.goK rfl rfl rfl rfl ?_; apply Nx.of; (first | exact S.move | exact S.assign | exact S.load1c rfl rfl rfl rfl | exact S.loadNc rfl rfl rfl rfl | exact S.fieldAddr rfl rfl rfl | exact S.leq | exact S.lss | exact S.eql | exact S.neq | exact S.geq | exact S.gtr | exact S.not_t | exact S.not_f | exact S.not_d | exact S.pick_tt | exact S.pick_ff | exact S.pick_td (by assumption) | exact S.pick_fd (by assumption) | exact S.pick_b | exact S.box | exact S.alloc rfl | exact S.add_one (by omega) | exact S.sub_one (by omega) (by omega) | exact S.add (by unfold In64; omega) | exact S.sub (by unfold In64; omega) | exact S.mul (by unfold In64; omega) | exact S.add_w | exact S.sub_w | exact S.mul_w | exact S.min2 | exact S.max2 | exact S.build rfl rfl rfl | exact S.buildA rfl rfl rfl rfl | exact S.nilCheck | exact S.extract rfl | exact S.nilCheck_fn | exact S.makeFunc)) | (refine RTJ.goK0 rfl rfl rfl ?_; apply Nx.of; (first | exact S.store rfl rfl rfl rfl rfl rfl | exact S.nilCheck_fn | exact S.makeFunc)) | (refine RTJ.no rfl rfl rfl ?_))
  · have hh : hasP B.wea k := by assumption
    have hk3 : k < 3 := by omega
    have hl2 : C.lv ((wths B (k + 1)).length + (trs B B.ns 0 (tru0 k)).length) s1 := by
      rw [wths_cons hk3, List.length_append, show wth B k = trs B B.ns 0 (tru0 k) by unfold wth; rw [dB_tt hh]; rfl, Nat.add_comm] at hl1
      exact hl1
    rw [wths_cons hk3, foldC_append, show wth B k = trs B B.ns 0 (tru0 k) by unfold wth; rw [dB_tt hh]; rfl] at hf
    refine RTJ.callJ rfl rfl rfl (drive_ok (B := B) (L := L1) (t := tru0 k) (i := 0) ⟨⟨h1, h2, rfl, rfl, rfl, by decide, by decide, by decide⟩, rfl, rfl, rfl, rfl, rfl⟩ (drive_can B a1 a2 h1 h2 hok hw hck C hY hC B.ns 0 (by omega) (tru0 k) L1 s1 _ hl2 (.inl ⟨rfl, rfl, rfl, rfl⟩) ⟨by show (0 : Int) ≤ (k : Int); omega, by show (k : Int) < 3; omega⟩) 4 (Nat.le_refl _)) rfl rfl ?_
    rintro v m' s3 ⟨ob, ⟨L3, hv, hs3, hob⟩, hm'⟩
    subst hm' hob
    cases hb : (foldC C s1 (trs B B.ns 0 (tru0 k))).2
    · rw [hb] at hv hf
      subst hv
      repeat' (first | refine RTJ.nil ?_ | refine sqJ_n ?_ | refine TrJ.seq ?_ | refine TrJ.region ?_ | refine TrJ.cond_t rfl ?_ | refine TrJ.cond_f rfl ?_ | refine TrJ.cond_d rfl (fun _ => ?_) (fun _ => ?_) | refine TrJ.skip ?_ | refine TrJ.ret ?_ | refine sqJ_r ?_ | refine TrJ.exit ?_ | refine sqJ_x ?_ | refine TrJ.block ?_ | refine blkJ_n ?_ | refine blkJ_r ?_ | refine blkJ_hit rfl ?_ | refine blkJ_pass rfl ?_ | refine TrJ.label ?_ | refine TrJ.scope ?_ | refine scpJ_n ?_ | refine scpJ_r ?_ | refine scpJ_x ?_ | refine lpJ_r ?_ | refine lpJ_x ?_ | (refine RTJ.splitd rfl rfl (fun _ => ?_) (fun _ => ?_)) | (refine RTJ.goK rfl rfl rfl rfl ?_; apply Nx.of; (first | exact S.move | exact S.assign | exact S.load1c rfl rfl rfl rfl | exact S.loadNc rfl rfl rfl rfl | exact S.fieldAddr rfl rfl rfl | exact S.leq | exact S.lss | exact S.eql | exact S.neq | exact S.geq | exact S.gtr | exact S.not_t | exact S.not_f | exact S.not_d | exact S.pick_tt | exact S.pick_ff | exact S.pick_td (by assumption) | exact S.pick_fd (by assumption) | exact S.pick_b | exact S.box | exact S.alloc rfl | exact S.add_one (by omega) | exact S.sub_one (by omega) (by omega) | exact S.add (by unfold In64; omega) | exact S.sub (by unfold In64; omega) | exact S.mul (by unfold In64; omega) | exact S.add_w | exact S.sub_w | exact S.mul_w | exact S.min2 | exact S.max2 | exact S.build rfl rfl rfl | exact S.buildA rfl rfl rfl rfl | exact S.nilCheck | exact S.extract rfl | exact S.nilCheck_fn | exact S.makeFunc)) | (refine RTJ.goK0 rfl rfl rfl ?_; apply Nx.of; (first | exact S.store rfl rfl rfl rfl rfl rfl | exact S.nilCheck_fn | exact S.makeFunc)) | (refine RTJ.no rfl rfl rfl ?_))
      (first | refine ⟨rt_go rfl ?_⟩ | refine ⟨rt_go (by exact rfl) ?_⟩)
      refine ⟨_, ⟨L3, rfl, ?_, rfl⟩, getM rfl⟩
      rw [← hf]; exact hs3
    · rw [hb] at hv hf
      subst hv
      repeat' (first | refine RTJ.nil ?_ | refine sqJ_n ?_ | refine TrJ.seq ?_ | refine TrJ.region ?_ | refine TrJ.cond_t rfl ?_ | refine TrJ.cond_f rfl ?_ | refine TrJ.cond_d rfl (fun _ => ?_) (fun _ => ?_) | refine TrJ.skip ?_ | refine TrJ.ret ?_ | refine sqJ_r ?_ | refine TrJ.exit ?_ | refine sqJ_x ?_ | refine TrJ.block ?_ | refine blkJ_n ?_ | refine blkJ_r ?_ | refine blkJ_hit rfl ?_ | refine blkJ_pass rfl ?_ | refine TrJ.label ?_ | refine TrJ.scope ?_ | refine scpJ_n ?_ | refine scpJ_r ?_ | refine scpJ_x ?_ | refine lpJ_r ?_ | refine lpJ_x ?_ | (refine RTJ.splitd rfl rfl (fun _ => ?_) (fun _ => ?_)) | (refine RTJ.goK rfl rfl rfl rfl ?_; apply Nx.of; (first | exact S.move | exact S.assign | exact S.load1c rfl rfl rfl rfl | exact S.loadNc rfl rfl rfl rfl | exact S.fieldAddr rfl rfl rfl | exact S.leq | exact S.lss | exact S.eql | exact S.neq | exact S.geq | exact S.gtr | exact S.not_t | exact S.not_f | exact S.not_d | exact S.pick_tt | exact S.pick_ff | exact S.pick_td (by assumption) | exact S.pick_fd (by assumption) | exact S.pick_b | exact S.box | exact S.alloc rfl | exact S.add_one (by omega) | exact S.sub_one (by omega) (by omega) | exact S.add (by unfold In64; omega) | exact S.sub (by unfold In64; omega) | exact S.mul (by unfold In64; omega) | exact S.add_w | exact S.sub_w | exact S.mul_w | exact S.min2 | exact S.max2 | exact S.build rfl rfl rfl | exact S.buildA rfl rfl rfl rfl | exact S.nilCheck | exact S.extract rfl | exact S.nilCheck_fn | exact S.makeFunc)) | (refine RTJ.goK0 rfl rfl rfl ?_; apply Nx.of; (first | exact S.store rfl rfl rfl rfl rfl rfl | exact S.nilCheck_fn | exact S.makeFunc)) | (refine RTJ.no rfl rfl rfl ?_))
      refine lpJ_n (k + 1, L3) ⟨by show k + 1 ≤ 3; omega, ?_, ?_⟩ (by show 3 - (k + 1) < 3 - k; omega) (by (refine Wk.same (by decide) (by decide) (by decide) (by decide) ?_ ?_ rfl; all_goals ((try simp only [allL, allM]); (repeat' (first | exact trivial | refine And.intro ?_ ?_)); all_goals (first | rfl | exact congrArg some (congrArg (AV.int .i64) (by omega)) | exact IsSl.ren (by assumption) (nm_lt (by decide)) | exact ren_ro _ _ _ | exact ren_grown _ _ _ _ | exact ren_mapA _ _ _ | exact pbc_ren h1 h2 (nm_lt (by decide)) (nm_lt (by decide)) (nm_lt (by decide)) | decide))))
      · rw [hs3]
        exact hf
      · rw [hs3]
        exact foldC_live C _ _ _ hl2 hb
  · have hk3 : k < 3 := by omega
    rw [wths_cons hk3, show wth B k = [] by unfold wth; rw [dB_ff (by assumption)]; rfl] at hf hl1
    exact lpJ_n (k + 1, L1) ⟨by show k + 1 ≤ 3; omega, hf, hl1⟩ (by show 3 - (k + 1) < 3 - k; omega) (by (refine Wk.same (by decide) (by decide) (by decide) (by decide) ?_ ?_ rfl; all_goals ((try simp only [allL, allM]); (repeat' (first | exact trivial | refine And.intro ?_ ?_)); all_goals (first | rfl | exact congrArg some (congrArg (AV.int .i64) (by omega)) | exact IsSl.ren (by assumption) (nm_lt (by decide)) | exact ren_ro _ _ _ | exact ren_grown _ _ _ _ | exact ren_mapA _ _ _ | exact pbc_ren h1 h2 (nm_lt (by decide)) (nm_lt (by decide)) (nm_lt (by decide)) | decide))))
  · refine ⟨rt_gon rfl ?_⟩
    obtain rfl : k = 3 := by omega
    refine ⟨_, ⟨L1, rfl, ?_, rfl⟩, getM rfl⟩
    rw [← hf]; rfl
end Go.Proofs.Ytcoklgmdifggbaa

/- A range over a function: its rounds are a consumer. -/
namespace Go.Ev
open Go

section
variable {G : Nat} {P : Program} {ρ ρ1 ρ2 : Rho} {fl cb c cc lo dn n p : Nat} {w w1 w2 : World} {F F1 F2 : Nat → Prop} {l : List (Nat × AV)} {ags bd : Code}
variable {σ : Type} {M : σ → List (Nat × Option AObj)} {stp : σ → List AV → σ × Option Code}

/-- A loop with one variable, as it lies in memory. -/
noncomputable def lpO (n p dn : Nat) (l : List (Nat × AV)) (ags bd : Code) (st : LoopState) (j : Option Code) : AObj := .loop st j (ofL l) n [p] ags bd dn
def lpS (j : Option Code) : LoopState := bif j.isNone then .ready else .done

/-- What a round does. -/
structure RndOK (G : Nat) (P : Program) (fl cb cc lo dn n p : Nat) (l : List (Nat × AV)) (ags bd : Code) (M : σ → List (Nat × Option AObj)) (ok : σ → List AV → Prop) (stp : σ → List AV → σ × Option Code) : Prop where
  one : ∀ s args, ok s args → ∃ v, args = [v] ∧ Pl v
  run : ∀ s v, ok s [v] → Tr G P fl cb (some lo) ags (stL n [] ((p, v) :: l) ((lo, some (lpO n p dn l ags bd .ready none)) :: M s) cc) fun e st => e = .normal ∧ ∃ l1 m1 c1, st = stL n [] l1 m1 c1 ∧ lookM m1 lo = some (lpO n p dn l ags bd .ready none) ∧
    Tr G P fl cb (some lo) bd (stL n [] l1 ((lo, some (lpO n p dn l ags bd .busy none)) :: m1) c1) fun e2 st2 => jumpOf e2 = (stp s [v]).2 ∧ Wk G fl cb st2 (stL n [] [] ((lo, some (lpO n p dn l ags bd .busy none)) :: M (stp s [v]).1) cc)

structure RJ (G : Nat) (ρ0 : Rho) (fl cb cc lo dn n p : Nat) (l : List (Nat × AV)) (ags bd : Code) (M : σ → List (Nat × Option AObj)) (s : σ × Option Code) (F : Nat → Prop) (w : World) : Prop where
  ex : ∃ ρ', (∀ x, x < cb → ρ' x = ρ0 x) ∧ Holds G ρ' (ofM ((lo, some (lpO n p dn l ags bd (lpS s.2) s.2)) :: M s.1)) cc w ∧ ∀ x q, fl ≤ x → ρ' x = some q → F q.b
  lt : ∀ b, F b ∨ (∃ x q, x < fl ∧ ρ0 x = some q ∧ q.b = b) → b < w.heap.size

/-- The rounds as a consumer. -/
noncomputable def rndC (G : Nat) (ρ0 : Rho) (lb fl cb cc lo dn n p : Nat) (l : List (Nat × AV)) (ags bd : Code) (M : σ → List (Nat × Option AObj)) (ok : σ → List AV → Prop) (stp : σ → List AV → σ × Option Code) (cap : Nat → σ → Prop) (hcap : ∀ k s args, cap (k + 1) s → (stp s args).2 = none → cap k (stp s args).1) (hfl : fl ≤ cb) : Cons where
  γ := σ × Option Code
  J := RJ G ρ0 fl cb cc lo dn n p l ags bd M
  Rd := fun b => ∃ x q, x < fl ∧ ρ0 x = some q ∧ q.b = b
  keep := fun s F w w' ⟨⟨ρ', h1, h2, h3⟩, h4⟩ hs hk => ⟨⟨ρ', h1, ⟨fun x o hx => by
    obtain ⟨q, g1, g2⟩ := h2.obj x o hx
    refine ⟨q, g1, g2.world (hk q.b ?_)⟩
    rcases Nat.lt_or_ge x fl with h | h
    · exact .inr ⟨x, q, h, by rw [← h1 x (by omega)]; exact g1, rfl⟩
    · exact .inl (h3 x q h g1), h2.sep, h2.fresh, fun x q hq => Nat.lt_of_lt_of_le (h2.lt x q hq) hs, h2.glob⟩, h3⟩, fun b hb => Nat.lt_of_lt_of_le (h4 b hb) hs⟩
  lt := fun s F w b h hb => h.lt b hb
  lb := lb
  ok := fun s args => s.2 = none ∧ ok s.1 args
  step := fun s args => (stp s.1 args, (stp s.1 args).2.isNone)
  lv := fun k s => s.2 = none ∧ cap k s.1
  live := fun k s args h h2 => by have h2' : (stp s.1 args).2 = none := by simpa using h2
                                  exact ⟨h2', hcap k s.1 args h.2 h2'⟩

theorem rnd_yld {cap : Nat → σ → Prop} {hcap : ∀ k s args, cap (k + 1) s → (stp s args).2 = none → cap k (stp s args).1} {ρ0 : Rho} {lb : Nat} {ok : σ → List AV → Prop} (hfl : fl ≤ cb) (hG : G ≤ cb) (hlo : lo < cb) (hlf : fl ≤ lo) (hlb : ∃ q, ρ0 lo = some q ∧ q.b = lb) (hp : Nat.blt p n = true) (h : RndOK G P fl cb cc lo dn n p l ags bd M ok stp) (hcc : cb ≤ cc) :
    YldOK P (rndC G ρ0 lb fl cb cc lo dn n p l ags bd M ok stp cap hcap hfl) := by
  rintro ⟨s, j⟩ F w us args ⟨⟨ρ', h1, h2, h3⟩, h4⟩ ⟨hj, hok⟩ hv
  replace hj : j = none := hj
  subst hj
  obtain ⟨v, rfl, hpl⟩ := h.one s args hok
  obtain ⟨q, hq1, hq2⟩ := hlb
  have hq : ρ' lo = some q := by rw [h1 lo hlo]; exact hq1
  have hl : (ofM ((lo, some (lpO n p dn l ags bd .ready none)) :: M s)).get lo = some (lpO n p dn l ags bd .ready none) := by rw [ofM_get, lookM]; simp
  obtain ⟨q', hq', fn, tmps, d, hh, henv, hdn⟩ := h2.obj lo _ hl
  rw [hq] at hq'
  cases hq'
  obtain ⟨u, us', rfl, hvu, hnil⟩ := hv.cons_inv
  have := hnil.nil_inv
  subst this
  have hvu' : VR ρ' v u := hpl.vr ⟨0, rfl⟩ hvu
  have hy := run_yield (P := P) (args := [u].toArray) hh (by simp)
  subst hq2
  refine ⟨_, _, _, _, hy, fun r k => ?_⟩
  have hset : setParams (ofL l) n [p] [v] = some (ofL ((p, v) :: l)) := by
    simp only [setParams, putA, hp, cond_true]
    rfl
  obtain ⟨hlen, henv1⟩ := setParams_sound henv (.cons hvu' .nil) hset
  have main : RoundIn FW k P q.b fn (([p].toArray.zip [u].toArray).foldl (fun tmps (t, a) => tmps.setIfInBounds t a) tmps) ags bd w fun e w' => ∃ F', e = .returned (.bool (stp s [v]).2.isNone) ∧ RJ G ρ0 fl cb cc lo dn n p l ags bd M (stp s [v]) F' w' ∧ w'.os = w.os ∧ w'.tape = w.tape ∧ w'.output = w.output ∧ w.heap.size ≤ w'.heap.size ∧
      (∀ b, b < w.heap.size → ¬ F b → w'.heap[b]? = w.heap[b]?) ∧ ∀ b, F' b → F b ∨ w.heap.size ≤ b := by
    refine roundIn_of_wpIn trivial ?_
    have htm : ([p].toArray.zip [u].toArray).foldl (fun tmps (t, a) => tmps.setIfInBounds t a) tmps = ([p].zip [u]).foldl (fun tmps (t, x) => tmps.setIfInBounds t x) tmps := by
      rw [← Array.foldl_toList]
      simp
    rw [htm]
    refine wpIn_mono ((h.run s v hok).run ρ' { tmps := ([p].zip [u]).foldl (fun tmps (t, x) => tmps.setIfInBounds t x) tmps, defers := [] } w (some q.b) k ⟨henv1, h2, rfl⟩ hcc (fun l0 hl0 => by cases hl0; exact hlo) ⟨q, hq, rfl⟩) fun e1 a1 w1 hpx => ?_
    obtain ⟨e, st1, ρ1, rfl, ⟨rfl, l1, m1, c1, rfl, hl1, hbd⟩, hs1, hc1, he1, hf1⟩ := hpx
    show ∃ w₂, _
    have hq1' : ρ1 lo = some q := by rw [he1.1 lo hlo]; exact hq
    obtain ⟨q2, hq2, fn1, tmps1, d1, hh1, henv2, hdn1⟩ := hs1.mem.obj lo _ (by show (ofM m1).get lo = _; rw [ofM_get]; exact hl1)
    rw [hq1'] at hq2
    cases hq2
    have hbusy := put_write (fl := fl) (ob := .loop { state := .busy, pending := none, fn := fn1, tmps := tmps1, params := [p].toArray, assign := ags, body := bd, defers := d1 }) (o' := lpO n p dn l ags bd .busy none)
      hs1.mem (x := lo) (o := lpO n p dn l ags bd .ready none) (by show (ofM m1).get lo = _; rw [ofM_get]; exact hl1) rfl hq1' hlf ⟨fn1, tmps1, d1, World.putObj_heap_same (obj_lt hh1), henv2, hdn1⟩
    obtain ⟨hb1, hb2⟩ := hbusy
    refine ⟨_, run_beginRound hh1 rfl, ?_⟩
    refine wpIn_mono (hbd.run ρ1 a1 _ (some q.b) k ⟨hs1.env, hb1, hs1.dfs⟩ hc1 (fun l0 hl0 => by cases hl0; exact hlo) ⟨q, hq1', rfl⟩) fun e3 a3 w3 hpx => ?_
    obtain ⟨e2, st3, ρ3, rfl, ⟨hj2, hwk⟩, hs3, hc3, he3, hf3⟩ := hpx
    obtain ⟨ρ4, hs4, he4⟩ := hwk.sr hs3
    have hq4 : ρ4 lo = some q := by rw [he4.1 lo hlo, he3.1 lo hlo]; exact hq1'
    have hl4 : (ofM ((lo, some (lpO n p dn l ags bd .busy none)) :: M (stp s [v]).1)).get lo = some (lpO n p dn l ags bd .busy none) := by rw [ofM_get, lookM]; simp
    obtain ⟨q3, hq3, fn3, tmps3, d3, hh3, henv3, hdn3⟩ := hs4.mem.obj lo _ hl4
    rw [hq4] at hq3
    cases hq3
    have fin : ∀ (jj : Option Code), jj = (stp s [v]).2 → ∃ uu w', (Instr.endRound q.b jj).run P w3 = .ok uu w' ∧ ∃ F', Ending.returned uu = .returned (.bool (stp s [v]).2.isNone) ∧ RJ G ρ0 fl cb cc lo dn n p l ags bd M (stp s [v]) F' w' ∧ w'.os = w.os ∧ w'.tape = w.tape ∧ w'.output = w.output ∧ w.heap.size ≤ w'.heap.size ∧
        (∀ b, b < w.heap.size → ¬ F b → w'.heap[b]? = w.heap[b]?) ∧ ∀ b, F' b → F b ∨ w.heap.size ≤ b := by
      intro jj hjj
      subst hjj
      have hst : (if (stp s [v]).2.isNone then LoopState.ready else .done) = lpS (stp s [v]).2 := by unfold lpS; rw [Bool.cond_eq_ite]
      have hend := put_write (fl := fl) (ob := .loop { state := (if (stp s [v]).2.isNone then .ready else .done), pending := (stp s [v]).2, fn := fn3, tmps := tmps3, params := [p].toArray, assign := ags, body := bd, defers := d3 })
        (o' := lpO n p dn l ags bd (lpS (stp s [v]).2) (stp s [v]).2) hs4.mem hl4 rfl hq4 hlf ⟨fn3, tmps3, d3, by rw [World.putObj_heap_same (obj_lt hh3), hst], henv3, hdn3⟩
      obtain ⟨g1, g2⟩ := hend
      have hF := hf1.transB he1 (hb2.transB (.refl ρ1 fl cb _) (hf3.transB (he3.trans hf3.size he4) g2))
      have hE : ExtB ρ' ρ4 fl cb w := he1.trans hf1.size ((ExtB.refl ρ1 fl cb w1).trans (by simp) (he3.trans hf3.size he4))
      have hget : ∀ x o, (ofM ((lo, some (lpO n p dn l ags bd (lpS (stp s [v]).2) (stp s [v]).2)) :: M (stp s [v]).1)).get x = some o → ((ofM ((lo, some (lpO n p dn l ags bd .busy none)) :: M (stp s [v]).1)).set lo (lpO n p dn l ags bd (lpS (stp s [v]).2) (stp s [v]).2)).get x = some o := fun x o hx => by
        replace hx : ((ofM (M (stp s [v]).1)).set lo (lpO n p dn l ags bd (lpS (stp s [v]).2) (stp s [v]).2)).get x = some o := hx
        rw [T.get_set] at hx ⊢
        split
        · rename_i e; rw [if_pos e] at hx; exact hx
        · rename_i e
          rw [if_neg e] at hx
          show ((ofM (M (stp s [v]).1)).set lo (lpO n p dn l ags bd .busy none)).get x = some o
          rw [T.get_set, if_neg e]; exact hx
      refine ⟨_, _, run_endRound (stp s [v]).2 hh3, fun b => F b ∨ (w.heap.size ≤ b ∧ b < w3.heap.size), rfl, ⟨⟨ρ4, fun x hx => (hE.1 x hx).trans (h1 x hx), ⟨fun x o hx => g1.obj x o (hget x o hx), fun x y o o' q q' hxy hx hy => g1.sep x y o o' q q' hxy (hget x o hx) (hget y o' hy), g1.fresh, g1.lt, g1.glob⟩, fun x t hx ht => ?_⟩, fun b hb => ?_⟩, hF.os, hF.tape, hF.output, hF.size, fun b hb hnF => hF.keep b hb fun x t hx ht e => hnF (e ▸ h3 x t hx ht), fun b hb => hb.elim .inl fun h => .inr h.1⟩
      · rcases hE.2 x t hx ht with h5 | ⟨y, t', hy, ht', hb⟩
        · exact .inr ⟨h5, by simpa using g1.lt x t ht⟩
        · exact .inl (hb ▸ h3 y t' hy ht')
      · rcases hb with (hb | hb) | hb
        · exact Nat.lt_of_lt_of_le (h4 b (.inl hb)) hF.size
        · simpa using hb.2
        · exact Nat.lt_of_lt_of_le (h4 b (.inr hb)) hF.size
    cases e2
    · obtain ⟨u, w', g1, g2⟩ := fin none hj2
      exact ⟨u, w', g1, g2⟩
    · obtain ⟨u, w', g1, g2⟩ := fin _ hj2
      exact ⟨u, w', g1, g2⟩
    · obtain ⟨u, w', g1, g2⟩ := fin _ hj2
      exact ⟨u, w', g1, g2⟩
    · obtain ⟨u, w', g1, g2⟩ := fin _ hj2
      exact ⟨u, w', g1, g2⟩
  cases r with
  | none => exact main
  | some l => exact main
end
end Go.Ev
