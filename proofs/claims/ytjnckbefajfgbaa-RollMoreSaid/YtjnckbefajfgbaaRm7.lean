/- Texts of one kind, one behind the other: Nf, Nj, Ng, Nh. -/
import Derived.Test.YtjnckbefajfgbaaRm6
set_option linter.unusedVariables false
set_option linter.unusedSimpArgs false
/- Package roll: Lost. -/
namespace Go.Proofs.Ytjnckbefajfgbaa
open Go Go.Ev

/-- So many yards of a layer. -/
def yaF (B : RBook) (f : Nat → Int) (i : Nat) : Int := if i < B.nl then f i * B.yar i else f i
def yaS (B : RBook) (f : Nat → Int) : Int := 0 + yaF B f 0 + yaF B f 1 + yaF B f 2 + yaF B f 3
def In7 (a : Int) : Prop := -100000 ≤ a ∧ a ≤ 100000
set_option maxRecDepth 100000 in
set_option maxHeartbeats 4000000 in
theorem sum4_can (a b d e : Int) (ha : In7 a) (hb : In7 b) (hd : In7 d) (he : In7 e) : CanS 0 Try.prog 76 1 [.sl 0 0 4 4] [(0, some (.cells [.int .i64 a, .int .i64 b, .int .i64 d, .int .i64 e]))] 1 fun v _ _ => v = .int .i64 (0 + a + b + d + e) := by
  unfold In7 at ha hb hd he
  refine CanS.mk Try.func76 rfl rfl rfl ?_
  repeat' (first | refine RT.nil ?_ | refine sq_n ?_ | refine Tr.seq ?_ | refine Tr.region ?_ | refine Tr.block ?_ | (refine RT.goK rfl rfl rfl rfl ?_; apply Nx.of; (first | exact S.len_sl4 rfl rfl rfl)) | (refine RT.goK rfl rfl rfl rfl ?_; apply Nx.of; (first | exact S.move | exact S.assign)))
  refine Tr.unroll 5 ?_
  repeat' (first | refine RT.nil ?_ | refine sq_n ?_ | refine Tr.seq ?_ | refine Tr.region ?_ | refine Tr.cond_t rfl ?_ | refine Tr.cond_f rfl ?_ | refine Tr.skip ?_ | refine Tr.ret ?_ | refine Tr.exit ?_ | refine sq_x ?_ | refine Tr.block ?_ | refine blk_n ?_ | refine blk_hit rfl ?_ | refine un_n ?_ | refine un_x ?_ | (refine RT.goK rfl rfl rfl rfl ?_; apply Nx.of; (first | exact S.idx_sl4 (i := 0) rfl rfl rfl (by decide) | exact S.idx_sl4 (i := 1) rfl rfl rfl (by decide) | exact S.idx_sl4 (i := 2) rfl rfl rfl (by decide) | exact S.idx_sl4 (i := 3) rfl rfl rfl (by decide))) | (refine RT.goK rfl rfl rfl rfl ?_; apply Nx.of; (first | exact S.lss_t (by decide) | exact S.lss_f (by decide))) | (refine RT.goK rfl rfl rfl rfl ?_; apply Nx.of; (first | exact S.move | exact S.assign | exact S.load1c rfl rfl rfl rfl | exact S.add (by unfold In64; omega))))
  (first | refine rt_go rfl ?_)
  rfl
theorem sum4_at {a b d e : Int} {x : Nat} {m : List (Nat × Option AObj)} {c : Nat} (hx : lookM m x = some (.cells [.int .i64 a, .int .i64 b, .int .i64 d, .int .i64 e])) (ha : In7 a) (hb : In7 b) (hd : In7 d) (he : In7 e) (fl : Nat) : OkAt 0 Try.prog fl 76 [.sl x 0 4 4] (ofM m) c (.int .i64 (0 + a + b + d + e)) (ofM m) c := by
  let τ : Nat → Nat := tau [x] c
  have e0 : AV.rens τ [.sl 0 0 4 4] = [.sl x 0 4 4] := rfl
  refine (sum4_can a b d e ha hb hd he).pure (.int _ _) ?_ fl
  rw [← e0]
  refine Entry.ren τ (fun g hg => by omega) (fun y hy => by show c ≤ tau _ _ _; rw [tau_ge hy]; omega) ⟨getM hx, trivial⟩ (fun u u' o o' hu hu' hne => .inl fun e => ?_)
  have h1 := lookM_mem hu
  have h2 := lookM_mem hu'
  simp at h1 h2
  omega
theorem mul_bd {a b : Int} (ha : 0 ≤ a ∧ a ≤ 5) (hb : 1 ≤ b ∧ b ≤ 50) : 0 ≤ a * b ∧ a * b ≤ 250 := by
  have h1 := Int.mul_nonneg ha.1 (show 0 ≤ b by omega)
  have h2 := Int.mul_le_mul ha.2 hb.2 (show 0 ≤ b by omega) (by decide : (0 : Int) ≤ 5)
  omega
set_option maxRecDepth 100000 in
set_option maxHeartbeats 4000000 in
theorem yards_can (B : RBook) (a1 a2 a3 : AV) (h1 : IsSl a1 B.nl 0) (h2 : IsSl a2 B.nd 1) (h3 : IsSl a3 B.nk 2) (hB : bkOk B) (f : Nat → Int) (hf : ∀ i, i < 4 → 0 ≤ f i ∧ f i ≤ 5) : CanS 0 Try.prog 43 4 [.ptr 3 0, .agg [.int .i64 (f 0), .int .i64 (f 1), .int .i64 (f 2), .int .i64 (f 3)]] [(0, some (oLa B)), (1, some (oDa B)), (2, some (oLo B)), (3, some (.cells (pbC B a1 a2 a3)))] 4 fun v _ _ => v = .int .i64 (yaS B f) := by
  obtain ⟨⟨hnl, hla⟩, _⟩ := hB
  have hy : ∀ i, i < B.nl → 1 ≤ B.yar i ∧ B.yar i ≤ 50 := fun i hi => (hla i hi).2
  unfold yaS yaF
  obtain ⟨nl, nee, yar, nd, wl, wh, sky, nk, ld, lb⟩ := B
  dsimp only at h1 h2 h3 hnl hy ⊢
  clear hla
  have f0 := hf 0 (by decide)
  have f1 := hf 1 (by decide)
  have f2 := hf 2 (by decide)
  have f3 := hf 3 (by decide)
  obtain rfl | rfl | rfl | rfl : nl = 1 ∨ nl = 2 ∨ nl = 3 ∨ nl = 4 := by omega
  · have m0 := mul_bd f0 (hy 0 (by decide))
    refine CanS.mk Try.func43 rfl rfl rfl ?_
    repeat' (first | refine RT.nil ?_ | refine sq_n ?_ | refine Tr.seq ?_ | refine Tr.region ?_ | refine Tr.block ?_ | (refine RT.goK rfl rfl rfl rfl ?_; apply Nx.of; (first | exact S.move | exact S.assign | exact S.load1c rfl rfl rfl rfl | exact S.fieldAddr rfl rfl rfl | exact S.box | exact S.nilCheck)) | (refine RT.goK rfl rfl rfl rfl ?_; apply Nx.of; (first | exact S.len_sl rfl rfl rfl (by assumption))))
    refine Tr.unroll 5 ?_
    repeat' (first | refine RT.nil ?_ | refine sq_n ?_ | refine Tr.seq ?_ | refine Tr.region ?_ | refine Tr.cond_t rfl ?_ | refine Tr.skip ?_ | refine Tr.block ?_ | (refine RT.goK rfl rfl rfl rfl ?_; apply Nx.of; (first | exact S.idx_sl (i := 0) rfl rfl rfl (by assumption) (by decide) | exact S.rowN0 (i := 0) rfl rfl rfl (fun _ => rfl) rfl rfl)) | (refine RT.goK rfl rfl rfl rfl ?_; apply Nx.of; (first | exact S.lss_t (by decide))) | (refine RT.goK rfl rfl rfl rfl ?_; apply Nx.of; (first | exact S.move | exact S.assign | exact S.alloc rfl)) | (refine RT.goK0 rfl rfl rfl ?_; apply Nx.of; (first | exact S.store rfl rfl rfl rfl rfl rfl)))
    refine Tr.openK un43_4 (by kernel_rfl) (by kernel_rfl) noCall noCall_calm ?_
    repeat' (first | (refine RD.free rfl rfl rfl rfl rfl rfl ?_; apply Nx.of; (first | exact S.mul (show In64 (f 0 * yar 0) by unfold In64; omega))) | (refine RD.free rfl rfl rfl rfl rfl rfl ?_; apply Nx.of; (first | exact S.move | exact S.fieldAddr rfl rfl rfl | exact S.idx_arrI rfl rfl rfl (by decide) (by decide))) | (refine RD.load rfl rfl rfl rfl rfl rfl rfl rfl ?_; apply Nx.of; (first | exact S.load1c rfl rfl rfl rfl)) | (refine RD.store rfl rfl rfl rfl rfl rfl rfl ?_; apply Nx.of; (first | exact S.store rfl rfl rfl rfl rfl rfl)) | refine RD.nil ⟨Nat.le_of_ble_eq_true rfl, ?_⟩)
    repeat' (first | refine RT.nil ?_ | refine sq_n ?_ | refine Tr.seq ?_ | refine Tr.region ?_ | refine Tr.cond_f rfl ?_ | refine Tr.ret ?_ | refine Tr.exit ?_ | refine sq_x ?_ | refine blk_n ?_ | refine blk_hit rfl ?_ | refine un_n ?_ | refine un_x ?_ | (refine RT.goK rfl rfl rfl rfl ?_; apply Nx.of; (first | exact S.lss_f (by decide))) | (refine RT.call rfl rfl rfl (sum4_at (x := 4) (a := f 0 * yar 0) (b := f 1) (d := f 2) (e := f 3) rfl ⟨by omega, by omega⟩ ⟨by omega, by omega⟩ ⟨by omega, by omega⟩ ⟨by omega, by omega⟩ _) rfl rfl (Nat.le_refl _) ?_) | (refine RT.goK rfl rfl rfl rfl ?_; apply Nx.of; (first | exact S.move | exact S.assign | exact S.add (by unfold In64; omega) | exact S.slice_arr rfl rfl rfl)))
    (first | refine rt_go rfl ?_)
    rfl
  · have m0 := mul_bd f0 (hy 0 (by decide))
    have m1 := mul_bd f1 (hy 1 (by decide))
    refine CanS.mk Try.func43 rfl rfl rfl ?_
    repeat' (first | refine RT.nil ?_ | refine sq_n ?_ | refine Tr.seq ?_ | refine Tr.region ?_ | refine Tr.block ?_ | (refine RT.goK rfl rfl rfl rfl ?_; apply Nx.of; (first | exact S.move | exact S.assign | exact S.load1c rfl rfl rfl rfl | exact S.fieldAddr rfl rfl rfl | exact S.box | exact S.nilCheck)) | (refine RT.goK rfl rfl rfl rfl ?_; apply Nx.of; (first | exact S.len_sl rfl rfl rfl (by assumption))))
    refine Tr.unroll 5 ?_
    repeat' (first | refine RT.nil ?_ | refine sq_n ?_ | refine Tr.seq ?_ | refine Tr.region ?_ | refine Tr.cond_t rfl ?_ | refine Tr.skip ?_ | refine Tr.block ?_ | (refine RT.goK rfl rfl rfl rfl ?_; apply Nx.of; (first | exact S.idx_sl (i := 0) rfl rfl rfl (by assumption) (by decide) | exact S.rowN0 (i := 0) rfl rfl rfl (fun _ => rfl) rfl rfl)) | (refine RT.goK rfl rfl rfl rfl ?_; apply Nx.of; (first | exact S.lss_t (by decide))) | (refine RT.goK rfl rfl rfl rfl ?_; apply Nx.of; (first | exact S.move | exact S.assign | exact S.alloc rfl)) | (refine RT.goK0 rfl rfl rfl ?_; apply Nx.of; (first | exact S.store rfl rfl rfl rfl rfl rfl)))
    refine Tr.openK un43_4 (by kernel_rfl) (by kernel_rfl) noCall noCall_calm ?_
    repeat' (first | (refine RD.free rfl rfl rfl rfl rfl rfl ?_; apply Nx.of; (first | exact S.mul (show In64 (f 0 * yar 0) by unfold In64; omega))) | (refine RD.free rfl rfl rfl rfl rfl rfl ?_; apply Nx.of; (first | exact S.move | exact S.fieldAddr rfl rfl rfl | exact S.idx_arrI rfl rfl rfl (by decide) (by decide))) | (refine RD.load rfl rfl rfl rfl rfl rfl rfl rfl ?_; apply Nx.of; (first | exact S.load1c rfl rfl rfl rfl)) | (refine RD.store rfl rfl rfl rfl rfl rfl rfl ?_; apply Nx.of; (first | exact S.store rfl rfl rfl rfl rfl rfl)) | refine RD.nil ⟨Nat.le_of_ble_eq_true rfl, ?_⟩)
    repeat' (first | refine RT.nil ?_ | refine sq_n ?_ | refine Tr.seq ?_ | refine Tr.region ?_ | refine Tr.cond_t rfl ?_ | refine Tr.skip ?_ | refine Tr.block ?_ | refine blk_n ?_ | refine un_n ?_ | (refine RT.goK rfl rfl rfl rfl ?_; apply Nx.of; (first | exact S.idx_sl (i := 1) rfl rfl rfl (by assumption) (by decide) | exact S.rowN0 (i := 1) rfl rfl rfl (fun _ => rfl) rfl rfl)) | (refine RT.goK rfl rfl rfl rfl ?_; apply Nx.of; (first | exact S.lss_t (by decide))) | (refine RT.goK rfl rfl rfl rfl ?_; apply Nx.of; (first | exact S.move | exact S.assign | exact S.alloc rfl | exact S.add (by unfold In64; omega))) | (refine RT.goK0 rfl rfl rfl ?_; apply Nx.of; (first | exact S.store rfl rfl rfl rfl rfl rfl)))
    refine Tr.openK un43_4 (by kernel_rfl) (by kernel_rfl) noCall noCall_calm ?_
    repeat' (first | (refine RD.free rfl rfl rfl rfl rfl rfl ?_; apply Nx.of; (first | exact S.mul (show In64 (f 1 * yar 1) by unfold In64; omega))) | (refine RD.free rfl rfl rfl rfl rfl rfl ?_; apply Nx.of; (first | exact S.move | exact S.fieldAddr rfl rfl rfl | exact S.idx_arrI rfl rfl rfl (by decide) (by decide))) | (refine RD.load rfl rfl rfl rfl rfl rfl rfl rfl ?_; apply Nx.of; (first | exact S.load1c rfl rfl rfl rfl)) | (refine RD.store rfl rfl rfl rfl rfl rfl rfl ?_; apply Nx.of; (first | exact S.store rfl rfl rfl rfl rfl rfl)) | refine RD.nil ⟨Nat.le_of_ble_eq_true rfl, ?_⟩)
    repeat' (first | refine RT.nil ?_ | refine sq_n ?_ | refine Tr.seq ?_ | refine Tr.region ?_ | refine Tr.cond_f rfl ?_ | refine Tr.ret ?_ | refine Tr.exit ?_ | refine sq_x ?_ | refine blk_n ?_ | refine blk_hit rfl ?_ | refine un_n ?_ | refine un_x ?_ | (refine RT.goK rfl rfl rfl rfl ?_; apply Nx.of; (first | exact S.lss_f (by decide))) | (refine RT.call rfl rfl rfl (sum4_at (x := 4) (a := f 0 * yar 0) (b := f 1 * yar 1) (d := f 2) (e := f 3) rfl ⟨by omega, by omega⟩ ⟨by omega, by omega⟩ ⟨by omega, by omega⟩ ⟨by omega, by omega⟩ _) rfl rfl (Nat.le_refl _) ?_) | (refine RT.goK rfl rfl rfl rfl ?_; apply Nx.of; (first | exact S.move | exact S.assign | exact S.add (by unfold In64; omega) | exact S.slice_arr rfl rfl rfl)))
    (first | refine rt_go rfl ?_)
    rfl
  · have m0 := mul_bd f0 (hy 0 (by decide))
    have m1 := mul_bd f1 (hy 1 (by decide))
    have m2 := mul_bd f2 (hy 2 (by decide))
    refine CanS.mk Try.func43 rfl rfl rfl ?_
    repeat' (first | refine RT.nil ?_ | refine sq_n ?_ | refine Tr.seq ?_ | refine Tr.region ?_ | refine Tr.block ?_ | (refine RT.goK rfl rfl rfl rfl ?_; apply Nx.of; (first | exact S.move | exact S.assign | exact S.load1c rfl rfl rfl rfl | exact S.fieldAddr rfl rfl rfl | exact S.box | exact S.nilCheck)) | (refine RT.goK rfl rfl rfl rfl ?_; apply Nx.of; (first | exact S.len_sl rfl rfl rfl (by assumption))))
    refine Tr.unroll 5 ?_
    repeat' (first | refine RT.nil ?_ | refine sq_n ?_ | refine Tr.seq ?_ | refine Tr.region ?_ | refine Tr.cond_t rfl ?_ | refine Tr.skip ?_ | refine Tr.block ?_ | (refine RT.goK rfl rfl rfl rfl ?_; apply Nx.of; (first | exact S.idx_sl (i := 0) rfl rfl rfl (by assumption) (by decide) | exact S.rowN0 (i := 0) rfl rfl rfl (fun _ => rfl) rfl rfl)) | (refine RT.goK rfl rfl rfl rfl ?_; apply Nx.of; (first | exact S.lss_t (by decide))) | (refine RT.goK rfl rfl rfl rfl ?_; apply Nx.of; (first | exact S.move | exact S.assign | exact S.alloc rfl)) | (refine RT.goK0 rfl rfl rfl ?_; apply Nx.of; (first | exact S.store rfl rfl rfl rfl rfl rfl)))
    refine Tr.openK un43_4 (by kernel_rfl) (by kernel_rfl) noCall noCall_calm ?_
    repeat' (first | (refine RD.free rfl rfl rfl rfl rfl rfl ?_; apply Nx.of; (first | exact S.mul (show In64 (f 0 * yar 0) by unfold In64; omega))) | (refine RD.free rfl rfl rfl rfl rfl rfl ?_; apply Nx.of; (first | exact S.move | exact S.fieldAddr rfl rfl rfl | exact S.idx_arrI rfl rfl rfl (by decide) (by decide))) | (refine RD.load rfl rfl rfl rfl rfl rfl rfl rfl ?_; apply Nx.of; (first | exact S.load1c rfl rfl rfl rfl)) | (refine RD.store rfl rfl rfl rfl rfl rfl rfl ?_; apply Nx.of; (first | exact S.store rfl rfl rfl rfl rfl rfl)) | refine RD.nil ⟨Nat.le_of_ble_eq_true rfl, ?_⟩)
    repeat' (first | refine RT.nil ?_ | refine sq_n ?_ | refine Tr.seq ?_ | refine Tr.region ?_ | refine Tr.cond_t rfl ?_ | refine Tr.skip ?_ | refine Tr.block ?_ | refine blk_n ?_ | refine un_n ?_ | (refine RT.goK rfl rfl rfl rfl ?_; apply Nx.of; (first | exact S.idx_sl (i := 1) rfl rfl rfl (by assumption) (by decide) | exact S.rowN0 (i := 1) rfl rfl rfl (fun _ => rfl) rfl rfl)) | (refine RT.goK rfl rfl rfl rfl ?_; apply Nx.of; (first | exact S.lss_t (by decide))) | (refine RT.goK rfl rfl rfl rfl ?_; apply Nx.of; (first | exact S.move | exact S.assign | exact S.alloc rfl | exact S.add (by unfold In64; omega))) | (refine RT.goK0 rfl rfl rfl ?_; apply Nx.of; (first | exact S.store rfl rfl rfl rfl rfl rfl)))
    refine Tr.openK un43_4 (by kernel_rfl) (by kernel_rfl) noCall noCall_calm ?_
    repeat' (first | (refine RD.free rfl rfl rfl rfl rfl rfl ?_; apply Nx.of; (first | exact S.mul (show In64 (f 1 * yar 1) by unfold In64; omega))) | (refine RD.free rfl rfl rfl rfl rfl rfl ?_; apply Nx.of; (first | exact S.move | exact S.fieldAddr rfl rfl rfl | exact S.idx_arrI rfl rfl rfl (by decide) (by decide))) | (refine RD.load rfl rfl rfl rfl rfl rfl rfl rfl ?_; apply Nx.of; (first | exact S.load1c rfl rfl rfl rfl)) | (refine RD.store rfl rfl rfl rfl rfl rfl rfl ?_; apply Nx.of; (first | exact S.store rfl rfl rfl rfl rfl rfl)) | refine RD.nil ⟨Nat.le_of_ble_eq_true rfl, ?_⟩)
    repeat' (first | refine RT.nil ?_ | refine sq_n ?_ | refine Tr.seq ?_ | refine Tr.region ?_ | refine Tr.cond_t rfl ?_ | refine Tr.skip ?_ | refine Tr.block ?_ | refine blk_n ?_ | refine un_n ?_ | (refine RT.goK rfl rfl rfl rfl ?_; apply Nx.of; (first | exact S.idx_sl (i := 2) rfl rfl rfl (by assumption) (by decide) | exact S.rowN0 (i := 2) rfl rfl rfl (fun _ => rfl) rfl rfl)) | (refine RT.goK rfl rfl rfl rfl ?_; apply Nx.of; (first | exact S.lss_t (by decide))) | (refine RT.goK rfl rfl rfl rfl ?_; apply Nx.of; (first | exact S.move | exact S.assign | exact S.alloc rfl | exact S.add (by unfold In64; omega))) | (refine RT.goK0 rfl rfl rfl ?_; apply Nx.of; (first | exact S.store rfl rfl rfl rfl rfl rfl)))
    refine Tr.openK un43_4 (by kernel_rfl) (by kernel_rfl) noCall noCall_calm ?_
    repeat' (first | (refine RD.free rfl rfl rfl rfl rfl rfl ?_; apply Nx.of; (first | exact S.mul (show In64 (f 2 * yar 2) by unfold In64; omega))) | (refine RD.free rfl rfl rfl rfl rfl rfl ?_; apply Nx.of; (first | exact S.move | exact S.fieldAddr rfl rfl rfl | exact S.idx_arrI rfl rfl rfl (by decide) (by decide))) | (refine RD.load rfl rfl rfl rfl rfl rfl rfl rfl ?_; apply Nx.of; (first | exact S.load1c rfl rfl rfl rfl)) | (refine RD.store rfl rfl rfl rfl rfl rfl rfl ?_; apply Nx.of; (first | exact S.store rfl rfl rfl rfl rfl rfl)) | refine RD.nil ⟨Nat.le_of_ble_eq_true rfl, ?_⟩)
    repeat' (first | refine RT.nil ?_ | refine sq_n ?_ | refine Tr.seq ?_ | refine Tr.region ?_ | refine Tr.cond_f rfl ?_ | refine Tr.ret ?_ | refine Tr.exit ?_ | refine sq_x ?_ | refine blk_n ?_ | refine blk_hit rfl ?_ | refine un_n ?_ | refine un_x ?_ | (refine RT.goK rfl rfl rfl rfl ?_; apply Nx.of; (first | exact S.lss_f (by decide))) | (refine RT.call rfl rfl rfl (sum4_at (x := 4) (a := f 0 * yar 0) (b := f 1 * yar 1) (d := f 2 * yar 2) (e := f 3) rfl ⟨by omega, by omega⟩ ⟨by omega, by omega⟩ ⟨by omega, by omega⟩ ⟨by omega, by omega⟩ _) rfl rfl (Nat.le_refl _) ?_) | (refine RT.goK rfl rfl rfl rfl ?_; apply Nx.of; (first | exact S.move | exact S.assign | exact S.add (by unfold In64; omega) | exact S.slice_arr rfl rfl rfl)))
    (first | refine rt_go rfl ?_)
    rfl
  · have m0 := mul_bd f0 (hy 0 (by decide))
    have m1 := mul_bd f1 (hy 1 (by decide))
    have m2 := mul_bd f2 (hy 2 (by decide))
    have m3 := mul_bd f3 (hy 3 (by decide))
    refine CanS.mk Try.func43 rfl rfl rfl ?_
    repeat' (first | refine RT.nil ?_ | refine sq_n ?_ | refine Tr.seq ?_ | refine Tr.region ?_ | refine Tr.block ?_ | (refine RT.goK rfl rfl rfl rfl ?_; apply Nx.of; (first | exact S.move | exact S.assign | exact S.load1c rfl rfl rfl rfl | exact S.fieldAddr rfl rfl rfl | exact S.box | exact S.nilCheck)) | (refine RT.goK rfl rfl rfl rfl ?_; apply Nx.of; (first | exact S.len_sl rfl rfl rfl (by assumption))))
    refine Tr.unroll 5 ?_
    repeat' (first | refine RT.nil ?_ | refine sq_n ?_ | refine Tr.seq ?_ | refine Tr.region ?_ | refine Tr.cond_t rfl ?_ | refine Tr.skip ?_ | refine Tr.block ?_ | (refine RT.goK rfl rfl rfl rfl ?_; apply Nx.of; (first | exact S.idx_sl (i := 0) rfl rfl rfl (by assumption) (by decide) | exact S.rowN0 (i := 0) rfl rfl rfl (fun _ => rfl) rfl rfl)) | (refine RT.goK rfl rfl rfl rfl ?_; apply Nx.of; (first | exact S.lss_t (by decide))) | (refine RT.goK rfl rfl rfl rfl ?_; apply Nx.of; (first | exact S.move | exact S.assign | exact S.alloc rfl)) | (refine RT.goK0 rfl rfl rfl ?_; apply Nx.of; (first | exact S.store rfl rfl rfl rfl rfl rfl)))
    refine Tr.openK un43_4 (by kernel_rfl) (by kernel_rfl) noCall noCall_calm ?_
    repeat' (first | (refine RD.free rfl rfl rfl rfl rfl rfl ?_; apply Nx.of; (first | exact S.mul (show In64 (f 0 * yar 0) by unfold In64; omega))) | (refine RD.free rfl rfl rfl rfl rfl rfl ?_; apply Nx.of; (first | exact S.move | exact S.fieldAddr rfl rfl rfl | exact S.idx_arrI rfl rfl rfl (by decide) (by decide))) | (refine RD.load rfl rfl rfl rfl rfl rfl rfl rfl ?_; apply Nx.of; (first | exact S.load1c rfl rfl rfl rfl)) | (refine RD.store rfl rfl rfl rfl rfl rfl rfl ?_; apply Nx.of; (first | exact S.store rfl rfl rfl rfl rfl rfl)) | refine RD.nil ⟨Nat.le_of_ble_eq_true rfl, ?_⟩)
    repeat' (first | refine RT.nil ?_ | refine sq_n ?_ | refine Tr.seq ?_ | refine Tr.region ?_ | refine Tr.cond_t rfl ?_ | refine Tr.skip ?_ | refine Tr.block ?_ | refine blk_n ?_ | refine un_n ?_ | (refine RT.goK rfl rfl rfl rfl ?_; apply Nx.of; (first | exact S.idx_sl (i := 1) rfl rfl rfl (by assumption) (by decide) | exact S.rowN0 (i := 1) rfl rfl rfl (fun _ => rfl) rfl rfl)) | (refine RT.goK rfl rfl rfl rfl ?_; apply Nx.of; (first | exact S.lss_t (by decide))) | (refine RT.goK rfl rfl rfl rfl ?_; apply Nx.of; (first | exact S.move | exact S.assign | exact S.alloc rfl | exact S.add (by unfold In64; omega))) | (refine RT.goK0 rfl rfl rfl ?_; apply Nx.of; (first | exact S.store rfl rfl rfl rfl rfl rfl)))
    refine Tr.openK un43_4 (by kernel_rfl) (by kernel_rfl) noCall noCall_calm ?_
    repeat' (first | (refine RD.free rfl rfl rfl rfl rfl rfl ?_; apply Nx.of; (first | exact S.mul (show In64 (f 1 * yar 1) by unfold In64; omega))) | (refine RD.free rfl rfl rfl rfl rfl rfl ?_; apply Nx.of; (first | exact S.move | exact S.fieldAddr rfl rfl rfl | exact S.idx_arrI rfl rfl rfl (by decide) (by decide))) | (refine RD.load rfl rfl rfl rfl rfl rfl rfl rfl ?_; apply Nx.of; (first | exact S.load1c rfl rfl rfl rfl)) | (refine RD.store rfl rfl rfl rfl rfl rfl rfl ?_; apply Nx.of; (first | exact S.store rfl rfl rfl rfl rfl rfl)) | refine RD.nil ⟨Nat.le_of_ble_eq_true rfl, ?_⟩)
    repeat' (first | refine RT.nil ?_ | refine sq_n ?_ | refine Tr.seq ?_ | refine Tr.region ?_ | refine Tr.cond_t rfl ?_ | refine Tr.skip ?_ | refine Tr.block ?_ | refine blk_n ?_ | refine un_n ?_ | (refine RT.goK rfl rfl rfl rfl ?_; apply Nx.of; (first | exact S.idx_sl (i := 2) rfl rfl rfl (by assumption) (by decide) | exact S.rowN0 (i := 2) rfl rfl rfl (fun _ => rfl) rfl rfl)) | (refine RT.goK rfl rfl rfl rfl ?_; apply Nx.of; (first | exact S.lss_t (by decide))) | (refine RT.goK rfl rfl rfl rfl ?_; apply Nx.of; (first | exact S.move | exact S.assign | exact S.alloc rfl | exact S.add (by unfold In64; omega))) | (refine RT.goK0 rfl rfl rfl ?_; apply Nx.of; (first | exact S.store rfl rfl rfl rfl rfl rfl)))
    refine Tr.openK un43_4 (by kernel_rfl) (by kernel_rfl) noCall noCall_calm ?_
    repeat' (first | (refine RD.free rfl rfl rfl rfl rfl rfl ?_; apply Nx.of; (first | exact S.mul (show In64 (f 2 * yar 2) by unfold In64; omega))) | (refine RD.free rfl rfl rfl rfl rfl rfl ?_; apply Nx.of; (first | exact S.move | exact S.fieldAddr rfl rfl rfl | exact S.idx_arrI rfl rfl rfl (by decide) (by decide))) | (refine RD.load rfl rfl rfl rfl rfl rfl rfl rfl ?_; apply Nx.of; (first | exact S.load1c rfl rfl rfl rfl)) | (refine RD.store rfl rfl rfl rfl rfl rfl rfl ?_; apply Nx.of; (first | exact S.store rfl rfl rfl rfl rfl rfl)) | refine RD.nil ⟨Nat.le_of_ble_eq_true rfl, ?_⟩)
    repeat' (first | refine RT.nil ?_ | refine sq_n ?_ | refine Tr.seq ?_ | refine Tr.region ?_ | refine Tr.cond_t rfl ?_ | refine Tr.skip ?_ | refine Tr.block ?_ | refine blk_n ?_ | refine un_n ?_ | (refine RT.goK rfl rfl rfl rfl ?_; apply Nx.of; (first | exact S.idx_sl (i := 3) rfl rfl rfl (by assumption) (by decide) | exact S.rowN0 (i := 3) rfl rfl rfl (fun _ => rfl) rfl rfl)) | (refine RT.goK rfl rfl rfl rfl ?_; apply Nx.of; (first | exact S.lss_t (by decide))) | (refine RT.goK rfl rfl rfl rfl ?_; apply Nx.of; (first | exact S.move | exact S.assign | exact S.alloc rfl | exact S.add (by unfold In64; omega))) | (refine RT.goK0 rfl rfl rfl ?_; apply Nx.of; (first | exact S.store rfl rfl rfl rfl rfl rfl)))
    refine Tr.openK un43_4 (by kernel_rfl) (by kernel_rfl) noCall noCall_calm ?_
    repeat' (first | (refine RD.free rfl rfl rfl rfl rfl rfl ?_; apply Nx.of; (first | exact S.mul (show In64 (f 3 * yar 3) by unfold In64; omega))) | (refine RD.free rfl rfl rfl rfl rfl rfl ?_; apply Nx.of; (first | exact S.move | exact S.fieldAddr rfl rfl rfl | exact S.idx_arrI rfl rfl rfl (by decide) (by decide))) | (refine RD.load rfl rfl rfl rfl rfl rfl rfl rfl ?_; apply Nx.of; (first | exact S.load1c rfl rfl rfl rfl)) | (refine RD.store rfl rfl rfl rfl rfl rfl rfl ?_; apply Nx.of; (first | exact S.store rfl rfl rfl rfl rfl rfl)) | refine RD.nil ⟨Nat.le_of_ble_eq_true rfl, ?_⟩)
    repeat' (first | refine RT.nil ?_ | refine sq_n ?_ | refine Tr.seq ?_ | refine Tr.region ?_ | refine Tr.cond_f rfl ?_ | refine Tr.ret ?_ | refine Tr.exit ?_ | refine sq_x ?_ | refine blk_n ?_ | refine blk_hit rfl ?_ | refine un_n ?_ | refine un_x ?_ | (refine RT.goK rfl rfl rfl rfl ?_; apply Nx.of; (first | exact S.lss_f (by decide))) | (refine RT.call rfl rfl rfl (sum4_at (x := 4) (a := f 0 * yar 0) (b := f 1 * yar 1) (d := f 2 * yar 2) (e := f 3 * yar 3) rfl ⟨by omega, by omega⟩ ⟨by omega, by omega⟩ ⟨by omega, by omega⟩ ⟨by omega, by omega⟩ _) rfl rfl (Nat.le_refl _) ?_) | (refine RT.goK rfl rfl rfl rfl ?_; apply Nx.of; (first | exact S.move | exact S.assign | exact S.add (by unfold In64; omega) | exact S.slice_arr rfl rfl rfl)))
    (first | refine rt_go rfl ?_)
    rfl
end Go.Proofs.Ytjnckbefajfgbaa

/- Package roll: Lost, Laid. -/
namespace Go.Proofs.Ytjnckbefajfgbaa
open Go Go.Ev

theorem yards_at {B : RBook} {a1 a2 a3 : AV} {p : Nat} {m : List (Nat × Option AObj)} {c : Nat} (h : PbIn B a1 a2 a3 p m c) (hB : bkOk B) {f : Nat → Int} (hf : ∀ i, i < 4 → 0 ≤ f i ∧ f i ≤ 5) (fl : Nat) : OkAt 0 Try.prog fl 43 [.ptr p 0, .agg [.int .i64 (f 0), .int .i64 (f 1), .int .i64 (f 2), .int .i64 (f 3)]] (ofM m) c (.int .i64 (yaS B f)) (ofM m) c :=
  (yards_can B a1 a2 a3 h.h1 h.h2 h.h3 hB f hf).pure (.int _ _) (h.entry [.agg [.int .i64 (f 0), .int .i64 (f 1), .int .i64 (f 2), .int .i64 (f 3)]] (fun _ => rfl)) fl
theorem knX_one (n x g nd y : Nat) : ((AV.agg (.ptr x 0 :: .gs g n :: mpsV nd y)).cells.all AV.one) = true := by
  simp only [AV.cells, List.all_cons, List.all_nil, mp_one]
  rfl
theorem knL_ren {n nd : Nat} (σ : Nat → Nat) (h : ∀ y, y < 11 → σ y = y) : (AObj.cells (.ptr 3 0 :: .gs 4 n :: mpsV nd 6)).ren σ = .cells (.ptr 3 0 :: .gs 4 n :: mpsV nd 6) := by
  simp only [AObj.ren, AV.rens, AV.ren, h 3 (by omega), h 4 (by omega), mp_ren nd (x := 6) (y := 6) (i := 0) (h 6 (by omega)), mp_ren nd (x := 6) (y := 6) (i := 1) (h 7 (by omega)), mp_ren nd (x := 6) (y := 6) (i := 2) (h 8 (by omega)), mp_ren nd (x := 6) (y := 6) (i := 3) (h 9 (by omega)), mp_ren nd (x := 6) (y := 6) (i := 4) (h 10 (by omega))]
/-- A function's call that answers with a number of a truth, of a book. -/
def NumB (B : RBook) (a1 a2 a3 : AV) (W : List Tru) (nd f : Nat) (num : Tru → Int) : Prop := ∀ t ∈ W, ∀ m c, PbIn B a1 a2 a3 3 m c → lookM m 5 = some (.cells (.ptr 3 0 :: .gs 4 W.length :: mpsV nd 6)) → 11 ≤ c → ∀ fl, OkAt 0 Try.prog fl f [trV t, .ptr 5 0] (ofM m) c (.int .i64 (num t)) (ofM m) c
set_option maxRecDepth 100000 in
set_option maxHeartbeats 4000000 in
theorem spanB_can (B : RBook) (a1 a2 a3 : AV) (h1 : IsSl a1 B.nl 0) (h2 : IsSl a2 B.nd 1) (h3 : IsSl a3 B.nk 2) (W : List Tru) (nd : Nat) (hW : W ≠ []) (hlen : W.length ≤ 20000) (f : Nat)
    (num : Tru → Int) (hnum : NumB B a1 a2 a3 W nd f num) : CanS 0 Try.prog 41 11 [.agg (.ptr 3 0 :: .gs 4 W.length :: mpsV nd 6), .fn f [] [.ptr 5 0]] [(0, some (oLa B)), (1, some (oDa B)), (2, some (oLo B)), (3, some (.cells (pbC B a1 a2 a3))), (4, some (oWn W)), (5, some (.cells (.ptr 3 0 :: .gs 4 W.length :: mpsV nd 6)))] 11 fun v _ _ => v = .agg [.int .i64 (spL num W), .int .i64 (spH num W)] := by
  have hpos : 0 < W.length := List.length_pos_iff.2 hW
  obtain ⟨t0, ht0, hm0⟩ := at_some hpos
  have htk := ht0
  have hs := IsSl.gs 4 W.length
  refine CanS.mk Try.func41 rfl rfl rfl ?_
  repeat' (first | refine RT.nil ?_ | refine sq_n ?_ | refine Tr.seq ?_ | refine Tr.region ?_ | refine Tr.block ?_ | (refine RT.call rfl rfl rfl (hnum t0 hm0 _ _ ⟨h1, h2, h3, rfl, rfl, rfl, rfl, by decide, by decide⟩ rfl (by decide) _) rfl rfl (Nat.le_refl _) ?_) | (refine RT.goK rfl rfl rfl rfl ?_; apply Nx.of; (first | exact S.move | exact S.assign | exact S.load1c rfl rfl rfl rfl | exact S.fieldAddr rfl rfl rfl | exact S.box | exact S.alloc rfl | exact S.build rfl rfl rfl | exact S.rowG rfl rfl rfl (fun _ => rfl) ht0 rfl rfl)) | (refine RT.goK0 rfl rfl rfl ?_; apply Nx.of; (first | exact S.store rfl rfl rfl rfl rfl rfl)) | (refine RT.goK rfl rfl rfl rfl ?_; apply Nx.of; (first | exact S.idx_sl rfl rfl rfl (by assumption) (by omega) | exact S.len_sl rfl rfl rfl (by assumption))))
  refine Tr.loop (fun k : Nat => stL Try.f41.ntmps [] [(1, .fn f [] [.ptr 5 0]), (2, .ptr 11 0), (4, .ptr 12 0), (6, .ptr 13 0), (20, .gs 4 W.length), (21, .int .i64 W.length), (22, .int .i64 k)] ([(13, some (.cells [.int .i64 (loK num W (num t0) k), .int .i64 (hiK num W (num t0) k)])), (12, some (.cells [.int .i64 0, .int .i64 0])), (11, some (.cells (.ptr 3 0 :: .gs 4 W.length :: mpsV nd 6)))] ++ [(0, some (oLa B)), (1, some (oDa B)), (2, some (oLo B)), (3, some (.cells (pbC B a1 a2 a3))), (4, some (oWn W)), (5, some (.cells (.ptr 3 0 :: .gs 4 W.length :: mpsV nd 6)))]) 14) (fun k => k ≤ W.length) (fun k => W.length - k) 0 (Nat.zero_le _) (by (refine Wk.same (by decide) (by decide) (by decide) (by decide) ?_ ?_ rfl; all_goals ((try simp only [allL, allM]); (repeat' (first | exact trivial | refine And.intro ?_ ?_)); all_goals (first | rfl | exact ren_ro _ _ _ | exact ren_grown _ _ _ _ | exact pbc_ren h1 h2 h3 (nm_lt (by decide)) (nm_lt (by decide)) (nm_lt (by decide)) | exact knL_ren _ (fun y hy => nm_lt (by omega)) | decide)))) (fun k hk => ?_)
  by_cases hlt : k < W.length
  · obtain ⟨tk, htk, hmk⟩ := at_some hlt
    have e1 := loK_succ (f := num) (a := num t0) htk
    have e2 := hiK_succ (f := num) (a := num t0) htk
    have hlt' : (k : Int) < W.length := by omega
    repeat' (first | refine RT.nil ?_ | refine sq_n ?_ | refine Tr.seq ?_ | refine Tr.region ?_ | refine Tr.cond_t rfl ?_ | refine Tr.skip ?_ | refine Tr.block ?_ | refine blk_n ?_ | (refine RT.call rfl rfl rfl (hnum tk hmk _ _ ⟨h1, h2, h3, rfl, rfl, rfl, rfl, by decide, by decide⟩ rfl (by decide) _) rfl rfl (Nat.le_refl _) ?_) | (refine RT.goK rfl rfl rfl rfl ?_; (refine Nx.of (S.lss_t hlt') ?_)) | (refine RT.goK rfl rfl rfl rfl ?_; apply Nx.of; (first | exact S.move | exact S.assign | exact S.load1c rfl rfl rfl rfl | exact S.loadNc rfl rfl rfl rfl | exact S.fieldAddr rfl rfl rfl | exact S.alloc rfl | exact S.add_one (by omega) | exact S.min2 | exact S.max2 | exact S.build rfl rfl rfl | exact S.rowG rfl rfl rfl (fun _ => rfl) htk rfl rfl)) | (refine RT.goK0 rfl rfl rfl ?_; apply Nx.of; (first | exact S.store rfl rfl rfl rfl rfl rfl)) | (refine RT.goK rfl rfl rfl rfl ?_; apply Nx.of; (first | exact S.idx_sl rfl rfl rfl (by assumption) (by omega))))
    refine lp_n (k + 1) hlt (by omega) (by (refine Wk.same (by decide) (by decide) (by decide) (by decide) ?_ ?_ rfl; all_goals ((try simp only [allL, allM]); (repeat' (first | exact trivial | refine And.intro ?_ ?_)); all_goals (first | rfl | exact ren_ro _ _ _ | exact ren_grown _ _ _ _ | (rw [← e1, ← e2]; rfl) | exact pbc_ren h1 h2 h3 (nm_lt (by decide)) (nm_lt (by decide)) (nm_lt (by decide)) | exact knL_ren _ (fun y hy => nm_lt (by omega)) | decide))))
  · have hlt' : ¬ (k : Int) < W.length := by omega
    have hke : k = W.length := by omega
    have e3 := loK_end (f := num) ht0
    have e4 := hiK_end (f := num) ht0
    rw [← hke] at e3 e4
    repeat' (first | refine RT.nil ?_ | refine sq_n ?_ | refine Tr.seq ?_ | refine Tr.region ?_ | refine Tr.cond_f rfl ?_ | refine Tr.ret ?_ | refine Tr.exit ?_ | refine sq_x ?_ | refine blk_hit rfl ?_ | refine lp_x ?_ | (refine RT.goK rfl rfl rfl rfl ?_; (refine Nx.of (S.lss_f hlt') ?_)) | (refine RT.goK rfl rfl rfl rfl ?_; apply Nx.of; (first | exact S.loadNc rfl rfl rfl rfl)) | (refine RT.goK0 rfl rfl rfl ?_; apply Nx.of; (first | exact S.store rfl rfl rfl rfl rfl rfl)))
    (first | refine rt_go rfl ?_)
    rw [← e3, ← e4]
    rfl
theorem spanB_at {B : RBook} {a1 a2 a3 : AV} {W : List Tru} {nd p x z q : Nat} {m : List (Nat × Option AObj)} {c : Nat} (h : PbIn B a1 a2 a3 p m c) (mx : lookM m x = some (oWn W)) (mz : lookM m z = some (.cells (.ptr p 0 :: .gs x W.length :: mpsV nd q))) (hW : W ≠ []) (hlen : W.length ≤ 20000) (f : Nat) (num : Tru → Int) (hnum : NumB B a1 a2 a3 W nd f num) (fl : Nat) :
    OkAt 0 Try.prog fl 41 [.agg (.ptr p 0 :: .gs x W.length :: mpsV nd q), .fn f [] [.ptr z 0]] (ofM m) c (.agg [.int .i64 (spL num W), .int .i64 (spH num W)]) (ofM m) c := by
  let τ : Nat → Nat := tau [0, 1, 2, p, x, z, q, q + 1, q + 2, q + 3, q + 4] c
  have e0 : τ (6 + 0) = q + 0 := rfl
  have e1 : τ (6 + 1) = q + 1 := rfl
  have e2 : τ (6 + 2) = q + 2 := rfl
  have e3 : τ (6 + 3) = q + 3 := rfl
  have e4 : τ (6 + 4) = q + 4 := rfl
  have t0 : τ 0 = 0 := rfl
  have t1 : τ 1 = 1 := rfl
  have t2 : τ 2 = 2 := rfl
  have t3 : τ 3 = p := rfl
  have t4 : τ 4 = x := rfl
  have t5 : τ 5 = z := rfl
  have ha : AV.rens τ [.agg (.ptr 3 0 :: .gs 4 W.length :: mpsV nd 6), .fn f [] [.ptr 5 0]] = [.agg (.ptr p 0 :: .gs x W.length :: mpsV nd q), .fn f [] [.ptr z 0]] := by
    simp only [AV.ren, AV.rens, mp_ren nd e0, mp_ren nd e1, mp_ren nd e2, mp_ren nd e3, mp_ren nd e4]
    rfl
  have hk : (AObj.cells (.ptr 3 0 :: .gs 4 W.length :: mpsV nd 6)).ren τ = .cells (.ptr p 0 :: .gs x W.length :: mpsV nd q) := by
    simp only [AObj.ren, AV.ren, AV.rens, mp_ren nd e0, mp_ren nd e1, mp_ren nd e2, mp_ren nd e3, mp_ren nd e4]
    rfl
  have low : ∀ {u : Nat} {ob : AObj}, lookM [(0, some (oLa B)), (1, some (oDa B)), (2, some (oLo B)), (3, some (.cells (pbC B a1 a2 a3))), (4, some (oWn W)), (5, some (.cells (.ptr 3 0 :: .gs 4 W.length :: mpsV nd 6)))] u = some ob → u = 0 ∨ u = 1 ∨ u = 2 ∨ u = 3 ∨ u = 4 ∨ u = 5 := fun {u ob} hz => by
    have := lookM_mem hz
    simpa using this
  have hobj : ∀ u o, lookM [(0, some (oLa B)), (1, some (oDa B)), (2, some (oLo B)), (3, some (.cells (pbC B a1 a2 a3))), (4, some (oWn W)), (5, some (.cells (.ptr 3 0 :: .gs 4 W.length :: mpsV nd 6)))] u = some o → lookM m (τ u) = some (o.ren τ) := fun u o hu => by
    rcases low hu with rfl | rfl | rfl | rfl | rfl | rfl
    · cases hu; rw [t0, ren_ro]; exact h.m1
    · cases hu; rw [t1, ren_ro]; exact h.m2
    · cases hu; rw [t2, ren_ro]; exact h.m3
    · cases hu; rw [t3, pbc_ren h.h1 h.h2 h.h3 t0 t1 t2]; exact h.m4
    · cases hu; rw [t4, ren_grown]; exact mx
    · cases hu; rw [t5, hk]; exact mz
  refine (spanB_can B a1 a2 a3 h.h1 h.h2 h.h3 W nd hW hlen f num hnum).pure (fun _ => rfl) ?_ fl
  rw [← ha]
  refine Entry.ren τ (fun g hg => by omega) (fun y hy => by show c ≤ tau _ _ _; rw [tau_ge hy]; omega) ⟨getM (hobj 0 _ rfl), getM (hobj 1 _ rfl), getM (hobj 2 _ rfl), getM (hobj 3 _ rfl), getM (hobj 4 _ rfl), getM (hobj 5 _ rfl), trivial⟩ (fun u u' o o' hu hu' hne => .inl fun e => ?_)
  have g1 := hobj u o hu
  have g2 := hobj u' o' hu'
  rw [e] at g1
  rw [g1] at g2
  have g2 := Option.some.inj g2
  have hx : x ≠ 0 ∧ x ≠ 1 ∧ x ≠ 2 ∧ x ≠ p ∧ x ≠ z := by
    refine ⟨fun q => ?_, fun q => ?_, fun q => ?_, fun q => ?_, fun q => ?_⟩ <;> rw [q] at mx
    · rw [h.m1] at mx; cases mx
    · rw [h.m2] at mx; cases mx
    · rw [h.m3] at mx; cases mx
    · rw [h.m4] at mx; cases mx
    · rw [mz] at mx; cases mx
  have hz : z ≠ 0 ∧ z ≠ 1 ∧ z ≠ 2 ∧ z ≠ p := by
    refine ⟨fun q => ?_, fun q => ?_, fun q => ?_, fun q => ?_⟩ <;> rw [q] at mz
    · rw [h.m1] at mz; cases mz
    · rw [h.m2] at mz; cases mz
    · rw [h.m3] at mz; cases mz
    · rw [h.m4] at mz
      have := congrArg (fun o : Option AObj => match o with | some (.cells l) => l.length | _ => 0) mz
      simp [pbC] at this
  have hp : p ≠ 0 ∧ p ≠ 1 ∧ p ≠ 2 := by
    refine ⟨fun q => ?_, fun q => ?_, fun q => ?_⟩ <;> have mp := h.m4 <;> rw [q] at mp
    · rw [h.m1] at mp; cases mp
    · rw [h.m2] at mp; cases mp
    · rw [h.m3] at mp; cases mp
  rcases low hu with rfl | rfl | rfl | rfl | rfl | rfl <;> rcases low hu' with rfl | rfl | rfl | rfl | rfl | rfl <;> simp only [t0, t1, t2, t3, t4, t5] at e <;> omega
theorem trs_lv {B : RBook} (hB : bkOk B) : ∀ {k d : Nat} {t u : Tru}, d + k ≤ B.nd → LvOk B t d → u ∈ trs B k d t → LvOk B u (d + k)
  | 0, d, t, u, _, hl, hu => by rw [List.mem_singleton.1 hu]; exact hl
  | k + 1, d, t, u, he, hl, hu => by
    obtain ⟨n, hn, sk, hsk, _, hu⟩ := mem_step.1 hu
    have h5 := hB.2.1.1.2
    have := trs_lv hB (by omega) (hl.next hB (by omega) (wg_bd hB (by omega) hn) (List.mem_range.1 hsk)) hu
    rwa [Nat.add_right_comm, Nat.add_assoc] at this
theorem norm_lo {t : Tru} {j : Nat} (h : j < 4) : (norm t).lo j = t.lo j := by rcases lt4 h with rfl | rfl | rfl | rfl <;> rfl
theorem norm_la {t : Tru} {j : Nat} (h : j < 4) : (norm t).la j = t.la j := by rcases lt4 h with rfl | rfl | rfl | rfl <;> rfl
theorem wn_lo {B : RBook} (hB : bkOk B) {t : Tru} (ht : t ∈ Wn B) {j : Nat} (hj : j < 4) : (0 ≤ t.lo j ∧ t.lo j ≤ 5) ∧ 0 ≤ t.la j ∧ t.la j ≤ 5 := by
  obtain ⟨u, hu, rfl⟩ := List.mem_map.1 ht
  have h5 := hB.2.1.1.2
  have := trs_lv hB (k := B.nd) (d := 0) (t := tru0) (u := u) (by omega) (lv0 hB) hu
  have k1 := this.lo j hj
  have k2 := this.la j hj
  rw [norm_lo hj, norm_la hj]
  omega
set_option maxRecDepth 100000 in
set_option maxHeartbeats 4000000 in
theorem lost1_ok {B : RBook} (hB : bkOk B) (a1 a2 a3 : AV) (nd : Nat) : NumB B a1 a2 a3 (Wn B) nd 42 (fun t => yaS B t.lo) := fun t ht m c hp m5 hc fl => by
  have h1 := hp.h1
  have h2 := hp.h2
  have h3 := hp.h3
  have hf := fun i (hi : i < 4) => (wn_lo hB ht hi).1
  have key : CanS 0 Try.prog 42 11 [trV t, .ptr 5 0] [(0, some (oLa B)), (1, some (oDa B)), (2, some (oLo B)), (3, some (.cells (pbC B a1 a2 a3))), (5, some (.cells (.ptr 3 0 :: .gs 4 (Wn B).length :: mpsV nd 6)))] 11 fun v _ _ => v = .int .i64 (yaS B t.lo) := by
    refine CanS.mk Try.func42 rfl rfl rfl ?_
    repeat' (first | refine RT.nil ?_ | refine sq_n ?_ | refine Tr.seq ?_ | refine Tr.region ?_ | refine Tr.ret ?_ | (refine RT.call rfl rfl rfl (yards_at (f := t.lo) (p := 3) ⟨h1, h2, h3, rfl, rfl, rfl, rfl, by decide, by decide⟩ hB hf _) rfl rfl (Nat.le_refl _) ?_) | (refine RT.goK rfl rfl rfl rfl ?_; apply Nx.of; (first | exact S.assign | exact S.load1c rfl rfl rfl rfl | exact S.loadNc rfl rfl rfl rfl | exact S.fieldAddr rfl rfl rfl | exact S.box)))
    (first | refine rt_go rfl ?_)
    rfl
  refine key.pure (.int _ _) (Entry.nm hc (by omega) ⟨⟨hp.m1, ren_ro _ _ _, by omega⟩, ⟨hp.m2, ren_ro _ _ _, by omega⟩, ⟨hp.m3, ren_ro _ _ _, by omega⟩, ⟨hp.m4, pbc_ren h1 h2 h3 (nm_lt (by decide)) (nm_lt (by decide)) (nm_lt (by decide)), by omega⟩, ⟨m5, knL_ren _ (fun y hy => nm_lt hy), by omega⟩, trivial⟩ ?_) fl
  show [trV t, AV.ptr (nm 11 c 5) 0] = _
  rw [nm_lt (by omega)]
set_option maxRecDepth 100000 in
set_option maxHeartbeats 4000000 in
theorem Lost_can (B : RBook) (a1 a2 a3 : AV) (h1 : IsSl a1 B.nl 0) (h2 : IsSl a2 B.nd 1) (h3 : IsSl a3 B.nk 2) (hn : B.nd ≤ 9223372036854775807) : CanS 0 Try.prog 11 3 [bk B a1 a2 a3] [(0, some (oLa B)), (1, some (oDa B)), (2, some (oLo B))] 3 fun v _ _ => v = spV B True (fun t => yaS B t.lo) := by
  by_cases hB : bkOk B
  · by_cases hW : Wn B = []
    · rw [spV_false hB trivial hW]
      refine CanS.mk Try.func11 rfl rfl rfl ?_
      repeat' (first | refine RT.nil ?_ | refine sq_n ?_ | refine Tr.seq ?_ | refine Tr.region ?_ | refine Tr.cond_t rfl ?_ | refine Tr.ret ?_ | refine sq_r ?_ | (refine RT.call rfl rfl rfl (learn_false ⟨h1, h2, h3, rfl, rfl, rfl, by decide⟩ hn hB hW _) rfl rfl (Nat.le_refl _) ?_) | (refine RT.goK rfl rfl rfl rfl ?_; apply Nx.of; (first | exact S.move | exact S.assign | exact S.loadNc rfl rfl rfl rfl | exact S.neq | exact S.box | exact S.alloc rfl | exact S.build rfl rfl rfl | exact S.extract rfl)) | (refine RT.goK0 rfl rfl rfl ?_; apply Nx.of; (first | exact S.store rfl rfl rfl rfl rfl rfl)))
      (first | refine rt_go rfl ?_)
      rfl
    · rw [spV_ok hB trivial hW]
      refine CanS.mk Try.func11 rfl rfl rfl ?_
      repeat' (first | refine RT.nil ?_ | refine sq_n ?_ | refine Tr.seq ?_ | refine Tr.region ?_ | refine Tr.cond_f rfl ?_ | refine Tr.skip ?_ | refine Tr.ret ?_ | (refine RT.call rfl rfl rfl (learn_at ⟨h1, h2, h3, rfl, rfl, rfl, by decide⟩ (fun x o hx => by have := lookM_mem hx; simp at this; omega) hn hB hW _) rfl rfl (by decide) ?_) | (refine RT.call rfl rfl rfl (spanB_at (p := 8) (x := 17) (z := 18) (q := 10) ⟨h1, h2, h3, rfl, rfl, rfl, rfl, by decide, by decide⟩ rfl rfl hW (Wn_len hB) _ _ (lost1_ok hB a1 a2 a3 B.nd) _) rfl rfl (Nat.le_refl _) ?_) | (refine RT.goK rfl rfl rfl rfl ?_; apply Nx.of; (first | exact S.move | exact S.assign | exact S.loadNc rfl rfl rfl rfl | exact S.neq | exact S.box | exact S.alloc rfl | exact S.extract rfl | exact S.makeFunc)) | (refine RT.goK0 rfl rfl rfl ?_; apply Nx.of; (first | exact S.store rfl rfl rfl rfl rfl rfl | exact S.store rfl rfl (knX_one _ _ _ _ _) rfl rfl rfl)))
      (first | refine rt_go rfl ?_)
      rfl
  · rw [spV_no hB]
    refine CanS.mk Try.func11 rfl rfl rfl ?_
    repeat' (first | refine RT.nil ?_ | refine sq_n ?_ | refine Tr.seq ?_ | refine Tr.region ?_ | refine Tr.cond_t rfl ?_ | refine Tr.ret ?_ | refine sq_r ?_ | (refine RT.call rfl rfl rfl (learn_no_at ⟨h1, h2, h3, rfl, rfl, rfl, by decide⟩ hn hB _ _) rfl rfl (Nat.le_refl _) ?_) | (refine RT.goK rfl rfl rfl rfl ?_; apply Nx.of; (first | exact S.move | exact S.assign | exact S.loadNc rfl rfl rfl rfl | exact S.neq | exact S.box | exact S.alloc rfl | exact S.build rfl rfl rfl | exact S.extract rfl)) | (refine RT.goK0 rfl rfl rfl ?_; apply Nx.of; (first | exact S.store rfl rfl rfl rfl rfl rfl)))
    (first | refine rt_go rfl ?_)
    rfl
theorem Lost_at {B : RBook} {a1 a2 a3 : AV} {m : List (Nat × Option AObj)} {c : Nat} (h : BkIn B a1 a2 a3 m c) (hn : B.nd ≤ 9223372036854775807) (fl : Nat) : OkAt 0 Try.prog fl 11 [bk B a1 a2 a3] (ofM m) c (spV B True (fun t => yaS B t.lo)) (ofM m) c :=
  (Lost_can B a1 a2 a3 h.h1 h.h2 h.h3 hn).pure (spV_pl _ _ _) (h.entry [] .nil) fl
theorem Lost_x {B : RBook} {v1 v2 v3 : AV} {m : List (Nat × Option AObj)} {c : Nat} (h : BkX B v1 v2 v3 m c) (hn : B.nd ≤ 9223372036854775807) (fl : Nat) : OkAt 0 Try.prog fl 11 [bk B v1 v2 v3] (ofM m) c (spV B True (fun t => yaS B t.lo)) (ofM m) c :=
  h.use [] .nil (spV_pl _ _ _) (fun a1 a2 a3 i1 i2 i3 => Lost_can B a1 a2 a3 i1 i2 i3 hn) fl
end Go.Proofs.Ytjnckbefajfgbaa

/- RollMore: one look more: plain facts. -/
namespace Go.Proofs.Ytjnckbefajfgbaa
open Go Go.Ev

/-- The book with one look more. -/
def moB (B : RBook) (d b : Int) : RBook := { B with nk := B.nk + 1, ld := upd B.ld B.nk d, lb := upd B.lb B.nk b }
theorem mo_ok {B : RBook} (hB : bkOk B) {d b : Int} (h4 : B.nk ≤ 3) : bkOk (moB B d b) ↔ lkOk B d b := by
  constructor
  · intro h
    have := h.2.2.2 B.nk (Nat.lt_succ_self _)
    have e1 : (moB B d b).ld B.nk = d := upd_at
    have e2 : (moB B d b).lb B.nk = b := upd_at
    rw [e1, e2] at this
    exact this
  · intro h
    refine ⟨hB.1, hB.2.1, Nat.succ_le_succ h4, fun i hi => ?_⟩
    replace hi : i < B.nk + 1 := hi
    by_cases e : i = B.nk
    · subst e
      have e1 : (moB B d b).ld B.nk = d := upd_at
      have e2 : (moB B d b).lb B.nk = b := upd_at
      rw [e1, e2]
      exact h
    · have e1 : (moB B d b).ld i = B.ld i := upd_ne e
      have e2 : (moB B d b).lb i = B.lb i := upd_ne e
      rw [e1, e2]
      exact hB.2.2.2 i (by omega)
theorem mem_mo {B : RBook} (hB : bkOk B) {d b : Int} (hl : lkOk B d b) {t : Tru} : t ∈ allT (moB B d b) ↔ t ∈ allT B ∧ t.eb d.toNat = b := by
  have hd : 0 ≤ d ∧ d ≤ (B.nd : Int) - 1 := hl.1
  have l0 : ∀ i, i < B.nk → 0 ≤ B.ld i := fun i hi => (ld_bd hB i hi).1
  have l1 : ∀ i, i < B.nk + 1 → 0 ≤ (moB B d b).ld i := fun i hi => by
    show 0 ≤ upd B.ld B.nk d i
    by_cases e : i = B.nk
    · subst e; rw [upd_at]; exact hd.1
    · rw [upd_ne e]; exact l0 i (by omega)
  have k1 := mem_trs B B.nk B.ld B.lb l0 (k := B.nd) (d := 0) (t := tru0) (u := t)
  have k2 := mem_trs B (B.nk + 1) (moB B d b).ld (moB B d b).lb l1 (k := B.nd) (d := 0) (t := tru0) (u := t)
  refine Iff.trans k2 (Iff.trans ?_ (and_congr k1.symm Iff.rfl))
  rw [and_assoc]
  refine and_congr Iff.rfl ⟨fun h => ⟨fun i hi h1 h2 => ?_, ?_⟩, fun ⟨h, he⟩ i hi h1 h2 => ?_⟩
  · have e1 : (moB B d b).ld i = B.ld i := upd_ne (by omega)
    have e2 : (moB B d b).lb i = B.lb i := upd_ne (by omega)
    have := h i (by omega) (by rw [e1]; exact h1) (by rw [e1]; exact h2)
    rwa [e1, e2] at this
  · have e1 : (moB B d b).ld B.nk = d := upd_at
    have e2 : (moB B d b).lb B.nk = b := upd_at
    have := h B.nk (Nat.lt_succ_self _) (by rw [e1]; omega) (by rw [e1]; omega)
    rwa [e1, e2] at this
  · by_cases e : i = B.nk
    · subst e
      have e1 : (moB B d b).ld B.nk = d := upd_at
      have e2 : (moB B d b).lb B.nk = b := upd_at
      rw [e1, e2]; exact he
    · have e1 : (moB B d b).ld i = B.ld i := upd_ne e
      have e2 : (moB B d b).lb i = B.lb i := upd_ne e
      rw [e1] at h1 h2 ⊢
      rw [e2]
      exact h i (by omega) h1 h2
theorem mo_sub {B : RBook} (hB : bkOk B) {d b : Int} (hl : lkOk B d b) {t : Tru} (h : t ∈ Wn (moB B d b)) : t ∈ Wn B := by
  obtain ⟨u, hu, rfl⟩ := List.mem_map.1 h
  exact List.mem_map.2 ⟨u, ((mem_mo hB hl).1 hu).1, rfl⟩
/-- It can be true just if some truth fits. -/
theorem mo_ne {B : RBook} (hB : bkOk B) {d b : Int} (hl : lkOk B d b) : allT (moB B d b) ≠ [] ↔ ∃ t ∈ Wn B, t.eb d.toNat = b := by
  have hd : 0 ≤ d ∧ d ≤ (B.nd : Int) - 1 := hl.1
  have h5 := hB.2.1.1.2
  constructor
  · intro h
    obtain ⟨u, hu⟩ := List.exists_mem_of_ne_nil _ h
    obtain ⟨h1, h2⟩ := (mem_mo hB hl).1 hu
    exact ⟨norm u, List.mem_map.2 ⟨u, h1, rfl⟩, by rw [norm_eb (by omega)]; exact h2⟩
  · rintro ⟨t, ht, he⟩ e
    obtain ⟨u, hu, rfl⟩ := List.mem_map.1 ht
    rw [norm_eb (by omega)] at he
    have := (mem_mo hB hl).2 ⟨hu, he⟩
    rw [e] at this
    cases this
theorem wn_nil {B : RBook} : Wn B ≠ [] ↔ allT B ≠ [] := not_congr List.map_eq_nil_iff
/-- Of fewer truths ends are no further apart. -/
theorem sp_sub {num : Tru → Int} {X Y : List Tru} (hY : Y ≠ []) (h : ∀ t ∈ Y, t ∈ X) : spL num X ≤ spL num Y ∧ spH num Y ≤ spH num X ∧ spL num Y ≤ spH num Y := by
  obtain ⟨t0, h0⟩ := List.exists_mem_of_ne_nil _ hY
  have hX : X ≠ [] := fun e => by have := h t0 h0; rw [e] at this; cases this
  have x := sp_is num hX
  have y := sp_is num hY
  obtain ⟨t, ht, e1⟩ := y.exL
  obtain ⟨u, hu, e2⟩ := y.exH
  have a := x.all t (h t ht)
  have b := x.all u (h u hu)
  have c := y.all t ht
  omega
theorem sure_sub {X Y : RBook} (hX : bkOk X) (hY : bkOk Y) (hl : X.nl = Y.nl) (hd : X.nd = Y.nd) (h : ∀ t ∈ Wn Y, t ∈ Wn X) {j : Nat} (hj : j < X.nd) (k : sureP X j) : sureP Y j :=
  (sure_iff hY (hd ▸ hj)).2 fun t ht => by rw [← hl]; exact (sure_iff hX hj).1 k t (h t ht)
theorem may_sub {X Y : RBook} (hX : bkOk X) (hY : bkOk Y) (hl : X.nl = Y.nl) (hd : X.nd = Y.nd) (h : ∀ t ∈ Wn Y, t ∈ Wn X) {j : Nat} (hj : j < X.nd) (k : mayP Y j) : mayP X j := by
  obtain ⟨t, ht, e⟩ := (may_iff hY (hd ▸ hj)).1 k
  exact (may_iff hX hj).2 ⟨t, h t ht, by rw [hl]; exact e⟩
/-- What two questions after the first day answer, where the one is so whenever the other is. -/
theorem fs_two {X Y : RBook} {p q : Nat → Prop} (hX : bkOk X) (hY : bkOk Y) (wX : Wn X ≠ []) (wY : Wn Y ≠ []) (hd : X.nd = Y.nd) (h : ∀ j, j < X.nd → p j → q j) : ∃ u v e1 e2 : Int, fsV X p = .tup [.int .i64 u, .int .i64 e1] ∧ fsV Y q = .tup [.int .i64 v, .int .i64 e2] ∧ (e1 = 4 ∨ e1 = 0 ∧ e2 = 0 ∧ v ≤ u) := by
  rcases first_case p X.nd with ⟨u, u1, u2, u3⟩ | un
  · rcases first_case q Y.nd with ⟨v, v1, v2, v3⟩ | vn
    · refine ⟨u, v, 0, 0, (fsV_ok hX wX).trans (fdV_at u1 u2 u3), (fsV_ok hY wY).trans (fdV_at v1 v2 v3), .inr ⟨rfl, rfl, ?_⟩⟩
      rcases Nat.lt_or_ge u v with k | k
      · exact absurd (h u u1 u2) (v3 u k)
      · omega
    · exact absurd (h u u1 u2) (vn u (hd ▸ u1))
  · rcases first_case q Y.nd with ⟨v, v1, v2, v3⟩ | vn
    · exact ⟨0, v, 4, 0, (fsV_ok hX wX).trans (fdV_none un), (fsV_ok hY wY).trans (fdV_at v1 v2 v3), .inl rfl⟩
    · exact ⟨0, 0, 4, 4, (fsV_ok hX wX).trans (fdV_none un), (fsV_ok hY wY).trans (fdV_none vn), .inl rfl⟩
end Go.Proofs.Ytjnckbefajfgbaa

/- RollMore: the law, for every book, every look and every number. -/
namespace Go.Proofs.Ytjnckbefajfgbaa
open Go Go.Ev

/-- The chapter's examples say true. -/
abbrev BillOK : Prop := CanS 0 Try.prog 21 0 [] [] 0 fun v _ _ => v = .bool true
theorem sound_t {B : RBook} {a1 a2 a3 : AV} {m : List (Nat × Option AObj)} {c : Nat} (h : BkIn B a1 a2 a3 m c) (hn : B.nd ≤ 9223372036854775807) (hB : bkOk B) (fl : Nat) : OkAt 0 Try.prog fl 22 [bk B a1 a2 a3] (ofM m) c (.bool true) (ofM m) c :=
  (sound_yes B a1 a2 a3 h.h1 h.h2 h.h3 hn hB).pure (.bool _) (h.entry [] .nil) fl
theorem sound_f {B : RBook} {a1 a2 a3 : AV} {m : List (Nat × Option AObj)} {c : Nat} (h : BkIn B a1 a2 a3 m c) (hn : B.nd ≤ 9223372036854775807) (hB : ¬ bkOk B) (fl : Nat) : OkAt 0 Try.prog fl 22 [bk B a1 a2 a3] (ofM m) c (.bool false) (ofM m) c :=
  (sound_no B a1 a2 a3 h.h1 h.h2 h.h3 hn hB).pure (.bool _) (h.entry [] .nil) fl
set_option maxRecDepth 100000 in
theorem Inner_can {a b d e : Int} (h : a ≤ d ∧ e ≤ b) : CanS 0 Try.prog 35 0 [.agg [.int .i64 a, .int .i64 b], .agg [.int .i64 d, .int .i64 e]] [] 0 fun v _ _ => v = .bool true := by
  refine CanS.mk Try.func35 rfl rfl rfl ?_
  repeat' (first | refine RT.nil ?_ | refine sq_n ?_ | refine Tr.seq ?_ | refine Tr.region ?_ | refine Tr.ret ?_ | (refine RT.goK rfl rfl rfl rfl ?_; first | refine Nx.of (S.leq_t (by omega)) ?_) | (refine RT.goK rfl rfl rfl rfl ?_; apply Nx.of; (first | exact S.move | exact S.assign | exact S.load1c rfl rfl rfl rfl | exact S.fieldAddr rfl rfl rfl | exact S.pick_tt | exact S.box)))
  (first | refine rt_go rfl ?_)
  rfl
theorem Inner_t {a b d e : Int} (h : a ≤ d ∧ e ≤ b) (H : T AObj) (c fl : Nat) : OkAt 0 Try.prog fl 35 [.agg [.int .i64 a, .int .i64 b], .agg [.int .i64 d, .int .i64 e]] H c (.bool true) H c :=
  (Inner_can h).pure (.bool _) (.plain fun _ => rfl) fl
theorem flat_mo (B : RBook) (d b : Int) : flat (loE (moB B d b)) (List.range (B.nk + 1)) = flat (loE B) (List.range B.nk) ++ [.int .i64 d, .int .i64 b] := by
  rw [List.range_succ, flat_append, flat_one]
  refine congr (congrArg _ ?_) ?_
  · unfold flat
    refine congrArg List.flatten (List.map_congr_left fun i hi => ?_)
    have hi := List.mem_range.1 hi
    have e1 : (moB B d b).ld i = B.ld i := upd_ne (by omega)
    have e2 : (moB B d b).lb i = B.lb i := upd_ne (by omega)
    simp only [loE, e1, e2]
  · have e1 : (moB B d b).ld B.nk = d := upd_at
    have e2 : (moB B d b).lb B.nk = b := upd_at
    simp only [loE, e1, e2]
    rfl
theorem bkm_one {B : RBook} {a1 a2 : AV} {q n : Nat} (h1 : IsSl a1 B.nl 0) (h2 : IsSl a2 B.nd 1) : ((bk B a1 a2 (.gs q n)).cells.all AV.one) = true := by
  simp only [bk, AV.cells, List.all_cons, List.all_nil, h1.one.1, h2.one.1]
  rfl
theorem bkm_ren {B : RBook} {a1 a2 : AV} {q k n : Nat} (h1 : IsSl a1 B.nl 0) (h2 : IsSl a2 B.nd 1) {σ : Nat → Nat} (e1 : σ 0 = 0) (e2 : σ 1 = 1) (e3 : σ k = q) : (AObj.cells (bk B a1 a2 (.gs k n)).cells).ren σ = .cells (bk B a1 a2 (.gs q n)).cells := by simp only [bk, AObj.ren, AV.cells, AV.ren, AV.rens, h1.ren e1, h2.ren e2, e3]
theorem Sky_at {B : RBook} {a1 a2 a3 : AV} {m : List (Nat × Option AObj)} {c : Nat} (h : BkIn B a1 a2 a3 m c) (hn : B.nd ≤ 9223372036854775807) (d : Int) (fl : Nat) : OkAt 0 Try.prog fl 30 [bk B a1 a2 a3, .int .i64 d] (ofM m) c (skyV B (dyQ B d) d.toNat) (ofM m) c :=
  (Sky_can B a1 a2 a3 h.h1 h.h2 h.h3 hn d).pure (skyV_pl _ _ _) (h.entry _ fun _ => rfl) fl
theorem eqBt (b : Bool) : eqA Try.prog 4 (.bool b) (.bool b) = some true := by cases b <;> kernel_rfl
set_option format.width 260
set_option maxRecDepth 100000 in
set_option maxHeartbeats 8000000 in
theorem more_law (hb : BillOK) (B : RBook) (a1 a2 a3 : AV) (h1 : IsSl a1 B.nl 0) (h2 : IsSl a2 B.nd 1) (h3 : IsSl a3 B.nk 2) (hn : B.nd ≤ 9223372036854775807) (d b n : Int) : CanS 0 Try.prog 5 3 [bk B a1 a2 a3, .agg [.int .i64 d, .int .i64 b], .int .i64 n] [(0, some (oLa B)), (1, some (oDa B)), (2, some (oLo B))] 3 fun v _ _ => v = .bool true := by
  refine CanS.mk Try.func5 rfl rfl rfl ?_
  by_cases hB : bkOk B
  · have hnl := hB.1.1
    have hnd := hB.2.1.1
    have hn4 := hB.2.2.1
    have hfl : (flat (loE B) (List.range B.nk)).length = B.nk * 2 := by rw [flat_len (s := 2) (fun _ => rfl), List.length_range]
    have hA := wrapV_bd (n := n) (k := (B.nd : Int)) (by omega)
    obtain ⟨a, ha⟩ := Int.eq_ofNat_of_zero_le hA.1
    rw [ha] at hA
    have haN : a < B.nd := by omega
    have hq : dyQ B (a : Int) := by unfold dyQ; omega
    have hq' : dyQ (moB B d b) (a : Int) := hq
    repeat' (first | refine RT.nil ?_ | refine sq_n ?_ | refine Tr.seq ?_ | refine Tr.region ?_ | refine Tr.cond_d rfl (fun _ => ?_) (fun _ => ?_) | refine Tr.skip ?_ | refine Tr.ret ?_ | refine sq_r ?_ | (refine RT.call rfl rfl rfl (sound_t ⟨h1, h2, h3, rfl, rfl, rfl, by decide⟩ hn hB _) rfl rfl (Nat.le_refl _) ?_) | (refine RT.call rfl rfl rfl (hb.root_at _ _ _) rfl rfl (Nat.le_refl _) ?_) | (refine RT.goK rfl rfl rfl rfl ?_; apply Nx.of; (first | exact S.move | exact S.assign | exact S.load1c rfl rfl rfl rfl | exact S.loadNc rfl rfl rfl rfl | exact S.fieldAddr rfl rfl rfl | exact S.eql | exact S.not_t | exact S.pick_ff | exact S.box | exact S.alloc rfl)) | (refine RT.goK0 rfl rfl rfl ?_; apply Nx.of; (first | exact S.store rfl rfl (bk_one h1 h2 h3) rfl rfl rfl)) | (refine RT.goK rfl rfl rfl rfl ?_; apply Nx.of; (first | exact S.len_sl rfl rfl rfl (by assumption))))
    · (first | refine rt_go rfl ?_)
      rfl
    rename_i hnk
    have hk3 : B.nk ≤ 3 := by omega
    repeat' (first | refine RT.nil ?_ | refine sq_n ?_ | refine Tr.seq ?_ | refine Tr.region ?_ | refine Tr.cond_t rfl ?_ | refine Tr.cond_f rfl ?_ | refine Tr.cond_d rfl (fun _ => ?_) (fun _ => ?_) | refine Tr.skip ?_ | refine Tr.ret ?_ | refine sq_r ?_ | refine Tr.exit ?_ | refine sq_x ?_ | refine Tr.block ?_ | refine blk_n ?_ | refine blk_r ?_ | refine blk_hit rfl ?_ | refine blk_pass rfl ?_ | refine Tr.label ?_ | refine Tr.scope ?_ | refine scp_n ?_ | refine scp_r ?_ | refine scp_x ?_ | refine lp_r ?_ | refine lp_x ?_ | (refine RT.goK rfl rfl rfl rfl ?_; apply Nx.of; (first | exact S.lss_t (by decide) | exact S.lss_f (by decide) | exact S.leq_t (by decide) | exact S.leq_f (by decide) | exact S.eql_t (by decide) | exact S.eql_f (by decide) | exact S.neq_t (by decide) | exact S.neq_f (by decide) | exact S.index_arrI rfl rfl rfl rfl (by decide) (by decide) rfl | exact S.idx_arrI rfl rfl rfl (by decide) (by decide))) | (refine RT.goK rfl rfl rfl rfl ?_; apply Nx.of; (first | exact S.move | exact S.assign | exact S.load1c rfl rfl rfl rfl | exact S.loadNc rfl rfl rfl rfl | exact S.fieldAddr rfl rfl rfl | exact S.leq | exact S.lss | exact S.eql | exact S.neq | exact S.geq | exact S.gtr | exact S.not_t | exact S.not_f | exact S.not_d | exact S.pick_tt | exact S.pick_ff | exact S.pick_td (by assumption) | exact S.pick_fd (by assumption) | exact S.pick_b | exact S.box | exact S.alloc rfl | exact S.add_one (by omega) | exact S.sub_one (by omega) (by omega) | exact S.add (by unfold In64; omega) | exact S.sub (by unfold In64; omega) | exact S.mul (by unfold In64; omega) | exact S.add_w | exact S.sub_w | exact S.mul_w | exact S.min2 | exact S.max2 | exact S.build rfl rfl rfl | exact S.buildA rfl rfl rfl rfl | exact S.nilCheck | exact S.extract rfl | exact S.store rfl rfl (bk_one h1 h2 h3) rfl rfl rfl | exact S.store rfl rfl (bkm_one h1 h2) rfl rfl rfl | exact S.buildSlice0 rfl rfl rfl | exact S.buildSlice rfl rfl rfl rfl rfl rfl rfl | exact S.andNot | exact S.neqB_f (eqBt _))) | (refine RT.goK0 rfl rfl rfl ?_; apply Nx.of; (first | exact S.store rfl rfl rfl rfl rfl rfl | exact S.store rfl rfl (bk_one h1 h2 h3) rfl rfl rfl | exact S.store rfl rfl (bkm_one h1 h2) rfl rfl rfl | exact S.buildSlice0 rfl rfl rfl | exact S.buildSlice rfl rfl rfl rfl rfl rfl rfl | exact S.andNot | exact S.neqB_f (eqBt _))) | (refine RT.goK rfl rfl rfl rfl ?_; apply Nx.of; (first | exact S.idx_sl rfl rfl rfl (by assumption) (by omega) | exact S.idx_slI rfl rfl rfl (by assumption) (by omega) (by omega) | exact S.rowN0 rfl rfl rfl (fun _ => rfl) (range_at (by omega)) rfl | exact S.rowN rfl rfl rfl (fun _ => rfl) (range_at (by omega)) rfl | exact S.row0 rfl rfl rfl (fun _ => rfl) (range_at (by omega)) rfl | exact S.row rfl rfl rfl (fun _ => rfl) (range_at (by omega)) rfl | exact S.row2 rfl rfl rfl (fun _ => rfl) (range_at (by omega)) rfl | exact S.len_sl rfl rfl rfl (by assumption))))
    refine Tr.mono (Q := fun ex st2 => ex = .normal ∧ Wk 0 3 3 st2 (stL Try.f5.ntmps [] [(2, .int .i64 n), (3, .ptr 3 0), (4, .ptr 4 0), (6, .bool false), (7, .ptr 5 0)] [(9, some (.grown (flat (loE (moB B d b)) (List.range (B.nk + 1))) 2)), (5, some (.cells (bk (moB B d b) a1 a2 (.gs 9 (B.nk + 1))).cells)), (4, some (.cells [.int .i64 d, .int .i64 b])), (3, some (.cells (bk B a1 a2 a3).cells)), (0, some (oLa B)), (1, some (oDa B)), (2, some (oLo B))] 10)) ?_ (fun ex st2 ⟨he, hwk⟩ => ?_)
    · rw [flat_mo]
      by_cases hnz : B.nk = 0
      · have hz : flat (loE B) (List.range B.nk) = [] := by rw [hnz]; rfl
        rw [hz, hnz]
        rw [hnz] at h3
        refine Tr.openK un5_4 (by kernel_rfl) (by kernel_rfl) noCall noCall_calm ?_
        repeat' (first | (refine RD.free rfl rfl rfl rfl rfl rfl ?_; apply Nx.of; (first | exact S.fieldAddr rfl rfl rfl)) | (refine RD.new rfl rfl rfl rfl rfl rfl ?_; apply Nx.of; (first | exact S.buildSlice0 rfl rfl rfl | exact S.buildSlice rfl rfl rfl rfl rfl rfl rfl)) | (refine RD.load rfl rfl rfl rfl rfl rfl rfl rfl ?_; apply Nx.of; (first | exact S.load1c rfl rfl rfl rfl)) | (refine RD.store rfl rfl rfl rfl rfl rfl rfl ?_; apply Nx.of; (first | exact S.store rfl rfl rfl rfl rfl rfl)) | (refine RD.load rfl rfl rfl rfl rfl rfl rfl (by refine us_all ?_; simp only [usOk, cond_true, cond_false]; (repeat' (first | exact trivial | refine And.intro ?_ ?_)); all_goals (first | rfl | exact .inl trivial | (refine Or.inr ⟨_, _, _, rfl, getM rfl, getM rfl, ?_⟩; (first | rfl)))) ?_; apply Nx.of; (first | exact S.loadNc rfl rfl rfl rfl)) | (refine RD.wide rfl rfl rfl rfl rfl rfl rfl rfl ?_; (first | refine Nx.of (S.append_e0 rfl rfl rfl rfl rfl rfl rfl rfl h3 rfl rfl) ⟨rfl, ?_⟩ | refine Nx.of (S.append_e1 rfl rfl rfl rfl rfl rfl rfl rfl rfl rfl rfl rfl) ⟨rfl, ?_⟩)) | refine RD.nil ⟨Nat.le_of_ble_eq_true rfl, ?_⟩)
        refine ⟨rfl, ?_⟩
        refine Wk.by (fun x => if x < 8 then x else x - 1) (by decide) (by decide) (by decide) ⟨rfl, rfl, rfl, rfl, rfl, trivial⟩ ⟨?_, ?_, ?_, ?_, ?_, ?_, ?_, trivial⟩ rfl ?_ ?_ ?_ ?_
        · rfl
        · exact congrArg some (bkm_ren (B := moB B d b) (σ := fun x => if x < 8 then x else x - 1) (k := 9) (q := 8) (n := 0 + 1) h1 h2 rfl rfl rfl).symm
        · rfl
        · exact congrArg some (bkc_ren (σ := fun x => if x < 8 then x else x - 1) h1 h2 (hnz ▸ h3) rfl rfl rfl).symm
        · exact congrArg some (ren_ro _ _ _).symm
        · exact congrArg some (ren_ro _ _ _).symm
        · exact congrArg some (ren_ro _ _ _).symm
        · simp
        all_goals (intro x hx; (repeat' split) <;> omega)
      · refine Tr.openK un5_4 (by kernel_rfl) (by kernel_rfl) noCall noCall_calm ?_
        repeat' (first | (refine RD.free rfl rfl rfl rfl rfl rfl ?_; apply Nx.of; (first | exact S.fieldAddr rfl rfl rfl)) | (refine RD.new rfl rfl rfl rfl rfl rfl ?_; apply Nx.of; (first | exact S.buildSlice0 rfl rfl rfl | exact S.buildSlice rfl rfl rfl rfl rfl rfl rfl)) | (refine RD.load rfl rfl rfl rfl rfl rfl rfl rfl ?_; apply Nx.of; (first | exact S.load1c rfl rfl rfl rfl)) | (refine RD.store rfl rfl rfl rfl rfl rfl rfl ?_; apply Nx.of; (first | exact S.store rfl rfl rfl rfl rfl rfl)) | (refine RD.load rfl rfl rfl rfl rfl rfl rfl (by refine us_all ?_; simp only [usOk, cond_true, cond_false]; (repeat' (first | exact trivial | refine And.intro ?_ ?_)); all_goals (first | rfl | exact .inl trivial | (refine Or.inr ⟨_, _, _, rfl, getM rfl, getM rfl, ?_⟩; (first | rfl)))) ?_; apply Nx.of; (first | exact S.loadNc rfl rfl rfl rfl)) | (refine RD.wide rfl rfl rfl rfl rfl rfl rfl rfl ?_; (first | refine Nx.of (S.append_e rfl rfl rfl rfl rfl rfl rfl rfl rfl rfl h3 rfl rfl hfl (by omega) (by omega)) ⟨rfl, ?_⟩ | refine Nx.of (S.append_gs rfl rfl rfl rfl rfl rfl rfl rfl rfl rfl rfl rfl rfl (cut_all hfl) (by omega) rfl) ⟨rfl, ?_⟩)) | refine RD.nil ⟨Nat.le_of_ble_eq_true rfl, ?_⟩)
        refine ⟨rfl, ?_⟩
        (refine Wk.same (by decide) (by decide) (by decide) (by decide) ?_ ?_ rfl; all_goals ((try simp only [allL, allM]); (repeat' (first | exact trivial | refine And.intro ?_ ?_)); all_goals (first | rfl | exact ren_ro _ _ _ | (rw [← flat_mo B d b]; exact ren_grown _ _ _ _) | exact bkm_ren h1 h2 (nm_lt (by decide)) (nm_lt (by decide)) (nm_lt (by decide)) | exact bkc_ren h1 h2 h3 (nm_lt (by decide)) (nm_lt (by decide)) (nm_lt (by decide)) | decide)))
    subst he
    refine sq_n (Tr.wk hwk ?_)
    by_cases hl : lkOk B d b
    · have hB' : bkOk (moB B d b) := (mo_ok hB hk3).2 hl
      by_cases hW : Wn B = []
      · have hF : ftV B d b = .tup [.bool false, .int .i64 72] := ftV_false hB hl hW
        have hR : rtV (moB B d b) = .tup [.bool false, .int .i64 0] := rtV_f hB' (Classical.byContradiction fun k => by
          obtain ⟨t, ht, _⟩ := (mo_ne hB hl).1 k
          rw [hW] at ht
          cases ht)
        repeat' (first | refine RT.nil ?_ | refine sq_n ?_ | refine Tr.seq ?_ | refine Tr.region ?_ | refine Tr.cond_t rfl ?_ | refine Tr.cond_f rfl ?_ | refine Tr.skip ?_ | refine Tr.ret ?_ | refine sq_r ?_ | (refine RT.call rfl rfl rfl (val_is hF (Fits_at ⟨h1, h2, h3, rfl, rfl, rfl, by decide⟩ hn _ _ _)) rfl rfl (Nat.le_refl _) ?_) | (refine RT.call rfl rfl rfl (val_is hR (Right_x (BkX.of (B := moB B d b) (v1 := a1) (v2 := a2) (x1 := 0) (x2 := 1) ⟨h1, _, rfl, .inr rfl⟩ ⟨h2, _, rfl, .inr rfl⟩ ⟨IsSl.gs _ _, _, rfl, .inr rfl⟩) hn _)) rfl rfl (Nat.le_refl _) ?_) | (refine RT.call rfl rfl rfl (hb.root_at _ _ _) rfl rfl (Nat.le_refl _) ?_) | (refine RT.goK rfl rfl rfl rfl ?_; apply Nx.of; (first | exact S.eql_f (by decide) | exact S.neq_t (by decide) | exact S.neq_f (by decide))) | (refine RT.goK rfl rfl rfl rfl ?_; apply Nx.of; (first | exact S.move | exact S.assign | exact S.loadNc rfl rfl rfl rfl | exact S.not_f | exact S.pick_tt | exact S.pick_ff | exact S.extract rfl | exact S.neqB_f (eqBt _))) | (refine RT.no rfl rfl rfl ?_))
        (first | refine rt_go rfl ?_)
        rfl
      · by_cases hf : ∃ t ∈ Wn B, t.eb d.toNat = b
        · have hne := (mo_ne hB hl).2 hf
          have hF : ftV B d b = .tup [.bool true, .int .i64 0] := by rw [ftV_ok hB hl hW, dB_tt hf]
          have hR : rtV (moB B d b) = .tup [.bool true, .int .i64 0] := rtV_t hB' hne
          have hW' : Wn (moB B d b) ≠ [] := wn_nil.2 hne
          have hsub : ∀ t ∈ Wn (moB B d b), t ∈ Wn B := fun t ht => mo_sub hB hl ht
          have hBo := spV_ok (num := fun t => t.eb (a : Int).toNat) hB hq hW
          have hBx := spV_ok (num := fun t => t.eb (a : Int).toNat) hB' hq' hW'
          have iB := sp_sub (num := fun t : Tru => t.eb (a : Int).toNat) hW' hsub
          have hWa := spV_ok (num := fun t => t.w (a : Int).toNat) hB hq hW
          have hWx := spV_ok (num := fun t => t.w (a : Int).toNat) hB' hq' hW'
          have iW := sp_sub (num := fun t : Tru => t.w (a : Int).toNat) hW' hsub
          have hLo := spV_ok (num := fun t => yaS B t.lo) hB trivial hW
          have hLx := spV_ok (num := fun t => yaS (moB B d b) t.lo) hB' trivial hW'
          have iL := sp_sub (num := fun t : Tru => yaS B t.lo) hW' hsub
          have hSk := skyV_ok (d := (a : Int).toNat) hB hq hW
          have hSx := skyV_ok (d := (a : Int).toNat) hB' hq' hW'
          obtain ⟨p, q, e1, e2, hDo, hDx, hD⟩ := fs_two (p := sureP B) (q := sureP (moB B d b)) hB hB' hW hW' rfl (fun j hj k => sure_sub hB hB' rfl rfl hsub hj k)
          obtain ⟨k, w, e3, e4, hPx, hPe, hP⟩ := fs_two (p := mayP (moB B d b)) (q := mayP B) hB' hB hW' hW rfl (fun j hj k => may_sub hB hB' rfl rfl hsub hj k)
          have hAn : andnI (skN (a : Int).toNat (Wn (moB B d b)) (Wn (moB B d b)).length) (skN (a : Int).toNat (Wn B) (Wn B).length) = 0 := by
            unfold skN
            rw [List.take_length, List.take_length]
            exact andn_set fun i hi ⟨t, ht, e⟩ => ⟨t, hsub t ht, e⟩
          have hN : ¬ skN (a : Int).toNat (Wn (moB B d b)) (Wn (moB B d b)).length = 0 := by
            obtain ⟨t, ht⟩ := List.exists_mem_of_ne_nil _ hW'
            obtain ⟨s, hs3, _, hs⟩ := wn_s hB' ht (show (a : Int).toNat < B.nd by omega)
            unfold skN
            rw [List.take_length]
            exact setV_ne hs3 ⟨t, ht, hs⟩
          generalize spL (fun t : Tru => t.eb (a : Int).toNat) (Wn B) = o1 at *
          generalize spH (fun t : Tru => t.eb (a : Int).toNat) (Wn B) = o2 at *
          generalize spL (fun t : Tru => t.eb (a : Int).toNat) (Wn (moB B d b)) = o3 at *
          generalize spH (fun t : Tru => t.eb (a : Int).toNat) (Wn (moB B d b)) = o4 at *
          generalize spL (fun t : Tru => t.w (a : Int).toNat) (Wn B) = w1 at *
          generalize spH (fun t : Tru => t.w (a : Int).toNat) (Wn B) = w2 at *
          generalize spL (fun t : Tru => t.w (a : Int).toNat) (Wn (moB B d b)) = w3 at *
          generalize spH (fun t : Tru => t.w (a : Int).toNat) (Wn (moB B d b)) = w4 at *
          have eL : (fun t : Tru => yaS (moB B d b) t.lo) = fun t : Tru => yaS B t.lo := rfl
          rw [eL] at hLx
          generalize spL (fun t : Tru => yaS B t.lo) (Wn B) = l1 at *
          generalize spH (fun t : Tru => yaS B t.lo) (Wn B) = l2 at *
          generalize spL (fun t : Tru => yaS B t.lo) (Wn (moB B d b)) = l3 at *
          generalize spH (fun t : Tru => yaS B t.lo) (Wn (moB B d b)) = l4 at *
          generalize skN (a : Int).toNat (Wn B) (Wn B).length = s1 at *
          generalize skN (a : Int).toNat (Wn (moB B d b)) (Wn (moB B d b)).length = s2 at *
          replace iB : (o1 ≤ o3 ∧ o4 ≤ o2) ∧ o3 ≤ o4 := by omega
          replace iW : w1 ≤ w3 ∧ w4 ≤ w2 := by omega
          replace iL : l1 ≤ l3 ∧ l4 ≤ l2 := by omega
          obtain ⟨iB, iB2⟩ := iB
          repeat' (first | refine RT.nil ?_ | refine sq_n ?_ | refine Tr.seq ?_ | refine Tr.region ?_ | refine Tr.cond_f rfl ?_ | refine Tr.skip ?_ | (refine RT.goK rfl rfl rfl rfl ?_; apply Nx.of; (first | exact S.move | exact S.assign | exact S.load1c rfl rfl rfl rfl | exact S.loadNc rfl rfl rfl rfl | exact S.alloc rfl | exact S.extract rfl)) | (refine RT.goK0 rfl rfl rfl ?_; apply Nx.of; (first | exact S.store rfl rfl rfl rfl rfl rfl)) | (refine RT.call rfl rfl rfl (val_is hF (Fits_at ⟨h1, h2, h3, rfl, rfl, rfl, by decide⟩ hn _ _ _)) rfl rfl (Nat.le_refl _) ?_) | (refine RT.call rfl rfl rfl (val_is hR (Right_x (BkX.of (B := moB B d b) (v1 := a1) (v2 := a2) (x1 := 0) (x2 := 1) ⟨h1, _, rfl, .inr rfl⟩ ⟨h2, _, rfl, .inr rfl⟩ ⟨IsSl.gs _ _, _, rfl, .inr rfl⟩) hn _)) rfl rfl (Nat.le_refl _) ?_) | (refine RT.call rfl rfl rfl (val_is (congrArg (AV.int .i64) ha) (Wrap_at _ _ (by omega) _ _ _)) rfl rfl (Nat.le_refl _) ?_) | (refine RT.call rfl rfl rfl (val_is hBo (Bound_at ⟨h1, h2, h3, rfl, rfl, rfl, by decide⟩ hn _ _)) rfl rfl (Nat.le_refl _) ?_) | (refine RT.call rfl rfl rfl (val_is hBx (Bound_x (BkX.of (B := moB B d b) (v1 := a1) (v2 := a2) (x1 := 0) (x2 := 1) ⟨h1, _, rfl, .inr rfl⟩ ⟨h2, _, rfl, .inr rfl⟩ ⟨IsSl.gs _ _, _, rfl, .inr rfl⟩) hn _ _)) rfl rfl (Nat.le_refl _) ?_) | (refine RT.goK rfl rfl rfl rfl ?_; apply Nx.of; (first | exact S.eql_t (by decide) | exact S.neq_f (by decide))) | (refine RT.goK rfl rfl rfl rfl ?_; apply Nx.of; (first | exact S.fieldAddr rfl rfl rfl | exact S.not_t | exact S.pick_tt | exact S.pick_ff | exact S.neqB_f (eqBt _))) | (refine RT.goK rfl rfl rfl rfl ?_; apply Nx.of; (first | exact S.len_sl rfl rfl rfl (by assumption))) | (refine RT.no rfl rfl rfl ?_))
          repeat' (first | refine RT.nil ?_ | refine sq_n ?_ | refine Tr.seq ?_ | refine Tr.region ?_ | refine Tr.cond_f rfl ?_ | refine Tr.skip ?_ | (refine RT.goK rfl rfl rfl rfl ?_; apply Nx.of; (first | exact S.move | exact S.assign | exact S.load1c rfl rfl rfl rfl | exact S.loadNc rfl rfl rfl rfl | exact S.alloc rfl | exact S.extract rfl)) | (refine RT.goK0 rfl rfl rfl ?_; apply Nx.of; (first | exact S.store rfl rfl rfl rfl rfl rfl)) | (refine RT.call rfl rfl rfl (val_is hWa (Wagons_at ⟨h1, h2, h3, rfl, rfl, rfl, by decide⟩ hn _ _)) rfl rfl (Nat.le_refl _) ?_) | (refine RT.call rfl rfl rfl (val_is hWx (Wagons_x (BkX.of (B := moB B d b) (v1 := a1) (v2 := a2) (x1 := 0) (x2 := 1) ⟨h1, _, rfl, .inr rfl⟩ ⟨h2, _, rfl, .inr rfl⟩ ⟨IsSl.gs _ _, _, rfl, .inr rfl⟩) hn _ _)) rfl rfl (Nat.le_refl _) ?_) | (refine RT.call rfl rfl rfl (val_is hSk (Sky_at ⟨h1, h2, h3, rfl, rfl, rfl, by decide⟩ hn _ _)) rfl rfl (Nat.le_refl _) ?_) | (refine RT.call rfl rfl rfl (val_is hSx (Sky_x (BkX.of (B := moB B d b) (v1 := a1) (v2 := a2) (x1 := 0) (x2 := 1) ⟨h1, _, rfl, .inr rfl⟩ ⟨h2, _, rfl, .inr rfl⟩ ⟨IsSl.gs _ _, _, rfl, .inr rfl⟩) hn _ _)) rfl rfl (Nat.le_refl _) ?_) | (refine RT.call rfl rfl rfl (Inner_t iB _ _ _) rfl rfl (Nat.le_refl _) ?_) | (refine RT.call rfl rfl rfl (Inner_t iW _ _ _) rfl rfl (Nat.le_refl _) ?_) | (refine RT.goK rfl rfl rfl rfl ?_; first | refine Nx.of (S.neq_f hAn) ?_ | refine Nx.of (S.eql_f hN) ?_ | refine Nx.of (S.gtr_f (by omega)) ?_) | (refine RT.goK rfl rfl rfl rfl ?_; apply Nx.of; (first | exact S.neq_f (by decide))) | (refine RT.goK rfl rfl rfl rfl ?_; apply Nx.of; (first | exact S.fieldAddr rfl rfl rfl | exact S.not_t | exact S.pick_ff | exact S.andNot)))
          repeat' (first | refine RT.nil ?_ | refine sq_n ?_ | refine Tr.seq ?_ | refine Tr.region ?_ | (refine RT.goK rfl rfl rfl rfl ?_; apply Nx.of; (first | exact S.move | exact S.assign | exact S.loadNc rfl rfl rfl rfl | exact S.alloc rfl | exact S.extract rfl)) | (refine RT.goK0 rfl rfl rfl ?_; apply Nx.of; (first | exact S.store rfl rfl rfl rfl rfl rfl)) | (refine RT.call rfl rfl rfl (val_is hLo (Lost_at ⟨h1, h2, h3, rfl, rfl, rfl, by decide⟩ hn _)) rfl rfl (Nat.le_refl _) ?_) | (refine RT.call rfl rfl rfl (val_is hLx (Lost_x (BkX.of (B := moB B d b) (v1 := a1) (v2 := a2) (x1 := 0) (x2 := 1) ⟨h1, _, rfl, .inr rfl⟩ ⟨h2, _, rfl, .inr rfl⟩ ⟨IsSl.gs _ _, _, rfl, .inr rfl⟩) hn _)) rfl rfl (Nat.le_refl _) ?_))
          repeat' (first | refine RT.nil ?_ | refine sq_n ?_ | refine Tr.seq ?_ | refine Tr.region ?_ | (refine RT.goK rfl rfl rfl rfl ?_; apply Nx.of; (first | exact S.move | exact S.assign | exact S.loadNc rfl rfl rfl rfl | exact S.extract rfl)) | (refine RT.call rfl rfl rfl (val_is hDo (Done_at ⟨h1, h2, h3, rfl, rfl, rfl, by decide⟩ hn _)) rfl rfl (Nat.le_refl _) ?_) | (refine RT.call rfl rfl rfl (val_is hDx (Done_x (BkX.of (B := moB B d b) (v1 := a1) (v2 := a2) (x1 := 0) (x2 := 1) ⟨h1, _, rfl, .inr rfl⟩ ⟨h2, _, rfl, .inr rfl⟩ ⟨IsSl.gs _ _, _, rfl, .inr rfl⟩) hn _)) rfl rfl (Nat.le_refl _) ?_))
          repeat' (first | refine RT.nil ?_ | refine sq_n ?_ | refine Tr.seq ?_ | refine Tr.region ?_ | (refine RT.goK rfl rfl rfl rfl ?_; apply Nx.of; (first | exact S.move | exact S.assign | exact S.loadNc rfl rfl rfl rfl | exact S.extract rfl)) | (refine RT.call rfl rfl rfl (val_is hPe (Perhaps_at ⟨h1, h2, h3, rfl, rfl, rfl, by decide⟩ hn _)) rfl rfl (Nat.le_refl _) ?_) | (refine RT.call rfl rfl rfl (val_is hPx (Perhaps_x (BkX.of (B := moB B d b) (v1 := a1) (v2 := a2) (x1 := 0) (x2 := 1) ⟨h1, _, rfl, .inr rfl⟩ ⟨h2, _, rfl, .inr rfl⟩ ⟨IsSl.gs _ _, _, rfl, .inr rfl⟩) hn _)) rfl rfl (Nat.le_refl _) ?_))
          rcases hD with rfl | ⟨rfl, rfl, hqp⟩ <;> rcases hP with rfl | ⟨rfl, rfl, hwk⟩
          all_goals
            repeat' (first | refine RT.nil ?_ | refine sq_n ?_ | refine Tr.seq ?_ | refine Tr.region ?_ | refine Tr.cond_f rfl ?_ | refine Tr.skip ?_ | refine Tr.ret ?_ | (refine RT.goK rfl rfl rfl rfl ?_; apply Nx.of; (first | exact S.move | exact S.assign | exact S.loadNc rfl rfl rfl rfl)) | (refine RT.goK rfl rfl rfl rfl ?_; apply Nx.of; (first | exact S.eql_t (by decide) | exact S.eql_f (by decide) | exact S.neq_f (by decide))) | (refine RT.goK rfl rfl rfl rfl ?_; first | refine Nx.of (S.leq_t (by omega)) ?_ | refine Nx.of (S.geq_t (by omega)) ?_) | (refine RT.no rfl rfl rfl ?_) | (refine RT.call rfl rfl rfl (Inner_t iL _ _ _) rfl rfl (Nat.le_refl _) ?_) | (refine RT.call rfl rfl rfl (hb.root_at _ _ _) rfl rfl (Nat.le_refl _) ?_) | (refine RT.goK rfl rfl rfl rfl ?_; apply Nx.of; (first | exact S.not_t | exact S.pick_tt | exact S.pick_ff)))
            (first | refine rt_go rfl ?_)
            rfl
        · have hF : ftV B d b = .tup [.bool false, .int .i64 0] := by rw [ftV_ok hB hl hW, dB_ff hf]
          have hR : rtV (moB B d b) = .tup [.bool false, .int .i64 0] := rtV_f hB' (Classical.not_not.1 fun k => hf ((mo_ne hB hl).1 k))
          repeat' (first | refine RT.nil ?_ | refine sq_n ?_ | refine Tr.seq ?_ | refine Tr.region ?_ | refine Tr.cond_t rfl ?_ | refine Tr.cond_f rfl ?_ | refine Tr.skip ?_ | refine Tr.ret ?_ | refine sq_r ?_ | (refine RT.call rfl rfl rfl (val_is hF (Fits_at ⟨h1, h2, h3, rfl, rfl, rfl, by decide⟩ hn _ _ _)) rfl rfl (Nat.le_refl _) ?_) | (refine RT.call rfl rfl rfl (val_is hR (Right_x (BkX.of (B := moB B d b) (v1 := a1) (v2 := a2) (x1 := 0) (x2 := 1) ⟨h1, _, rfl, .inr rfl⟩ ⟨h2, _, rfl, .inr rfl⟩ ⟨IsSl.gs _ _, _, rfl, .inr rfl⟩) hn _)) rfl rfl (Nat.le_refl _) ?_) | (refine RT.call rfl rfl rfl (hb.root_at _ _ _) rfl rfl (Nat.le_refl _) ?_) | (refine RT.goK rfl rfl rfl rfl ?_; apply Nx.of; (first | exact S.eql_t (by decide) | exact S.neq_f (by decide))) | (refine RT.goK rfl rfl rfl rfl ?_; apply Nx.of; (first | exact S.move | exact S.assign | exact S.loadNc rfl rfl rfl rfl | exact S.not_f | exact S.pick_tt | exact S.pick_ff | exact S.extract rfl | exact S.neqB_f (eqBt _))) | (refine RT.no rfl rfl rfl ?_))
          (first | refine rt_go rfl ?_)
          rfl
    · have hB' : ¬ bkOk (moB B d b) := fun k => hl ((mo_ok hB hk3).1 k)
      have hF : ftV B d b = .tup [.bool false, .int .i64 71] := ftV_ask hB hl
      have hR : rtV (moB B d b) = .tup [.bool false, .int .i64 70] := rtV_no hB'
      repeat' (first | refine RT.nil ?_ | refine sq_n ?_ | refine Tr.seq ?_ | refine Tr.region ?_ | refine Tr.cond_t rfl ?_ | refine Tr.ret ?_ | refine sq_r ?_ | (refine RT.call rfl rfl rfl (val_is hF (Fits_at ⟨h1, h2, h3, rfl, rfl, rfl, by decide⟩ hn _ _ _)) rfl rfl (Nat.le_refl _) ?_) | (refine RT.call rfl rfl rfl (val_is hR (Right_x (BkX.of (B := moB B d b) (v1 := a1) (v2 := a2) (x1 := 0) (x2 := 1) ⟨h1, _, rfl, .inr rfl⟩ ⟨h2, _, rfl, .inr rfl⟩ ⟨IsSl.gs _ _, _, rfl, .inr rfl⟩) hn _)) rfl rfl (Nat.le_refl _) ?_) | (refine RT.call rfl rfl rfl (hb.root_at _ _ _) rfl rfl (Nat.le_refl _) ?_) | (refine RT.goK rfl rfl rfl rfl ?_; apply Nx.of; (first | exact S.eql_t (by decide) | exact S.neq_t (by decide))) | (refine RT.goK rfl rfl rfl rfl ?_; apply Nx.of; (first | exact S.move | exact S.assign | exact S.loadNc rfl rfl rfl rfl | exact S.not_f | exact S.pick_tt | exact S.extract rfl)))
      (first | refine rt_go rfl ?_)
      rfl
  · repeat' (first | refine RT.nil ?_ | refine sq_n ?_ | refine Tr.seq ?_ | refine Tr.region ?_ | refine Tr.cond_t rfl ?_ | refine Tr.ret ?_ | refine sq_r ?_ | (refine RT.call rfl rfl rfl (sound_f ⟨h1, h2, h3, rfl, rfl, rfl, by decide⟩ hn hB _) rfl rfl (Nat.le_refl _) ?_) | (refine RT.call rfl rfl rfl (hb.root_at _ _ _) rfl rfl (Nat.le_refl _) ?_) | (refine RT.goK rfl rfl rfl rfl ?_; apply Nx.of; (first | exact S.move | exact S.assign | exact S.loadNc rfl rfl rfl rfl | exact S.not_f | exact S.pick_tt | exact S.box)) | (refine RT.no rfl rfl rfl ?_))
    (first | refine rt_go rfl ?_)
    rfl
end Go.Proofs.Ytjnckbefajfgbaa
