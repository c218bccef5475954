/- Texts of one kind, one behind the other: Ct, Cu, Cv, SyX, Cw, SyY, Cx, Cy, Cz. -/
import Derived.Test.YtcoklgmdifggbaaSM5
set_option linter.unusedVariables false
set_option linter.unusedSimpArgs false
/- Package claim: Weather, Blame, Pays, First, Fits, Right. -/
namespace Go.Proofs.Ytcoklgmdifggbaa
open Go Go.Ev

theorem KnIn.k {B : CBook} {a1 a2 : AV} {p q x z : Nat} {m : List (Nat × Option AObj)} {c : Nat} (h : KnIn B a1 a2 p q x z [.ptr p 0, .gs x (wths B 0).length] m c) : Entry 0 (ofM m) c [.agg [.ptr p 0, .gs x (wths B 0).length]] [(0, some (oSt B)), (1, some (oCk B)), (2, some (.cells (pbC B a1 a2 3))), (4, some (oWs B)), (5, some (.cells [.ptr 2 0, .gs 4 (wths B 0).length]))] 6 [.agg [.ptr 2 0, .gs 4 (wths B 0).length]] :=
  h.entry [.ptr 2 0, .gs 4 (wths B 0).length] [.agg [.ptr 2 0, .gs 4 (wths B 0).length]] _ rfl rfl
theorem weathers_at {B : CBook} {a1 a2 : AV} {p q x z : Nat} {m : List (Nat × Option AObj)} {c : Nat} (h : KnIn B a1 a2 p q x z [.ptr p 0, .gs x (wths B 0).length] m c) (hW : Ws B ≠ []) (hlen : (Ws B).length ≤ 5184) (fl : Nat) : OkAt 0 Try.prog fl 79 [.agg [.ptr p 0, .gs x (wths B 0).length]] (ofM m) c (.int .i64 (setV (weaP B) 3)) (ofM m) c :=
  (weathers_can B a1 a2 h.pb.h1 h.pb.h2 hW hlen).pure (.int _ _) h.k fl

noncomputable def paV (B : CBook) : Int := if whV B (blP B) = 2 then spL (owV B) (Ws B) else 0
set_option maxRecDepth 100000 in
set_option maxHeartbeats 4000000 in
theorem pays_can (B : CBook) (a1 a2 : AV) (h1 : IsSl a1 B.ns 0) (h2 : IsSl a2 B.nc 1) (hB : bkOk B) (hW : Ws B ≠ []) : CanS 0 Try.prog 84 6 [.agg [.ptr 2 0, .gs 4 (wths B 0).length]] [(0, some (oSt B)), (1, some (oCk B)), (2, some (.cells (pbC B a1 a2 3))), (4, some (oWs B)), (5, some (.cells [.ptr 2 0, .gs 4 (wths B 0).length]))] 6 fun v _ _ => v = .int .i64 (paV B) := by
  have hlen := wths_len hB.1
  refine CanS.mk Try.func84 rfl rfl rfl ?_
  repeat' (first | refine RT.nil ?_ | refine sq_n ?_ | refine Tr.seq ?_ | refine Tr.region ?_ | refine Tr.cond_t rfl ?_ | refine Tr.cond_f rfl ?_ | refine Tr.cond_d rfl (fun _ => ?_) (fun _ => ?_) | refine Tr.skip ?_ | refine Tr.ret ?_ | refine sq_r ?_ | refine Tr.exit ?_ | refine sq_x ?_ | refine Tr.block ?_ | refine blk_n ?_ | refine blk_r ?_ | refine blk_hit rfl ?_ | refine blk_pass rfl ?_ | refine Tr.label ?_ | refine Tr.scope ?_ | refine scp_n ?_ | refine scp_r ?_ | refine scp_x ?_ | refine lp_r ?_ | refine lp_x ?_ | (refine RT.call rfl rfl rfl (where_at (p := 2) (x := 4) rfl (by decide) hlen (blame_ok (p := 2) (q := 3) ⟨h1, h2, rfl, rfl, rfl, by decide, by decide, by decide⟩ hB.1 hB.2.1) _) rfl rfl (Nat.le_refl _) ?_) | (refine RT.call rfl rfl rfl (span_at (p := 2) (q := 3) (x := 4) (z := 5) (ys := [.ptr 2 0, .gs 4 (wths B 0).length]) ⟨⟨h1, h2, rfl, rfl, rfl, by decide, by decide, by decide⟩, rfl, by decide, rfl, by decide, by decide⟩ hW hlen false _ [] [.ptr 2 0, .gs 4 (wths B 0).length] [] rfl rfl (fun σ hσ => by simp only [AV.rens, AV.ren, hσ 2 (by omega), hσ 4 (by omega)]) rfl (fun _ _ => rfl) rfl (owV B) (owes_num B a1 a2 hB.1 hB.2.1 hB.2.2.2 _) _) rfl rfl (Nat.le_refl _) ?_) | (refine RT.goK rfl rfl rfl rfl ?_; apply Nx.of; (first | exact S.move | exact S.assign | exact S.load1c rfl rfl rfl rfl | exact S.loadNc rfl rfl rfl rfl | exact S.fieldAddr rfl rfl rfl | exact S.leq | exact S.lss | exact S.eql | exact S.neq | exact S.geq | exact S.gtr | exact S.not_t | exact S.not_f | exact S.not_d | exact S.pick_tt | exact S.pick_ff | exact S.pick_td (by assumption) | exact S.pick_fd (by assumption) | exact S.pick_b | exact S.box | exact S.alloc rfl | exact S.add_one (by omega) | exact S.sub_one (by omega) (by omega) | exact S.add (by unfold In64; omega) | exact S.sub (by unfold In64; omega) | exact S.mul (by unfold In64; omega) | exact S.add_w | exact S.sub_w | exact S.mul_w | exact S.min2 | exact S.max2 | exact S.build rfl rfl rfl | exact S.buildA rfl rfl rfl rfl | exact S.nilCheck | exact S.extract rfl | exact S.makeFunc | exact S.field1 rfl rfl rfl rfl rfl rfl rfl)) | (refine RT.goK0 rfl rfl rfl ?_; apply Nx.of; (first | exact S.store rfl rfl rfl rfl rfl rfl | exact S.makeFunc | exact S.nilCheck | exact S.field1 rfl rfl rfl rfl rfl rfl rfl)))
  · (first | refine rt_go rfl ?_ | refine rt_go (by exact rfl) ?_)
    unfold paV
    rw [if_neg (by assumption)]
    rfl
  · (first | refine rt_go rfl ?_ | refine rt_go (by exact rfl) ?_)
    have : whV B (blP B) = 2 := Classical.byContradiction fun k => (by assumption : ¬ ¬ whV B (blP B) = 2) k
    unfold paV
    rw [if_pos this]
    rfl
theorem pays_at {B : CBook} {a1 a2 : AV} {p q x z : Nat} {m : List (Nat × Option AObj)} {c : Nat} (h : KnIn B a1 a2 p q x z [.ptr p 0, .gs x (wths B 0).length] m c) (hB : bkOk B) (hW : Ws B ≠ []) (fl : Nat) : OkAt 0 Try.prog fl 84 [.agg [.ptr p 0, .gs x (wths B 0).length]] (ofM m) c (.int .i64 (paV B)) (ofM m) c :=
  (pays_can B a1 a2 h.pb.h1 h.pb.h2 hB hW).pure (.int _ _) h.k fl

/-- The first stage at which the coach surely is late. -/
def fsP (B : CBook) (i : Nat) : Prop := ∀ t ∈ Ws B, 0 < ltV B i t
noncomputable def fsN (B : CBook) : Nat := fstN (fsP B) B.ns B.ns
noncomputable def fsV (B : CBook) : Int := if fsN B < B.ns then fsN B else 0
noncomputable def fsE (B : CBook) : Int := if fsN B < B.ns then 0 else 4
/-! What is exported. -/
/-- A number that is answered, of a valid book that can be true. -/
noncomputable def numA (B : CBook) (n : Int) : AV := if ansE B True = 0 then .tup [.int .i64 n, .int .i64 0] else .tup [.int .i64 0, .int .i64 (ansE B True)]
theorem numA_err {B : CBook} {n e : Int} (h : ansE B True = e) (he : e ≠ 0) : numA B n = .tup [.int .i64 0, .int .i64 e] := by unfold numA; rw [h, if_neg he]
theorem numA_ok {B : CBook} {n : Int} (h : ansE B True = 0) : numA B n = .tup [.int .i64 n, .int .i64 0] := by unfold numA; rw [if_pos h]
set_option maxRecDepth 100000 in
set_option maxHeartbeats 4000000 in
theorem Weather_can (B : CBook) (a1 a2 : AV) (h1 : IsSl a1 B.ns 0) (h2 : IsSl a2 B.nc 1) (hn : B.ns ≤ 9223372036854775807) : CanS 0 Try.prog 25 2 [bk B a1 a2] [(0, some (oSt B)), (1, some (oCk B))] 2 fun v _ _ => v = numA B (setV (weaP B) 3) := by
  refine CanS.mk Try.func25 rfl rfl rfl ?_
  by_cases hB : bkOk B
  · by_cases hW : Ws B = []
    · rw [numA_err (ansE_false hB trivial hW) (by decide)]
      repeat' (first | refine RT.nil ?_ | refine sq_n ?_ | refine Tr.seq ?_ | refine Tr.region ?_ | refine Tr.cond_t rfl ?_ | refine Tr.cond_f rfl ?_ | refine Tr.cond_d rfl (fun _ => ?_) (fun _ => ?_) | refine Tr.skip ?_ | refine Tr.ret ?_ | refine sq_r ?_ | refine Tr.exit ?_ | refine sq_x ?_ | refine Tr.block ?_ | refine blk_n ?_ | refine blk_r ?_ | refine blk_hit rfl ?_ | refine blk_pass rfl ?_ | refine Tr.label ?_ | refine Tr.scope ?_ | refine scp_n ?_ | refine scp_r ?_ | refine scp_x ?_ | refine lp_r ?_ | refine lp_x ?_ | (refine RT.call rfl rfl rfl (learn_false_at ⟨h1, h2, rfl, rfl, by decide⟩ hn hB hW _) rfl rfl (Nat.le_refl _) ?_) | (refine RT.goK rfl rfl rfl rfl ?_; apply Nx.of; (first | exact S.move | exact S.assign | exact S.load1c rfl rfl rfl rfl | exact S.loadNc rfl rfl rfl rfl | exact S.fieldAddr rfl rfl rfl | exact S.leq | exact S.lss | exact S.eql | exact S.neq | exact S.geq | exact S.gtr | exact S.not_t | exact S.not_f | exact S.not_d | exact S.pick_tt | exact S.pick_ff | exact S.pick_td (by assumption) | exact S.pick_fd (by assumption) | exact S.pick_b | exact S.box | exact S.alloc rfl | exact S.add_one (by omega) | exact S.sub_one (by omega) (by omega) | exact S.add (by unfold In64; omega) | exact S.sub (by unfold In64; omega) | exact S.mul (by unfold In64; omega) | exact S.add_w | exact S.sub_w | exact S.mul_w | exact S.min2 | exact S.max2 | exact S.build rfl rfl rfl | exact S.buildA rfl rfl rfl rfl | exact S.nilCheck | exact S.extract rfl | exact S.makeFunc | exact S.field1 rfl rfl rfl rfl rfl rfl rfl)) | (refine RT.goK0 rfl rfl rfl ?_; apply Nx.of; (first | exact S.store rfl rfl rfl rfl rfl rfl | exact S.makeFunc | exact S.nilCheck | exact S.field1 rfl rfl rfl rfl rfl rfl rfl)) | (refine RT.goK rfl rfl rfl rfl ?_; apply Nx.of; (first | exact S.lss_t (by decide) | exact S.lss_f (by decide) | exact S.leq_t (by decide) | exact S.leq_f (by decide) | exact S.eql_t (by decide) | exact S.eql_f (by decide) | exact S.neq_t (by decide) | exact S.neq_f (by decide) | exact S.index_arrI rfl rfl rfl rfl (by decide) (by decide) rfl | exact S.idx_arrI rfl rfl rfl (by decide) (by decide))))
      (first | refine rt_go rfl ?_ | refine rt_go (by exact rfl) ?_)
      rfl
    · rw [numA_ok (ansE_ok hB trivial hW)]
      repeat' (first | refine RT.nil ?_ | refine sq_n ?_ | refine Tr.seq ?_ | refine Tr.region ?_ | refine Tr.cond_t rfl ?_ | refine Tr.cond_f rfl ?_ | refine Tr.cond_d rfl (fun _ => ?_) (fun _ => ?_) | refine Tr.skip ?_ | refine Tr.ret ?_ | refine sq_r ?_ | refine Tr.exit ?_ | refine sq_x ?_ | refine Tr.block ?_ | refine blk_n ?_ | refine blk_r ?_ | refine blk_hit rfl ?_ | refine blk_pass rfl ?_ | refine Tr.label ?_ | refine Tr.scope ?_ | refine scp_n ?_ | refine scp_r ?_ | refine scp_x ?_ | refine lp_r ?_ | refine lp_x ?_ | (refine RT.call rfl rfl rfl (learn_at ⟨h1, h2, rfl, rfl, by decide⟩ (fun x o hx => by have := lookM_mem hx; simp at this; omega) hn hB hW _) rfl rfl (by decide) ?_) | (refine RT.call rfl rfl rfl (weathers_at (p := 6) (q := 7) (x := 11) (z := 12) ⟨⟨h1, h2, rfl, rfl, rfl, by decide, by decide, by decide⟩, rfl, by decide, rfl, by decide, by decide⟩ hW (wths_len hB.1) _) rfl rfl (Nat.le_refl _) ?_) | (refine RT.goK rfl rfl rfl rfl ?_; apply Nx.of; (first | exact S.move | exact S.assign | exact S.load1c rfl rfl rfl rfl | exact S.loadNc rfl rfl rfl rfl | exact S.fieldAddr rfl rfl rfl | exact S.leq | exact S.lss | exact S.eql | exact S.neq | exact S.geq | exact S.gtr | exact S.not_t | exact S.not_f | exact S.not_d | exact S.pick_tt | exact S.pick_ff | exact S.pick_td (by assumption) | exact S.pick_fd (by assumption) | exact S.pick_b | exact S.box | exact S.alloc rfl | exact S.add_one (by omega) | exact S.sub_one (by omega) (by omega) | exact S.add (by unfold In64; omega) | exact S.sub (by unfold In64; omega) | exact S.mul (by unfold In64; omega) | exact S.add_w | exact S.sub_w | exact S.mul_w | exact S.min2 | exact S.max2 | exact S.build rfl rfl rfl | exact S.buildA rfl rfl rfl rfl | exact S.nilCheck | exact S.extract rfl | exact S.makeFunc | exact S.field1 rfl rfl rfl rfl rfl rfl rfl)) | (refine RT.goK0 rfl rfl rfl ?_; apply Nx.of; (first | exact S.store rfl rfl rfl rfl rfl rfl | exact S.makeFunc | exact S.nilCheck | exact S.field1 rfl rfl rfl rfl rfl rfl rfl)) | (refine RT.goK rfl rfl rfl rfl ?_; apply Nx.of; (first | exact S.lss_t (by decide) | exact S.lss_f (by decide) | exact S.leq_t (by decide) | exact S.leq_f (by decide) | exact S.eql_t (by decide) | exact S.eql_f (by decide) | exact S.neq_t (by decide) | exact S.neq_f (by decide) | exact S.index_arrI rfl rfl rfl rfl (by decide) (by decide) rfl | exact S.idx_arrI rfl rfl rfl (by decide) (by decide))))
      (first | refine rt_go rfl ?_ | refine rt_go (by exact rfl) ?_)
      rfl
  · rw [numA_err (ansE_no hB) (by decide)]
    repeat' (first | refine RT.nil ?_ | refine sq_n ?_ | refine Tr.seq ?_ | refine Tr.region ?_ | refine Tr.cond_t rfl ?_ | refine Tr.cond_f rfl ?_ | refine Tr.cond_d rfl (fun _ => ?_) (fun _ => ?_) | refine Tr.skip ?_ | refine Tr.ret ?_ | refine sq_r ?_ | refine Tr.exit ?_ | refine sq_x ?_ | refine Tr.block ?_ | refine blk_n ?_ | refine blk_r ?_ | refine blk_hit rfl ?_ | refine blk_pass rfl ?_ | refine Tr.label ?_ | refine Tr.scope ?_ | refine scp_n ?_ | refine scp_r ?_ | refine scp_x ?_ | refine lp_r ?_ | refine lp_x ?_ | (refine RT.call rfl rfl rfl (learn_no_at ⟨h1, h2, rfl, rfl, by decide⟩ hn hB _ _) rfl rfl (Nat.le_refl _) ?_) | (refine RT.goK rfl rfl rfl rfl ?_; apply Nx.of; (first | exact S.move | exact S.assign | exact S.load1c rfl rfl rfl rfl | exact S.loadNc rfl rfl rfl rfl | exact S.fieldAddr rfl rfl rfl | exact S.leq | exact S.lss | exact S.eql | exact S.neq | exact S.geq | exact S.gtr | exact S.not_t | exact S.not_f | exact S.not_d | exact S.pick_tt | exact S.pick_ff | exact S.pick_td (by assumption) | exact S.pick_fd (by assumption) | exact S.pick_b | exact S.box | exact S.alloc rfl | exact S.add_one (by omega) | exact S.sub_one (by omega) (by omega) | exact S.add (by unfold In64; omega) | exact S.sub (by unfold In64; omega) | exact S.mul (by unfold In64; omega) | exact S.add_w | exact S.sub_w | exact S.mul_w | exact S.min2 | exact S.max2 | exact S.build rfl rfl rfl | exact S.buildA rfl rfl rfl rfl | exact S.nilCheck | exact S.extract rfl | exact S.makeFunc | exact S.field1 rfl rfl rfl rfl rfl rfl rfl)) | (refine RT.goK0 rfl rfl rfl ?_; apply Nx.of; (first | exact S.store rfl rfl rfl rfl rfl rfl | exact S.makeFunc | exact S.nilCheck | exact S.field1 rfl rfl rfl rfl rfl rfl rfl)) | (refine RT.goK rfl rfl rfl rfl ?_; apply Nx.of; (first | exact S.lss_t (by decide) | exact S.lss_f (by decide) | exact S.leq_t (by decide) | exact S.leq_f (by decide) | exact S.eql_t (by decide) | exact S.eql_f (by decide) | exact S.neq_t (by decide) | exact S.neq_f (by decide) | exact S.index_arrI rfl rfl rfl rfl (by decide) (by decide) rfl | exact S.idx_arrI rfl rfl rfl (by decide) (by decide))))
    (first | refine rt_go rfl ?_ | refine rt_go (by exact rfl) ?_)
    rfl
set_option maxRecDepth 100000 in
set_option maxHeartbeats 4000000 in
theorem Blame_can (B : CBook) (a1 a2 : AV) (h1 : IsSl a1 B.ns 0) (h2 : IsSl a2 B.nc 1) (hn : B.ns ≤ 9223372036854775807) : CanS 0 Try.prog 27 2 [bk B a1 a2] [(0, some (oSt B)), (1, some (oCk B))] 2 fun v _ _ => v = numA B (whV B (blP B)) := by
  refine CanS.mk Try.func27 rfl rfl rfl ?_
  by_cases hB : bkOk B
  · by_cases hW : Ws B = []
    · rw [numA_err (ansE_false hB trivial hW) (by decide)]
      repeat' (first | refine RT.nil ?_ | refine sq_n ?_ | refine Tr.seq ?_ | refine Tr.region ?_ | refine Tr.cond_t rfl ?_ | refine Tr.cond_f rfl ?_ | refine Tr.cond_d rfl (fun _ => ?_) (fun _ => ?_) | refine Tr.skip ?_ | refine Tr.ret ?_ | refine sq_r ?_ | refine Tr.exit ?_ | refine sq_x ?_ | refine Tr.block ?_ | refine blk_n ?_ | refine blk_r ?_ | refine blk_hit rfl ?_ | refine blk_pass rfl ?_ | refine Tr.label ?_ | refine Tr.scope ?_ | refine scp_n ?_ | refine scp_r ?_ | refine scp_x ?_ | refine lp_r ?_ | refine lp_x ?_ | (refine RT.call rfl rfl rfl (learn_false_at ⟨h1, h2, rfl, rfl, by decide⟩ hn hB hW _) rfl rfl (Nat.le_refl _) ?_) | (refine RT.goK rfl rfl rfl rfl ?_; apply Nx.of; (first | exact S.move | exact S.assign | exact S.load1c rfl rfl rfl rfl | exact S.loadNc rfl rfl rfl rfl | exact S.fieldAddr rfl rfl rfl | exact S.leq | exact S.lss | exact S.eql | exact S.neq | exact S.geq | exact S.gtr | exact S.not_t | exact S.not_f | exact S.not_d | exact S.pick_tt | exact S.pick_ff | exact S.pick_td (by assumption) | exact S.pick_fd (by assumption) | exact S.pick_b | exact S.box | exact S.alloc rfl | exact S.add_one (by omega) | exact S.sub_one (by omega) (by omega) | exact S.add (by unfold In64; omega) | exact S.sub (by unfold In64; omega) | exact S.mul (by unfold In64; omega) | exact S.add_w | exact S.sub_w | exact S.mul_w | exact S.min2 | exact S.max2 | exact S.build rfl rfl rfl | exact S.buildA rfl rfl rfl rfl | exact S.nilCheck | exact S.extract rfl | exact S.makeFunc | exact S.field1 rfl rfl rfl rfl rfl rfl rfl)) | (refine RT.goK0 rfl rfl rfl ?_; apply Nx.of; (first | exact S.store rfl rfl rfl rfl rfl rfl | exact S.makeFunc | exact S.nilCheck | exact S.field1 rfl rfl rfl rfl rfl rfl rfl)) | (refine RT.goK rfl rfl rfl rfl ?_; apply Nx.of; (first | exact S.lss_t (by decide) | exact S.lss_f (by decide) | exact S.leq_t (by decide) | exact S.leq_f (by decide) | exact S.eql_t (by decide) | exact S.eql_f (by decide) | exact S.neq_t (by decide) | exact S.neq_f (by decide) | exact S.index_arrI rfl rfl rfl rfl (by decide) (by decide) rfl | exact S.idx_arrI rfl rfl rfl (by decide) (by decide))))
      (first | refine rt_go rfl ?_ | refine rt_go (by exact rfl) ?_)
      rfl
    · rw [numA_ok (ansE_ok hB trivial hW)]
      repeat' (first | refine RT.nil ?_ | refine sq_n ?_ | refine Tr.seq ?_ | refine Tr.region ?_ | refine Tr.cond_t rfl ?_ | refine Tr.cond_f rfl ?_ | refine Tr.cond_d rfl (fun _ => ?_) (fun _ => ?_) | refine Tr.skip ?_ | refine Tr.ret ?_ | refine sq_r ?_ | refine Tr.exit ?_ | refine sq_x ?_ | refine Tr.block ?_ | refine blk_n ?_ | refine blk_r ?_ | refine blk_hit rfl ?_ | refine blk_pass rfl ?_ | refine Tr.label ?_ | refine Tr.scope ?_ | refine scp_n ?_ | refine scp_r ?_ | refine scp_x ?_ | refine lp_r ?_ | refine lp_x ?_ | (refine RT.call rfl rfl rfl (learn_at ⟨h1, h2, rfl, rfl, by decide⟩ (fun x o hx => by have := lookM_mem hx; simp at this; omega) hn hB hW _) rfl rfl (by decide) ?_) | (refine RT.call rfl rfl rfl (where_at (p := 6) (x := 11) rfl (by decide) (wths_len hB.1) (blame_ok (p := 6) (q := 7) ⟨h1, h2, rfl, rfl, rfl, by decide, by decide, by decide⟩ hB.1 hB.2.1) _) rfl rfl (Nat.le_refl _) ?_) | (refine RT.goK rfl rfl rfl rfl ?_; apply Nx.of; (first | exact S.move | exact S.assign | exact S.load1c rfl rfl rfl rfl | exact S.loadNc rfl rfl rfl rfl | exact S.fieldAddr rfl rfl rfl | exact S.leq | exact S.lss | exact S.eql | exact S.neq | exact S.geq | exact S.gtr | exact S.not_t | exact S.not_f | exact S.not_d | exact S.pick_tt | exact S.pick_ff | exact S.pick_td (by assumption) | exact S.pick_fd (by assumption) | exact S.pick_b | exact S.box | exact S.alloc rfl | exact S.add_one (by omega) | exact S.sub_one (by omega) (by omega) | exact S.add (by unfold In64; omega) | exact S.sub (by unfold In64; omega) | exact S.mul (by unfold In64; omega) | exact S.add_w | exact S.sub_w | exact S.mul_w | exact S.min2 | exact S.max2 | exact S.build rfl rfl rfl | exact S.buildA rfl rfl rfl rfl | exact S.nilCheck | exact S.extract rfl | exact S.makeFunc | exact S.field1 rfl rfl rfl rfl rfl rfl rfl)) | (refine RT.goK0 rfl rfl rfl ?_; apply Nx.of; (first | exact S.store rfl rfl rfl rfl rfl rfl | exact S.makeFunc | exact S.nilCheck | exact S.field1 rfl rfl rfl rfl rfl rfl rfl)) | (refine RT.goK rfl rfl rfl rfl ?_; apply Nx.of; (first | exact S.lss_t (by decide) | exact S.lss_f (by decide) | exact S.leq_t (by decide) | exact S.leq_f (by decide) | exact S.eql_t (by decide) | exact S.eql_f (by decide) | exact S.neq_t (by decide) | exact S.neq_f (by decide) | exact S.index_arrI rfl rfl rfl rfl (by decide) (by decide) rfl | exact S.idx_arrI rfl rfl rfl (by decide) (by decide))))
      (first | refine rt_go rfl ?_ | refine rt_go (by exact rfl) ?_)
      rfl
  · rw [numA_err (ansE_no hB) (by decide)]
    repeat' (first | refine RT.nil ?_ | refine sq_n ?_ | refine Tr.seq ?_ | refine Tr.region ?_ | refine Tr.cond_t rfl ?_ | refine Tr.cond_f rfl ?_ | refine Tr.cond_d rfl (fun _ => ?_) (fun _ => ?_) | refine Tr.skip ?_ | refine Tr.ret ?_ | refine sq_r ?_ | refine Tr.exit ?_ | refine sq_x ?_ | refine Tr.block ?_ | refine blk_n ?_ | refine blk_r ?_ | refine blk_hit rfl ?_ | refine blk_pass rfl ?_ | refine Tr.label ?_ | refine Tr.scope ?_ | refine scp_n ?_ | refine scp_r ?_ | refine scp_x ?_ | refine lp_r ?_ | refine lp_x ?_ | (refine RT.call rfl rfl rfl (learn_no_at ⟨h1, h2, rfl, rfl, by decide⟩ hn hB _ _) rfl rfl (Nat.le_refl _) ?_) | (refine RT.goK rfl rfl rfl rfl ?_; apply Nx.of; (first | exact S.move | exact S.assign | exact S.load1c rfl rfl rfl rfl | exact S.loadNc rfl rfl rfl rfl | exact S.fieldAddr rfl rfl rfl | exact S.leq | exact S.lss | exact S.eql | exact S.neq | exact S.geq | exact S.gtr | exact S.not_t | exact S.not_f | exact S.not_d | exact S.pick_tt | exact S.pick_ff | exact S.pick_td (by assumption) | exact S.pick_fd (by assumption) | exact S.pick_b | exact S.box | exact S.alloc rfl | exact S.add_one (by omega) | exact S.sub_one (by omega) (by omega) | exact S.add (by unfold In64; omega) | exact S.sub (by unfold In64; omega) | exact S.mul (by unfold In64; omega) | exact S.add_w | exact S.sub_w | exact S.mul_w | exact S.min2 | exact S.max2 | exact S.build rfl rfl rfl | exact S.buildA rfl rfl rfl rfl | exact S.nilCheck | exact S.extract rfl | exact S.makeFunc | exact S.field1 rfl rfl rfl rfl rfl rfl rfl)) | (refine RT.goK0 rfl rfl rfl ?_; apply Nx.of; (first | exact S.store rfl rfl rfl rfl rfl rfl | exact S.makeFunc | exact S.nilCheck | exact S.field1 rfl rfl rfl rfl rfl rfl rfl)) | (refine RT.goK rfl rfl rfl rfl ?_; apply Nx.of; (first | exact S.lss_t (by decide) | exact S.lss_f (by decide) | exact S.leq_t (by decide) | exact S.leq_f (by decide) | exact S.eql_t (by decide) | exact S.eql_f (by decide) | exact S.neq_t (by decide) | exact S.neq_f (by decide) | exact S.index_arrI rfl rfl rfl rfl (by decide) (by decide) rfl | exact S.idx_arrI rfl rfl rfl (by decide) (by decide))))
    (first | refine rt_go rfl ?_ | refine rt_go (by exact rfl) ?_)
    rfl
set_option maxRecDepth 100000 in
set_option maxHeartbeats 4000000 in
theorem Pays_can (B : CBook) (a1 a2 : AV) (h1 : IsSl a1 B.ns 0) (h2 : IsSl a2 B.nc 1) (hn : B.ns ≤ 9223372036854775807) : CanS 0 Try.prog 31 2 [bk B a1 a2] [(0, some (oSt B)), (1, some (oCk B))] 2 fun v _ _ => v = numA B (paV B) := by
  refine CanS.mk Try.func31 rfl rfl rfl ?_
  by_cases hB : bkOk B
  · by_cases hW : Ws B = []
    · rw [numA_err (ansE_false hB trivial hW) (by decide)]
      repeat' (first | refine RT.nil ?_ | refine sq_n ?_ | refine Tr.seq ?_ | refine Tr.region ?_ | refine Tr.cond_t rfl ?_ | refine Tr.cond_f rfl ?_ | refine Tr.cond_d rfl (fun _ => ?_) (fun _ => ?_) | refine Tr.skip ?_ | refine Tr.ret ?_ | refine sq_r ?_ | refine Tr.exit ?_ | refine sq_x ?_ | refine Tr.block ?_ | refine blk_n ?_ | refine blk_r ?_ | refine blk_hit rfl ?_ | refine blk_pass rfl ?_ | refine Tr.label ?_ | refine Tr.scope ?_ | refine scp_n ?_ | refine scp_r ?_ | refine scp_x ?_ | refine lp_r ?_ | refine lp_x ?_ | (refine RT.call rfl rfl rfl (learn_false_at ⟨h1, h2, rfl, rfl, by decide⟩ hn hB hW _) rfl rfl (Nat.le_refl _) ?_) | (refine RT.goK rfl rfl rfl rfl ?_; apply Nx.of; (first | exact S.move | exact S.assign | exact S.load1c rfl rfl rfl rfl | exact S.loadNc rfl rfl rfl rfl | exact S.fieldAddr rfl rfl rfl | exact S.leq | exact S.lss | exact S.eql | exact S.neq | exact S.geq | exact S.gtr | exact S.not_t | exact S.not_f | exact S.not_d | exact S.pick_tt | exact S.pick_ff | exact S.pick_td (by assumption) | exact S.pick_fd (by assumption) | exact S.pick_b | exact S.box | exact S.alloc rfl | exact S.add_one (by omega) | exact S.sub_one (by omega) (by omega) | exact S.add (by unfold In64; omega) | exact S.sub (by unfold In64; omega) | exact S.mul (by unfold In64; omega) | exact S.add_w | exact S.sub_w | exact S.mul_w | exact S.min2 | exact S.max2 | exact S.build rfl rfl rfl | exact S.buildA rfl rfl rfl rfl | exact S.nilCheck | exact S.extract rfl | exact S.makeFunc | exact S.field1 rfl rfl rfl rfl rfl rfl rfl)) | (refine RT.goK0 rfl rfl rfl ?_; apply Nx.of; (first | exact S.store rfl rfl rfl rfl rfl rfl | exact S.makeFunc | exact S.nilCheck | exact S.field1 rfl rfl rfl rfl rfl rfl rfl)) | (refine RT.goK rfl rfl rfl rfl ?_; apply Nx.of; (first | exact S.lss_t (by decide) | exact S.lss_f (by decide) | exact S.leq_t (by decide) | exact S.leq_f (by decide) | exact S.eql_t (by decide) | exact S.eql_f (by decide) | exact S.neq_t (by decide) | exact S.neq_f (by decide) | exact S.index_arrI rfl rfl rfl rfl (by decide) (by decide) rfl | exact S.idx_arrI rfl rfl rfl (by decide) (by decide))))
      (first | refine rt_go rfl ?_ | refine rt_go (by exact rfl) ?_)
      rfl
    · rw [numA_ok (ansE_ok hB trivial hW)]
      repeat' (first | refine RT.nil ?_ | refine sq_n ?_ | refine Tr.seq ?_ | refine Tr.region ?_ | refine Tr.cond_t rfl ?_ | refine Tr.cond_f rfl ?_ | refine Tr.cond_d rfl (fun _ => ?_) (fun _ => ?_) | refine Tr.skip ?_ | refine Tr.ret ?_ | refine sq_r ?_ | refine Tr.exit ?_ | refine sq_x ?_ | refine Tr.block ?_ | refine blk_n ?_ | refine blk_r ?_ | refine blk_hit rfl ?_ | refine blk_pass rfl ?_ | refine Tr.label ?_ | refine Tr.scope ?_ | refine scp_n ?_ | refine scp_r ?_ | refine scp_x ?_ | refine lp_r ?_ | refine lp_x ?_ | (refine RT.call rfl rfl rfl (learn_at ⟨h1, h2, rfl, rfl, by decide⟩ (fun x o hx => by have := lookM_mem hx; simp at this; omega) hn hB hW _) rfl rfl (by decide) ?_) | (refine RT.call rfl rfl rfl (pays_at (p := 6) (q := 7) (x := 11) (z := 12) ⟨⟨h1, h2, rfl, rfl, rfl, by decide, by decide, by decide⟩, rfl, by decide, rfl, by decide, by decide⟩ hB hW _) rfl rfl (Nat.le_refl _) ?_) | (refine RT.goK rfl rfl rfl rfl ?_; apply Nx.of; (first | exact S.move | exact S.assign | exact S.load1c rfl rfl rfl rfl | exact S.loadNc rfl rfl rfl rfl | exact S.fieldAddr rfl rfl rfl | exact S.leq | exact S.lss | exact S.eql | exact S.neq | exact S.geq | exact S.gtr | exact S.not_t | exact S.not_f | exact S.not_d | exact S.pick_tt | exact S.pick_ff | exact S.pick_td (by assumption) | exact S.pick_fd (by assumption) | exact S.pick_b | exact S.box | exact S.alloc rfl | exact S.add_one (by omega) | exact S.sub_one (by omega) (by omega) | exact S.add (by unfold In64; omega) | exact S.sub (by unfold In64; omega) | exact S.mul (by unfold In64; omega) | exact S.add_w | exact S.sub_w | exact S.mul_w | exact S.min2 | exact S.max2 | exact S.build rfl rfl rfl | exact S.buildA rfl rfl rfl rfl | exact S.nilCheck | exact S.extract rfl | exact S.makeFunc | exact S.field1 rfl rfl rfl rfl rfl rfl rfl)) | (refine RT.goK0 rfl rfl rfl ?_; apply Nx.of; (first | exact S.store rfl rfl rfl rfl rfl rfl | exact S.makeFunc | exact S.nilCheck | exact S.field1 rfl rfl rfl rfl rfl rfl rfl)) | (refine RT.goK rfl rfl rfl rfl ?_; apply Nx.of; (first | exact S.lss_t (by decide) | exact S.lss_f (by decide) | exact S.leq_t (by decide) | exact S.leq_f (by decide) | exact S.eql_t (by decide) | exact S.eql_f (by decide) | exact S.neq_t (by decide) | exact S.neq_f (by decide) | exact S.index_arrI rfl rfl rfl rfl (by decide) (by decide) rfl | exact S.idx_arrI rfl rfl rfl (by decide) (by decide))))
      (first | refine rt_go rfl ?_ | refine rt_go (by exact rfl) ?_)
      rfl
  · rw [numA_err (ansE_no hB) (by decide)]
    repeat' (first | refine RT.nil ?_ | refine sq_n ?_ | refine Tr.seq ?_ | refine Tr.region ?_ | refine Tr.cond_t rfl ?_ | refine Tr.cond_f rfl ?_ | refine Tr.cond_d rfl (fun _ => ?_) (fun _ => ?_) | refine Tr.skip ?_ | refine Tr.ret ?_ | refine sq_r ?_ | refine Tr.exit ?_ | refine sq_x ?_ | refine Tr.block ?_ | refine blk_n ?_ | refine blk_r ?_ | refine blk_hit rfl ?_ | refine blk_pass rfl ?_ | refine Tr.label ?_ | refine Tr.scope ?_ | refine scp_n ?_ | refine scp_r ?_ | refine scp_x ?_ | refine lp_r ?_ | refine lp_x ?_ | (refine RT.call rfl rfl rfl (learn_no_at ⟨h1, h2, rfl, rfl, by decide⟩ hn hB _ _) rfl rfl (Nat.le_refl _) ?_) | (refine RT.goK rfl rfl rfl rfl ?_; apply Nx.of; (first | exact S.move | exact S.assign | exact S.load1c rfl rfl rfl rfl | exact S.loadNc rfl rfl rfl rfl | exact S.fieldAddr rfl rfl rfl | exact S.leq | exact S.lss | exact S.eql | exact S.neq | exact S.geq | exact S.gtr | exact S.not_t | exact S.not_f | exact S.not_d | exact S.pick_tt | exact S.pick_ff | exact S.pick_td (by assumption) | exact S.pick_fd (by assumption) | exact S.pick_b | exact S.box | exact S.alloc rfl | exact S.add_one (by omega) | exact S.sub_one (by omega) (by omega) | exact S.add (by unfold In64; omega) | exact S.sub (by unfold In64; omega) | exact S.mul (by unfold In64; omega) | exact S.add_w | exact S.sub_w | exact S.mul_w | exact S.min2 | exact S.max2 | exact S.build rfl rfl rfl | exact S.buildA rfl rfl rfl rfl | exact S.nilCheck | exact S.extract rfl | exact S.makeFunc | exact S.field1 rfl rfl rfl rfl rfl rfl rfl)) | (refine RT.goK0 rfl rfl rfl ?_; apply Nx.of; (first | exact S.store rfl rfl rfl rfl rfl rfl | exact S.makeFunc | exact S.nilCheck | exact S.field1 rfl rfl rfl rfl rfl rfl rfl)) | (refine RT.goK rfl rfl rfl rfl ?_; apply Nx.of; (first | exact S.lss_t (by decide) | exact S.lss_f (by decide) | exact S.leq_t (by decide) | exact S.leq_f (by decide) | exact S.eql_t (by decide) | exact S.eql_f (by decide) | exact S.neq_t (by decide) | exact S.neq_f (by decide) | exact S.index_arrI rfl rfl rfl rfl (by decide) (by decide) rfl | exact S.idx_arrI rfl rfl rfl (by decide) (by decide))))
    (first | refine rt_go rfl ?_ | refine rt_go (by exact rfl) ?_)
    rfl
noncomputable def fsA (B : CBook) : AV := if ansE B True = 0 then .tup [.int .i64 (fsV B), .int .i64 (fsE B)] else .tup [.int .i64 0, .int .i64 (ansE B True)]
end Go.Proofs.Ytcoklgmdifggbaa

/- What the laws on package claim share: the base's small functions, and whether there is a book. -/
namespace Go.Proofs.Ytcoklgmdifggbaa
open Go Go.Ev

set_option maxRecDepth 100000 in
theorem Amid_can (n lo hi : Int) : CanS 0 Try.prog 44 0 [.int .i64 n, .int .i64 lo, .int .i64 hi] [] 0 fun v _ _ => v = .bool (decide (lo ≤ n ∧ n ≤ hi)) := by
  refine CanS.mk Try.func44 rfl rfl rfl ?_
  repeat' (first | refine RT.nil ?_ | refine sq_n ?_ | refine Tr.seq ?_ | refine Tr.region ?_ | refine Tr.cond_t rfl ?_ | refine Tr.cond_f rfl ?_ | refine Tr.cond_d rfl (fun _ => ?_) (fun _ => ?_) | refine Tr.skip ?_ | refine Tr.ret ?_ | refine sq_r ?_ | refine Tr.exit ?_ | refine sq_x ?_ | refine Tr.block ?_ | refine blk_n ?_ | refine blk_r ?_ | refine blk_hit rfl ?_ | refine blk_pass rfl ?_ | refine Tr.label ?_ | refine Tr.scope ?_ | refine scp_n ?_ | refine scp_r ?_ | refine scp_x ?_ | refine lp_r ?_ | refine lp_x ?_ | (refine RT.splitd rfl rfl (fun _ => ?_) (fun _ => ?_)) | (refine RT.goK rfl rfl rfl rfl ?_; apply Nx.of; (first | exact S.move | exact S.assign | exact S.load1c rfl rfl rfl rfl | exact S.loadNc rfl rfl rfl rfl | exact S.fieldAddr rfl rfl rfl | exact S.leq | exact S.lss | exact S.eql | exact S.neq | exact S.geq | exact S.gtr | exact S.not_t | exact S.not_f | exact S.not_d | exact S.pick_tt | exact S.pick_ff | exact S.pick_td (by assumption) | exact S.pick_fd (by assumption) | exact S.pick_b | exact S.box | exact S.alloc rfl | exact S.add_one (by omega) | exact S.sub_one (by omega) (by omega) | exact S.add (by unfold In64; omega) | exact S.sub (by unfold In64; omega) | exact S.mul (by unfold In64; omega) | exact S.add_w | exact S.sub_w | exact S.mul_w | exact S.min2 | exact S.max2 | exact S.build rfl rfl rfl | exact S.buildA rfl rfl rfl rfl | exact S.nilCheck | exact S.extract rfl | exact S.makeFunc | exact S.rem (by omega))) | (refine RT.goK0 rfl rfl rfl ?_; apply Nx.of; (first | exact S.store rfl rfl rfl rfl rfl rfl | exact S.makeFunc | exact S.rem (by omega))) | (refine RT.no rfl rfl rfl ?_))
  all_goals
    (first | refine rt_go rfl ?_ | refine rt_go (by exact rfl) ?_)
    simp [*, retV]
theorem Amid_at (n lo hi : Int) (H : T AObj) (c fl : Nat) : OkAt 0 Try.prog fl 44 [.int .i64 n, .int .i64 lo, .int .i64 hi] H c (.bool (decide (lo ≤ n ∧ n ≤ hi))) H c :=
  (Amid_can n lo hi).pure (.bool _) (.plain fun _ => rfl) fl
set_option maxRecDepth 100000 in
theorem Reach_can (a b : Int) : CanS 0 Try.prog 52 0 [.int .i64 a, .int .i64 b] [] 0 fun v _ _ => v = .agg [.int .i64 a, .int .i64 b] := by
  refine CanS.mk Try.func52 rfl rfl rfl ?_
  repeat' (first | refine RT.nil ?_ | refine sq_n ?_ | refine Tr.seq ?_ | refine Tr.region ?_ | refine Tr.cond_t rfl ?_ | refine Tr.cond_f rfl ?_ | refine Tr.cond_d rfl (fun _ => ?_) (fun _ => ?_) | refine Tr.skip ?_ | refine Tr.ret ?_ | refine sq_r ?_ | refine Tr.exit ?_ | refine sq_x ?_ | refine Tr.block ?_ | refine blk_n ?_ | refine blk_r ?_ | refine blk_hit rfl ?_ | refine blk_pass rfl ?_ | refine Tr.label ?_ | refine Tr.scope ?_ | refine scp_n ?_ | refine scp_r ?_ | refine scp_x ?_ | refine lp_r ?_ | refine lp_x ?_ | (refine RT.goK rfl rfl rfl rfl ?_; apply Nx.of; (first | exact S.move | exact S.assign | exact S.load1c rfl rfl rfl rfl | exact S.loadNc rfl rfl rfl rfl | exact S.fieldAddr rfl rfl rfl | exact S.leq | exact S.lss | exact S.eql | exact S.neq | exact S.geq | exact S.gtr | exact S.not_t | exact S.not_f | exact S.not_d | exact S.pick_tt | exact S.pick_ff | exact S.pick_td (by assumption) | exact S.pick_fd (by assumption) | exact S.pick_b | exact S.box | exact S.alloc rfl | exact S.add_one (by omega) | exact S.sub_one (by omega) (by omega) | exact S.add (by unfold In64; omega) | exact S.sub (by unfold In64; omega) | exact S.mul (by unfold In64; omega) | exact S.add_w | exact S.sub_w | exact S.mul_w | exact S.min2 | exact S.max2 | exact S.build rfl rfl rfl | exact S.buildA rfl rfl rfl rfl | exact S.nilCheck | exact S.extract rfl | exact S.makeFunc | exact S.rem (by omega))) | (refine RT.goK0 rfl rfl rfl ?_; apply Nx.of; (first | exact S.store rfl rfl rfl rfl rfl rfl | exact S.makeFunc | exact S.rem (by omega))))
  (first | refine rt_go rfl ?_ | refine rt_go (by exact rfl) ?_)
  rfl
theorem Reach_at (a b : Int) (H : T AObj) (c fl : Nat) : OkAt 0 Try.prog fl 52 [.int .i64 a, .int .i64 b] H c (.agg [.int .i64 a, .int .i64 b]) H c :=
  (Reach_can a b).pure (fun _ => rfl) (.plain fun _ => rfl) fl

/-- Any number, brought below another one. -/
def wrapV (n k : Int) : Int := if k ≤ 0 then 0 else if n.tmod k < 0 then n.tmod k + k else n.tmod k
theorem tmod_bd {n k : Int} (hk : 0 < k) : -k < n.tmod k ∧ n.tmod k < k := by
  have h2 := Int.tmod_lt_of_pos n hk
  have h3 : -k < n.tmod k := by
    have := Int.lt_tmod_of_pos n hk
    omega
  exact ⟨h3, h2⟩
theorem wrapV_bd {n k : Int} (hk : 0 < k) : 0 ≤ wrapV n k ∧ wrapV n k < k := by
  have := tmod_bd (n := n) hk
  unfold wrapV
  rw [if_neg (by omega)]
  split <;> omega
set_option maxRecDepth 100000 in
theorem Wrap_can (n k : Int) (hk : k ≤ 1000000) : CanS 0 Try.prog 47 0 [.int .i64 n, .int .i64 k] [] 0 fun v _ _ => v = .int .i64 (wrapV n k) := by
  refine CanS.mk Try.func47 rfl rfl rfl ?_
  by_cases h : k ≤ 0
  · repeat' (first | refine RT.nil ?_ | refine sq_n ?_ | refine Tr.seq ?_ | refine Tr.region ?_ | refine Tr.cond_t rfl ?_ | refine Tr.cond_f rfl ?_ | refine Tr.cond_d rfl (fun _ => ?_) (fun _ => ?_) | refine Tr.skip ?_ | refine Tr.ret ?_ | refine sq_r ?_ | refine Tr.exit ?_ | refine sq_x ?_ | refine Tr.block ?_ | refine blk_n ?_ | refine blk_r ?_ | refine blk_hit rfl ?_ | refine blk_pass rfl ?_ | refine Tr.label ?_ | refine Tr.scope ?_ | refine scp_n ?_ | refine scp_r ?_ | refine scp_x ?_ | refine lp_r ?_ | refine lp_x ?_ | (refine RT.goK rfl rfl rfl rfl ?_; refine Nx.of (S.leq_t h) ?_) | (refine RT.goK rfl rfl rfl rfl ?_; apply Nx.of; (first | exact S.move | exact S.assign | exact S.load1c rfl rfl rfl rfl | exact S.loadNc rfl rfl rfl rfl | exact S.fieldAddr rfl rfl rfl | exact S.leq | exact S.lss | exact S.eql | exact S.neq | exact S.geq | exact S.gtr | exact S.not_t | exact S.not_f | exact S.not_d | exact S.pick_tt | exact S.pick_ff | exact S.pick_td (by assumption) | exact S.pick_fd (by assumption) | exact S.pick_b | exact S.box | exact S.alloc rfl | exact S.add_one (by omega) | exact S.sub_one (by omega) (by omega) | exact S.add (by unfold In64; omega) | exact S.sub (by unfold In64; omega) | exact S.mul (by unfold In64; omega) | exact S.add_w | exact S.sub_w | exact S.mul_w | exact S.min2 | exact S.max2 | exact S.build rfl rfl rfl | exact S.buildA rfl rfl rfl rfl | exact S.nilCheck | exact S.extract rfl | exact S.makeFunc | exact S.rem (by omega))) | (refine RT.goK0 rfl rfl rfl ?_; apply Nx.of; (first | exact S.store rfl rfl rfl rfl rfl rfl | exact S.makeFunc | exact S.rem (by omega))))
    (first | refine rt_go rfl ?_ | refine rt_go (by exact rfl) ?_)
    unfold wrapV
    rw [if_pos h]
    rfl
  · have := tmod_bd (n := n) (show 0 < k by omega)
    repeat' (first | refine RT.nil ?_ | refine sq_n ?_ | refine Tr.seq ?_ | refine Tr.region ?_ | refine Tr.cond_t rfl ?_ | refine Tr.cond_f rfl ?_ | refine Tr.cond_d rfl (fun _ => ?_) (fun _ => ?_) | refine Tr.skip ?_ | refine Tr.ret ?_ | refine sq_r ?_ | refine Tr.exit ?_ | refine sq_x ?_ | refine Tr.block ?_ | refine blk_n ?_ | refine blk_r ?_ | refine blk_hit rfl ?_ | refine blk_pass rfl ?_ | refine Tr.label ?_ | refine Tr.scope ?_ | refine scp_n ?_ | refine scp_r ?_ | refine scp_x ?_ | refine lp_r ?_ | refine lp_x ?_ | (refine RT.goK rfl rfl rfl rfl ?_; refine Nx.of (S.leq_f h) ?_) | (refine RT.goK rfl rfl rfl rfl ?_; apply Nx.of; (first | exact S.move | exact S.assign | exact S.load1c rfl rfl rfl rfl | exact S.loadNc rfl rfl rfl rfl | exact S.fieldAddr rfl rfl rfl | exact S.leq | exact S.lss | exact S.eql | exact S.neq | exact S.geq | exact S.gtr | exact S.not_t | exact S.not_f | exact S.not_d | exact S.pick_tt | exact S.pick_ff | exact S.pick_td (by assumption) | exact S.pick_fd (by assumption) | exact S.pick_b | exact S.box | exact S.alloc rfl | exact S.add_one (by omega) | exact S.sub_one (by omega) (by omega) | exact S.add (by unfold In64; omega) | exact S.sub (by unfold In64; omega) | exact S.mul (by unfold In64; omega) | exact S.add_w | exact S.sub_w | exact S.mul_w | exact S.min2 | exact S.max2 | exact S.build rfl rfl rfl | exact S.buildA rfl rfl rfl rfl | exact S.nilCheck | exact S.extract rfl | exact S.makeFunc | exact S.rem (by omega))) | (refine RT.goK0 rfl rfl rfl ?_; apply Nx.of; (first | exact S.store rfl rfl rfl rfl rfl rfl | exact S.makeFunc | exact S.rem (by omega))))
    all_goals
      (first | refine rt_go rfl ?_ | refine rt_go (by exact rfl) ?_)
      unfold wrapV
      rw [if_neg h]
    · rw [if_pos (by assumption)]; rfl
    · rw [if_neg (by assumption)]; rfl
theorem Wrap_at (n k : Int) (hk : k ≤ 1000000) (H : T AObj) (c fl : Nat) : OkAt 0 Try.prog fl 47 [.int .i64 n, .int .i64 k] H c (.int .i64 (wrapV n k)) H c :=
  (Wrap_can n k hk).pure (.int _ _) (.plain fun _ => rfl) fl
set_option maxRecDepth 100000 in
theorem Sane_can (lo hi a b d : Int) (h : -100000 ≤ a ∧ b ≤ 100000) : CanS 0 Try.prog 62 0 [.agg [.int .i64 lo, .int .i64 hi], .int .i64 a, .int .i64 b, .int .i64 d] [] 0 fun v _ _ => v = .bool (decide (a ≤ lo ∧ lo ≤ hi ∧ hi ≤ b ∧ hi - lo ≤ d)) := by
  refine CanS.mk Try.func62 rfl rfl rfl ?_
  repeat' (first | refine RT.nil ?_ | refine sq_n ?_ | refine Tr.seq ?_ | refine Tr.region ?_ | refine Tr.cond_t rfl ?_ | refine Tr.cond_f rfl ?_ | refine Tr.cond_d rfl (fun _ => ?_) (fun _ => ?_) | refine Tr.skip ?_ | refine Tr.ret ?_ | refine sq_r ?_ | refine Tr.exit ?_ | refine sq_x ?_ | refine Tr.block ?_ | refine blk_n ?_ | refine blk_r ?_ | refine blk_hit rfl ?_ | refine blk_pass rfl ?_ | refine Tr.label ?_ | refine Tr.scope ?_ | refine scp_n ?_ | refine scp_r ?_ | refine scp_x ?_ | refine lp_r ?_ | refine lp_x ?_ | (refine RT.splitd rfl rfl (fun _ => ?_) (fun _ => ?_)) | (refine RT.goK rfl rfl rfl rfl ?_; apply Nx.of; (first | exact S.move | exact S.assign | exact S.load1c rfl rfl rfl rfl | exact S.loadNc rfl rfl rfl rfl | exact S.fieldAddr rfl rfl rfl | exact S.leq | exact S.lss | exact S.eql | exact S.neq | exact S.geq | exact S.gtr | exact S.not_t | exact S.not_f | exact S.not_d | exact S.pick_tt | exact S.pick_ff | exact S.pick_td (by assumption) | exact S.pick_fd (by assumption) | exact S.pick_b | exact S.box | exact S.alloc rfl | exact S.add_one (by omega) | exact S.sub_one (by omega) (by omega) | exact S.add (by unfold In64; omega) | exact S.sub (by unfold In64; omega) | exact S.mul (by unfold In64; omega) | exact S.add_w | exact S.sub_w | exact S.mul_w | exact S.min2 | exact S.max2 | exact S.build rfl rfl rfl | exact S.buildA rfl rfl rfl rfl | exact S.nilCheck | exact S.extract rfl | exact S.makeFunc | exact S.rem (by omega))) | (refine RT.goK0 rfl rfl rfl ?_; apply Nx.of; (first | exact S.store rfl rfl rfl rfl rfl rfl | exact S.makeFunc | exact S.rem (by omega))) | (refine RT.no rfl rfl rfl ?_))
  all_goals
    (first | refine rt_go rfl ?_ | refine rt_go (by exact rfl) ?_)
    simp [*, retV]
theorem Sane_at (lo hi a b d : Int) (h : -100000 ≤ a ∧ b ≤ 100000) (H : T AObj) (c fl : Nat) : OkAt 0 Try.prog fl 62 [.agg [.int .i64 lo, .int .i64 hi], .int .i64 a, .int .i64 b, .int .i64 d] H c (.bool (decide (a ≤ lo ∧ lo ≤ hi ∧ hi ≤ b ∧ hi - lo ≤ d))) H c :=
  (Sane_can lo hi a b d h).pure (.bool _) (.plain fun _ => rfl) fl
end Go.Proofs.Ytcoklgmdifggbaa

/- Whether there is a book of claims, as the laws ask it. -/
namespace Go.Proofs.Ytcoklgmdifggbaa
open Go Go.Ev

theorem Amid_t {n lo hi : Int} (h : lo ≤ n ∧ n ≤ hi) (H : T AObj) (c fl : Nat) : OkAt 0 Try.prog fl 44 [.int .i64 n, .int .i64 lo, .int .i64 hi] H c (.bool true) H c := by
  have := Amid_at n lo hi H c fl
  rwa [decide_eq_true h] at this
theorem Sane_t {lo hi a b d : Int} (h0 : -100000 ≤ a ∧ b ≤ 100000) (h : a ≤ lo ∧ lo ≤ hi ∧ hi ≤ b ∧ hi - lo ≤ d) (H : T AObj) (c fl : Nat) : OkAt 0 Try.prog fl 62 [.agg [.int .i64 lo, .int .i64 hi], .int .i64 a, .int .i64 b, .int .i64 d] H c (.bool true) H c := by
  have := Sane_at lo hi a b d h0 H c fl
  rwa [decide_eq_true h] at this

set_option maxRecDepth 100000 in
set_option maxHeartbeats 4000000 in
theorem sound_no (B : CBook) (a1 a2 : AV) (h1 : IsSl a1 B.ns 0) (h2 : IsSl a2 B.nc 1) (hn : B.ns ≤ 9223372036854775807) (hB : ¬ bkOk B) : CanS 0 Try.prog 40 2 [bk B a1 a2] [(0, some (oSt B)), (1, some (oCk B))] 2 fun v _ _ => v = .bool false := by
  refine CanS.mk Try.func40 rfl rfl rfl ?_
  repeat' (first | refine RT.nil ?_ | refine sq_n ?_ | refine Tr.seq ?_ | refine Tr.region ?_ | refine Tr.cond_t rfl ?_ | refine Tr.cond_f rfl ?_ | refine Tr.cond_d rfl (fun _ => ?_) (fun _ => ?_) | refine Tr.skip ?_ | refine Tr.ret ?_ | refine sq_r ?_ | refine Tr.exit ?_ | refine sq_x ?_ | refine Tr.block ?_ | refine blk_n ?_ | refine blk_r ?_ | refine blk_hit rfl ?_ | refine blk_pass rfl ?_ | refine Tr.label ?_ | refine Tr.scope ?_ | refine scp_n ?_ | refine scp_r ?_ | refine scp_x ?_ | refine lp_r ?_ | refine lp_x ?_ | (refine RT.call rfl rfl rfl (Check_ok ⟨h1, h2, rfl, rfl, by decide⟩ hn hB _) rfl rfl (Nat.le_refl _) ?_) | (refine RT.call rfl rfl rfl (Check_no ⟨h1, h2, rfl, rfl, by decide⟩ hn hB _) rfl rfl (Nat.le_refl _) ?_) | (refine RT.goK rfl rfl rfl rfl ?_; apply Nx.of; (first | exact S.lss_t (by decide) | exact S.lss_f (by decide) | exact S.leq_t (by decide) | exact S.leq_f (by decide) | exact S.eql_t (by decide) | exact S.eql_f (by decide) | exact S.neq_t (by decide) | exact S.neq_f (by decide) | exact S.index_arrI rfl rfl rfl rfl (by decide) (by decide) rfl | exact S.idx_arrI rfl rfl rfl (by decide) (by decide))) | (refine RT.goK rfl rfl rfl rfl ?_; apply Nx.of; (first | exact S.move | exact S.assign | exact S.load1c rfl rfl rfl rfl | exact S.loadNc rfl rfl rfl rfl | exact S.fieldAddr rfl rfl rfl | exact S.leq | exact S.lss | exact S.eql | exact S.neq | exact S.geq | exact S.gtr | exact S.not_t | exact S.not_f | exact S.not_d | exact S.pick_tt | exact S.pick_ff | exact S.pick_td (by assumption) | exact S.pick_fd (by assumption) | exact S.pick_b | exact S.box | exact S.alloc rfl | exact S.add_one (by omega) | exact S.sub_one (by omega) (by omega) | exact S.add (by unfold In64; omega) | exact S.sub (by unfold In64; omega) | exact S.mul (by unfold In64; omega) | exact S.add_w | exact S.sub_w | exact S.mul_w | exact S.min2 | exact S.max2 | exact S.build rfl rfl rfl | exact S.buildA rfl rfl rfl rfl | exact S.nilCheck | exact S.extract rfl)) | (refine RT.goK0 rfl rfl rfl ?_; apply Nx.of; (first | exact S.store rfl rfl rfl rfl rfl rfl)) | (refine RT.goK rfl rfl rfl rfl ?_; apply Nx.of; (first | exact S.idx_sl rfl rfl rfl (by assumption) (by omega) | exact S.idx_slI rfl rfl rfl (by assumption) (by omega) (by omega) | exact S.rowN0 rfl rfl rfl (fun _ => rfl) (range_at (by omega)) rfl | exact S.rowN rfl rfl rfl (fun _ => rfl) (range_at (by omega)) rfl | exact S.row0 rfl rfl rfl (fun _ => rfl) (range_at (by omega)) rfl | exact S.row rfl rfl rfl (fun _ => rfl) (range_at (by omega)) rfl | exact S.row2 rfl rfl rfl (fun _ => rfl) (range_at (by omega)) rfl | exact S.len_sl rfl rfl rfl (by assumption))) | (refine RT.no rfl rfl rfl ?_))
  refine Tr.unroll 1 ?_
  repeat' (first | refine RT.nil ?_ | refine sq_n ?_ | refine Tr.seq ?_ | refine Tr.region ?_ | refine Tr.cond_t rfl ?_ | refine Tr.cond_f rfl ?_ | refine Tr.cond_d rfl (fun _ => ?_) (fun _ => ?_) | refine Tr.skip ?_ | refine Tr.ret ?_ | refine sq_r ?_ | refine Tr.exit ?_ | refine sq_x ?_ | refine Tr.block ?_ | refine blk_n ?_ | refine blk_r ?_ | refine blk_hit rfl ?_ | refine blk_pass rfl ?_ | refine Tr.label ?_ | refine Tr.scope ?_ | refine scp_n ?_ | refine scp_r ?_ | refine scp_x ?_ | refine lp_r ?_ | refine lp_x ?_ | refine un_n ?_ | refine un_r ?_ | refine un_x ?_ | (refine RT.goK rfl rfl rfl rfl ?_; apply Nx.of; (first | exact S.lss_t (by decide) | exact S.lss_f (by decide) | exact S.leq_t (by decide) | exact S.leq_f (by decide) | exact S.eql_t (by decide) | exact S.eql_f (by decide) | exact S.neq_t (by decide) | exact S.neq_f (by decide) | exact S.index_arrI rfl rfl rfl rfl (by decide) (by decide) rfl | exact S.idx_arrI rfl rfl rfl (by decide) (by decide))) | (refine RT.goK rfl rfl rfl rfl ?_; apply Nx.of; (first | exact S.move | exact S.assign | exact S.load1c rfl rfl rfl rfl | exact S.loadNc rfl rfl rfl rfl | exact S.fieldAddr rfl rfl rfl | exact S.leq | exact S.lss | exact S.eql | exact S.neq | exact S.geq | exact S.gtr | exact S.not_t | exact S.not_f | exact S.not_d | exact S.pick_tt | exact S.pick_ff | exact S.pick_td (by assumption) | exact S.pick_fd (by assumption) | exact S.pick_b | exact S.box | exact S.alloc rfl | exact S.add_one (by omega) | exact S.sub_one (by omega) (by omega) | exact S.add (by unfold In64; omega) | exact S.sub (by unfold In64; omega) | exact S.mul (by unfold In64; omega) | exact S.add_w | exact S.sub_w | exact S.mul_w | exact S.min2 | exact S.max2 | exact S.build rfl rfl rfl | exact S.buildA rfl rfl rfl rfl | exact S.nilCheck | exact S.extract rfl)) | (refine RT.goK0 rfl rfl rfl ?_; apply Nx.of; (first | exact S.store rfl rfl rfl rfl rfl rfl)) | (refine RT.no rfl rfl rfl ?_))
  refine Tr.unroll 1 ?_
  repeat' (first | refine RT.nil ?_ | refine sq_n ?_ | refine Tr.seq ?_ | refine Tr.region ?_ | refine Tr.cond_t rfl ?_ | refine Tr.cond_f rfl ?_ | refine Tr.cond_d rfl (fun _ => ?_) (fun _ => ?_) | refine Tr.skip ?_ | refine Tr.ret ?_ | refine sq_r ?_ | refine Tr.exit ?_ | refine sq_x ?_ | refine Tr.block ?_ | refine blk_n ?_ | refine blk_r ?_ | refine blk_hit rfl ?_ | refine blk_pass rfl ?_ | refine Tr.label ?_ | refine Tr.scope ?_ | refine scp_n ?_ | refine scp_r ?_ | refine scp_x ?_ | refine lp_r ?_ | refine lp_x ?_ | refine un_n ?_ | refine un_r ?_ | refine un_x ?_ | (refine RT.goK rfl rfl rfl rfl ?_; apply Nx.of; (first | exact S.lss_t (by decide) | exact S.lss_f (by decide) | exact S.leq_t (by decide) | exact S.leq_f (by decide) | exact S.eql_t (by decide) | exact S.eql_f (by decide) | exact S.neq_t (by decide) | exact S.neq_f (by decide) | exact S.index_arrI rfl rfl rfl rfl (by decide) (by decide) rfl | exact S.idx_arrI rfl rfl rfl (by decide) (by decide))) | (refine RT.goK rfl rfl rfl rfl ?_; apply Nx.of; (first | exact S.move | exact S.assign | exact S.load1c rfl rfl rfl rfl | exact S.loadNc rfl rfl rfl rfl | exact S.fieldAddr rfl rfl rfl | exact S.leq | exact S.lss | exact S.eql | exact S.neq | exact S.geq | exact S.gtr | exact S.not_t | exact S.not_f | exact S.not_d | exact S.pick_tt | exact S.pick_ff | exact S.pick_td (by assumption) | exact S.pick_fd (by assumption) | exact S.pick_b | exact S.box | exact S.alloc rfl | exact S.add_one (by omega) | exact S.sub_one (by omega) (by omega) | exact S.add (by unfold In64; omega) | exact S.sub (by unfold In64; omega) | exact S.mul (by unfold In64; omega) | exact S.add_w | exact S.sub_w | exact S.mul_w | exact S.min2 | exact S.max2 | exact S.build rfl rfl rfl | exact S.buildA rfl rfl rfl rfl | exact S.nilCheck | exact S.extract rfl)) | (refine RT.goK0 rfl rfl rfl ?_; apply Nx.of; (first | exact S.store rfl rfl rfl rfl rfl rfl)) | (refine RT.no rfl rfl rfl ?_))
  refine Tr.unroll 1 ?_
  repeat' (first | refine RT.nil ?_ | refine sq_n ?_ | refine Tr.seq ?_ | refine Tr.region ?_ | refine Tr.cond_t rfl ?_ | refine Tr.cond_f rfl ?_ | refine Tr.cond_d rfl (fun _ => ?_) (fun _ => ?_) | refine Tr.skip ?_ | refine Tr.ret ?_ | refine sq_r ?_ | refine Tr.exit ?_ | refine sq_x ?_ | refine Tr.block ?_ | refine blk_n ?_ | refine blk_r ?_ | refine blk_hit rfl ?_ | refine blk_pass rfl ?_ | refine Tr.label ?_ | refine Tr.scope ?_ | refine scp_n ?_ | refine scp_r ?_ | refine scp_x ?_ | refine lp_r ?_ | refine lp_x ?_ | refine un_n ?_ | refine un_r ?_ | refine un_x ?_ | (refine RT.goK rfl rfl rfl rfl ?_; apply Nx.of; (first | exact S.lss_t (by decide) | exact S.lss_f (by decide) | exact S.leq_t (by decide) | exact S.leq_f (by decide) | exact S.eql_t (by decide) | exact S.eql_f (by decide) | exact S.neq_t (by decide) | exact S.neq_f (by decide) | exact S.index_arrI rfl rfl rfl rfl (by decide) (by decide) rfl | exact S.idx_arrI rfl rfl rfl (by decide) (by decide))) | (refine RT.goK rfl rfl rfl rfl ?_; apply Nx.of; (first | exact S.move | exact S.assign | exact S.load1c rfl rfl rfl rfl | exact S.loadNc rfl rfl rfl rfl | exact S.fieldAddr rfl rfl rfl | exact S.leq | exact S.lss | exact S.eql | exact S.neq | exact S.geq | exact S.gtr | exact S.not_t | exact S.not_f | exact S.not_d | exact S.pick_tt | exact S.pick_ff | exact S.pick_td (by assumption) | exact S.pick_fd (by assumption) | exact S.pick_b | exact S.box | exact S.alloc rfl | exact S.add_one (by omega) | exact S.sub_one (by omega) (by omega) | exact S.add (by unfold In64; omega) | exact S.sub (by unfold In64; omega) | exact S.mul (by unfold In64; omega) | exact S.add_w | exact S.sub_w | exact S.mul_w | exact S.min2 | exact S.max2 | exact S.build rfl rfl rfl | exact S.buildA rfl rfl rfl rfl | exact S.nilCheck | exact S.extract rfl)) | (refine RT.goK0 rfl rfl rfl ?_; apply Nx.of; (first | exact S.store rfl rfl rfl rfl rfl rfl)) | (refine RT.no rfl rfl rfl ?_))
  (first | refine rt_go rfl ?_ | refine rt_go (by exact rfl) ?_)
  rfl
set_option maxRecDepth 100000 in
set_option maxHeartbeats 4000000 in
theorem sound_yes (B : CBook) (a1 a2 : AV) (h1 : IsSl a1 B.ns 0) (h2 : IsSl a2 B.nc 1) (hn : B.ns ≤ 9223372036854775807) (hB : bkOk B) : CanS 0 Try.prog 40 2 [bk B a1 a2] [(0, some (oSt B)), (1, some (oCk B))] 2 fun v _ _ => v = .bool true := by
  obtain ⟨⟨hns, hst⟩, hw, ⟨hnc, hck⟩, hr⟩ := id hB
  unfold weaOk at hw
  refine CanS.mk Try.func40 rfl rfl rfl ?_
  repeat' (first | refine RT.nil ?_ | refine sq_n ?_ | refine Tr.seq ?_ | refine Tr.region ?_ | refine Tr.cond_t rfl ?_ | refine Tr.cond_f rfl ?_ | refine Tr.cond_d rfl (fun _ => ?_) (fun _ => ?_) | refine Tr.skip ?_ | refine Tr.ret ?_ | refine sq_r ?_ | refine Tr.exit ?_ | refine sq_x ?_ | refine Tr.block ?_ | refine blk_n ?_ | refine blk_r ?_ | refine blk_hit rfl ?_ | refine blk_pass rfl ?_ | refine Tr.label ?_ | refine Tr.scope ?_ | refine scp_n ?_ | refine scp_r ?_ | refine scp_x ?_ | refine lp_r ?_ | refine lp_x ?_ | (refine RT.call rfl rfl rfl (Check_ok ⟨h1, h2, rfl, rfl, by decide⟩ hn hB _) rfl rfl (Nat.le_refl _) ?_) | (refine RT.call rfl rfl rfl (Check_no ⟨h1, h2, rfl, rfl, by decide⟩ hn hB _) rfl rfl (Nat.le_refl _) ?_) | (refine RT.call rfl rfl rfl (Amid_t (by omega) _ _ _) rfl rfl (Nat.le_refl _) ?_) | (refine RT.call rfl rfl rfl (Sane_t (by decide) (by omega) _ _ _) rfl rfl (Nat.le_refl _) ?_) | (refine RT.goK rfl rfl rfl rfl ?_; first | refine Nx.of (S.lss_t (by omega)) ?_ | refine Nx.of (S.lss_f (by omega)) ?_ | refine Nx.of (S.leq_t (by omega)) ?_) | (refine RT.goK rfl rfl rfl rfl ?_; apply Nx.of; (first | exact S.lss_t (by decide) | exact S.lss_f (by decide) | exact S.leq_t (by decide) | exact S.leq_f (by decide) | exact S.eql_t (by decide) | exact S.eql_f (by decide) | exact S.neq_t (by decide) | exact S.neq_f (by decide) | exact S.index_arrI rfl rfl rfl rfl (by decide) (by decide) rfl | exact S.idx_arrI rfl rfl rfl (by decide) (by decide))) | (refine RT.goK rfl rfl rfl rfl ?_; apply Nx.of; (first | exact S.move | exact S.assign | exact S.load1c rfl rfl rfl rfl | exact S.loadNc rfl rfl rfl rfl | exact S.fieldAddr rfl rfl rfl | exact S.leq | exact S.lss | exact S.eql | exact S.neq | exact S.geq | exact S.gtr | exact S.not_t | exact S.not_f | exact S.not_d | exact S.pick_tt | exact S.pick_ff | exact S.pick_td (by assumption) | exact S.pick_fd (by assumption) | exact S.pick_b | exact S.box | exact S.alloc rfl | exact S.add_one (by omega) | exact S.sub_one (by omega) (by omega) | exact S.add (by unfold In64; omega) | exact S.sub (by unfold In64; omega) | exact S.mul (by unfold In64; omega) | exact S.add_w | exact S.sub_w | exact S.mul_w | exact S.min2 | exact S.max2 | exact S.build rfl rfl rfl | exact S.buildA rfl rfl rfl rfl | exact S.nilCheck | exact S.extract rfl)) | (refine RT.goK0 rfl rfl rfl ?_; apply Nx.of; (first | exact S.store rfl rfl rfl rfl rfl rfl)) | (refine RT.goK rfl rfl rfl rfl ?_; apply Nx.of; (first | exact S.idx_sl rfl rfl rfl (by assumption) (by omega) | exact S.idx_slI rfl rfl rfl (by assumption) (by omega) (by omega) | exact S.rowN0 rfl rfl rfl (fun _ => rfl) (range_at (by omega)) rfl | exact S.rowN rfl rfl rfl (fun _ => rfl) (range_at (by omega)) rfl | exact S.row0 rfl rfl rfl (fun _ => rfl) (range_at (by omega)) rfl | exact S.row rfl rfl rfl (fun _ => rfl) (range_at (by omega)) rfl | exact S.row2 rfl rfl rfl (fun _ => rfl) (range_at (by omega)) rfl | exact S.len_sl rfl rfl rfl (by assumption))) | (refine RT.no rfl rfl rfl ?_))
  refine Tr.loop (fun k : Nat => stL Try.f40.ntmps [] [(1, .ptr 2 0), (2, .bool false), (3, .bool true), (4, .int .i64 k)] [(2, some (.cells (bk B a1 a2).cells)), (0, some (oSt B)), (1, some (oCk B))] 3) (fun k => k ≤ B.ns) (fun k => B.ns - k) 0 (Nat.zero_le _) (by (refine Wk.same (by decide) (by decide) (by decide) (by decide) ?_ ?_ rfl; all_goals ((try simp only [allL, allM]); (repeat' (first | exact trivial | refine And.intro ?_ ?_)); all_goals (first | rfl | exact congrArg some (congrArg (AV.int .i64) (by omega)) | exact IsSl.ren (by assumption) (nm_lt (by decide)) | exact ren_ro _ _ _ | exact ren_grown _ _ _ _ | exact bk_ren h1 h2 (nm_lt (by decide)) (nm_lt (by decide)) | exact bkc_ren h1 h2 (nm_lt (by decide)) (nm_lt (by decide)) | decide)))) (fun k hk => ?_)
  by_cases hlt : k < B.ns
  · have hs := hst k hlt
    unfold stOk at hs
    have hb := before_bd B k fun i hi => hst i (by omega)
    repeat' (first | refine RT.nil ?_ | refine sq_n ?_ | refine Tr.seq ?_ | refine Tr.region ?_ | refine Tr.cond_t rfl ?_ | refine Tr.cond_f rfl ?_ | refine Tr.cond_d rfl (fun _ => ?_) (fun _ => ?_) | refine Tr.skip ?_ | refine Tr.ret ?_ | refine sq_r ?_ | refine Tr.exit ?_ | refine sq_x ?_ | refine Tr.block ?_ | refine blk_n ?_ | refine blk_r ?_ | refine blk_hit rfl ?_ | refine blk_pass rfl ?_ | refine Tr.label ?_ | refine Tr.scope ?_ | refine scp_n ?_ | refine scp_r ?_ | refine scp_x ?_ | refine lp_r ?_ | refine lp_x ?_ | (refine RT.call rfl rfl rfl (Amid_t (by omega) _ _ _) rfl rfl (Nat.le_refl _) ?_) | (refine RT.call rfl rfl rfl (Sane_t (by decide) (by omega) _ _ _) rfl rfl (Nat.le_refl _) ?_) | (refine RT.goK rfl rfl rfl rfl ?_; first | refine Nx.of (S.lss_t (by omega)) ?_ | refine Nx.of (S.lss_f (by omega)) ?_ | refine Nx.of (S.leq_t (by omega)) ?_) | (refine RT.goK rfl rfl rfl rfl ?_; apply Nx.of; (first | exact S.lss_t (by decide) | exact S.lss_f (by decide) | exact S.leq_t (by decide) | exact S.leq_f (by decide) | exact S.eql_t (by decide) | exact S.eql_f (by decide) | exact S.neq_t (by decide) | exact S.neq_f (by decide) | exact S.index_arrI rfl rfl rfl rfl (by decide) (by decide) rfl | exact S.idx_arrI rfl rfl rfl (by decide) (by decide))) | (refine RT.goK rfl rfl rfl rfl ?_; apply Nx.of; (first | exact S.move | exact S.assign | exact S.load1c rfl rfl rfl rfl | exact S.loadNc rfl rfl rfl rfl | exact S.fieldAddr rfl rfl rfl | exact S.leq | exact S.lss | exact S.eql | exact S.neq | exact S.geq | exact S.gtr | exact S.not_t | exact S.not_f | exact S.not_d | exact S.pick_tt | exact S.pick_ff | exact S.pick_td (by assumption) | exact S.pick_fd (by assumption) | exact S.pick_b | exact S.box | exact S.alloc rfl | exact S.add_one (by omega) | exact S.sub_one (by omega) (by omega) | exact S.add (by unfold In64; omega) | exact S.sub (by unfold In64; omega) | exact S.mul (by unfold In64; omega) | exact S.add_w | exact S.sub_w | exact S.mul_w | exact S.min2 | exact S.max2 | exact S.build rfl rfl rfl | exact S.buildA rfl rfl rfl rfl | exact S.nilCheck | exact S.extract rfl)) | (refine RT.goK0 rfl rfl rfl ?_; apply Nx.of; (first | exact S.store rfl rfl rfl rfl rfl rfl)) | (refine RT.goK rfl rfl rfl rfl ?_; apply Nx.of; (first | exact S.idx_sl rfl rfl rfl (by assumption) (by omega) | exact S.idx_slI rfl rfl rfl (by assumption) (by omega) (by omega) | exact S.rowN0 rfl rfl rfl (fun _ => rfl) (range_at (by omega)) rfl | exact S.rowN rfl rfl rfl (fun _ => rfl) (range_at (by omega)) rfl | exact S.row0 rfl rfl rfl (fun _ => rfl) (range_at (by omega)) rfl | exact S.row rfl rfl rfl (fun _ => rfl) (range_at (by omega)) rfl | exact S.row2 rfl rfl rfl (fun _ => rfl) (range_at (by omega)) rfl | exact S.len_sl rfl rfl rfl (by assumption))) | (refine RT.no rfl rfl rfl ?_))
    refine lp_n (k + 1) hlt (by omega) (by (refine Wk.same (by decide) (by decide) (by decide) (by decide) ?_ ?_ rfl; all_goals ((try simp only [allL, allM]); (repeat' (first | exact trivial | refine And.intro ?_ ?_)); all_goals (first | rfl | exact congrArg some (congrArg (AV.int .i64) (by omega)) | exact IsSl.ren (by assumption) (nm_lt (by decide)) | exact ren_ro _ _ _ | exact ren_grown _ _ _ _ | exact bk_ren h1 h2 (nm_lt (by decide)) (nm_lt (by decide)) | exact bkc_ren h1 h2 (nm_lt (by decide)) (nm_lt (by decide)) | decide))))
  obtain rfl : k = B.ns := by omega
  repeat' (first | refine RT.nil ?_ | refine sq_n ?_ | refine Tr.seq ?_ | refine Tr.region ?_ | refine Tr.cond_t rfl ?_ | refine Tr.cond_f rfl ?_ | refine Tr.cond_d rfl (fun _ => ?_) (fun _ => ?_) | refine Tr.skip ?_ | refine Tr.ret ?_ | refine sq_r ?_ | refine Tr.exit ?_ | refine sq_x ?_ | refine Tr.block ?_ | refine blk_n ?_ | refine blk_r ?_ | refine blk_hit rfl ?_ | refine blk_pass rfl ?_ | refine Tr.label ?_ | refine Tr.scope ?_ | refine scp_n ?_ | refine scp_r ?_ | refine scp_x ?_ | refine lp_r ?_ | refine lp_x ?_ | (refine RT.call rfl rfl rfl (Amid_t (by omega) _ _ _) rfl rfl (Nat.le_refl _) ?_) | (refine RT.call rfl rfl rfl (Sane_t (by decide) (by omega) _ _ _) rfl rfl (Nat.le_refl _) ?_) | (refine RT.goK rfl rfl rfl rfl ?_; first | refine Nx.of (S.lss_t (by omega)) ?_ | refine Nx.of (S.lss_f (by omega)) ?_ | refine Nx.of (S.leq_t (by omega)) ?_) | (refine RT.goK rfl rfl rfl rfl ?_; apply Nx.of; (first | exact S.lss_t (by decide) | exact S.lss_f (by decide) | exact S.leq_t (by decide) | exact S.leq_f (by decide) | exact S.eql_t (by decide) | exact S.eql_f (by decide) | exact S.neq_t (by decide) | exact S.neq_f (by decide) | exact S.index_arrI rfl rfl rfl rfl (by decide) (by decide) rfl | exact S.idx_arrI rfl rfl rfl (by decide) (by decide))) | (refine RT.goK rfl rfl rfl rfl ?_; apply Nx.of; (first | exact S.move | exact S.assign | exact S.load1c rfl rfl rfl rfl | exact S.loadNc rfl rfl rfl rfl | exact S.fieldAddr rfl rfl rfl | exact S.leq | exact S.lss | exact S.eql | exact S.neq | exact S.geq | exact S.gtr | exact S.not_t | exact S.not_f | exact S.not_d | exact S.pick_tt | exact S.pick_ff | exact S.pick_td (by assumption) | exact S.pick_fd (by assumption) | exact S.pick_b | exact S.box | exact S.alloc rfl | exact S.add_one (by omega) | exact S.sub_one (by omega) (by omega) | exact S.add (by unfold In64; omega) | exact S.sub (by unfold In64; omega) | exact S.mul (by unfold In64; omega) | exact S.add_w | exact S.sub_w | exact S.mul_w | exact S.min2 | exact S.max2 | exact S.build rfl rfl rfl | exact S.buildA rfl rfl rfl rfl | exact S.nilCheck | exact S.extract rfl)) | (refine RT.goK0 rfl rfl rfl ?_; apply Nx.of; (first | exact S.store rfl rfl rfl rfl rfl rfl)) | (refine RT.goK rfl rfl rfl rfl ?_; apply Nx.of; (first | exact S.idx_sl rfl rfl rfl (by assumption) (by omega) | exact S.idx_slI rfl rfl rfl (by assumption) (by omega) (by omega) | exact S.rowN0 rfl rfl rfl (fun _ => rfl) (range_at (by omega)) rfl | exact S.rowN rfl rfl rfl (fun _ => rfl) (range_at (by omega)) rfl | exact S.row0 rfl rfl rfl (fun _ => rfl) (range_at (by omega)) rfl | exact S.row rfl rfl rfl (fun _ => rfl) (range_at (by omega)) rfl | exact S.row2 rfl rfl rfl (fun _ => rfl) (range_at (by omega)) rfl | exact S.len_sl rfl rfl rfl (by assumption))) | (refine RT.no rfl rfl rfl ?_))
  refine Tr.unroll 4 ?_
  repeat' (first | refine RT.nil ?_ | refine sq_n ?_ | refine Tr.seq ?_ | refine Tr.region ?_ | refine Tr.cond_t rfl ?_ | refine Tr.cond_f rfl ?_ | refine Tr.cond_d rfl (fun _ => ?_) (fun _ => ?_) | refine Tr.skip ?_ | refine Tr.ret ?_ | refine sq_r ?_ | refine Tr.exit ?_ | refine sq_x ?_ | refine Tr.block ?_ | refine blk_n ?_ | refine blk_r ?_ | refine blk_hit rfl ?_ | refine blk_pass rfl ?_ | refine Tr.label ?_ | refine Tr.scope ?_ | refine scp_n ?_ | refine scp_r ?_ | refine scp_x ?_ | refine lp_r ?_ | refine lp_x ?_ | refine un_n ?_ | refine un_r ?_ | refine un_x ?_ | (refine RT.call rfl rfl rfl (Amid_t (by omega) _ _ _) rfl rfl (Nat.le_refl _) ?_) | (refine RT.call rfl rfl rfl (Sane_t (by decide) (by omega) _ _ _) rfl rfl (Nat.le_refl _) ?_) | (refine RT.goK rfl rfl rfl rfl ?_; first | refine Nx.of (S.lss_t (by omega)) ?_ | refine Nx.of (S.lss_f (by omega)) ?_ | refine Nx.of (S.leq_t (by omega)) ?_) | (refine RT.goK rfl rfl rfl rfl ?_; apply Nx.of; (first | exact S.lss_t (by decide) | exact S.lss_f (by decide) | exact S.leq_t (by decide) | exact S.leq_f (by decide) | exact S.eql_t (by decide) | exact S.eql_f (by decide) | exact S.neq_t (by decide) | exact S.neq_f (by decide) | exact S.index_arrI rfl rfl rfl rfl (by decide) (by decide) rfl | exact S.idx_arrI rfl rfl rfl (by decide) (by decide))) | (refine RT.goK rfl rfl rfl rfl ?_; apply Nx.of; (first | exact S.move | exact S.assign | exact S.load1c rfl rfl rfl rfl | exact S.loadNc rfl rfl rfl rfl | exact S.fieldAddr rfl rfl rfl | exact S.leq | exact S.lss | exact S.eql | exact S.neq | exact S.geq | exact S.gtr | exact S.not_t | exact S.not_f | exact S.not_d | exact S.pick_tt | exact S.pick_ff | exact S.pick_td (by assumption) | exact S.pick_fd (by assumption) | exact S.pick_b | exact S.box | exact S.alloc rfl | exact S.add_one (by omega) | exact S.sub_one (by omega) (by omega) | exact S.add (by unfold In64; omega) | exact S.sub (by unfold In64; omega) | exact S.mul (by unfold In64; omega) | exact S.add_w | exact S.sub_w | exact S.mul_w | exact S.min2 | exact S.max2 | exact S.build rfl rfl rfl | exact S.buildA rfl rfl rfl rfl | exact S.nilCheck | exact S.extract rfl)) | (refine RT.goK0 rfl rfl rfl ?_; apply Nx.of; (first | exact S.store rfl rfl rfl rfl rfl rfl)) | (refine RT.no rfl rfl rfl ?_))
  refine Tr.loop (fun k : Nat => stL Try.f40.ntmps [] [(1, .ptr 2 0), (2, .bool false), (3, .bool true), (7, .int .i64 k)] [(2, some (.cells (bk B a1 a2).cells)), (0, some (oSt B)), (1, some (oCk B))] 3) (fun k => k ≤ B.nc) (fun k => B.nc - k) 0 (Nat.zero_le _) (by (refine Wk.same (by decide) (by decide) (by decide) (by decide) ?_ ?_ rfl; all_goals ((try simp only [allL, allM]); (repeat' (first | exact trivial | refine And.intro ?_ ?_)); all_goals (first | rfl | exact congrArg some (congrArg (AV.int .i64) (by omega)) | exact IsSl.ren (by assumption) (nm_lt (by decide)) | exact ren_ro _ _ _ | exact ren_grown _ _ _ _ | exact bk_ren h1 h2 (nm_lt (by decide)) (nm_lt (by decide)) | exact bkc_ren h1 h2 (nm_lt (by decide)) (nm_lt (by decide)) | decide)))) (fun k hk => ?_)
  by_cases hlt : k < B.nc
  · have hs := hck k hlt
    unfold ckOk at hs
    repeat' (first | refine RT.nil ?_ | refine sq_n ?_ | refine Tr.seq ?_ | refine Tr.region ?_ | refine Tr.cond_t rfl ?_ | refine Tr.cond_f rfl ?_ | refine Tr.cond_d rfl (fun _ => ?_) (fun _ => ?_) | refine Tr.skip ?_ | refine Tr.ret ?_ | refine sq_r ?_ | refine Tr.exit ?_ | refine sq_x ?_ | refine Tr.block ?_ | refine blk_n ?_ | refine blk_r ?_ | refine blk_hit rfl ?_ | refine blk_pass rfl ?_ | refine Tr.label ?_ | refine Tr.scope ?_ | refine scp_n ?_ | refine scp_r ?_ | refine scp_x ?_ | refine lp_r ?_ | refine lp_x ?_ | (refine RT.call rfl rfl rfl (Amid_t (by omega) _ _ _) rfl rfl (Nat.le_refl _) ?_) | (refine RT.call rfl rfl rfl (Sane_t (by decide) (by omega) _ _ _) rfl rfl (Nat.le_refl _) ?_) | (refine RT.goK rfl rfl rfl rfl ?_; first | refine Nx.of (S.lss_t (by omega)) ?_ | refine Nx.of (S.lss_f (by omega)) ?_ | refine Nx.of (S.leq_t (by omega)) ?_) | (refine RT.goK rfl rfl rfl rfl ?_; apply Nx.of; (first | exact S.lss_t (by decide) | exact S.lss_f (by decide) | exact S.leq_t (by decide) | exact S.leq_f (by decide) | exact S.eql_t (by decide) | exact S.eql_f (by decide) | exact S.neq_t (by decide) | exact S.neq_f (by decide) | exact S.index_arrI rfl rfl rfl rfl (by decide) (by decide) rfl | exact S.idx_arrI rfl rfl rfl (by decide) (by decide))) | (refine RT.goK rfl rfl rfl rfl ?_; apply Nx.of; (first | exact S.move | exact S.assign | exact S.load1c rfl rfl rfl rfl | exact S.loadNc rfl rfl rfl rfl | exact S.fieldAddr rfl rfl rfl | exact S.leq | exact S.lss | exact S.eql | exact S.neq | exact S.geq | exact S.gtr | exact S.not_t | exact S.not_f | exact S.not_d | exact S.pick_tt | exact S.pick_ff | exact S.pick_td (by assumption) | exact S.pick_fd (by assumption) | exact S.pick_b | exact S.box | exact S.alloc rfl | exact S.add_one (by omega) | exact S.sub_one (by omega) (by omega) | exact S.add (by unfold In64; omega) | exact S.sub (by unfold In64; omega) | exact S.mul (by unfold In64; omega) | exact S.add_w | exact S.sub_w | exact S.mul_w | exact S.min2 | exact S.max2 | exact S.build rfl rfl rfl | exact S.buildA rfl rfl rfl rfl | exact S.nilCheck | exact S.extract rfl)) | (refine RT.goK0 rfl rfl rfl ?_; apply Nx.of; (first | exact S.store rfl rfl rfl rfl rfl rfl)) | (refine RT.goK rfl rfl rfl rfl ?_; apply Nx.of; (first | exact S.idx_sl rfl rfl rfl (by assumption) (by omega) | exact S.idx_slI rfl rfl rfl (by assumption) (by omega) (by omega) | exact S.rowN0 rfl rfl rfl (fun _ => rfl) (range_at (by omega)) rfl | exact S.rowN rfl rfl rfl (fun _ => rfl) (range_at (by omega)) rfl | exact S.row0 rfl rfl rfl (fun _ => rfl) (range_at (by omega)) rfl | exact S.row rfl rfl rfl (fun _ => rfl) (range_at (by omega)) rfl | exact S.row2 rfl rfl rfl (fun _ => rfl) (range_at (by omega)) rfl | exact S.len_sl rfl rfl rfl (by assumption))) | (refine RT.no rfl rfl rfl ?_))
    refine lp_n (k + 1) hlt (by omega) (by (refine Wk.same (by decide) (by decide) (by decide) (by decide) ?_ ?_ rfl; all_goals ((try simp only [allL, allM]); (repeat' (first | exact trivial | refine And.intro ?_ ?_)); all_goals (first | rfl | exact congrArg some (congrArg (AV.int .i64) (by omega)) | exact IsSl.ren (by assumption) (nm_lt (by decide)) | exact ren_ro _ _ _ | exact ren_grown _ _ _ _ | exact bk_ren h1 h2 (nm_lt (by decide)) (nm_lt (by decide)) | exact bkc_ren h1 h2 (nm_lt (by decide)) (nm_lt (by decide)) | decide))))
  obtain rfl : k = B.nc := by omega
  repeat' (first | refine RT.nil ?_ | refine sq_n ?_ | refine Tr.seq ?_ | refine Tr.region ?_ | refine Tr.cond_t rfl ?_ | refine Tr.cond_f rfl ?_ | refine Tr.cond_d rfl (fun _ => ?_) (fun _ => ?_) | refine Tr.skip ?_ | refine Tr.ret ?_ | refine sq_r ?_ | refine Tr.exit ?_ | refine sq_x ?_ | refine Tr.block ?_ | refine blk_n ?_ | refine blk_r ?_ | refine blk_hit rfl ?_ | refine blk_pass rfl ?_ | refine Tr.label ?_ | refine Tr.scope ?_ | refine scp_n ?_ | refine scp_r ?_ | refine scp_x ?_ | refine lp_r ?_ | refine lp_x ?_ | (refine RT.goK rfl rfl rfl rfl ?_; first | refine Nx.of (S.lss_t (by omega)) ?_ | refine Nx.of (S.lss_f (by omega)) ?_ | refine Nx.of (S.leq_t (by omega)) ?_) | (refine RT.goK rfl rfl rfl rfl ?_; apply Nx.of; (first | exact S.move | exact S.assign | exact S.load1c rfl rfl rfl rfl | exact S.loadNc rfl rfl rfl rfl | exact S.fieldAddr rfl rfl rfl | exact S.leq | exact S.lss | exact S.eql | exact S.neq | exact S.geq | exact S.gtr | exact S.not_t | exact S.not_f | exact S.not_d | exact S.pick_tt | exact S.pick_ff | exact S.pick_td (by assumption) | exact S.pick_fd (by assumption) | exact S.pick_b | exact S.box | exact S.alloc rfl | exact S.add_one (by omega) | exact S.sub_one (by omega) (by omega) | exact S.add (by unfold In64; omega) | exact S.sub (by unfold In64; omega) | exact S.mul (by unfold In64; omega) | exact S.add_w | exact S.sub_w | exact S.mul_w | exact S.min2 | exact S.max2 | exact S.build rfl rfl rfl | exact S.buildA rfl rfl rfl rfl | exact S.nilCheck | exact S.extract rfl)) | (refine RT.goK0 rfl rfl rfl ?_; apply Nx.of; (first | exact S.store rfl rfl rfl rfl rfl rfl)) | (refine RT.goK rfl rfl rfl rfl ?_; apply Nx.of; (first | exact S.idx_sl rfl rfl rfl (by assumption) (by omega) | exact S.idx_slI rfl rfl rfl (by assumption) (by omega) (by omega) | exact S.rowN0 rfl rfl rfl (fun _ => rfl) (range_at (by omega)) rfl | exact S.rowN rfl rfl rfl (fun _ => rfl) (range_at (by omega)) rfl | exact S.row0 rfl rfl rfl (fun _ => rfl) (range_at (by omega)) rfl | exact S.row rfl rfl rfl (fun _ => rfl) (range_at (by omega)) rfl | exact S.row2 rfl rfl rfl (fun _ => rfl) (range_at (by omega)) rfl | exact S.len_sl rfl rfl rfl (by assumption))) | (refine RT.no rfl rfl rfl ?_))
  (first | refine rt_go rfl ?_ | refine rt_go (by exact rfl) ?_)
  rfl
theorem sound_t {B : CBook} {a1 a2 : AV} {m : List (Nat × Option AObj)} {c : Nat} (h : BkIn B a1 a2 m c) (hn : B.ns ≤ 9223372036854775807) (hB : bkOk B) (fl : Nat) : OkAt 0 Try.prog fl 40 [bk B a1 a2] (ofM m) c (.bool true) (ofM m) c :=
  (sound_yes B a1 a2 h.h1 h.h2 hn hB).pure (.bool _) (h.entry _ fun _ => rfl) fl
theorem sound_f {B : CBook} {a1 a2 : AV} {m : List (Nat × Option AObj)} {c : Nat} (h : BkIn B a1 a2 m c) (hn : B.ns ≤ 9223372036854775807) (hB : ¬ bkOk B) (fl : Nat) : OkAt 0 Try.prog fl 40 [bk B a1 a2] (ofM m) c (.bool false) (ofM m) c :=
  (sound_no B a1 a2 h.h1 h.h2 hn hB).pure (.bool _) (h.entry _ fun _ => rfl) fl
end Go.Proofs.Ytcoklgmdifggbaa

/- Lists that are copied and changed: append to an empty list, stores into rows that have grown; slices as windows. -/
namespace Go.Ev
open Go

section
variable {P : Program} {fl c : Nat} {m : List (Nat × Option AObj)} {y y' z : Ty} {t t' : Nat} {x1 x2 : Operand} {v : AV}

theorem S.buildSlice0 [Tab P] (ht : ty P t = some y) (hk : y.kind = 5) (he : ty P y.elem = some z) : OpE P fl (.buildSlice t 0 #[]) [] m c (.sl c 0 0 0) ((c, some (.cells [])) :: m) (c + 1) := by
  refine ⟨rfl, Nat.le_succ _, ?_⟩
  have h0 : Nat.ble (0 * z.size) (2 ^ 24) = true := by simp
  simp only [opA, oBuildSlice, ty_slice ht hk, ty_size he, h0, cond_true, Nat.beq_refl, List.map_nil, List.zip_nil_left, fillA]
  rfl

theorem cut_all {cs : List AV} {k : Nat} (h : cs.length = k) : cut cs 0 k = some cs := by
  unfold cut
  simp only [List.drop_zero, List.take_of_length_le (Nat.le_of_eq h), h, Nat.beq_refl, cond_true]

/-- To an empty list that was just made. -/
theorem S.append_e [Tab P] {ats : Array Nat} {x w n : Nat} {news : List AV} {ob : AObj} (hat : ats.toList = [t, t']) (ht : ty P t = some y) (hk : y.kind = 5) (ht' : ty P t' = some y') (hk' : y'.kind = 5) (hz : ty P y.elem = some z) (hzk : z.kind = 3) (hzz : (Nat.beq z.zero.cells.length z.size && Nat.ble 1 z.size) = true)
    (hb : Nat.ble z.bytes 10000 = true) (hx : lookM m x = some (.cells [])) (hv : IsSl v n w) (ho : lookM m w = some ob) (hcs : cellsOf ob = some news) (hl : news.length = n * z.size) (hn : n ≤ 1000000) (h0 : 0 < n) :
    OpE P fl (.call ⟨.builtin .append, #[x1, x2], ats⟩) [.sl x 0 0 0, v] m c (.gs c n) ((c, some (.grown news z.size)) :: m) (c + 1) := by
  obtain ⟨i, h1, h2, h3⟩ := info_sz hz
  have hb' : z.bytes ≤ 10000 := Nat.le_of_ble_eq_true hb
  have hbb : (Nat.ble ((2 * n + 1000) * i.bytes) (2 ^ 48) && Nat.ble n (2 ^ 62)) = true := by
    rw [h2]
    simp only [Bool.and_eq_true, Nat.ble_eq]
    refine ⟨?_, by omega⟩
    calc (2 * n + 1000) * z.bytes ≤ 3000000 * 10000 := Nat.mul_le_mul (by omega) hb'
      _ ≤ 2 ^ 48 := by decide
  rcases hv with rfl | ⟨rfl, rfl⟩
  · have hc0 : Nat.ble n 0 = false := Bool.eq_false_iff.2 fun h => by have := Nat.le_of_ble_eq_true h; omega
    have hn0 : Nat.beq n 0 = false := Bool.eq_false_iff.2 fun h => by have := Nat.eq_of_beq_eq_true h; omega
    have hcut0 : cut ([] : List AV) 0 (0 * z.size) = some [] := by rw [Nat.zero_mul]; rfl
    have hcut : cut news 0 (n * z.size) = some news := cut_all hl
    have hce : cellsOf (.cells []) = some [] := rfl
    rw [← h3] at hcut0 hcut
    refine ⟨rfl, Nat.le_succ _, ?_⟩
    show opA P (ofM m) c fl _ _ = _
    simp only [opA, oCall, builtinA, hat, appendA, ty_slice ht hk, ty_slice ht' hk', h1, rowT hz hzz, sliceCells, getCells, ofM_get, hx, ho, hcs, hce, Option.bind_some, hcut0, hcut, Option.map_some, hn0, cond_false, hbb, cond_true, hc0, keptF hz hzk, growA, Nat.zero_add, List.nil_append]
    rw [h3]
    rfl
  · omega

/-- A store into what has grown. -/
theorem S.storeG [Tab P] {a b : Operand} {x off s : Nat} {cs cs' : List AV} (ht : ty P t = some y) (hf : Nat.ble fl x = true) (h1 : (v.cells.all AV.one) = true) (hl : Nat.beq v.cells.length y.size = true) (ho : lookM m x = some (.grown cs s)) (hs : splice cs off v.cells = some cs') :
    OpE P fl (.store t a b) [.ptr x off, v] m c undefA ((x, some (.grown cs' s)) :: m) c := by
  refine ⟨rfl, by first | exact Nat.le_refl _ | exact Nat.le_succ _, ?_⟩
  simp only [opA, oStore, storeA, ty_size ht, hl, cond_true, putCells, hf, h1, Bool.and_self, ofM_get, ho, hs, Option.map_some]
  rfl
theorem splice_one {w : AV} : ∀ {cs : List AV} {off : Nat}, off < cs.length → splice cs off [w] = some (cs.set off w)
  | [], off, h => by simp at h
  | c :: cs, 0, _ => by
    have h1 : Ev.over cs [] = some cs := by cases cs <;> rfl
    show Ev.over (c :: cs) [w] = _
    rw [Ev.over, h1]; rfl
  | c :: cs, off + 1, h => by
    have := splice_one (w := w) (cs := cs) (off := off) (by simpa using h)
    rw [Ev.splice, this]; rfl

/-- Rows of which one has changed. -/
theorem flat_splice {enc enc' : Nat → List Int} {s n i j : Nat} {a : Int} (hs : ∀ e, (enc e).length = s) (hi : i < n) (hj : j < s) (he : ∀ e, e ≠ i → enc' e = enc e) (hei : enc' i = (enc i).set j a) : splice (flat enc (List.range n)) (i * s + j) [.int .i64 a] = some (flat enc' (List.range n)) := by
  have hs' : ∀ e, (enc' e).length = s := fun e => by
    by_cases h : e = i
    · subst h; rw [hei, List.length_set, hs]
    · rw [he e h, hs]
  have hlen : (flat enc (List.range n)).length = n * s := by rw [flat_len hs, List.length_range]
  have hlen' : (flat enc' (List.range n)).length = n * s := by rw [flat_len hs', List.length_range]
  have hlt : i * s + j < n * s := by
    calc i * s + j < i * s + s := by omega
      _ = (i + 1) * s := by rw [Nat.succ_mul]
      _ ≤ n * s := Nat.mul_le_mul_right _ hi
  rw [splice_one (by rw [hlen]; exact hlt)]
  congr 1
  refine List.ext_getElem? fun q => ?_
  by_cases hq : q < n * s
  · have hs0 : 0 < s := by omega
    obtain ⟨e, k, rfl, he1, hk⟩ : ∃ e k, q = e * s + k ∧ e < n ∧ k < s := ⟨q / s, q % s, by rw [Nat.mul_comm]; exact (Nat.div_add_mod q s).symm, (Nat.div_lt_iff_lt_mul hs0).2 hq, Nat.mod_lt _ hs0⟩
    have hr : (List.range n)[e]? = some e := range_at he1
    have g1 : (enc e)[k]? = some ((enc e)[k]'(by rw [hs]; exact hk)) := List.getElem?_eq_getElem _
    have g2 : (enc' e)[k]? = some ((enc' e)[k]'(by rw [hs']; exact hk)) := List.getElem?_eq_getElem _
    rw [flat_at hs' hr g2, List.getElem?_set]
    by_cases h : i * s + j = e * s + k
    · have hie : i = e ∧ j = k := by
        have h3 : (i * s + j) / s = (e * s + k) / s := by rw [h]
        rw [Nat.mul_comm i, Nat.mul_comm e, Nat.mul_add_div hs0, Nat.mul_add_div hs0, Nat.div_eq_of_lt hj, Nat.div_eq_of_lt hk] at h3
        have : i = e := by omega
        subst this
        exact ⟨rfl, by omega⟩
      obtain ⟨rfl, rfl⟩ := hie
      rw [if_pos rfl, if_pos (by rw [hlen]; exact hlt)]
      congr 2
      have : (enc' i)[j]? = some a := by rw [hei, List.getElem?_set, if_pos rfl, if_pos (by rw [hs]; exact hj)]
      rw [g2] at this
      exact (Option.some.inj this).symm
    · rw [if_neg h, flat_at hs hr g1]
      congr 2
      by_cases hei' : e = i
      · subst hei'
        have : (enc' e)[k]? = (enc e)[k]? := by rw [hei, List.getElem?_set, if_neg (fun hh => h (by rw [hh]))]
        rw [g1, g2] at this
        exact (Option.some.inj this).symm
      · have : (enc' e)[k]? = (enc e)[k]? := by rw [he e hei']
        rw [g1, g2] at this
        exact (Option.some.inj this).symm
  · rw [List.getElem?_eq_none_iff.2 (by rw [List.length_set, hlen]; omega), List.getElem?_eq_none_iff.2 (by rw [hlen']; omega)]

theorem ArgsW.pls {W : List Wnd} : ∀ {l : List AV}, Pls l → ArgsW W l l
  | [], _ => trivial
  | v :: l, h => by
    have h1 : Pl v := fun σ => by have := h σ; rw [AV.rens] at this; exact (List.cons.inj this).1
    have h2 : Pls l := fun σ => by have := h σ; rw [AV.rens] at this; exact (List.cons.inj this).2
    exact ⟨.pl h1, ArgsW.pls h2⟩
end
end Go.Ev

/- Package claim: books whose lists lie elsewhere. -/
namespace Go.Proofs.Ytcoklgmdifggbaa
open Go Go.Ev

/-- A book whose lists lie anywhere in memory. -/
structure BkX (B : CBook) (v1 v2 : AV) (m : List (Nat × Option AObj)) (c : Nat) : Prop where
  ex : ∃ (W : List Wnd) (a1 a2 : AV), W.length = 2 ∧ winOk (ofM m) W [flat (stE B) (List.range B.ns), flat (ckE B) (List.range B.nc)] ∧ ArgW W v1 a1 ∧ ArgW W v2 a2 ∧ IsSl a1 B.ns 0 ∧ IsSl a2 B.nc 1

theorem pls_flat {τ : Type} (enc : τ → List Int) (L : List τ) : Pls (flat enc L) := fun σ => rens_flat enc σ L
/-- One list, where it lies. -/
abbrev LiesAt (m : List (Nat × Option AObj)) (v : AV) (n x : Nat) (cs : List AV) : Prop := IsSl v n x ∧ ∃ o, lookM m x = some o ∧ (cs = [] ∨ cellsOf o = some cs)
theorem BkX.of {B : CBook} {v1 v2 : AV} {m : List (Nat × Option AObj)} {c x1 x2 : Nat} (h1 : LiesAt m v1 B.ns x1 (flat (stE B) (List.range B.ns))) (h2 : LiesAt m v2 B.nc x2 (flat (ckE B) (List.range B.nc))) : BkX B v1 v2 m c := by
  obtain ⟨i1, o1, g1, k1⟩ := h1
  obtain ⟨i2, o2, g2, k2⟩ := h2
  have arg : ∀ {v : AV} {n x y : Nat}, IsSl v n x → [((x1, 0, none) : Wnd), (x2, 0, none)][y]? = some (x, 0, none) → ∃ a, ArgW [(x1, 0, none), (x2, 0, none)] v a ∧ IsSl a n y := fun {v n x y} hi hy => by
    rcases hi with rfl | ⟨rfl, rfl⟩
    · exact ⟨.gs y n, .gs hy, .gs y n⟩
    · exact ⟨.nils, .pl Pl.nils, .nils y⟩
  obtain ⟨a1, b1, d1⟩ := arg (y := 0) i1 rfl
  obtain ⟨a2, b2, d2⟩ := arg (y := 1) i2 rfl
  have win : ∀ {o : AObj} {cs : List AV}, (cs = [] ∨ cellsOf o = some cs) → cs = [] ∨ ∃ ca, cellsOf o = some ca ∧ cut ca 0 cs.length = some cs := fun {o cs} h => h.imp id fun h => ⟨cs, h, cut_all rfl⟩
  exact ⟨[(x1, 0, none), (x2, 0, none)], a1, a2, rfl, ⟨⟨o1, getM g1, win k1⟩, pls_flat _ _, ⟨o2, getM g2, win k2⟩, pls_flat _ _, trivial⟩, b1, b2, d1, d2⟩
theorem BkX.use {B : CBook} {v1 v2 : AV} {m : List (Nat × Option AObj)} {c f : Nat} (h : BkX B v1 v2 m c) (vs : List AV) (hv : Pls vs) {v : AV} (hp : Pl v) (k : ∀ a1 a2, IsSl a1 B.ns 0 → IsSl a2 B.nc 1 → CanS 0 Try.prog f 2 (bk B a1 a2 :: vs) [(0, some (oSt B)), (1, some (oCk B))] 2 fun u _ _ => u = v) (fl : Nat) : OkAt 0 Try.prog fl f (bk B v1 v2 :: vs) (ofM m) c v (ofM m) c := by
  obtain ⟨W, a1, a2, hl, hw, g1, g2, i1, i2⟩ := h.ex
  have he : ArgsW W (bk B v1 v2 :: vs) (bk B a1 a2 :: vs) := ⟨ArgW.agg (show ArgsW W [v1, .int .i64 B.wea, .int .i64 (B.cost 0), .int .i64 (B.cost 1), .int .i64 (B.cost 2), v2, .int .i64 B.rate] [a1, .int .i64 B.wea, .int .i64 (B.cost 0), .int .i64 (B.cost 1), .int .i64 (B.cost 2), a2, .int .i64 B.rate] from ⟨g1, .pl (.int _ _), .pl (.int _ _), .pl (.int _ _), .pl (.int _ _), g2, .pl (.int _ _), trivial⟩), .pls hv⟩
  exact (k a1 a2 i1 i2).pure hp (Entry.win (CS := [flat (stE B) (List.range B.ns), flat (ckE B) (List.range B.nc)]) hl hw he) fl

section
variable {B : CBook} {v1 v2 : AV} {m : List (Nat × Option AObj)} {c : Nat}
theorem Comes_x (h : BkX B v1 v2 m c) (hn : B.ns ≤ 9223372036854775807) (n : Int) (fl : Nat) : OkAt 0 Try.prog fl 18 [bk B v1 v2, .int .i64 n] (ofM m) c (ansV B (stQ B n) (fun t => t.c n.toNat)) (ofM m) c := h.use [.int .i64 n] (fun _ => rfl) (fun _ => rfl) (fun a1 a2 i1 i2 => Comes_can B a1 a2 i1 i2 hn n) fl
theorem Owes_x (h : BkX B v1 v2 m c) (hn : B.ns ≤ 9223372036854775807) (fl : Nat) : OkAt 0 Try.prog fl 29 [bk B v1 v2] (ofM m) c (ansV B True (owV B)) (ofM m) c := h.use [] .nil (fun _ => rfl) (fun a1 a2 i1 i2 => Owes_can B a1 a2 i1 i2 hn) fl
theorem Blame_x (h : BkX B v1 v2 m c) (hn : B.ns ≤ 9223372036854775807) (fl : Nat) : OkAt 0 Try.prog fl 27 [bk B v1 v2] (ofM m) c (numA B (whV B (blP B))) (ofM m) c := h.use [] .nil (by unfold numA; split <;> exact fun _ => rfl) (fun a1 a2 i1 i2 => Blame_can B a1 a2 i1 i2 hn) fl
theorem Pays_x (h : BkX B v1 v2 m c) (hn : B.ns ≤ 9223372036854775807) (fl : Nat) : OkAt 0 Try.prog fl 31 [bk B v1 v2] (ofM m) c (numA B (paV B)) (ofM m) c := h.use [] .nil (by unfold numA; split <;> exact fun _ => rfl) (fun a1 a2 i1 i2 => Pays_can B a1 a2 i1 i2 hn) fl
end
end Go.Proofs.Ytcoklgmdifggbaa

/- Calls that spoil one object; calls that leave new names behind, in regions whose order is open. -/
namespace Go.Ev
open Go

section
variable {G : Nat} {P : Program} {ρ ρ1 : Rho} {fl c c' : Nat} {w w' : World}

theorem del_get {m : List (Nat × Option AObj)} {q x : Nat} {o : AObj} (h : (ofM ((q, none) :: m)).get x = some o) : x ≠ q ∧ (ofM m).get x = some o := by
  rw [ofM_get] at h ⊢
  by_cases e : x = q
  · subst e; rw [lookM_hd] at h; cases h
  · rw [lookM_tl e] at h; exact ⟨e, h⟩

/-- A call that spoils one object, and leaves nothing else behind. -/
theorem CanS.spoil {f q fl0 : Nat} {args0 : List AV} {m0 m : List (Nat × Option AObj)} {v0 : AV} {o0 : AObj} (h : CanS G P f fl0 args0 m0 (fl0 + 1) fun v _ _ => v = v0) (hv : Pl v0)
    (τ : Nat → Nat) (hτg : ∀ g, g < G → τ g = g) (hτ2 : ∀ y, fl0 + 1 ≤ y → c ≤ τ y) (hobj : ∀ y o, lookM m0 y = some o → (ofM m).get (τ y) = some (o.ren τ))
    (hinj : ∀ x y o o', lookM m0 x = some o → lookM m0 y = some o' → x ≠ y → τ x ≠ τ y ∨ ∃ n m, o.share = some (false, n) ∧ o'.share = some (false, m))
    (hq : τ fl0 = q) (hfl : fl ≤ q) (ho0 : lookM m0 fl0 = some o0) (hs0 : o0.share = none) : OkAt G P fl f (AV.rens τ args0) (ofM m) c v0 (ofM ((q, none) :: m)) c := by
  refine ⟨h.1, fun ρ w us hH hargs r n => ?_⟩
  have h0 : Holds G (fun x => ρ (τ x)) (ofM m0) (fl0 + 1) w := hH.ren τ (fun x o hx => hobj x o (by rw [← ofM_get]; exact hx)) (fun x y o o' hx hy => hinj x y o o' (by rw [← ofM_get]; exact hx) (by rw [← ofM_get]; exact hy)) hτ2 hτg
  refine (h.2 _ w us h0 ((VRs_ren ρ τ args0 us).1 hargs) r n).mono ?_
  rintro e w' ⟨u, v1, H1, c1, ρ1, rfl, rfl, h3, h4, h5, h6, h7⟩
  have hfr : ∃ x, ρ1 x = none := ⟨c1, h4.fresh c1 (Nat.le_refl _)⟩
  have hqo : (ofM m).get q = some (o0.ren τ) := by rw [← hq]; exact hobj _ _ ho0
  have hqs : (o0.ren τ).share = none := by rw [AObj.ren_share]; exact hs0
  obtain ⟨pq, hρq, _⟩ := hH.obj _ _ hqo
  have hown : ∀ y t, fl0 ≤ y → ρ (τ y) = some t → y = fl0 := fun y t hy ht => by
    rcases Nat.lt_or_ge y (fl0 + 1) with h | h
    · omega
    · have := h0.fresh y h
      replace this : ρ (τ y) = none := this
      rw [this] at ht; cases ht
  have hap : ∀ x o p, (ofM m).get x = some o → ρ x = some p → x ≠ q → p.b ≠ pq.b := fun x o p hx hp hn hb => by
    have := (hH.sep x q o _ p pq hn hx hqo hp hρq hb).ro
    unfold AObj.isRo at this
    rw [hqs] at this
    simp at this
  have hkeep : ∀ b, b < w.heap.size → b ≠ pq.b → w'.heap[b]? = w.heap[b]? := fun b hb hne => h7.keep b hb fun y t hy ht => by
    have e := hown y t hy ht
    subst e
    rw [hq] at ht
    rw [hρq] at ht
    cases ht
    exact fun e => hne e.symm
  refine ⟨u, rfl, ρ, hv.vr hfr h3, ⟨fun x o hx => ?_, fun x y o o' p p' hxy hx hy hp hp' hb => ?_, hH.fresh, fun x p hp => Nat.lt_of_lt_of_le (hH.lt x p hp) h7.size, hH.glob⟩, .refl _ _ _ _, ⟨h7.os, h7.tape, h7.output, h7.size, fun b hb hn => hkeep b hb fun e => hn q pq hfl hρq e.symm⟩⟩
  · obtain ⟨e, hx⟩ := del_get hx
    obtain ⟨p, h1, h2⟩ := hH.obj x o hx
    exact ⟨p, h1, h2.world (hkeep p.b (hH.lt x p h1) (hap x o p hx h1 e))⟩
  · exact hH.sep x y o o' p p' hxy (del_get hx).2 (del_get hy).2 hp hp' hb

theorem Good.cons {H : T AObj} {m : List (Nat × Option AObj)} {c1 c2 d : Nat} {o : AObj} (h : Good fl c H c1 (ofM m)) (hd : c ≤ d) (hd2 : d < c2) (hc : c1 ≤ c2) : Good fl c H c2 (ofM ((d, some o) :: m)) := by
  refine ⟨Nat.le_trans h.count hc, fun x h1 h2 => ?_, fun hdm x hx => ?_⟩
  · have := h.keep x h1 h2
    rw [ofM_get] at this ⊢
    rw [lookM_tl (by omega)]
    exact this
  · by_cases e : x = d
    · omega
    · have := h.dom hdm x (by rw [ofM_get] at hx ⊢; rwa [lookM_tl e] at hx)
      omega
open Classical in
/-- One call, in one memory. -/
noncomputable def pinX (f : Nat) (args : List AV) (m : List (Nat × Option AObj)) (c : Nat) (v : AV) (m' : List (Nat × Option AObj)) (c' : Nat) : CallFn := fun _ f1 args1 H1 c1 =>
  if f1 = f ∧ args1 = args ∧ H1 = ofM m ∧ c1 = c then some (v, ofM m', c') else none
theorem pinX_at (f : Nat) (args : List AV) (m : List (Nat × Option AObj)) (c : Nat) (v : AV) (m' : List (Nat × Option AObj)) (c' fl : Nat) : pinX f args m c v m' c' fl f args (ofM m) c = some (v, ofM m', c') := by
  unfold pinX; rw [if_pos ⟨rfl, rfl, rfl, rfl⟩]
theorem pinX_calm {f : Nat} {args : List AV} {m m' : List (Nat × Option AObj)} {v : AV} (h : ∀ fl, OkAt G P fl f args (ofM m) c v (ofM m') c') (hg : ∀ fl, Good fl c (ofM m) c' (ofM m')) : CalmC G P (pinX f args m c v m' c') := by
  refine ⟨fun fl f1 args1 H1 c1 v' H' c2 e => ?_, fun fl f1 args1 H1 c1 v' H' c2 e => ?_⟩
  · unfold pinX at e
    split at e
    · rename_i hh
      obtain ⟨rfl, rfl, rfl, rfl⟩ := hh
      simp only [Option.some.injEq, Prod.mk.injEq] at e
      obtain ⟨rfl, rfl, rfl⟩ := e
      exact h _
    · cases e
  · unfold pinX at e
    split at e
    · rename_i hh
      obtain ⟨rfl, rfl, rfl, rfl⟩ := hh
      simp only [Option.some.injEq, Prod.mk.injEq] at e
      obtain ⟨rfl, rfl, rfl⟩ := e
      exact hg _
    · cases e

variable {n : Nat} {dfs : List Nat} {l : List (Nat × AV)} {o : Oper} {call round : CallFn} {ops : List Oper} {is : List OpI} {rs us : List Rec} {un : List Nat} {wd : Bool} {v : AV} {d : Nat} {K : St → Prop} {m m' : List (Nat × Option AObj)}
theorem RD.callX [hP : PG P G] {f : Nat} {first cap args : List AV} (hk : kindA o.op = .heavy) (hc : isCall o.op = true) (hr : recL rs un = some us) (hw : wantedL ops o l = some true) (hv : operandsL G l (opArgs o.op) = some (.fn f first cap :: args)) (hd : o.dst = some d) (hn : Nat.blt d n = true)
    (hu : us.all (fun r => !r.heavy && r.st.isNone) = true) (hh : (us.flatMap fun r => (List.range (r.hi - r.lo)).map (r.lo + ·)) = [])
    (hs : ∀ fl', call fl' f (first ++ args ++ cap) (ofM m) c = some (v, ofM m', c')) (hsame : wd = true → us.all (sameR P (ofM m) (ofM m')) = true)
    (h : RD G P fl call round ops is (⟨true, none, c, c', none, bif wd then some (ofM m, ofM m') else none, none⟩ :: rs) (stL n dfs ((d, v) :: l) m' c') K) : RD G P fl call round ops (⟨o, un, wd⟩ :: is) rs (stL n dfs l m c) K := by
  refine RD.step (v := v) (m' := m') (c' := c') (rc := ⟨true, none, c, c', none, bif wd then some (ofM m, ofM m') else none, none⟩) hr hw hv ?_ (put_some hn hd) (by rw [hd]; exact h)
  rw [hk]; unfold stD
  have hst : ∀ fl', stepA P call round fl' o.op (.fn f first cap :: args) (ofM m) c = some (v, ofM m', c') := fun fl' => by
    unfold stepA; rw [hc]; exact hs fl'
  simp only [hu, hh, hideA, cond_true]
  cases wd with
  | true => simp only [cond_true, hst, backA, List.foldl_nil, hsame rfl]
  | false => simp only [cond_false, hst, backA, List.foldl_nil]
/-- What was read is still there, where a call adds names. -/
def srOkX (m m' : List (Nat × Option AObj)) : List Rec → Prop
  | [] => True
  | r :: us => (match r.reads with | none => True | some x => ∃ ob, lookM m x = some ob ∧ lookM m' x = some ob ∧ rfO ob = true) ∧ srOkX m m' us
theorem srOkX_all : ∀ {us : List Rec}, srOkX m m' us → us.all (sameR P (ofM m) (ofM m')) = true
  | [], _ => rfl
  | r :: us, h => by
    obtain ⟨h1, h2⟩ := h
    have h3 : sameR P (ofM m) (ofM m') r = true := by
      unfold sameR
      split at h1
      · rename_i e; rw [e]
      · rename_i x e
        obtain ⟨ob, h4, h4', h5⟩ := h1
        rw [e]
        simp only [same_get (getM h4) (getM h4') h5, Bool.true_or]
    rw [List.all_cons, h3, srOkX_all h2]
    rfl
end
end Go.Ev

/- Package claim: Right, Fits. -/
namespace Go.Proofs.Ytcoklgmdifggbaa
open Go Go.Ev

theorem right_at {B : CBook} {a1 a2 : AV} {p q : Nat} {L : List (Int × Int)} {m : List (Nat × Option AObj)} {c : Nat} (h : PbIn B a1 a2 p q m c) (hq : lookM m q = some (oMap B L)) (hok : stsOk B) (hw : weaOk B) (hck : cksOk B) (fl : Nat) (hfl : fl ≤ q) : OkAt 0 Try.prog fl 59 [.ptr p 0] (ofM m) c (.bool (!(wths B 0).isEmpty)) (ofM ((q, none) :: m)) c := by
  have e0 : tau [0, 1, p, q] c 0 = 0 := rfl
  have e1 : tau [0, 1, p, q] c 1 = 1 := rfl
  have e2 : tau [0, 1, p, q] c 2 = p := rfl
  have e3 : tau [0, 1, p, q] c 3 = q := rfl
  have low : ∀ {u : Nat} {ob : AObj}, lookM [(0, some (oSt B)), (1, some (oCk B)), (2, some (.cells (pbC B a1 a2 3))), (3, some (oMap B L))] u = some ob → u = 0 ∨ u = 1 ∨ u = 2 ∨ u = 3 := fun {u ob} hz => by
    have := lookM_mem hz
    simpa using this
  have hobj : ∀ u o, lookM [(0, some (oSt B)), (1, some (oCk B)), (2, some (.cells (pbC B a1 a2 3))), (3, some (oMap B L))] u = some o → lookM m (tau [0, 1, p, q] c u) = some (o.ren (tau [0, 1, p, q] c)) := fun u o hu => by
    rcases low hu with rfl | rfl | rfl | rfl
    · cases hu; rw [e0, ren_ro]; exact h.m1
    · cases hu; rw [e1, ren_ro]; exact h.m2
    · cases hu
      have : (AObj.cells (pbC B a1 a2 3)).ren (tau [0, 1, p, q] c) = .cells (pbC B a1 a2 q) := by simp only [pbC, AObj.ren, AV.ren, AV.rens, h.h1.ren e0, h.h2.ren e1, e3]
      rw [e2, this]; exact h.m3
    · cases hu; rw [e3, ren_mapA]; exact hq
  have ha : AV.rens (tau [0, 1, p, q] c) [.ptr 2 0] = [.ptr p 0] := rfl
  rw [← ha]
  refine CanS.spoil (o0 := oMap B L) (right_can B a1 a2 h.h1 h.h2 hok hw hck L) (.bool _) (tau [0, 1, p, q] c) (fun g hg => by omega) (fun u hu => by rw [tau_ge hu]; omega) (fun u o hu => getM (hobj u o hu)) (fun u u' o o' hu hu' hne => .inl fun e => ?_) rfl hfl rfl rfl
  have g1 := hobj u o hu
  have g2 := hobj u' o' hu'
  rw [e] at g1
  rw [g1] at g2
  rcases low hu with rfl | rfl | rfl | rfl <;> rcases low hu' with rfl | rfl | rfl | rfl <;> first | exact absurd rfl hne | exact absurd (show (0 : Nat) = 1 from e) (by decide) | exact absurd (show (1 : Nat) = 0 from e) (by decide) | (cases hu; cases hu'; simp [AObj.ren, AV.rens, AV.ren, pbC, oSt, oCk] at g2)

/-- Whether a book can be true, as it is answered. -/
noncomputable def rtV (B : CBook) : AV := if dB (bkOk B) = true then .tup [.bool (dB (Ws B ≠ [])), .int .i64 0] else .tup [.bool false, .int .i64 60]
theorem rtV_no {B : CBook} (h : ¬ bkOk B) : rtV B = .tup [.bool false, .int .i64 60] := by unfold rtV; rw [dB_ff h, if_neg (by decide)]
theorem rtV_t {B : CBook} (h : bkOk B) (hW : Ws B ≠ []) : rtV B = .tup [.bool true, .int .i64 0] := by unfold rtV; rw [dB_tt h, if_pos rfl, dB_tt hW]
theorem rtV_f {B : CBook} (h : bkOk B) (hW : Ws B = []) : rtV B = .tup [.bool false, .int .i64 0] := by unfold rtV; rw [dB_tt h, if_pos rfl, dB_ff (fun k => k hW)]
set_option maxRecDepth 100000 in
set_option maxHeartbeats 4000000 in
theorem Right_can (B : CBook) (a1 a2 : AV) (h1 : IsSl a1 B.ns 0) (h2 : IsSl a2 B.nc 1) (hn : B.ns ≤ 9223372036854775807) : CanS 0 Try.prog 14 2 [bk B a1 a2] [(0, some (oSt B)), (1, some (oCk B))] 2 fun v _ _ => v = rtV B := by
  refine CanS.mk Try.func14 rfl rfl rfl ?_
  by_cases hB : bkOk B
  · have he : rtV B = .tup [.bool (!(wths B 0).isEmpty), .int .i64 0] := by
      by_cases hW : Ws B = []
      · have : (wths B 0).isEmpty = true := by show (Ws B).isEmpty = true; rw [hW]; rfl
        rw [rtV_f hB hW, this]; rfl
      · have : (wths B 0).isEmpty = false := by
          show (Ws B).isEmpty = false
          cases h : Ws B with
          | nil => exact absurd h hW
          | cons _ _ => rfl
        rw [rtV_t hB hW, this]; rfl
    rw [he]
    repeat' (first | refine RT.nil ?_ | refine sq_n ?_ | refine Tr.seq ?_ | refine Tr.region ?_ | refine Tr.cond_t rfl ?_ | refine Tr.cond_f rfl ?_ | refine Tr.cond_d rfl (fun _ => ?_) (fun _ => ?_) | refine Tr.skip ?_ | refine Tr.ret ?_ | refine sq_r ?_ | refine Tr.exit ?_ | refine sq_x ?_ | refine Tr.block ?_ | refine blk_n ?_ | refine blk_r ?_ | refine blk_hit rfl ?_ | refine blk_pass rfl ?_ | refine Tr.label ?_ | refine Tr.scope ?_ | refine scp_n ?_ | refine scp_r ?_ | refine scp_x ?_ | refine lp_r ?_ | refine lp_x ?_ | (refine RT.call rfl rfl rfl (Check_ok ⟨h1, h2, rfl, rfl, by decide⟩ hn hB _) rfl rfl (Nat.le_refl _) ?_) | (refine RT.call rfl rfl rfl (prepare_at ⟨h1, h2, rfl, rfl, by decide⟩ (fun x o hx => by have := lookM_mem hx; simp at this; omega) _) rfl rfl (by decide) ?_) | (refine RT.call rfl rfl rfl (right_at (p := 5) (q := 4) (L := []) ⟨h1, h2, rfl, rfl, rfl, by decide, by decide, by decide⟩ rfl hB.1 hB.2.1 hB.2.2.1 _ (by decide)) rfl rfl (Nat.le_refl _) ?_) | (refine RT.goK rfl rfl rfl rfl ?_; apply Nx.of; (first | exact S.lss_t (by decide) | exact S.lss_f (by decide) | exact S.leq_t (by decide) | exact S.leq_f (by decide) | exact S.eql_t (by decide) | exact S.eql_f (by decide) | exact S.neq_t (by decide) | exact S.neq_f (by decide) | exact S.index_arrI rfl rfl rfl rfl (by decide) (by decide) rfl | exact S.idx_arrI rfl rfl rfl (by decide) (by decide))) | (refine RT.goK rfl rfl rfl rfl ?_; apply Nx.of; (first | exact S.move | exact S.assign | exact S.load1c rfl rfl rfl rfl | exact S.loadNc rfl rfl rfl rfl | exact S.fieldAddr rfl rfl rfl | exact S.leq | exact S.lss | exact S.eql | exact S.neq | exact S.geq | exact S.gtr | exact S.not_t | exact S.not_f | exact S.not_d | exact S.pick_tt | exact S.pick_ff | exact S.pick_td (by assumption) | exact S.pick_fd (by assumption) | exact S.pick_b | exact S.box | exact S.alloc rfl | exact S.add_one (by omega) | exact S.sub_one (by omega) (by omega) | exact S.add (by unfold In64; omega) | exact S.sub (by unfold In64; omega) | exact S.mul (by unfold In64; omega) | exact S.add_w | exact S.sub_w | exact S.mul_w | exact S.min2 | exact S.max2 | exact S.build rfl rfl rfl | exact S.buildA rfl rfl rfl rfl | exact S.nilCheck | exact S.extract rfl | exact S.makeFunc)) | (refine RT.goK0 rfl rfl rfl ?_; apply Nx.of; (first | exact S.store rfl rfl rfl rfl rfl rfl | exact S.makeFunc)))
    (first | refine rt_go rfl ?_ | refine rt_go (by exact rfl) ?_)
    rfl
  · rw [rtV_no hB]
    repeat' (first | refine RT.nil ?_ | refine sq_n ?_ | refine Tr.seq ?_ | refine Tr.region ?_ | refine Tr.cond_t rfl ?_ | refine Tr.cond_f rfl ?_ | refine Tr.cond_d rfl (fun _ => ?_) (fun _ => ?_) | refine Tr.skip ?_ | refine Tr.ret ?_ | refine sq_r ?_ | refine Tr.exit ?_ | refine sq_x ?_ | refine Tr.block ?_ | refine blk_n ?_ | refine blk_r ?_ | refine blk_hit rfl ?_ | refine blk_pass rfl ?_ | refine Tr.label ?_ | refine Tr.scope ?_ | refine scp_n ?_ | refine scp_r ?_ | refine scp_x ?_ | refine lp_r ?_ | refine lp_x ?_ | (refine RT.call rfl rfl rfl (Check_no ⟨h1, h2, rfl, rfl, by decide⟩ hn hB _) rfl rfl (Nat.le_refl _) ?_) | (refine RT.goK rfl rfl rfl rfl ?_; apply Nx.of; (first | exact S.lss_t (by decide) | exact S.lss_f (by decide) | exact S.leq_t (by decide) | exact S.leq_f (by decide) | exact S.eql_t (by decide) | exact S.eql_f (by decide) | exact S.neq_t (by decide) | exact S.neq_f (by decide) | exact S.index_arrI rfl rfl rfl rfl (by decide) (by decide) rfl | exact S.idx_arrI rfl rfl rfl (by decide) (by decide))) | (refine RT.goK rfl rfl rfl rfl ?_; apply Nx.of; (first | exact S.move | exact S.assign | exact S.load1c rfl rfl rfl rfl | exact S.loadNc rfl rfl rfl rfl | exact S.fieldAddr rfl rfl rfl | exact S.leq | exact S.lss | exact S.eql | exact S.neq | exact S.geq | exact S.gtr | exact S.not_t | exact S.not_f | exact S.not_d | exact S.pick_tt | exact S.pick_ff | exact S.pick_td (by assumption) | exact S.pick_fd (by assumption) | exact S.pick_b | exact S.box | exact S.alloc rfl | exact S.add_one (by omega) | exact S.sub_one (by omega) (by omega) | exact S.add (by unfold In64; omega) | exact S.sub (by unfold In64; omega) | exact S.mul (by unfold In64; omega) | exact S.add_w | exact S.sub_w | exact S.mul_w | exact S.min2 | exact S.max2 | exact S.build rfl rfl rfl | exact S.buildA rfl rfl rfl rfl | exact S.nilCheck | exact S.extract rfl | exact S.makeFunc)) | (refine RT.goK0 rfl rfl rfl ?_; apply Nx.of; (first | exact S.store rfl rfl rfl rfl rfl rfl | exact S.makeFunc)))
    (first | refine rt_go rfl ?_ | refine rt_go (by exact rfl) ?_)
    rfl
theorem rtV_pl (B : CBook) : Pl (rtV B) := by unfold rtV; split <;> exact fun _ => rfl
theorem Right_x {B : CBook} {v1 v2 : AV} {m : List (Nat × Option AObj)} {c : Nat} (h : BkX B v1 v2 m c) (hn : B.ns ≤ 9223372036854775807) (fl : Nat) : OkAt 0 Try.prog fl 14 [bk B v1 v2] (ofM m) c (rtV B) (ofM m) c := h.use [] .nil (rtV_pl B) (fun a1 a2 i1 i2 => Right_can B a1 a2 i1 i2 hn) fl

/-- Whether a further clock can be right. -/
def ftP (B : CBook) (s r e : Int) : Prop := ∃ t ∈ Ws B, r - e ≤ t.c s.toNat ∧ t.c s.toNat ≤ r + e
noncomputable def ftV (B : CBook) (s r e : Int) : AV := if ansE B (ckOk B s r e) = 0 then .tup [.bool (dB (ftP B s r e)), .int .i64 0] else .tup [.bool false, .int .i64 (ansE B (ckOk B s r e))]
noncomputable def clF (B : CBook) (a1 a2 : AV) (s r e : Int) (v : Bool) : CallFn := one1 86 [bk B a1 a2, .agg [.int .i64 s, .int .i64 r, .int .i64 e]] (.bool v) fun H c => ∃ m, H = ofM m ∧ BkIn B a1 a2 m c
noncomputable def lnF (B : CBook) (a1 a2 : AV) (q : Bool) (x : Int) : CallFn := one1 78 [bk B a1 a2, .bool q] (.tup [.agg [.nilp, .nils], .int .i64 x]) fun H c => ∃ m, H = ofM m ∧ BkIn B a1 a2 m c
end Go.Proofs.Ytcoklgmdifggbaa

/- What the laws on package claim share, beside the book: spans compared, Reach, Just, Wrap in open regions; a book whose road is smooth. -/
namespace Go.Proofs.Ytcoklgmdifggbaa
open Go Go.Ev

theorem eqSp (a b e d : Int) : eqA Try.prog 32 (.agg [.int .i64 a, .int .i64 b]) (.agg [.int .i64 e, .int .i64 d]) = some (decide (a = e ∧ b = d)) := by
  have : eqA Try.prog 32 (.agg [.int .i64 a, .int .i64 b]) (.agg [.int .i64 e, .int .i64 d]) = andV (some (decide (a = e))) (andV (some (decide (b = d))) (some true)) := by kernel_rfl
  rw [this, andV1, andV2]
theorem S.neqA_f {P : Program} {fl c t yt : Nat} {m : List (Nat × Option AObj)} {x1 x2 : Operand} {l1 l2 : List AV} {p : Prop} {inst : Decidable p} (h : eqA P t (.agg l1) (.agg l2) = some (@decide p inst)) (hp : p) : OpE P fl (.binOp .neq t x1 x2 yt) [.agg l1, .agg l2] m c (.bool false) m c := by
  have := S.neqA (fl := fl) (c := c) (m := m) (x1 := x1) (x2 := x2) (yt := yt) h
  rwa [show decide (¬ p) = false from decide_eq_false (fun k => k hp)] at this
theorem S.eqlA_t {P : Program} {fl c t yt : Nat} {m : List (Nat × Option AObj)} {x1 x2 : Operand} {l1 l2 : List AV} {p : Prop} {inst : Decidable p} (h : eqA P t (.agg l1) (.agg l2) = some (@decide p inst)) (hp : p) : OpE P fl (.binOp .eql t x1 x2 yt) [.agg l1, .agg l2] m c (.bool true) m c := by
  have := S.eqlA (fl := fl) (c := c) (m := m) (x1 := x1) (x2 := x2) (yt := yt) (h.trans (congrArg some (decide_eq_true hp)))
  exact this
theorem val_is {u v : AV} {H : T AObj} {c fl f : Nat} {args : List AV} (e : u = v) (h : OkAt 0 Try.prog fl f args H c u H c) : OkAt 0 Try.prog fl f args H c v H c := e ▸ h
/-- The chapter's examples say true. -/
abbrev BillOK : Prop := CanS 0 Try.prog 24 0 [] [] 0 fun v _ _ => v = .bool true

set_option maxRecDepth 100000 in
theorem Just_can (a : Int) : CanS 0 Try.prog 49 0 [.int .i64 a] [] 0 fun v _ _ => v = .agg [.int .i64 a, .int .i64 a] := by
  refine CanS.mk Try.func49 rfl rfl rfl ?_
  repeat' (first | refine RT.nil ?_ | refine sq_n ?_ | refine Tr.seq ?_ | refine Tr.region ?_ | refine Tr.cond_t rfl ?_ | refine Tr.cond_f rfl ?_ | refine Tr.cond_d rfl (fun _ => ?_) (fun _ => ?_) | refine Tr.skip ?_ | refine Tr.ret ?_ | refine sq_r ?_ | refine Tr.exit ?_ | refine sq_x ?_ | refine Tr.block ?_ | refine blk_n ?_ | refine blk_r ?_ | refine blk_hit rfl ?_ | refine blk_pass rfl ?_ | refine Tr.label ?_ | refine Tr.scope ?_ | refine scp_n ?_ | refine scp_r ?_ | refine scp_x ?_ | refine lp_r ?_ | refine lp_x ?_ | (refine RT.call rfl rfl rfl (Reach_at _ _ _ _ _) rfl rfl (Nat.le_refl _) ?_) | (refine RT.goK rfl rfl rfl rfl ?_; apply Nx.of; (first | exact S.move | exact S.assign | exact S.load1c rfl rfl rfl rfl | exact S.loadNc rfl rfl rfl rfl | exact S.fieldAddr rfl rfl rfl | exact S.leq | exact S.lss | exact S.eql | exact S.neq | exact S.geq | exact S.gtr | exact S.not_t | exact S.not_f | exact S.not_d | exact S.pick_tt | exact S.pick_ff | exact S.pick_td (by assumption) | exact S.pick_fd (by assumption) | exact S.pick_b | exact S.box | exact S.alloc rfl | exact S.add_one (by omega) | exact S.sub_one (by omega) (by omega) | exact S.add (by unfold In64; omega) | exact S.sub (by unfold In64; omega) | exact S.mul (by unfold In64; omega) | exact S.add_w | exact S.sub_w | exact S.mul_w | exact S.min2 | exact S.max2 | exact S.build rfl rfl rfl | exact S.buildA rfl rfl rfl rfl | exact S.nilCheck | exact S.extract rfl | exact S.store rfl rfl (bk_one h1 h2) rfl rfl rfl | exact S.store rfl rfl (bkg_one h2) rfl rfl rfl | exact S.buildSlice0 rfl rfl rfl | exact S.append_e rfl rfl rfl rfl rfl rfl rfl rfl rfl rfl h1 rfl rfl hfl (by omega) (by omega) | exact S.storeG rfl rfl rfl rfl rfl hsp)) | (refine RT.goK0 rfl rfl rfl ?_; apply Nx.of; (first | exact S.store rfl rfl rfl rfl rfl rfl | exact S.store rfl rfl (bk_one h1 h2) rfl rfl rfl | exact S.store rfl rfl (bkg_one h2) rfl rfl rfl | exact S.buildSlice0 rfl rfl rfl | exact S.append_e rfl rfl rfl rfl rfl rfl rfl rfl rfl rfl h1 rfl rfl hfl (by omega) (by omega) | exact S.storeG rfl rfl rfl rfl rfl hsp)))
  (first | refine rt_go rfl ?_ | refine rt_go (by exact rfl) ?_)
  rfl
theorem Just_at (a : Int) (H : T AObj) (c fl : Nat) : OkAt 0 Try.prog fl 49 [.int .i64 a] H c (.agg [.int .i64 a, .int .i64 a]) H c :=
  (Just_can a).pure (fun _ => rfl) (.plain fun _ => rfl) fl

noncomputable def reachF : CallFn := famA (α := Int × Int) 52 (fun a => [.int .i64 a.1, .int .i64 a.2]) (fun a => .agg [.int .i64 a.1, .int .i64 a.2]) fun _ _ _ => True
theorem reachF_calm : CalmC 0 Try.prog reachF := famA_calm fun a fl H c _ => Reach_at a.1 a.2 H c fl
theorem reachF_at (a b : Int) (fl0 : Nat) (H : T AObj) (c : Nat) : reachF fl0 52 [.int .i64 a, .int .i64 b] H c = some (.agg [.int .i64 a, .int .i64 b], H, c) :=
  famA_at (α := Int × Int) fl0 (a, b) trivial fun x h => by
    obtain ⟨x1, x2⟩ := x
    simp only [List.cons.injEq, AV.int.injEq, true_and, and_true] at h
    obtain ⟨rfl, rfl⟩ := h
    rfl
noncomputable def justF : CallFn := famA (α := Int) 49 (fun a => [.int .i64 a]) (fun a => .agg [.int .i64 a, .int .i64 a]) fun _ _ _ => True
theorem justF_calm : CalmC 0 Try.prog justF := famA_calm fun a fl H c _ => Just_at a H c fl
theorem justF_at (a : Int) (fl0 : Nat) (H : T AObj) (c : Nat) : justF fl0 49 [.int .i64 a] H c = some (.agg [.int .i64 a, .int .i64 a], H, c) :=
  famA_at (α := Int) fl0 a trivial fun x h => by
    simp only [List.cons.injEq, AV.int.injEq, true_and, and_true] at h
    subst h
    rfl
noncomputable def wrapF : CallFn := famA (α := Int × Int) 47 (fun a => [.int .i64 a.1, .int .i64 a.2]) (fun a => .int .i64 (wrapV a.1 a.2)) fun a _ _ => a.2 ≤ 1000000
theorem wrapF_calm : CalmC 0 Try.prog wrapF := famA_calm fun a fl H c h => Wrap_at a.1 a.2 h H c fl
theorem wrapF_at (a b : Int) (h : b ≤ 1000000) (fl0 : Nat) (H : T AObj) (c : Nat) : wrapF fl0 47 [.int .i64 a, .int .i64 b] H c = some (.int .i64 (wrapV a b), H, c) :=
  famA_at (α := Int × Int) fl0 (a, b) h fun x h => by
    obtain ⟨x1, x2⟩ := x
    simp only [List.cons.injEq, AV.int.injEq, true_and, and_true] at h
    obtain ⟨rfl, rfl⟩ := h
    rfl

theorem bk_one {B : CBook} {a1 a2 : AV} (h1 : IsSl a1 B.ns 0) (h2 : IsSl a2 B.nc 1) : ((bk B a1 a2).cells.all AV.one) = true := by
  simp only [bk, AV.cells, List.all_cons, List.all_nil, h1.one.1, h2.one.1]
  rfl
theorem bkg_one {B : CBook} {a2 : AV} {q : Nat} (h2 : IsSl a2 B.nc 1) : ((bk B (.gs q B.ns) a2).cells.all AV.one) = true := by
  simp only [bk, AV.cells, List.all_cons, List.all_nil, h2.one.1]
  rfl
theorem bkg_ren {B : CBook} {a2 : AV} {q : Nat} (h2 : IsSl a2 B.nc 1) {σ : Nat → Nat} (e1 : σ q = q) (e2 : σ 1 = 1) : (AObj.cells (bk B (.gs q B.ns) a2).cells).ren σ = .cells (bk B (.gs q B.ns) a2).cells := by simp only [bk, AObj.ren, AV.cells, AV.ren, AV.rens, e1, h2.ren e2]

/-- A book whose road costs nothing on the first stages. -/
def smB (B : CBook) (k : Nat) : CBook := { B with rl := fun i => if i < k then 0 else B.rl i, rh := fun i => if i < k then 0 else B.rh i }
theorem splice_two {a b : AV} : ∀ {cs : List AV} {off : Nat}, off + 1 < cs.length → Ev.splice cs off [a, b] = some ((cs.set off a).set (off + 1) b)
  | [], off, h => by simp at h
  | [c], 0, h => by simp at h
  | c :: d :: cs, 0, _ => by
    have h1 : Ev.over cs [] = some cs := by cases cs <;> rfl
    show Ev.over (c :: d :: cs) [a, b] = _
    rw [Ev.over, Ev.over, h1]; rfl
  | c :: cs, off + 1, h => by
    have := splice_two (a := a) (b := b) (cs := cs) (off := off) (by simpa using h)
    rw [Ev.splice, this]; rfl
theorem sm_splice (B : CBook) {k : Nat} (hk : k < B.ns) : Ev.splice (flat (stE (smB B k)) (List.range B.ns)) (k * 7 + 3) [.int .i64 0, .int .i64 0] = some (flat (stE (smB B (k + 1))) (List.range B.ns)) := by
  have hlen : ∀ e : Nat → List Int, (∀ i, (e i).length = 7) → (flat e (List.range B.ns)).length = B.ns * 7 := fun e h => by rw [flat_len h, List.length_range]
  let mid : Nat → List Int := fun i => if i = k then (stE (smB B k) i).set 3 0 else stE (smB B k) i
  have hm7 : ∀ i, (mid i).length = 7 := fun i => by simp only [mid]; split <;> simp [stE]
  have s1 := flat_splice (enc := stE (smB B k)) (enc' := mid) (s := 7) (n := B.ns) (i := k) (j := 3) (a := 0) (fun _ => rfl) hk (by omega) (fun e he => if_neg he) (if_pos rfl)
  have s2 := flat_splice (enc := mid) (enc' := stE (smB B (k + 1))) (s := 7) (n := B.ns) (i := k) (j := 4) (a := 0) hm7 hk (by omega) (fun e he => by
    show _ = if e = k then (stE (smB B k) e).set 3 0 else stE (smB B k) e
    rw [if_neg he]
    simp only [stE, smB]
    by_cases h : e < k
    · rw [if_pos h, if_pos h, if_pos (by omega), if_pos (by omega)]
    · rw [if_neg h, if_neg h, if_neg (by omega), if_neg (by omega)]) (by
    show _ = (if k = k then (stE (smB B k) k).set 3 0 else stE (smB B k) k).set 4 0
    rw [if_pos rfl]
    simp only [stE, smB]
    rw [if_pos (by omega), if_pos (by omega)]
    rfl)
  rw [splice_one (by rw [hlen _ fun _ => rfl]; omega)] at s1
  rw [splice_one (by rw [hlen _ hm7]; omega)] at s2
  have e1 := Option.some.inj s1
  have e2 := Option.some.inj s2
  rw [splice_two (by rw [hlen _ fun _ => rfl]; omega), e1]
  exact congrArg some e2

set_option maxRecDepth 100000 in
set_option maxHeartbeats 4000000 in
theorem smooth2_can (B : CBook) (a1 a2 : AV) (h1 : IsSl a1 B.ns 0) (h2 : IsSl a2 B.nc 1) (hns : 1 ≤ B.ns ∧ B.ns ≤ 3) : CanS 0 Try.prog 53 2 [bk B a1 a2] [(0, some (oSt B)), (1, some (oCk B))] 2 fun v H1 c1 => v = bk B (.gs 6 B.ns) a2 ∧ c1 = 7 ∧ H1.get 6 = some (.grown (flat (stE (smB B B.ns)) (List.range B.ns)) 7) := by
  have hfl : (flat (stE B) (List.range B.ns)).length = B.ns * 7 := by rw [flat_len (s := 7) (fun _ => rfl), List.length_range]
  refine CanS.mk Try.func53 rfl rfl rfl ?_
  repeat' (first | refine RT.nil ?_ | refine sq_n ?_ | refine Tr.seq ?_ | refine Tr.region ?_ | refine Tr.cond_t rfl ?_ | refine Tr.cond_f rfl ?_ | refine Tr.cond_d rfl (fun _ => ?_) (fun _ => ?_) | refine Tr.skip ?_ | refine Tr.ret ?_ | refine sq_r ?_ | refine Tr.exit ?_ | refine sq_x ?_ | refine Tr.block ?_ | refine blk_n ?_ | refine blk_r ?_ | refine blk_hit rfl ?_ | refine blk_pass rfl ?_ | refine Tr.label ?_ | refine Tr.scope ?_ | refine scp_n ?_ | refine scp_r ?_ | refine scp_x ?_ | refine lp_r ?_ | refine lp_x ?_ | (refine RT.goK rfl rfl rfl rfl ?_; apply Nx.of; (first | exact S.move | exact S.assign | exact S.load1c rfl rfl rfl rfl | exact S.loadNc rfl rfl rfl rfl | exact S.fieldAddr rfl rfl rfl | exact S.leq | exact S.lss | exact S.eql | exact S.neq | exact S.geq | exact S.gtr | exact S.not_t | exact S.not_f | exact S.not_d | exact S.pick_tt | exact S.pick_ff | exact S.pick_td (by assumption) | exact S.pick_fd (by assumption) | exact S.pick_b | exact S.box | exact S.alloc rfl | exact S.add_one (by omega) | exact S.sub_one (by omega) (by omega) | exact S.add (by unfold In64; omega) | exact S.sub (by unfold In64; omega) | exact S.mul (by unfold In64; omega) | exact S.add_w | exact S.sub_w | exact S.mul_w | exact S.min2 | exact S.max2 | exact S.build rfl rfl rfl | exact S.buildA rfl rfl rfl rfl | exact S.nilCheck | exact S.extract rfl | exact S.store rfl rfl (bk_one h1 h2) rfl rfl rfl | exact S.store rfl rfl (bkg_one h2) rfl rfl rfl | exact S.buildSlice0 rfl rfl rfl | exact S.append_e rfl rfl rfl rfl rfl rfl rfl rfl rfl rfl h1 rfl rfl hfl (by omega) (by omega) | exact S.storeG rfl rfl rfl rfl rfl hsp)) | (refine RT.goK0 rfl rfl rfl ?_; apply Nx.of; (first | exact S.store rfl rfl rfl rfl rfl rfl | exact S.store rfl rfl (bk_one h1 h2) rfl rfl rfl | exact S.store rfl rfl (bkg_one h2) rfl rfl rfl | exact S.buildSlice0 rfl rfl rfl | exact S.append_e rfl rfl rfl rfl rfl rfl rfl rfl rfl rfl h1 rfl rfl hfl (by omega) (by omega) | exact S.storeG rfl rfl rfl rfl rfl hsp)) | (refine RT.goK rfl rfl rfl rfl ?_; apply Nx.of; (first | exact S.idx_sl rfl rfl rfl (by assumption) (by omega) | exact S.idx_slI rfl rfl rfl (by assumption) (by omega) (by omega) | exact S.rowN0 rfl rfl rfl (fun _ => rfl) (range_at (by omega)) rfl | exact S.rowN rfl rfl rfl (fun _ => rfl) (range_at (by omega)) rfl | exact S.row0 rfl rfl rfl (fun _ => rfl) (range_at (by omega)) rfl | exact S.row rfl rfl rfl (fun _ => rfl) (range_at (by omega)) rfl | exact S.row2 rfl rfl rfl (fun _ => rfl) (range_at (by omega)) rfl | exact S.len_sl rfl rfl rfl (by assumption))))
  refine Tr.loop (fun k : Nat => stL Try.f53.ntmps [] [(2, .ptr 3 0), (3, .ptr 4 0), (4, .int .i64 k)] [(6, some (.grown (flat (stE (smB B k)) (List.range B.ns)) 7)), (4, some (.cells (bk B (.gs 6 B.ns) a2).cells)), (3, some (.cells (bk ⟨0, fun _ => 0, fun _ => 0, fun _ => 0, fun _ => 0, fun _ => 0, fun _ => 0, fun _ => 0, 0, fun _ => 0, 0, fun _ => 0, fun _ => 0, fun _ => 0, 0⟩ .nils .nils).cells)), (2, some (.cells (bk B a1 a2).cells)), (0, some (oSt B)), (1, some (oCk B))] 7) (fun k => k ≤ B.ns) (fun k => B.ns - k) 0 (Nat.zero_le _) (by (refine Wk.same (by decide) (by decide) (by decide) (by decide) ?_ ?_ rfl; all_goals ((try simp only [allL, allM]); (repeat' (first | exact trivial | refine And.intro ?_ ?_)); all_goals (first | rfl | exact congrArg some (congrArg (AV.int .i64) (by omega)) | exact IsSl.ren (by assumption) (nm_lt (by decide)) | exact ren_ro _ _ _ | exact ren_grown _ _ _ _ | exact bk_ren h1 h2 (nm_lt (by decide)) (nm_lt (by decide)) | exact bkc_ren h1 h2 (nm_lt (by decide)) (nm_lt (by decide)) | exact bkg_ren h2 (nm_lt (by decide)) (nm_lt (by decide)) | decide)))) (fun k hk => ?_)
  have hs6 := IsSl.gs 6 B.ns
  by_cases hlt : k < B.ns
  · have hsp := sm_splice B hlt
    have hlt' : (k : Int) < B.ns := by omega
    repeat' (first | refine RT.nil ?_ | refine sq_n ?_ | refine Tr.seq ?_ | refine Tr.region ?_ | refine Tr.cond_t rfl ?_ | refine Tr.cond_f rfl ?_ | refine Tr.cond_d rfl (fun _ => ?_) (fun _ => ?_) | refine Tr.skip ?_ | refine Tr.ret ?_ | refine sq_r ?_ | refine Tr.exit ?_ | refine sq_x ?_ | refine Tr.block ?_ | refine blk_n ?_ | refine blk_r ?_ | refine blk_hit rfl ?_ | refine blk_pass rfl ?_ | refine Tr.label ?_ | refine Tr.scope ?_ | refine scp_n ?_ | refine scp_r ?_ | refine scp_x ?_ | refine lp_r ?_ | refine lp_x ?_ | (refine RT.goK rfl rfl rfl rfl ?_; refine Nx.of (S.lss_t hlt') ?_) | (refine RT.goK rfl rfl rfl rfl ?_; apply Nx.of; (first | exact S.move | exact S.assign | exact S.load1c rfl rfl rfl rfl | exact S.loadNc rfl rfl rfl rfl | exact S.fieldAddr rfl rfl rfl | exact S.leq | exact S.lss | exact S.eql | exact S.neq | exact S.geq | exact S.gtr | exact S.not_t | exact S.not_f | exact S.not_d | exact S.pick_tt | exact S.pick_ff | exact S.pick_td (by assumption) | exact S.pick_fd (by assumption) | exact S.pick_b | exact S.box | exact S.alloc rfl | exact S.add_one (by omega) | exact S.sub_one (by omega) (by omega) | exact S.add (by unfold In64; omega) | exact S.sub (by unfold In64; omega) | exact S.mul (by unfold In64; omega) | exact S.add_w | exact S.sub_w | exact S.mul_w | exact S.min2 | exact S.max2 | exact S.build rfl rfl rfl | exact S.buildA rfl rfl rfl rfl | exact S.nilCheck | exact S.extract rfl | exact S.store rfl rfl (bk_one h1 h2) rfl rfl rfl | exact S.store rfl rfl (bkg_one h2) rfl rfl rfl | exact S.buildSlice0 rfl rfl rfl | exact S.append_e rfl rfl rfl rfl rfl rfl rfl rfl rfl rfl h1 rfl rfl hfl (by omega) (by omega) | exact S.storeG rfl rfl rfl rfl rfl hsp)) | (refine RT.goK0 rfl rfl rfl ?_; apply Nx.of; (first | exact S.store rfl rfl rfl rfl rfl rfl | exact S.store rfl rfl (bk_one h1 h2) rfl rfl rfl | exact S.store rfl rfl (bkg_one h2) rfl rfl rfl | exact S.buildSlice0 rfl rfl rfl | exact S.append_e rfl rfl rfl rfl rfl rfl rfl rfl rfl rfl h1 rfl rfl hfl (by omega) (by omega) | exact S.storeG rfl rfl rfl rfl rfl hsp)) | (refine RT.goK rfl rfl rfl rfl ?_; apply Nx.of; (first | exact S.idx_sl rfl rfl rfl (by assumption) (by omega) | exact S.idx_slI rfl rfl rfl (by assumption) (by omega) (by omega) | exact S.rowN0 rfl rfl rfl (fun _ => rfl) (range_at (by omega)) rfl | exact S.rowN rfl rfl rfl (fun _ => rfl) (range_at (by omega)) rfl | exact S.row0 rfl rfl rfl (fun _ => rfl) (range_at (by omega)) rfl | exact S.row rfl rfl rfl (fun _ => rfl) (range_at (by omega)) rfl | exact S.row2 rfl rfl rfl (fun _ => rfl) (range_at (by omega)) rfl | exact S.len_sl rfl rfl rfl (by assumption))))
    refine Tr.openK un53_6 (by kernel_rfl) (by kernel_rfl) justF justF_calm ?_
    repeat' (first | (refine RD.free rfl rfl rfl rfl rfl rfl ?_; apply Nx.of; (first | exact S.move | exact S.assign | exact S.fieldAddr rfl rfl rfl | exact S.leq | exact S.lss | exact S.eql | exact S.neq | exact S.geq | exact S.gtr | exact S.not_t | exact S.not_f | exact S.not_d | exact S.pick_tt | exact S.pick_ff | exact S.pick_td (by assumption) | exact S.pick_fd (by assumption) | exact S.pick_b | exact S.add_one (by omega) | exact S.sub_one (by omega) (by omega) | exact S.add (by unfold In64; omega) | exact S.sub (by unfold In64; omega) | exact S.mul (by unfold In64; omega) | exact S.add_w | exact S.sub_w | exact S.mul_w | exact S.min2 | exact S.max2 | exact S.build rfl rfl rfl | exact S.buildA rfl rfl rfl rfl | exact S.nilCheck | exact S.extract rfl | exact S.store rfl rfl (bk_one h1 h2) rfl rfl rfl | exact S.store rfl rfl (bkg_one h2) rfl rfl rfl | exact S.buildSlice0 rfl rfl rfl | exact S.append_e rfl rfl rfl rfl rfl rfl rfl rfl rfl rfl h1 rfl rfl hfl (by omega) (by omega) | exact S.storeG rfl rfl rfl rfl rfl hsp | exact S.idx_sl rfl rfl rfl (by assumption) (by omega) | exact S.idx_slI rfl rfl rfl (by assumption) (by omega) (by omega) | exact S.rowN0 rfl rfl rfl (fun _ => rfl) (range_at (by omega)) rfl | exact S.rowN rfl rfl rfl (fun _ => rfl) (range_at (by omega)) rfl | exact S.row0 rfl rfl rfl (fun _ => rfl) (range_at (by omega)) rfl | exact S.row rfl rfl rfl (fun _ => rfl) (range_at (by omega)) rfl | exact S.row2 rfl rfl rfl (fun _ => rfl) (range_at (by omega)) rfl | exact S.len_sl rfl rfl rfl (by assumption) | exact S.index_arrI rfl rfl rfl rfl (by decide) (by decide) rfl | exact S.idx_arrI rfl rfl rfl (by decide) (by decide))) | (refine RD.new rfl rfl rfl rfl rfl rfl ?_; apply Nx.of; (first | exact S.box | exact S.alloc rfl | exact S.store rfl rfl (bk_one h1 h2) rfl rfl rfl | exact S.store rfl rfl (bkg_one h2) rfl rfl rfl | exact S.buildSlice0 rfl rfl rfl | exact S.append_e rfl rfl rfl rfl rfl rfl rfl rfl rfl rfl h1 rfl rfl hfl (by omega) (by omega) | exact S.storeG rfl rfl rfl rfl rfl hsp)) | (refine RD.load rfl rfl rfl rfl rfl rfl rfl rfl ?_; apply Nx.of; (first | exact S.load1c rfl rfl rfl rfl | exact S.loadNc rfl rfl rfl rfl | exact S.store rfl rfl (bk_one h1 h2) rfl rfl rfl | exact S.store rfl rfl (bkg_one h2) rfl rfl rfl | exact S.buildSlice0 rfl rfl rfl | exact S.append_e rfl rfl rfl rfl rfl rfl rfl rfl rfl rfl h1 rfl rfl hfl (by omega) (by omega) | exact S.storeG rfl rfl rfl rfl rfl hsp | exact S.idx_sl rfl rfl rfl (by assumption) (by omega) | exact S.idx_slI rfl rfl rfl (by assumption) (by omega) (by omega) | exact S.rowN0 rfl rfl rfl (fun _ => rfl) (range_at (by omega)) rfl | exact S.rowN rfl rfl rfl (fun _ => rfl) (range_at (by omega)) rfl | exact S.row0 rfl rfl rfl (fun _ => rfl) (range_at (by omega)) rfl | exact S.row rfl rfl rfl (fun _ => rfl) (range_at (by omega)) rfl | exact S.row2 rfl rfl rfl (fun _ => rfl) (range_at (by omega)) rfl | exact S.len_sl rfl rfl rfl (by assumption))) | (refine RD.store rfl rfl rfl rfl rfl rfl rfl ?_; apply Nx.of; (first | exact S.store rfl rfl rfl rfl rfl rfl | exact S.store rfl rfl (bk_one h1 h2) rfl rfl rfl | exact S.store rfl rfl (bkg_one h2) rfl rfl rfl | exact S.buildSlice0 rfl rfl rfl | exact S.append_e rfl rfl rfl rfl rfl rfl rfl rfl rfl rfl h1 rfl rfl hfl (by omega) (by omega) | exact S.storeG rfl rfl rfl rfl rfl hsp)) | (refine RD.no rfl rfl rfl rfl ?_) | (refine RD.load rfl rfl rfl rfl rfl rfl rfl (by refine us_all ?_; simp only [usOk, cond_true, cond_false]; (repeat' (first | exact trivial | refine And.intro ?_ ?_)); all_goals (first | rfl | exact .inl trivial | exact .inl rfl | (refine Or.inr (was_same rfl ?_); (first | (exact ⟨_, rfl, rfl⟩) | (exact ⟨_, rfl, by simp [rfO, rfVs, rfV, rfVs_flat]⟩))))) ?_; apply Nx.of; (first | exact S.load1c rfl rfl rfl rfl | exact S.loadNc rfl rfl rfl rfl | exact S.store rfl rfl (bk_one h1 h2) rfl rfl rfl | exact S.store rfl rfl (bkg_one h2) rfl rfl rfl | exact S.buildSlice0 rfl rfl rfl | exact S.append_e rfl rfl rfl rfl rfl rfl rfl rfl rfl rfl h1 rfl rfl hfl (by omega) (by omega) | exact S.storeG rfl rfl rfl rfl rfl hsp | exact S.idx_sl rfl rfl rfl (by assumption) (by omega) | exact S.idx_slI rfl rfl rfl (by assumption) (by omega) (by omega) | exact S.rowN0 rfl rfl rfl (fun _ => rfl) (range_at (by omega)) rfl | exact S.rowN rfl rfl rfl (fun _ => rfl) (range_at (by omega)) rfl | exact S.row0 rfl rfl rfl (fun _ => rfl) (range_at (by omega)) rfl | exact S.row rfl rfl rfl (fun _ => rfl) (range_at (by omega)) rfl | exact S.row2 rfl rfl rfl (fun _ => rfl) (range_at (by omega)) rfl | exact S.len_sl rfl rfl rfl (by assumption))) | (refine RD.callN rfl rfl rfl rfl rfl rfl rfl rfl rfl (fun fl' => justF_at _ fl' _ _) (fun _ => by refine srOk_all ?_; simp only [srOk]; (repeat' (first | exact trivial | refine And.intro ?_ ?_)); all_goals (first | exact trivial | (refine ⟨_, rfl, ?_⟩; (first | rfl | (simp [rfO, rfVs, rfV, rfVs_flat]; done) | (simp [bk, AV.cells, pbC, rfO, rfVs, rfV, h1.rf, h2.rf]; done))))) ?_) | refine RD.nil ⟨Nat.le_of_ble_eq_true rfl, ?_⟩)
    repeat' (first | refine RT.nil ?_ | refine sq_n ?_ | refine Tr.seq ?_ | refine Tr.region ?_ | refine Tr.cond_t rfl ?_ | refine Tr.cond_f rfl ?_ | refine Tr.cond_d rfl (fun _ => ?_) (fun _ => ?_) | refine Tr.skip ?_ | refine Tr.ret ?_ | refine sq_r ?_ | refine Tr.exit ?_ | refine sq_x ?_ | refine Tr.block ?_ | refine blk_n ?_ | refine blk_r ?_ | refine blk_hit rfl ?_ | refine blk_pass rfl ?_ | refine Tr.label ?_ | refine Tr.scope ?_ | refine scp_n ?_ | refine scp_r ?_ | refine scp_x ?_ | refine lp_r ?_ | refine lp_x ?_ | (refine RT.goK rfl rfl rfl rfl ?_; apply Nx.of; (first | exact S.move | exact S.assign | exact S.load1c rfl rfl rfl rfl | exact S.loadNc rfl rfl rfl rfl | exact S.fieldAddr rfl rfl rfl | exact S.leq | exact S.lss | exact S.eql | exact S.neq | exact S.geq | exact S.gtr | exact S.not_t | exact S.not_f | exact S.not_d | exact S.pick_tt | exact S.pick_ff | exact S.pick_td (by assumption) | exact S.pick_fd (by assumption) | exact S.pick_b | exact S.box | exact S.alloc rfl | exact S.add_one (by omega) | exact S.sub_one (by omega) (by omega) | exact S.add (by unfold In64; omega) | exact S.sub (by unfold In64; omega) | exact S.mul (by unfold In64; omega) | exact S.add_w | exact S.sub_w | exact S.mul_w | exact S.min2 | exact S.max2 | exact S.build rfl rfl rfl | exact S.buildA rfl rfl rfl rfl | exact S.nilCheck | exact S.extract rfl | exact S.store rfl rfl (bk_one h1 h2) rfl rfl rfl | exact S.store rfl rfl (bkg_one h2) rfl rfl rfl | exact S.buildSlice0 rfl rfl rfl | exact S.append_e rfl rfl rfl rfl rfl rfl rfl rfl rfl rfl h1 rfl rfl hfl (by omega) (by omega) | exact S.storeG rfl rfl rfl rfl rfl hsp)) | (refine RT.goK0 rfl rfl rfl ?_; apply Nx.of; (first | exact S.store rfl rfl rfl rfl rfl rfl | exact S.store rfl rfl (bk_one h1 h2) rfl rfl rfl | exact S.store rfl rfl (bkg_one h2) rfl rfl rfl | exact S.buildSlice0 rfl rfl rfl | exact S.append_e rfl rfl rfl rfl rfl rfl rfl rfl rfl rfl h1 rfl rfl hfl (by omega) (by omega) | exact S.storeG rfl rfl rfl rfl rfl hsp)) | (refine RT.goK rfl rfl rfl rfl ?_; apply Nx.of; (first | exact S.idx_sl rfl rfl rfl (by assumption) (by omega) | exact S.idx_slI rfl rfl rfl (by assumption) (by omega) (by omega) | exact S.rowN0 rfl rfl rfl (fun _ => rfl) (range_at (by omega)) rfl | exact S.rowN rfl rfl rfl (fun _ => rfl) (range_at (by omega)) rfl | exact S.row0 rfl rfl rfl (fun _ => rfl) (range_at (by omega)) rfl | exact S.row rfl rfl rfl (fun _ => rfl) (range_at (by omega)) rfl | exact S.row2 rfl rfl rfl (fun _ => rfl) (range_at (by omega)) rfl | exact S.len_sl rfl rfl rfl (by assumption))))
    refine lp_n (k + 1) hlt (by omega) (by (refine Wk.same (by decide) (by decide) (by decide) (by decide) ?_ ?_ rfl; all_goals ((try simp only [allL, allM]); (repeat' (first | exact trivial | refine And.intro ?_ ?_)); all_goals (first | rfl | exact congrArg some (congrArg (AV.int .i64) (by omega)) | exact IsSl.ren (by assumption) (nm_lt (by decide)) | exact ren_ro _ _ _ | exact ren_grown _ _ _ _ | exact bk_ren h1 h2 (nm_lt (by decide)) (nm_lt (by decide)) | exact bkc_ren h1 h2 (nm_lt (by decide)) (nm_lt (by decide)) | exact bkg_ren h2 (nm_lt (by decide)) (nm_lt (by decide)) | decide))))
  · obtain rfl : k = B.ns := by omega
    have hlt' : ¬ (B.ns : Int) < B.ns := by omega
    repeat' (first | refine RT.nil ?_ | refine sq_n ?_ | refine Tr.seq ?_ | refine Tr.region ?_ | refine Tr.cond_t rfl ?_ | refine Tr.cond_f rfl ?_ | refine Tr.cond_d rfl (fun _ => ?_) (fun _ => ?_) | refine Tr.skip ?_ | refine Tr.ret ?_ | refine sq_r ?_ | refine Tr.exit ?_ | refine sq_x ?_ | refine Tr.block ?_ | refine blk_n ?_ | refine blk_r ?_ | refine blk_hit rfl ?_ | refine blk_pass rfl ?_ | refine Tr.label ?_ | refine Tr.scope ?_ | refine scp_n ?_ | refine scp_r ?_ | refine scp_x ?_ | refine lp_r ?_ | refine lp_x ?_ | (refine RT.goK rfl rfl rfl rfl ?_; refine Nx.of (S.lss_f hlt') ?_) | (refine RT.goK rfl rfl rfl rfl ?_; apply Nx.of; (first | exact S.move | exact S.assign | exact S.load1c rfl rfl rfl rfl | exact S.loadNc rfl rfl rfl rfl | exact S.fieldAddr rfl rfl rfl | exact S.leq | exact S.lss | exact S.eql | exact S.neq | exact S.geq | exact S.gtr | exact S.not_t | exact S.not_f | exact S.not_d | exact S.pick_tt | exact S.pick_ff | exact S.pick_td (by assumption) | exact S.pick_fd (by assumption) | exact S.pick_b | exact S.box | exact S.alloc rfl | exact S.add_one (by omega) | exact S.sub_one (by omega) (by omega) | exact S.add (by unfold In64; omega) | exact S.sub (by unfold In64; omega) | exact S.mul (by unfold In64; omega) | exact S.add_w | exact S.sub_w | exact S.mul_w | exact S.min2 | exact S.max2 | exact S.build rfl rfl rfl | exact S.buildA rfl rfl rfl rfl | exact S.nilCheck | exact S.extract rfl | exact S.store rfl rfl (bk_one h1 h2) rfl rfl rfl | exact S.store rfl rfl (bkg_one h2) rfl rfl rfl | exact S.buildSlice0 rfl rfl rfl | exact S.append_e rfl rfl rfl rfl rfl rfl rfl rfl rfl rfl h1 rfl rfl hfl (by omega) (by omega) | exact S.storeG rfl rfl rfl rfl rfl hsp)) | (refine RT.goK0 rfl rfl rfl ?_; apply Nx.of; (first | exact S.store rfl rfl rfl rfl rfl rfl | exact S.store rfl rfl (bk_one h1 h2) rfl rfl rfl | exact S.store rfl rfl (bkg_one h2) rfl rfl rfl | exact S.buildSlice0 rfl rfl rfl | exact S.append_e rfl rfl rfl rfl rfl rfl rfl rfl rfl rfl h1 rfl rfl hfl (by omega) (by omega) | exact S.storeG rfl rfl rfl rfl rfl hsp)) | (refine RT.goK rfl rfl rfl rfl ?_; apply Nx.of; (first | exact S.idx_sl rfl rfl rfl (by assumption) (by omega) | exact S.idx_slI rfl rfl rfl (by assumption) (by omega) (by omega) | exact S.rowN0 rfl rfl rfl (fun _ => rfl) (range_at (by omega)) rfl | exact S.rowN rfl rfl rfl (fun _ => rfl) (range_at (by omega)) rfl | exact S.row0 rfl rfl rfl (fun _ => rfl) (range_at (by omega)) rfl | exact S.row rfl rfl rfl (fun _ => rfl) (range_at (by omega)) rfl | exact S.row2 rfl rfl rfl (fun _ => rfl) (range_at (by omega)) rfl | exact S.len_sl rfl rfl rfl (by assumption))))
    (first | refine rt_go rfl ?_ | refine rt_go (by exact rfl) ?_)
    exact ⟨rfl, rfl, getM rfl⟩
end Go.Proofs.Ytcoklgmdifggbaa

/- A book whose road is smooth: where it lies, and what its truths are. -/
namespace Go.Proofs.Ytcoklgmdifggbaa
open Go Go.Ev

theorem smooth2_at {B : CBook} {a1 a2 : AV} {m : List (Nat × Option AObj)} {c : Nat} (h : BkIn B a1 a2 m c) (hm : ∀ x o, lookM m x = some o → x < c) (hns : 1 ≤ B.ns ∧ B.ns ≤ 3) (fl : Nat) : OkAt 0 Try.prog fl 53 [bk B a1 a2] (ofM m) c (bk B (.gs (c + 4) B.ns) a2) (ofM ((c + 4, some (.grown (flat (stE (smB B B.ns)) (List.range B.ns)) 7)) :: m)) (c + 5) := by
  let τ : Nat → Nat := fun y => if y < 2 then y else c + (y - 2)
  have hc := h.hc
  have t0 : τ 0 = 0 := rfl
  have t1 : τ 1 = 1 := rfl
  have t6 : τ 6 = c + 4 := rfl
  have ha : AV.rens τ [bk B a1 a2] = [bk B a1 a2] := by simp only [bk, AV.ren, AV.rens, h.h1.ren t0, h.h2.ren t1]
  rw [← ha]
  refine CanS.inst (smooth2_can B a1 a2 h.h1 h.h2 hns) (Nat.zero_le _) (Nat.le_refl _) τ (fun g hg => by omega) (fun y hy => by show (if y < 2 then y else _) < c; rw [if_pos hy]; omega) (fun y hy => by show (if y < 2 then y else _) = _; rw [if_neg (by omega)]) (fun y o hy => ?_) (fun x y o o' hx hy hxy => ?_) (fun y hy hy' => by omega) (fun v1 H1 c1 hq _ => ?_)
  · rcases m2_low hy with rfl | rfl
    · cases hy; rw [t0, ren_ro]; exact getM h.m1
    · cases hy; rw [t1, ren_ro]; exact getM h.m2
  · refine .inl ?_
    rcases m2_low hx with rfl | rfl <;> rcases m2_low hy with rfl | rfl <;> simp only [t0, t1] <;> omega
  · obtain ⟨rfl, rfl, g1⟩ := hq
    refine ⟨by simp only [bk, AV.ren, AV.rens, t6, h.h2.ren t1], rfl, fun x o hx => ?_⟩
    rw [ofM_get] at hx
    by_cases e1 : x = c + 4
    · subst e1
      rw [lookM_hd] at hx
      cases hx
      exact .inr ⟨6, _, by omega, g1, t6.symm, (ren_grown _ _ _ _).symm⟩
    · rw [lookM_tl e1] at hx
      exact .inl ⟨hm x o hx, fun y hy hy' => by omega, getM hx⟩

theorem before_sm (B : CBook) (n i : Nat) : before (smB B n) i = before B i := by cases i <;> rfl
theorem smB_stOk {B : CBook} {n i : Nat} (h : stOk B i) : stOk (smB B n) i := by
  unfold stOk at h ⊢
  rw [before_sm]
  simp only [smB]
  split <;> omega
theorem smB_ok {B : CBook} {n : Nat} (h : bkOk B) : bkOk (smB B n) := ⟨⟨h.1.1, fun i hi => smB_stOk (h.1.2 i hi)⟩, h.2.1, h.2.2.1, h.2.2.2⟩
/-- A book without its clocks. -/
def ncB (B : CBook) : CBook := { B with nc := 0 }
theorem before_nc (B : CBook) (i : Nat) : before (ncB B) i = before B i := by cases i <;> rfl
theorem ncB_stOk {B : CBook} {i : Nat} (h : stOk B i) : stOk (ncB B) i := by
  unfold stOk at h ⊢
  rw [before_nc]
  exact h
theorem ncB_ok {B : CBook} (h : bkOk B) : bkOk (ncB B) := ⟨⟨h.1.1, fun i hi => ncB_stOk (h.1.2 i hi)⟩, h.2.1, ⟨Nat.zero_le _, fun i hi => absurd hi (Nat.not_lt_zero i)⟩, h.2.2.2⟩
theorem wrV_nc (B : CBook) (q : Int × Int) : wrV (ncB B) q = 0 := rfl

/-- A truth by its parts. -/
def toT (w : Int) (n : Nat) (r c : Nat → Int) : Tru := ⟨w, if 0 < n then r 0 else 0, if 1 < n then r 1 else 0, if 2 < n then r 2 else 0, if 0 < n then c 0 else 0, if 1 < n then c 1 else 0, if 2 < n then c 2 else 0⟩
theorem toT_r {w : Int} {n i : Nat} {r c : Nat → Int} (h : i < 3) : (toT w n r c).r i = if i < n then r i else 0 := by
  obtain rfl | rfl | rfl : i = 0 ∨ i = 1 ∨ i = 2 := by omega
  all_goals rfl
theorem toT_c {w : Int} {n i : Nat} {r c : Nat → Int} (h : i < 3) : (toT w n r c).c i = if i < n then c i else 0 := by
  obtain rfl | rfl | rfl : i = 0 ∨ i = 1 ∨ i = 2 := by omega
  all_goals rfl
theorem toT_is {B : CBook} {w : Int} {r c : Nat → Int} (hn : B.ns ≤ 3) (hw : 0 ≤ w ∧ w < 3 ∧ hasP B.wea w.toNat)
    (h : ∀ i, i < B.ns → (B.rl i ≤ r i ∧ r i ≤ B.rh i) ∧ (((if i = 0 then 0 else c (i - 1) + B.sl (i - 1)) + B.dl i + B.cost w.toNat + r i ≤ c i) ∧ c i ≤ (if i = 0 then 0 else c (i - 1) + B.sh (i - 1)) + B.dh i + B.cost w.toNat + r i) ∧ wrV B (i, c i) = 0) : IsT B (toT w B.ns r c) := by
  refine ⟨hw, fun i hi => ?_, fun i h1 h2 => ?_⟩
  · have e1 : (toT w B.ns r c).r i = r i := by rw [toT_r (by omega), if_pos hi]
    have e2 : (toT w B.ns r c).c i = c i := by rw [toT_c (by omega), if_pos hi]
    have e3 : ∀ s : Nat → Int, (if i = 0 then 0 else (toT w B.ns r c).c (i - 1) + s (i - 1)) = if i = 0 then 0 else c (i - 1) + s (i - 1) := fun s => by
      by_cases h0 : i = 0
      · rw [if_pos h0, if_pos h0]
      · rw [if_neg h0, if_neg h0, toT_c (by omega), if_pos (by omega)]
    unfold StT dlo dhi
    rw [e1, e2, e3 B.sl, e3 B.sh]
    exact h i hi
  · rw [toT_r h2, toT_c h2, if_neg (by omega), if_neg (by omega)]
    exact ⟨rfl, rfl⟩

def sumN (f : Nat → Int) : Nat → Int
  | 0 => 0
  | k + 1 => sumN f k + f k
theorem sumN_le {f g : Nat → Int} : ∀ n, (∀ i, i < n → f i ≤ g i) → sumN f n ≤ sumN g n
  | 0, _ => Int.le_refl _
  | n + 1, h => by
    have h1 := sumN_le n fun i hi => h i (by omega)
    have h2 := h n (by omega)
    simp only [sumN]
    omega
theorem sumN_bd {f : Nat → Int} : ∀ n, (∀ i, i < n → 0 ≤ f i ∧ f i ≤ 30) → 0 ≤ sumN f n ∧ sumN f n ≤ 30 * n
  | 0, _ => by simp [sumN]
  | n + 1, h => by
    have h1 := sumN_bd n fun i hi => h i (by omega)
    have h2 := h n (by omega)
    simp only [sumN]
    omega
def chn (B : CBook) (w : Nat) : Nat → Int
  | 0 => B.dl 0 + B.cost w + B.rl 0
  | k + 1 => chn B w k + B.sl k + B.dl (k + 1) + B.cost w + B.rl (k + 1)
theorem some_wea {B : CBook} (hw : weaOk B) : ∃ w : Nat, w < 3 ∧ hasP B.wea w := by
  obtain ⟨⟨h1, h2⟩, _⟩ := hw
  unfold hasP
  obtain e | e | e | e | e | e | e : B.wea = 1 ∨ B.wea = 2 ∨ B.wea = 3 ∨ B.wea = 4 ∨ B.wea = 5 ∨ B.wea = 6 ∨ B.wea = 7 := by omega
  all_goals rw [e]
  all_goals first | exact ⟨0, by decide, by decide⟩ | exact ⟨1, by decide, by decide⟩ | exact ⟨2, by decide, by decide⟩
theorem ne_nc {B : CBook} (h : bkOk B) (hz : ∀ q, wrV B q = 0) : Ws B ≠ [] := by
  obtain ⟨w, hw, hp⟩ := some_wea h.2.1
  have : toT (w : Int) B.ns B.rl (chn B w) ∈ Ws B := by
    refine (mem_Ws h.1 h.2.1).2 (toT_is h.1.1.2 ⟨by omega, by omega, by rw [Int.toNat_natCast]; exact hp⟩ fun i hi => ?_)
    rw [Int.toNat_natCast]
    have hs := h.1.2 i hi
    unfold stOk at hs
    refine ⟨by omega, ?_, hz _⟩
    cases i with
    | zero => simp only [chn, if_pos]; omega
    | succ i =>
      have hs' := h.1.2 i (by omega)
      unfold stOk at hs'
      rw [if_neg (by omega), if_neg (by omega), Nat.add_sub_cancel]
      simp only [chn]
      omega
  intro e
  rw [e] at this
  cases this

/-- What a rough road costs together, where no clock stands. -/
theorem sm_span {B : CBook} (h : bkOk B) (i : Nat) (hi : i < B.ns) :
    spL (fun t : Tru => t.c i) (Ws (ncB B)) = spL (fun t : Tru => t.c i) (Ws (ncB (smB B B.ns))) + sumN B.rl (i + 1) ∧ spH (fun t : Tru => t.c i) (Ws (ncB B)) = spH (fun t : Tru => t.c i) (Ws (ncB (smB B B.ns))) + sumN B.rh (i + 1) := by
  have hx := ncB_ok (smB_ok (n := B.ns) h)
  have hy := ncB_ok h
  have hn := h.1.1.2
  have sx := sp_is (fun t : Tru => t.c i) (ne_nc hx (wrV_nc _))
  have sy := sp_is (fun t : Tru => t.c i) (ne_nc hy (wrV_nc _))
  have up : ∀ r : Nat → Int, (∀ j, j < B.ns → B.rl j ≤ r j ∧ r j ≤ B.rh j) → ∀ u ∈ Ws (ncB (smB B B.ns)), ∃ t ∈ Ws (ncB B), t.c i = u.c i + sumN r (i + 1) := fun r hr u hu => by
    have hu := (mem_Ws hx.1 hx.2.1).1 hu
    refine ⟨toT u.w B.ns r fun j => u.c j + sumN r (j + 1), (mem_Ws hy.1 hy.2.1).2 (toT_is (B := ncB B) hn hu.w fun j hj => ⟨hr j hj, ?_, wrV_nc _ _⟩), by rw [toT_c (by omega), if_pos hi]⟩
    have g := hu.st j hj
    unfold StT dlo dhi at g
    simp only [ncB, smB] at g hj ⊢
    rw [if_pos hj] at g
    cases j with
    | zero => simp only [sumN, if_pos] at g ⊢; omega
    | succ j =>
      simp only [sumN, if_neg (Nat.succ_ne_zero j), Nat.add_sub_cancel] at g ⊢
      omega
  have down : ∀ t ∈ Ws (ncB B), ∃ u ∈ Ws (ncB (smB B B.ns)), t.c i = u.c i + sumN t.r (i + 1) ∧ ∀ j, j < B.ns → B.rl j ≤ t.r j ∧ t.r j ≤ B.rh j := fun t ht => by
    have ht := (mem_Ws hy.1 hy.2.1).1 ht
    have hr : ∀ j, j < B.ns → B.rl j ≤ t.r j ∧ t.r j ≤ B.rh j := fun j hj => (ht.st j hj).1
    refine ⟨toT t.w B.ns (fun _ => 0) fun j => t.c j - sumN t.r (j + 1), (mem_Ws hx.1 hx.2.1).2 (toT_is (B := ncB (smB B B.ns)) hn ht.w fun j hj => ⟨?_, ?_, wrV_nc _ _⟩), by rw [toT_c (by omega), if_pos hi]; omega, hr⟩
    · simp only [ncB, smB] at hj ⊢
      rw [if_pos hj, if_pos hj]
      omega
    · have g := ht.st j hj
      unfold StT dlo dhi at g
      simp only [ncB, smB] at g hj ⊢
      cases j with
      | zero => simp only [sumN, if_pos] at g ⊢; omega
      | succ j =>
        simp only [sumN, if_neg (Nat.succ_ne_zero j), Nat.add_sub_cancel] at g ⊢
        omega
  have rlh : ∀ j, j < B.ns → B.rl j ≤ B.rh j := fun j hj => by
    have hs := h.1.2 j hj
    unfold stOk at hs
    omega
  obtain ⟨a, ha, a1⟩ := sx.exL
  obtain ⟨b, hb, b1⟩ := sx.exH
  obtain ⟨d, hd, d1⟩ := sy.exL
  obtain ⟨e, he, e1⟩ := sy.exH
  obtain ⟨a', ha', a2⟩ := up B.rl (fun j hj => ⟨Int.le_refl _, rlh j hj⟩) a ha
  obtain ⟨b', hb', b2⟩ := up B.rh (fun j hj => ⟨rlh j hj, Int.le_refl _⟩) b hb
  obtain ⟨d', hd', d2, d3⟩ := down d hd
  obtain ⟨e', he', e2, e3⟩ := down e he
  have q1 := (sy.all a' ha').1
  have q2 := (sy.all b' hb').2
  have q3 := (sx.all d' hd').1
  have q4 := (sx.all e' he').2
  have q5 := sumN_le (f := B.rl) (g := d.r) (i + 1) fun j hj => (d3 j (by omega)).1
  have q6 := sumN_le (f := e.r) (g := B.rh) (i + 1) fun j hj => (e3 j (by omega)).2
  omega
end Go.Proofs.Ytcoklgmdifggbaa
