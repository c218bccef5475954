/- Texts of one kind, one behind the other: Dn, SyOj, Do, Dp, Lg. -/
import Derived.Test.YtjncfddnphhofaaW4
set_option linter.unusedVariables false
set_option linter.unusedSimpArgs false
/- Lists of numbers in the reference: Place, Rising, Sooner, Fewer, All. -/
namespace Go.Proofs.Ytjncfddnphhofaa
open Go Go.Ev

theorem first_ex {p : Nat → Prop} : ∀ n, p n → ∃ k, p k ∧ ∀ j, j < k → ¬ p j := fun n => by
  induction n using Nat.strongRecOn with
  | ind n ih =>
    intro hn
    by_cases h : ∃ j, j < n ∧ p j
    · obtain ⟨j, hj, hp⟩ := h
      exact ih j hj hp
    · exact ⟨n, hn, fun j hj hp => h ⟨j, hj, hp⟩⟩
open Classical in
/-- The first place of a number in a list, or -1. -/
noncomputable def plV (L : List Nat) (n : Nat) : Int := if h : ∃ k : Nat, L[k]? = some n ∧ ∀ j : Nat, j < k → L[j]? ≠ some n then (h.choose : Int) else -1
theorem plV_at {L : List Nat} {n k : Nat} (h : L[k]? = some n) (hb : ∀ j : Nat, j < k → L[j]? ≠ some n) : plV L n = k := by
  have hx : ∃ k : Nat, L[k]? = some n ∧ ∀ j : Nat, j < k → L[j]? ≠ some n := ⟨k, h, hb⟩
  unfold plV
  rw [dif_pos hx]
  obtain ⟨h1, h2⟩ := hx.choose_spec
  have a1 : ¬ hx.choose < k := fun q => hb _ q h1
  have a2 : ¬ k < hx.choose := fun q => h2 _ q h
  omega
theorem plV_no {L : List Nat} {n : Nat} (h : ∀ j : Nat, L[j]? ≠ some n) : plV L n = -1 := by
  unfold plV
  rw [dif_neg]
  rintro ⟨k, hk, _⟩
  exact h k hk
theorem plV_neg {L : List Nat} {n : Nat} : plV L n < 0 ↔ n ∉ L := by
  by_cases hx : ∃ k : Nat, L[k]? = some n ∧ ∀ j : Nat, j < k → L[j]? ≠ some n
  · unfold plV
    rw [dif_pos hx]
    obtain ⟨h1, _⟩ := hx.choose_spec
    exact iff_of_false (by omega) fun k => k (List.mem_of_getElem? h1)
  · unfold plV
    rw [dif_neg hx]
    refine iff_of_true (by decide) fun hm => hx ?_
    obtain ⟨k, hk⟩ := List.getElem?_of_mem hm
    exact first_ex (p := fun j : Nat => L[j]? = some n) k hk
set_option maxRecDepth 100000 in
set_option maxHeartbeats 4000000 in
theorem Place_can (L : List Nat) (a1 : AV) (h1 : IsSl a1 L.length 0) (hl : L.length ≤ 1000) (n : Nat) : CanS 0 Try.prog 86 1 [a1, .int .i64 (n : Int)] [(0, some (.ro (natV L)))] 1 fun v _ _ => v = .int .i64 (plV L n) := by
  refine CanS.mk Try.func86 rfl rfl rfl ?_
  repeat' (first | refine RT.nil ?_ | refine sq_n ?_ | refine Tr.seq ?_ | refine Tr.region ?_ | refine Tr.block ?_ | (refine RT.goK rfl rfl rfl rfl ?_; apply Nx.of; (first | exact S.assign)))
  refine Tr.loop (fun k : Nat => stL Try.f86.ntmps [] [(0, a1), (1, .int .i64 (n : Int)), (5, .int .i64 k)] [(0, some (.ro (natV L)))] 1) (fun k => k ≤ L.length ∧ ∀ j : Nat, j < k → L[j]? ≠ some n) (fun k => L.length - k) 0 ⟨Nat.zero_le _, fun j hj => absurd hj (Nat.not_lt_zero j)⟩ (by (refine Wk.same (by decide) (by decide) (by decide) (by decide) ?_ ?_ rfl; all_goals ((try simp only [allL, allM]); (repeat' (first | exact trivial | refine And.intro ?_ ?_)); all_goals (first | rfl | exact IsSl.ren (by assumption) (nm_lt (by decide)) | exact roN_ren _ _ | decide)))) (fun k ⟨hk, hb⟩ => ?_)
  by_cases hlt : k < L.length
  · have hlt' : (k : Int) < L.length := by omega
    have x1 := natV_at hlt
    have e1 : L[k]? = some L[k] := List.getElem?_eq_getElem hlt
    by_cases he : ((L[k] : Nat) : Int) = n
    · repeat' (first | refine RT.nil ?_ | refine sq_n ?_ | refine Tr.seq ?_ | refine Tr.region ?_ | refine Tr.cond_t rfl ?_ | refine Tr.skip ?_ | refine Tr.ret ?_ | refine sq_r ?_ | refine Tr.block ?_ | refine blk_r ?_ | refine lp_r ?_ | (refine RT.goK rfl rfl rfl rfl ?_; first | refine Nx.of (S.lss_t hlt') ?_ | refine Nx.of (S.load1r rfl rfl rfl x1) ?_ | refine Nx.of (S.eql_t he) ?_) | (refine RT.goK rfl rfl rfl rfl ?_; apply Nx.of; (first | exact S.move | exact S.assign)) | (refine RT.goK rfl rfl rfl rfl ?_; apply Nx.of; (first | exact S.idx_sl rfl rfl rfl (by assumption) (by omega) | exact S.len_sl rfl rfl rfl (by assumption))))
      (first | refine rt_go rfl ?_)
      have : L[k] = n := by omega
      rw [plV_at (by rw [e1, this]) hb]
      rfl
    · repeat' (first | refine RT.nil ?_ | refine sq_n ?_ | refine Tr.seq ?_ | refine Tr.region ?_ | refine Tr.cond_t rfl ?_ | refine Tr.cond_f rfl ?_ | refine Tr.skip ?_ | refine Tr.block ?_ | refine blk_n ?_ | (refine RT.goK rfl rfl rfl rfl ?_; first | refine Nx.of (S.lss_t hlt') ?_ | refine Nx.of (S.load1r rfl rfl rfl x1) ?_ | refine Nx.of (S.eql_f he) ?_) | (refine RT.goK rfl rfl rfl rfl ?_; apply Nx.of; (first | exact S.move | exact S.assign | exact S.add_one (by omega))) | (refine RT.goK rfl rfl rfl rfl ?_; apply Nx.of; (first | exact S.idx_sl rfl rfl rfl (by assumption) (by omega) | exact S.len_sl rfl rfl rfl (by assumption))))
      refine lp_n (k + 1) ⟨hlt, fun j hj => ?_⟩ (by omega) (by (refine Wk.same (by decide) (by decide) (by decide) (by decide) ?_ ?_ rfl; all_goals ((try simp only [allL, allM]); (repeat' (first | exact trivial | refine And.intro ?_ ?_)); all_goals (first | rfl | exact IsSl.ren (by assumption) (nm_lt (by decide)) | exact roN_ren _ _ | decide))))
      by_cases g : j = k
      · subst g
        rw [e1]
        intro q
        cases q
        exact he rfl
      · exact hb j (by omega)
  · obtain rfl : k = L.length := by omega
    have hlt' : ¬ (L.length : Int) < L.length := by omega
    repeat' (first | refine RT.nil ?_ | refine sq_n ?_ | refine Tr.seq ?_ | refine Tr.region ?_ | refine Tr.cond_f rfl ?_ | refine Tr.ret ?_ | refine Tr.exit ?_ | refine sq_x ?_ | refine blk_hit rfl ?_ | refine lp_x ?_ | (refine RT.goK rfl rfl rfl rfl ?_; first | refine Nx.of (S.lss_f hlt') ?_) | (refine RT.goK rfl rfl rfl rfl ?_; apply Nx.of; (first | exact S.move | exact S.assign)) | (refine RT.goK rfl rfl rfl rfl ?_; apply Nx.of; (first | exact S.len_sl rfl rfl rfl (by assumption))))
    (first | refine rt_go rfl ?_)
    rw [plV_no]
    · rfl
    intro j
    by_cases g : j < L.length
    · exact hb j g
    · rw [List.getElem?_eq_none (by omega)]; simp
/-- Strictly increasing, below a number. -/
def RisL (L : List Nat) (n : Nat) : Prop := (∀ k x : Nat, L[k]? = some x → x < n) ∧ ∀ k x y : Nat, L[k]? = some x → L[k + 1]? = some y → x < y
def lastV (L : List Nat) : Nat → Int
  | 0 => -1
  | k + 1 => ((L[k]?.getD 0 : Nat) : Int)
set_option maxRecDepth 100000 in
set_option maxHeartbeats 4000000 in
theorem Rising_can (L : List Nat) (a1 : AV) (h1 : IsSl a1 L.length 0) (hl : L.length ≤ 1000) (n : Nat) (hr : RisL L n) : CanS 0 Try.prog 45 1 [a1, .int .i64 (n : Int)] [(0, some (.ro (natV L)))] 1 fun v _ _ => v = .bool true := by
  refine CanS.mk Try.func45 rfl rfl rfl ?_
  repeat' (first | refine RT.nil ?_ | refine sq_n ?_ | refine Tr.seq ?_ | refine Tr.region ?_ | refine Tr.block ?_ | (refine RT.goK rfl rfl rfl rfl ?_; apply Nx.of; (first | exact S.assign)))
  refine Tr.loop (fun k : Nat => stL Try.f45.ntmps [] [(0, a1), (1, .int .i64 (n : Int)), (5, .int .i64 (lastV L k)), (6, .int .i64 k)] [(0, some (.ro (natV L)))] 1) (fun k => k ≤ L.length) (fun k => L.length - k) 0 (Nat.zero_le _) (by (refine Wk.same (by decide) (by decide) (by decide) (by decide) ?_ ?_ rfl; all_goals ((try simp only [allL, allM]); (repeat' (first | exact trivial | refine And.intro ?_ ?_)); all_goals (first | rfl | exact IsSl.ren (by assumption) (nm_lt (by decide)) | exact roN_ren _ _ | decide)))) (fun k hk => ?_)
  by_cases hlt : k < L.length
  · have hlt' : (k : Int) < L.length := by omega
    have x1 := natV_at hlt
    have e1 : L[k]? = some L[k] := List.getElem?_eq_getElem hlt
    have hb := hr.1 k _ e1
    have g1 : ¬ ((L[k] : Nat) : Int) ≤ lastV L k := by
      cases k with
      | zero => show ¬ _ ≤ (-1 : Int); omega
      | succ j =>
        have e2 : L[j]? = some L[j] := List.getElem?_eq_getElem (by omega)
        have := hr.2 j _ _ e2 e1
        show ¬ _ ≤ ((L[j]?.getD 0 : Nat) : Int)
        rw [e2]
        show ¬ _ ≤ ((L[j] : Nat) : Int)
        omega
    have g2 : ¬ ((L[k] : Nat) : Int) ≥ n := by omega
    have e3 : lastV L (k + 1) = ((L[k] : Nat) : Int) := by show ((L[k]?.getD 0 : Nat) : Int) = _; rw [e1]; rfl
    repeat' (first | refine RT.nil ?_ | refine sq_n ?_ | refine Tr.seq ?_ | refine Tr.region ?_ | refine Tr.cond_t rfl ?_ | refine Tr.cond_f rfl ?_ | refine Tr.skip ?_ | refine Tr.block ?_ | refine blk_n ?_ | (refine RT.goK rfl rfl rfl rfl ?_; first | refine Nx.of (S.lss_t hlt') ?_ | refine Nx.of (S.load1r rfl rfl rfl x1) ?_ | refine Nx.of (S.leq_f g1) ?_ | refine Nx.of (S.geq_f g2) ?_) | (refine RT.goK rfl rfl rfl rfl ?_; apply Nx.of; (first | exact S.move | exact S.assign | exact S.pick_ff | exact S.add_one (by omega))) | (refine RT.goK rfl rfl rfl rfl ?_; apply Nx.of; (first | exact S.idx_sl rfl rfl rfl (by assumption) (by omega) | exact S.len_sl rfl rfl rfl (by assumption))))
    refine lp_n (k + 1) hlt (by omega) ?_
    rw [e3]
    (refine Wk.same (by decide) (by decide) (by decide) (by decide) ?_ ?_ rfl; all_goals ((try simp only [allL, allM]); (repeat' (first | exact trivial | refine And.intro ?_ ?_)); all_goals (first | rfl | exact IsSl.ren (by assumption) (nm_lt (by decide)) | exact roN_ren _ _ | decide)))
  · obtain rfl : k = L.length := by omega
    have hlt' : ¬ (L.length : Int) < L.length := by omega
    repeat' (first | refine RT.nil ?_ | refine sq_n ?_ | refine Tr.seq ?_ | refine Tr.region ?_ | refine Tr.cond_f rfl ?_ | refine Tr.ret ?_ | refine Tr.exit ?_ | refine sq_x ?_ | refine blk_hit rfl ?_ | refine lp_x ?_ | (refine RT.goK rfl rfl rfl rfl ?_; first | refine Nx.of (S.lss_f hlt') ?_) | (refine RT.goK rfl rfl rfl rfl ?_; apply Nx.of; (first | exact S.move | exact S.assign)) | (refine RT.goK rfl rfl rfl rfl ?_; apply Nx.of; (first | exact S.len_sl rfl rfl rfl (by assumption))))
    (first | refine rt_go rfl ?_)
    rfl
set_option maxRecDepth 100000 in
set_option maxHeartbeats 4000000 in
theorem Sooner_can (l q : List Nat) (hl : l.length ≤ 1000) (a1 a2 : AV) (h1 : IsSl a1 l.length 0) (h2 : IsSl a2 q.length 1) : CanS 0 Try.prog 87 2 [a1, a2] [(0, some (.ro (natV l))), (1, some (.ro (natV q)))] 2 fun v _ _ => v = .bool (decide (lexC l q < 0)) := by
  refine CanS.mk Try.func87 rfl rfl rfl ?_
  repeat' (first | refine RT.nil ?_ | refine sq_n ?_ | refine Tr.seq ?_ | refine Tr.region ?_ | refine Tr.block ?_ | (refine RT.goK rfl rfl rfl rfl ?_; apply Nx.of; (first | exact S.assign)))
  refine Tr.loop (fun k : Nat => stL Try.f87.ntmps [] [(0, a1), (1, a2), (5, .int .i64 k)] [(0, some (.ro (natV l))), (1, some (.ro (natV q)))] 2) (fun k => k ≤ l.length ∧ k ≤ q.length ∧ lexC l q = lexC (l.drop k) (q.drop k)) (fun k => l.length - k) 0 ⟨Nat.zero_le _, Nat.zero_le _, rfl⟩ (by (refine Wk.same (by decide) (by decide) (by decide) (by decide) ?_ ?_ rfl; all_goals ((try simp only [allL, allM]); (repeat' (first | exact trivial | refine And.intro ?_ ?_)); all_goals (first | rfl | exact IsSl.ren (by assumption) (nm_lt (by decide)) | exact roN_ren _ _ | decide)))) (fun k ⟨hk, hkq, he⟩ => ?_)
  by_cases hlt : k < l.length
  · have hlt' : (k : Int) < l.length := by omega
    have e1 : l.drop k = l[k] :: l.drop (k + 1) := List.drop_eq_getElem_cons hlt
    have x1 := natV_at hlt
    by_cases hq : k < q.length
    · have hq' : (k : Int) < q.length := by omega
      have e2 : q.drop k = q[k] :: q.drop (k + 1) := List.drop_eq_getElem_cons hq
      have x2 := natV_at hq
      rw [e1, e2, lexC] at he
      by_cases hne : ((l[k] : Nat) : Int) = ((q[k] : Nat) : Int)
      · rw [if_pos (cmpI_0.2 hne)] at he
        repeat' (first | refine RT.nil ?_ | refine sq_n ?_ | refine Tr.seq ?_ | refine Tr.region ?_ | refine Tr.cond_t rfl ?_ | refine Tr.skip ?_ | refine Tr.block ?_ | (refine RT.goK rfl rfl rfl rfl ?_; first | refine Nx.of (S.lss_t hlt') ?_ | refine Nx.of (S.lss_t hq') ?_) | (refine RT.goK rfl rfl rfl rfl ?_; apply Nx.of; (first | exact S.move | exact S.pick_tt)) | (refine RT.goK rfl rfl rfl rfl ?_; apply Nx.of; (first | exact S.len_sl rfl rfl rfl (by assumption))))
        refine Tr.openK un87_4 (by kernel_rfl) (by kernel_rfl) noCall noCall_calm ?_
        repeat' (first | (refine RD.free rfl rfl rfl rfl rfl rfl ?_; apply Nx.of; (first | exact S.neq_f hne)) | (refine RD.load rfl rfl rfl rfl rfl rfl rfl rfl ?_; apply Nx.of; (first | exact S.load1r rfl rfl rfl x1 | exact S.load1r rfl rfl rfl x2)) | (refine RD.free rfl rfl rfl rfl rfl rfl ?_; apply Nx.of; (first | exact S.move | exact S.idx_sl rfl rfl rfl (by assumption) (by omega))) | refine RD.nil ⟨Nat.le_of_ble_eq_true rfl, ?_⟩)
        repeat' (first | refine RT.nil ?_ | refine sq_n ?_ | refine Tr.region ?_ | refine Tr.cond_f rfl ?_ | refine Tr.skip ?_ | refine blk_n ?_ | (refine RT.goK rfl rfl rfl rfl ?_; apply Nx.of; (first | exact S.move | exact S.assign | exact S.add_one (by omega))))
        refine lp_n (k + 1) ⟨by omega, by omega, he⟩ (by omega) (by (refine Wk.same (by decide) (by decide) (by decide) (by decide) ?_ ?_ rfl; all_goals ((try simp only [allL, allM]); (repeat' (first | exact trivial | refine And.intro ?_ ?_)); all_goals (first | rfl | exact IsSl.ren (by assumption) (nm_lt (by decide)) | exact roN_ren _ _ | decide))))
      · rw [if_neg (fun g => hne (cmpI_0.1 g))] at he
        repeat' (first | refine RT.nil ?_ | refine sq_n ?_ | refine Tr.seq ?_ | refine Tr.region ?_ | refine Tr.cond_t rfl ?_ | refine Tr.skip ?_ | refine Tr.block ?_ | (refine RT.goK rfl rfl rfl rfl ?_; first | refine Nx.of (S.lss_t hlt') ?_ | refine Nx.of (S.lss_t hq') ?_) | (refine RT.goK rfl rfl rfl rfl ?_; apply Nx.of; (first | exact S.move | exact S.pick_tt)) | (refine RT.goK rfl rfl rfl rfl ?_; apply Nx.of; (first | exact S.len_sl rfl rfl rfl (by assumption))))
        refine Tr.openK un87_4 (by kernel_rfl) (by kernel_rfl) noCall noCall_calm ?_
        repeat' (first | (refine RD.free rfl rfl rfl rfl rfl rfl ?_; apply Nx.of; (first | exact S.neq_t hne)) | (refine RD.load rfl rfl rfl rfl rfl rfl rfl rfl ?_; apply Nx.of; (first | exact S.load1r rfl rfl rfl x1 | exact S.load1r rfl rfl rfl x2)) | (refine RD.free rfl rfl rfl rfl rfl rfl ?_; apply Nx.of; (first | exact S.move | exact S.idx_sl rfl rfl rfl (by assumption) (by omega))) | refine RD.nil ⟨Nat.le_of_ble_eq_true rfl, ?_⟩)
        repeat' (first | refine sq_n ?_ | refine Tr.seq ?_ | refine Tr.cond_t rfl ?_)
        refine Tr.openK un87_5 (by kernel_rfl) (by kernel_rfl) noCall noCall_calm ?_
        repeat' (first | (refine RD.load rfl rfl rfl rfl rfl rfl rfl rfl ?_; apply Nx.of; (first | exact S.load1r rfl rfl rfl x1 | exact S.load1r rfl rfl rfl x2)) | (refine RD.free rfl rfl rfl rfl rfl rfl ?_; apply Nx.of; (first | exact S.move | exact S.assign | exact S.lss | exact S.idx_sl rfl rfl rfl (by assumption) (by omega))) | refine RD.nil ⟨Nat.le_of_ble_eq_true rfl, ?_⟩)
        repeat' (first | refine sq_n ?_ | refine Tr.ret ?_ | refine sq_r ?_ | refine blk_r ?_ | refine lp_r ?_)
        (first | refine rt_go rfl ?_)
        rw [he]
        exact congrArg AV.bool (decide_eq_decide.2 cmpI_lt.symm)
    · have hq' : ¬ (k : Int) < q.length := by omega
      have e2 : q.drop k = [] := List.drop_eq_nil_of_le (by omega)
      rw [e1, e2, lexC] at he
      have hf : ¬ ((l.length : Nat) : Int) < q.length := by omega
      repeat' (first | refine RT.nil ?_ | refine sq_n ?_ | refine Tr.seq ?_ | refine Tr.region ?_ | refine Tr.cond_f rfl ?_ | refine Tr.ret ?_ | refine Tr.exit ?_ | refine sq_x ?_ | refine blk_hit rfl ?_ | refine lp_x ?_ | (refine RT.goK rfl rfl rfl rfl ?_; first | refine Nx.of (S.lss_t hlt') ?_ | refine Nx.of (S.lss_f hq') ?_ | refine Nx.of (S.lss_f hf) ?_) | (refine RT.goK rfl rfl rfl rfl ?_; apply Nx.of; (first | exact S.move | exact S.assign | exact S.pick_tt)) | (refine RT.goK rfl rfl rfl rfl ?_; apply Nx.of; (first | exact S.len_sl rfl rfl rfl (by assumption))))
      (first | refine rt_go rfl ?_)
      rw [he]
      rfl
  · have hlt' : ¬ (k : Int) < l.length := by omega
    have e1 : l.drop k = [] := List.drop_eq_nil_of_le (by omega)
    rw [e1] at he
    have hkl : k = l.length := by omega
    by_cases hq : k < q.length
    · have e2 : q.drop k = q[k] :: q.drop (k + 1) := List.drop_eq_getElem_cons hq
      rw [e2, lexC] at he
      have hf : ((l.length : Nat) : Int) < q.length := by omega
      repeat' (first | refine RT.nil ?_ | refine sq_n ?_ | refine Tr.seq ?_ | refine Tr.region ?_ | refine Tr.cond_f rfl ?_ | refine Tr.ret ?_ | refine Tr.exit ?_ | refine sq_x ?_ | refine blk_hit rfl ?_ | refine lp_x ?_ | (refine RT.goK rfl rfl rfl rfl ?_; first | refine Nx.of (S.lss_f hlt') ?_ | refine Nx.of (S.lss_t hf) ?_) | (refine RT.goK rfl rfl rfl rfl ?_; apply Nx.of; (first | exact S.move | exact S.assign | exact S.pick_ff)) | (refine RT.goK rfl rfl rfl rfl ?_; apply Nx.of; (first | exact S.len_sl rfl rfl rfl (by assumption))) | (refine RT.no rfl rfl rfl ?_))
      (first | refine rt_go rfl ?_)
      rw [he]
      rfl
    · have e2 : q.drop k = [] := List.drop_eq_nil_of_le (by omega)
      rw [e2, lexC] at he
      have hf : ¬ ((l.length : Nat) : Int) < q.length := by omega
      repeat' (first | refine RT.nil ?_ | refine sq_n ?_ | refine Tr.seq ?_ | refine Tr.region ?_ | refine Tr.cond_f rfl ?_ | refine Tr.ret ?_ | refine Tr.exit ?_ | refine sq_x ?_ | refine blk_hit rfl ?_ | refine lp_x ?_ | (refine RT.goK rfl rfl rfl rfl ?_; first | refine Nx.of (S.lss_f hlt') ?_ | refine Nx.of (S.lss_f hf) ?_) | (refine RT.goK rfl rfl rfl rfl ?_; apply Nx.of; (first | exact S.move | exact S.assign | exact S.pick_ff)) | (refine RT.goK rfl rfl rfl rfl ?_; apply Nx.of; (first | exact S.len_sl rfl rfl rfl (by assumption))) | (refine RT.no rfl rfl rfl ?_))
      (first | refine rt_go rfl ?_)
      rw [he]
      rfl
set_option maxRecDepth 100000 in
set_option maxHeartbeats 4000000 in
theorem Fewer_can (l q : List Nat) (hl : l.length ≤ 1000) (a1 a2 : AV) (h1 : IsSl a1 l.length 0) (h2 : IsSl a2 q.length 1) : CanS 0 Try.prog 48 2 [a1, a2] [(0, some (.ro (natV l))), (1, some (.ro (natV q)))] 2 fun v _ _ => v = .bool (decide (cmpL l q < 0)) := by
  refine CanS.mk Try.func48 rfl rfl rfl ?_
  by_cases he : ((l.length : Nat) : Int) = q.length
  · repeat' (first | refine RT.nil ?_ | refine sq_n ?_ | refine Tr.seq ?_ | refine Tr.region ?_ | refine Tr.cond_f rfl ?_ | refine Tr.skip ?_ | refine Tr.ret ?_ | (refine RT.goK rfl rfl rfl rfl ?_; first | refine Nx.of (S.len_sl rfl rfl rfl h1) ?_ | refine Nx.of (S.len_sl rfl rfl rfl h2) ?_) | (refine RT.goK rfl rfl rfl rfl ?_; first | refine Nx.of (S.neq_f he) ?_) | (refine RT.call rfl rfl rfl (CanS.here (Sooner_can l q hl _ _ h1 h2) (.bool _) _) rfl rfl (Nat.le_refl _) ?_) | (refine RT.goK rfl rfl rfl rfl ?_; apply Nx.of; (first | exact S.move | exact S.assign)))
    (first | refine rt_go rfl ?_)
    refine congrArg AV.bool (decide_eq_decide.2 ?_)
    rw [cmpL_lt]
    exact ⟨fun g => .inr ⟨by omega, g⟩, fun g => by rcases g with g | g; · omega
                                                    · exact g.2⟩
  · repeat' (first | refine RT.nil ?_ | refine sq_n ?_ | refine Tr.seq ?_ | refine Tr.region ?_ | refine Tr.cond_t rfl ?_ | refine Tr.ret ?_ | refine sq_r ?_ | (refine RT.goK rfl rfl rfl rfl ?_; first | refine Nx.of (S.len_sl rfl rfl rfl h1) ?_ | refine Nx.of (S.len_sl rfl rfl rfl h2) ?_) | (refine RT.goK rfl rfl rfl rfl ?_; first | refine Nx.of (S.neq_t he) ?_) | (refine RT.goK rfl rfl rfl rfl ?_; apply Nx.of; (first | exact S.move | exact S.assign | exact S.lss)))
    (first | refine rt_go rfl ?_)
    refine congrArg AV.bool (decide_eq_decide.2 ?_)
    rw [cmpL_lt]
    omega
end Go.Proofs.Ytjncfddnphhofaa

/- One number more, to an empty list that was just made. -/
namespace Go.Ev
open Go

section
variable {P : Program} {fl c : Nat} {m : List (Nat × Option AObj)} {y y' z : Ty} {t t' : Nat} {x1 x2 : Operand}
/-- One element more, to an empty list that was just made. -/
theorem S.append_e1I [Tab P] {ats : Array Nat} {x w : Nat} {news : List AV} (hat : ats.toList = [t, t']) (ht : ty P t = some y) (hk : y.kind = 5) (ht' : ty P t' = some y') (hk' : y'.kind = 5) (hz : ty P y.elem = some z) (hzk : z.kind = 0) (hzz : (Nat.beq z.zero.cells.length z.size && Nat.ble 1 z.size) = true)
    (hb : Nat.ble z.bytes 10000 = true) (hx : lookM m x = some (.cells [])) (ho : lookM m w = some (.cells news)) (hc : cut news 0 (1 * z.size) = some news) : OpE P fl (.call ⟨.builtin .append, #[x1, x2], ats⟩) [.sl x 0 0 0, .sl w 0 1 1] m c (.gs c 1) ((c, some (.grown news z.size)) :: m) (c + 1) := by
  obtain ⟨i, h1, h2, h3⟩ := info_sz hz
  have hb' : z.bytes ≤ 10000 := Nat.le_of_ble_eq_true hb
  have hbb : (Nat.ble ((2 * (0 + 1) + 1000) * i.bytes) (2 ^ 48) && Nat.ble (0 + 1) (2 ^ 62)) = true := by
    rw [h2]
    simp only [Bool.and_eq_true, Nat.ble_eq]
    omega
  have hcut0 : cut ([] : List AV) 0 (0 * i.size) = some [] := by rw [Nat.zero_mul]; rfl
  refine ⟨rfl, Nat.le_succ _, ?_⟩
  show opA P (ofM m) c fl _ _ = _
  simp only [opA, oCall, builtinA, hat, appendA, ty_slice ht hk, ty_slice ht' hk', h1, rowT hz hzz, sliceCells, getCells, ofM_get, hx, ho, cellsOf, Option.bind_some, h3, hc, hcut0, Option.map_some, show Nat.beq 1 0 = false from rfl, cond_false, hbb, cond_true, keptI hz hzk, growA, show Nat.ble (0 + 1) 0 = false from rfl, List.nil_append]
  have hcut1 : cut ([] : List AV) 0 (0 * z.size) = some [] := by rw [Nat.zero_mul]; rfl
  simp only [hcut1, Option.map_some, List.nil_append, show Nat.beq 1 0 = false from rfl, cond_false, hbb, cond_true, show Nat.ble (0 + 1) 0 = false from rfl]
  rfl
end
end Go.Ev

/- The numbers of a set in the reference; a book without some of its clocks: where they lie. -/
namespace Go.Proofs.Ytjncfddnphhofaa
open Go Go.Ev

/-- A list of numbers that was made empty and grows. -/
def alV (x : Nat) (L : List Nat) : AV := match L with | [] => .sl x 0 0 0 | _ :: _ => .gs x L.length
def alO (L : List Nat) : AObj := match L with | [] => .cells [] | _ :: _ => .grown (natV L) 1
theorem alV_ren (σ : Nat → Nat) {x y : Nat} (h : σ x = y) (L : List Nat) : (alV x L).ren σ = alV y L := by
  cases L with
  | nil => show AV.sl (σ x) 0 0 0 = _; rw [h]; rfl
  | cons a r => show AV.gs (σ x) _ = _; rw [h]; rfl
theorem alO_ren (σ : Nat → Nat) (L : List Nat) : (alO L).ren σ = alO L := by
  cases L with
  | nil => rfl
  | cons a r => exact natV_ren σ _ _
theorem al_wk {n c x : Nat} {l : List (Nat × AV)} {m : List (Nat × Option AObj)} {s b k : Int} {L : List Nat}
    (t0 : Go.Ev.look l 0 = some (AV.int .i64 s)) (t1 : Go.Ev.look l 1 = some (AV.int .i64 b)) (t5 : Go.Ev.look l 5 = some (alV x L)) (t6 : Go.Ev.look l 6 = some (AV.int .i64 k)) (g : lookM m x = some (alO L)) :
    Wk 0 0 0 (stL n [] l m c) (stL n [] [(0, .int .i64 s), (1, .int .i64 b), (5, alV 0 L), (6, .int .i64 k)] [(0, some (alO L))] 1) := by
  refine Wk.by (fun y => if y = 0 then x else c + y) (by decide) (by decide) (by decide) ⟨t0, t1, ?_, t6, trivial⟩ ⟨?_, trivial⟩ rfl ?_ (fun y hy => ?_) (fun y hy => ?_) (fun y hy => Nat.zero_le _)
  · exact t5.trans (congrArg some (alV_ren (x := 0) (y := x) (fun y => if y = 0 then x else c + y) rfl L).symm)
  · exact g.trans (congrArg some (alO_ren _ L).symm)
  · simp
  · show c ≤ if y = 0 then x else c + y
    rw [if_neg (by omega)]; omega
  · omega
set_option maxRecDepth 100000 in
set_option maxHeartbeats 4000000 in
theorem All_can (s : Int) (b : Nat) (hb : b ≤ 62) : CanS 0 Try.prog 46 0 [.int .i64 s, .int .i64 (b : Int)] [] 0 fun v H1 c1 => v = alV 0 (numsL s b) ∧ c1 = 1 ∧ H1.get 0 = some (alO (numsL s b)) := by
  refine CanS.mk Try.func46 rfl rfl rfl ?_
  repeat' (first | refine RT.nil ?_ | refine sq_n ?_ | refine Tr.seq ?_ | refine Tr.region ?_ | refine Tr.block ?_ | (refine RT.goK rfl rfl rfl rfl ?_; apply Nx.of; (first | exact S.assign | exact S.buildSlice0 rfl rfl rfl)))
  refine Tr.loop (fun k : Nat => stL Try.f46.ntmps [] [(0, .int .i64 s), (1, .int .i64 (b : Int)), (5, alV 0 (numsL s k)), (6, .int .i64 k)] [(0, some (alO (numsL s k)))] 1) (fun k => k ≤ b) (fun k => b - k) 0 (Nat.zero_le _) (al_wk (L := []) rfl rfl rfl rfl rfl) (fun k hk => ?_)
  have hlen := numsL_len s k
  by_cases hlt : k < b
  · have hlt' : (k : Int) < b := by omega
    by_cases hp : hasP s k
    · have hv : AV.bool (dB (hasP s k)) = .bool true := by rw [dB_tt hp]
      have e1 : numsL s (k + 1) = numsL s k ++ [k] := by rw [numsL, dB_tt hp]; rfl
      cases hl : numsL s k with
      | nil =>
        repeat' (first | refine RT.nil ?_ | refine sq_n ?_ | refine Tr.seq ?_ | refine Tr.region ?_ | refine Tr.cond_t rfl ?_ | refine Tr.skip ?_ | refine Tr.block ?_ | refine blk_n ?_ | (refine RT.goK rfl rfl rfl rfl ?_; refine Nx.of (S.lss_t hlt') ?_) | (refine RT.call rfl rfl rfl (val_is hv (In_at s k (by omega) _ _ _)) rfl rfl (Nat.le_refl _) ?_) | (refine RT.goK rfl rfl rfl rfl ?_; apply Nx.of; (first | exact S.append_e1I rfl rfl rfl rfl rfl rfl rfl rfl rfl rfl rfl rfl)) | (refine RT.goK rfl rfl rfl rfl ?_; apply Nx.of; (first | exact S.move | exact S.assign | exact S.add_one (by omega) | exact S.buildSlice rfl rfl rfl rfl rfl rfl rfl)))
        refine lp_n (k + 1) hlt (by omega) ?_
        rw [e1, hl]
        exact al_wk (x := 2) rfl rfl rfl rfl rfl
      | cons a r =>
        have hcut : cut (natV (a :: r)) 0 ((a :: r).length * 1) = some (natV (a :: r)) := cut_all (by rw [natV_len, Nat.mul_one])
        rw [hl] at hlen
        repeat' (first | refine RT.nil ?_ | refine sq_n ?_ | refine Tr.seq ?_ | refine Tr.region ?_ | refine Tr.cond_t rfl ?_ | refine Tr.skip ?_ | refine Tr.block ?_ | refine blk_n ?_ | (refine RT.goK rfl rfl rfl rfl ?_; refine Nx.of (S.lss_t hlt') ?_) | (refine RT.call rfl rfl rfl (val_is hv (In_at s k (by omega) _ _ _)) rfl rfl (Nat.le_refl _) ?_) | (refine RT.goK rfl rfl rfl rfl ?_; apply Nx.of; (first | exact S.append_gsI rfl rfl rfl rfl rfl rfl rfl rfl rfl rfl rfl rfl rfl hcut (by omega) rfl)) | (refine RT.goK rfl rfl rfl rfl ?_; apply Nx.of; (first | exact S.move | exact S.assign | exact S.add_one (by omega) | exact S.buildSlice rfl rfl rfl rfl rfl rfl rfl)))
        refine lp_n (k + 1) hlt (by omega) ?_
        rw [e1, hl]
        refine al_wk (x := 2) rfl rfl ?_ rfl ?_
        · show _ = some (AV.gs 2 ((r ++ [k]).length + 1))
          rw [List.length_append]; rfl
        · show _ = some (AObj.grown (natV ((a :: r) ++ [k])) 1)
          unfold natV
          rw [List.map_append, List.map_append]; rfl
    · have hv : AV.bool (dB (hasP s k)) = .bool false := by rw [dB_ff hp]
      have e1 : numsL s (k + 1) = numsL s k := by rw [numsL, dB_ff hp]; rfl
      repeat' (first | refine RT.nil ?_ | refine sq_n ?_ | refine Tr.seq ?_ | refine Tr.region ?_ | refine Tr.cond_t rfl ?_ | refine Tr.cond_f rfl ?_ | refine Tr.skip ?_ | refine Tr.block ?_ | refine blk_n ?_ | (refine RT.goK rfl rfl rfl rfl ?_; refine Nx.of (S.lss_t hlt') ?_) | (refine RT.call rfl rfl rfl (val_is hv (In_at s k (by omega) _ _ _)) rfl rfl (Nat.le_refl _) ?_) | (refine RT.goK rfl rfl rfl rfl ?_; apply Nx.of; (first | exact S.move | exact S.assign | exact S.add_one (by omega))))
      refine lp_n (k + 1) hlt (by omega) ?_
      rw [e1]
      exact al_wk (x := 0) rfl rfl rfl rfl rfl
  · obtain rfl : k = b := by omega
    have hlt' : ¬ (k : Int) < k := by omega
    repeat' (first | refine RT.nil ?_ | refine sq_n ?_ | refine Tr.seq ?_ | refine Tr.region ?_ | refine Tr.cond_f rfl ?_ | refine Tr.ret ?_ | refine Tr.exit ?_ | refine sq_x ?_ | refine blk_hit rfl ?_ | refine lp_x ?_ | (refine RT.goK rfl rfl rfl rfl ?_; refine Nx.of (S.lss_f hlt') ?_) | (refine RT.goK rfl rfl rfl rfl ?_; apply Nx.of; (first | exact S.move | exact S.assign)))
    (first | refine rt_go rfl ?_)
    exact ⟨rfl, rfl, getM rfl⟩
theorem All_at (s : Int) (b : Nat) (hb : b ≤ 62) {m : List (Nat × Option AObj)} {c : Nat} (hm : ∀ x o, lookM m x = some o → x < c) (fl : Nat) : OkAt 0 Try.prog fl 46 [.int .i64 s, .int .i64 (b : Int)] (ofM m) c (alV c (numsL s b)) (ofM ((c, some (alO (numsL s b))) :: m)) (c + 1) := by
  have := CanS.fresh (H' := ofM ((c, some (alO (numsL s b))) :: m)) (k := 1) (v0 := alV 0 (numsL s b)) (All_can s b hb) (Entry.plain (H := ofM m) (c := c) (fun _ => rfl)) (fun v1 H1 c1 ⟨g1, g2, g3⟩ => ?_) fl
  · rw [alV_ren _ rfl] at this
    exact this
  · refine ⟨by rw [g1, alV_ren _ rfl], g2, fun x o hx => ?_⟩
    rw [ofM_get] at hx
    by_cases e1 : x = c
    · subst e1
      rw [lookM_hd] at hx
      cases hx
      exact .inr ⟨0, alO (numsL s b), rfl, by rw [alO_ren]; exact g3, (alO_ren _ _).symm⟩
    · rw [lookM_tl e1] at hx
      exact .inl ⟨hm x o hx, getM hx⟩

/-- The numbers below one that are not of a list. -/
noncomputable def kpL (L : List Nat) (k : Nat) : List Nat := (List.range k).filter fun i => dB (i ∉ L)
theorem kpL_t {L : List Nat} {k : Nat} (h : k ∉ L) : kpL L (k + 1) = kpL L k ++ [k] := by
  unfold kpL
  rw [List.range_succ, List.filter_append, List.filter_cons_of_pos (by exact dB_tt h)]; rfl
theorem kpL_f {L : List Nat} {k : Nat} (h : k ∈ L) : kpL L (k + 1) = kpL L k := by
  unfold kpL
  rw [List.range_succ, List.filter_append, List.filter_cons_of_neg (by rw [dB_ff (fun q => q h)]; decide)]; simp
theorem kpL_len (L : List Nat) (k : Nat) : (kpL L k).length ≤ k := by
  have := List.length_filter_le (fun i => dB (i ∉ L)) (List.range k)
  rwa [List.length_range] at this
def kpM (B : CBook) (x : Nat) (K : List Nat) : List (Nat × Option AObj) := match K with | [] => [] | _ :: _ => [(x, some (.grown (flat (ckE B) K) 3))]
def zbk : CBook := ⟨0, fun _ => 0, fun _ => 0, fun _ => 0, fun _ => 0, fun _ => 0, fun _ => 0, fun _ => 0, 0, fun _ => 0, 0, fun _ => 0, fun _ => 0, fun _ => 0, 0⟩
theorem grV_ren (σ : Nat → Nat) {x y : Nat} (h : σ x = y) (L : List Nat) : (grV x L).ren σ = grV y L := by
  cases L with
  | nil => rfl
  | cons a r => show AV.gs (σ x) _ = _; rw [h]; rfl
theorem grV_one (x : Nat) (L : List Nat) : (grV x L).one = true := by cases L <;> rfl
theorem bkr_one {B : CBook} {a1 : AV} {x : Nat} {K : List Nat} (h1 : IsSl a1 B.ns 0) : ((bk B a1 (grV x K)).cells.all AV.one) = true := by
  simp only [bk, AV.cells, List.all_cons, List.all_nil, h1.one.1, grV_one]
  rfl
theorem bkr_ren {B : CBook} {a1 : AV} {x y : Nat} {K : List Nat} (h1 : IsSl a1 B.ns 0) {σ : Nat → Nat} (e1 : σ 0 = 0) (e2 : σ x = y) : (AObj.cells (bk B a1 (grV x K)).cells).ren σ = .cells (bk B a1 (grV y K)).cells := by simp only [bk, AObj.ren, AV.cells, AV.ren, AV.rens, h1.ren e1, grV_ren σ e2]
theorem argW_sl {v : AV} {n x : Nat} (h : IsSl v n x) : ∃ a, ArgW [(x, 0, none)] v a ∧ IsSl a n 0 := by
  rcases h with rfl | ⟨rfl, rfl⟩
  · exact ⟨.gs 0 n, .gs rfl, .gs 0 n⟩
  · exact ⟨.nils, .pl Pl.nils, .nils 0⟩
theorem wo_wk {B : CBook} {a1 a2 lv : AV} {L : List Nat} (h1 : IsSl a1 B.ns 0) (h2 : IsSl a2 B.nc 1) (hL : IsSl lv L.length 2) {n c x : Nat} {l : List (Nat × AV)} {m : List (Nat × Option AObj)} {k : Int} {K : List Nat} (hx : 6 ≤ x) (hc : 6 ≤ c)
    (t1 : Go.Ev.look l 1 = some lv) (t2 : Go.Ev.look l 2 = some (.ptr 3 0)) (t4 : Go.Ev.look l 4 = some (.ptr 4 0)) (t5 : Go.Ev.look l 5 = some (.ptr 5 0)) (t6 : Go.Ev.look l 6 = some (AV.int .i64 k))
    (g5 : lookM m 5 = some (.cells (bk B a1 (grV x K)).cells)) (g4 : lookM m 4 = some (.cells (bk zbk .nils .nils).cells)) (g3 : lookM m 3 = some (.cells (bk B a1 a2).cells)) (g0 : lookM m 0 = some (oSt B)) (g1 : lookM m 1 = some (oCk B)) (g2 : lookM m 2 = some (.ro (natV L))) (gK : K ≠ [] → lookM m x = some (.grown (flat (ckE B) K) 3)) :
    Wk 0 3 3 (stL n [] l m c) (stL n [] [(1, lv), (2, .ptr 3 0), (4, .ptr 4 0), (5, .ptr 5 0), (6, .int .i64 k)] ([(5, some (.cells (bk B a1 (grV 6 K)).cells)), (4, some (.cells (bk zbk .nils .nils).cells)), (3, some (.cells (bk B a1 a2).cells)), (0, some (oSt B)), (1, some (oCk B)), (2, some (.ro (natV L)))] ++ kpM B 6 K) 7) := by
  let σ : Nat → Nat := fun y => if y < 6 then y else if y = 6 then x else c + y
  have s6 : σ 6 = x := rfl
  have hm : allM (fun y o => lookM m (σ y) = some (o.ren σ)) ([(5, some (.cells (bk B a1 (grV 6 K)).cells)), (4, some (.cells (bk zbk .nils .nils).cells)), (3, some (.cells (bk B a1 a2).cells)), (0, some (oSt B)), (1, some (oCk B)), (2, some (.ro (natV L)))] ++ kpM B 6 K) := by
    have hk : allM (fun y o => lookM m (σ y) = some (o.ren σ)) (kpM B 6 K) := by
      cases K with
      | nil => trivial
      | cons a r => exact ⟨(gK (by simp)).trans (congrArg some (ren_grown _ σ _ _).symm), trivial⟩
    exact ⟨g5.trans (congrArg some (bkr_ren (σ := σ) h1 rfl s6).symm), g4.trans rfl, g3.trans (congrArg some (bkc_ren (σ := σ) h1 h2 rfl rfl).symm), g0.trans (congrArg some (ren_ro _ σ _).symm), g1.trans (congrArg some (ren_ro _ σ _).symm), g2.trans (congrArg some (roN_ren σ _).symm), hk⟩
  refine Wk.by σ (by decide) (by decide) (by decide) ⟨t1.trans (congrArg some (hL.ren (σ := σ) rfl).symm), t2, t4, t5, t6, trivial⟩ hm rfl (fun u hu v hv huv e => ?_) (fun u hu => ?_) (fun u hu => ?_) (fun u hu => ?_)
  · have low : ∀ u, u ∈ ([(5, some (.cells (bk B a1 (grV 6 K)).cells)), (4, some (.cells (bk zbk .nils .nils).cells)), (3, some (.cells (bk B a1 a2).cells)), (0, some (oSt B)), (1, some (oCk B)), (2, some (.ro (natV L)))] ++ kpM B 6 K : List (Nat × Option AObj)).map (fun e => e.1) → u < 7 := fun u hu => by
      cases K <;> simp [kpM] at hu <;> omega
    have q1 := low u hu
    have q2 := low v hv
    simp only [σ] at e
    (repeat' split at e) <;> omega
  all_goals (simp only [σ]; (repeat' split) <;> omega)
set_option maxRecDepth 100000 in
set_option maxHeartbeats 4000000 in
theorem without_can (B : CBook) (a1 a2 lv : AV) (L : List Nat) (h1 : IsSl a1 B.ns 0) (h2 : IsSl a2 B.nc 1) (hL : IsSl lv L.length 2) (hnc : B.nc ≤ 4) (hlL : L.length ≤ 1000) : CanS 0 Try.prog 47 3 [bk B a1 a2, lv] [(0, some (oSt B)), (1, some (oCk B)), (2, some (.ro (natV L)))] 3 fun v H1 c1 => v = bk B a1 (grV 6 (kpL L B.nc)) ∧ c1 = 7 ∧ (kpL L B.nc ≠ [] → H1.get 6 = some (.grown (flat (ckE B) (kpL L B.nc)) 3)) := by
  refine CanS.mk Try.func47 rfl rfl rfl ?_
  repeat' (first | refine RT.nil ?_ | refine sq_n ?_ | refine Tr.seq ?_ | refine Tr.region ?_ | refine Tr.block ?_ | (refine RT.goK rfl rfl rfl rfl ?_; apply Nx.of; (first | exact S.assign | exact S.loadNc rfl rfl rfl rfl | exact S.fieldAddr rfl rfl rfl | exact S.box | exact S.alloc rfl)) | (refine RT.goK0 rfl rfl rfl ?_; apply Nx.of; (first | exact S.store rfl rfl rfl rfl rfl rfl | exact S.store rfl rfl (bk_one h1 h2) rfl rfl rfl)))
  refine Tr.loop (fun k : Nat => stL Try.f47.ntmps [] [(1, lv), (2, .ptr 3 0), (4, .ptr 4 0), (5, .ptr 5 0), (6, .int .i64 k)] ([(5, some (.cells (bk B a1 (grV 6 (kpL L k))).cells)), (4, some (.cells (bk zbk .nils .nils).cells)), (3, some (.cells (bk B a1 a2).cells)), (0, some (oSt B)), (1, some (oCk B)), (2, some (.ro (natV L)))] ++ kpM B 6 (kpL L k)) 7) (fun k => k ≤ B.nc) (fun k => B.nc - k) 0 (Nat.zero_le _) ?_ (fun k hk => ?_)
  · exact wo_wk h1 h2 hL (K := []) (x := 6) (by decide) (by decide) rfl rfl rfl rfl rfl rfl rfl rfl rfl rfl rfl (fun h => absurd rfl h)
  have hlen := kpL_len L k
  obtain ⟨av, hA, hAs⟩ := argW_sl hL
  have hAr : ArgsW [(2, 0, none)] [lv, .int .i64 (k : Int)] [av, .int .i64 (k : Int)] := ⟨hA, .pl (.int _ _), trivial⟩
  by_cases hlt : k < B.nc
  · have hlt' : (k : Int) < B.nc := by omega
    by_cases hp : k ∈ L
    · have hn0 : ¬ plV L k < 0 := fun q => plV_neg.1 q hp
      have e1 := kpL_f hp
      cases hl : kpL L k with
      | nil =>
        repeat' (first | refine RT.nil ?_ | refine sq_n ?_ | refine Tr.seq ?_ | refine Tr.region ?_ | refine Tr.cond_t rfl ?_ | refine Tr.cond_f rfl ?_ | refine Tr.skip ?_ | refine Tr.block ?_ | refine blk_n ?_ | (refine RT.goK rfl rfl rfl rfl ?_; first | refine Nx.of (S.lss_t hlt') ?_ | refine Nx.of (S.lss_f hn0) ?_) | (refine RT.call rfl rfl rfl ((Place_can L av hAs hlL k).pure (.int _ _) (Entry.win (W := [(2, 0, none)]) (CS := [natV L]) rfl ⟨⟨_, getM rfl, .inr ⟨_, rfl, cut_all rfl⟩⟩, pls_nat L, trivial⟩ hAr) _) rfl rfl (Nat.le_refl _) ?_) | (refine RT.goK rfl rfl rfl rfl ?_; apply Nx.of; (first | exact S.move | exact S.assign | exact S.load1c rfl rfl rfl rfl | exact S.fieldAddr rfl rfl rfl | exact S.add_one (by omega))) | (refine RT.goK rfl rfl rfl rfl ?_; apply Nx.of; (first | exact S.len_sl rfl rfl rfl (by assumption))))
        refine lp_n (k + 1) hlt (by omega) ?_
        rw [e1, hl]
        exact wo_wk h1 h2 hL (K := []) (x := 6) (by decide) (by decide) rfl rfl rfl rfl rfl rfl rfl rfl rfl rfl rfl (fun h => absurd rfl h)
      | cons a r =>
        repeat' (first | refine RT.nil ?_ | refine sq_n ?_ | refine Tr.seq ?_ | refine Tr.region ?_ | refine Tr.cond_t rfl ?_ | refine Tr.cond_f rfl ?_ | refine Tr.skip ?_ | refine Tr.block ?_ | refine blk_n ?_ | (refine RT.goK rfl rfl rfl rfl ?_; first | refine Nx.of (S.lss_t hlt') ?_ | refine Nx.of (S.lss_f hn0) ?_) | (refine RT.call rfl rfl rfl ((Place_can L av hAs hlL k).pure (.int _ _) (Entry.win (W := [(2, 0, none)]) (CS := [natV L]) rfl ⟨⟨_, getM rfl, .inr ⟨_, rfl, cut_all rfl⟩⟩, pls_nat L, trivial⟩ hAr) _) rfl rfl (Nat.le_refl _) ?_) | (refine RT.goK rfl rfl rfl rfl ?_; apply Nx.of; (first | exact S.move | exact S.assign | exact S.load1c rfl rfl rfl rfl | exact S.fieldAddr rfl rfl rfl | exact S.add_one (by omega))) | (refine RT.goK rfl rfl rfl rfl ?_; apply Nx.of; (first | exact S.len_sl rfl rfl rfl (by assumption))))
        refine lp_n (k + 1) hlt (by omega) ?_
        rw [e1, hl]
        exact wo_wk h1 h2 hL (K := a :: r) (x := 6) (by decide) (by decide) rfl rfl rfl rfl rfl rfl rfl rfl rfl rfl rfl (fun _ => rfl)
    · have hn1 : plV L k < 0 := plV_neg.2 hp
      have e1 := kpL_t hp
      cases hl : kpL L k with
      | nil =>
        repeat' (first | refine RT.nil ?_ | refine sq_n ?_ | refine Tr.seq ?_ | refine Tr.region ?_ | refine Tr.cond_t rfl ?_ | refine Tr.skip ?_ | refine Tr.block ?_ | (refine RT.goK rfl rfl rfl rfl ?_; first | refine Nx.of (S.lss_t hlt') ?_ | refine Nx.of (S.lss_t hn1) ?_) | (refine RT.call rfl rfl rfl ((Place_can L av hAs hlL k).pure (.int _ _) (Entry.win (W := [(2, 0, none)]) (CS := [natV L]) rfl ⟨⟨_, getM rfl, .inr ⟨_, rfl, cut_all rfl⟩⟩, pls_nat L, trivial⟩ hAr) _) rfl rfl (Nat.le_refl _) ?_) | (refine RT.goK rfl rfl rfl rfl ?_; apply Nx.of; (first | exact S.move | exact S.load1c rfl rfl rfl rfl | exact S.fieldAddr rfl rfl rfl)) | (refine RT.goK rfl rfl rfl rfl ?_; apply Nx.of; (first | exact S.len_sl rfl rfl rfl (by assumption))))
        refine Tr.openK un47_7 (by kernel_rfl) (by kernel_rfl) noCall noCall_calm ?_
        repeat' (first | (refine RD.wide rfl rfl rfl rfl rfl rfl rfl rfl ?_; (first | refine Nx.of (S.append_nil rfl rfl rfl rfl rfl rfl rfl rfl rfl rfl rfl) ⟨rfl, ?_⟩)) | (refine RD.free rfl rfl rfl rfl rfl rfl ?_; apply Nx.of; (first | exact S.move | exact S.fieldAddr rfl rfl rfl | exact S.idx_sl rfl rfl rfl (by assumption) (by omega))) | (refine RD.new rfl rfl rfl rfl rfl rfl ?_; apply Nx.of; (first | exact S.buildSlice rfl rfl rfl rfl rfl rfl rfl)) | (refine RD.load rfl rfl rfl rfl rfl rfl rfl rfl ?_; apply Nx.of; (first | exact S.load1c rfl rfl rfl rfl | exact S.rowN0 rfl rfl rfl (fun _ => rfl) (range_at (by omega)) rfl)) | (refine RD.store rfl rfl rfl rfl rfl rfl rfl ?_; apply Nx.of; (first | exact S.store rfl rfl rfl rfl rfl rfl)) | refine RD.nil ⟨Nat.le_of_ble_eq_true rfl, ?_⟩)
        repeat' (first | refine RT.nil ?_ | refine sq_n ?_ | refine Tr.region ?_ | refine blk_n ?_ | (refine RT.goK rfl rfl rfl rfl ?_; apply Nx.of; (first | exact S.move | exact S.assign | exact S.add_one (by omega))))
        refine lp_n (k + 1) hlt (by omega) ?_
        rw [e1, hl]
        exact wo_wk h1 h2 hL (K := [k]) (x := 8) (by decide) (by decide) rfl rfl rfl rfl rfl rfl rfl rfl rfl rfl rfl (fun _ => rfl)
      | cons a r =>
        have hcut : cut (flat (ckE B) (a :: r)) 0 ((a :: r).length * 3) = some (flat (ckE B) (a :: r)) := cut_all (by rw [flat_len (s := 3) (fun _ => rfl)])
        rw [hl] at hlen
        repeat' (first | refine RT.nil ?_ | refine sq_n ?_ | refine Tr.seq ?_ | refine Tr.region ?_ | refine Tr.cond_t rfl ?_ | refine Tr.skip ?_ | refine Tr.block ?_ | (refine RT.goK rfl rfl rfl rfl ?_; first | refine Nx.of (S.lss_t hlt') ?_ | refine Nx.of (S.lss_t hn1) ?_) | (refine RT.call rfl rfl rfl ((Place_can L av hAs hlL k).pure (.int _ _) (Entry.win (W := [(2, 0, none)]) (CS := [natV L]) rfl ⟨⟨_, getM rfl, .inr ⟨_, rfl, cut_all rfl⟩⟩, pls_nat L, trivial⟩ hAr) _) rfl rfl (Nat.le_refl _) ?_) | (refine RT.goK rfl rfl rfl rfl ?_; apply Nx.of; (first | exact S.move | exact S.load1c rfl rfl rfl rfl | exact S.fieldAddr rfl rfl rfl)) | (refine RT.goK rfl rfl rfl rfl ?_; apply Nx.of; (first | exact S.len_sl rfl rfl rfl (by assumption))))
        refine Tr.openK un47_7 (by kernel_rfl) (by kernel_rfl) noCall noCall_calm ?_
        repeat' (first | (refine RD.wide rfl rfl rfl rfl rfl rfl rfl rfl ?_; (first | refine Nx.of (S.append_gs rfl rfl rfl rfl rfl rfl rfl rfl rfl rfl rfl rfl rfl hcut (by omega) rfl) ⟨rfl, ?_⟩)) | (refine RD.free rfl rfl rfl rfl rfl rfl ?_; apply Nx.of; (first | exact S.move | exact S.fieldAddr rfl rfl rfl | exact S.idx_sl rfl rfl rfl (by assumption) (by omega))) | (refine RD.new rfl rfl rfl rfl rfl rfl ?_; apply Nx.of; (first | exact S.buildSlice rfl rfl rfl rfl rfl rfl rfl)) | (refine RD.load rfl rfl rfl rfl rfl rfl rfl rfl ?_; apply Nx.of; (first | exact S.load1c rfl rfl rfl rfl | exact S.rowN0 rfl rfl rfl (fun _ => rfl) (range_at (by omega)) rfl)) | (refine RD.store rfl rfl rfl rfl rfl rfl rfl ?_; apply Nx.of; (first | exact S.store rfl rfl rfl rfl rfl rfl)) | refine RD.nil ⟨Nat.le_of_ble_eq_true rfl, ?_⟩)
        repeat' (first | refine RT.nil ?_ | refine sq_n ?_ | refine Tr.region ?_ | refine blk_n ?_ | (refine RT.goK rfl rfl rfl rfl ?_; apply Nx.of; (first | exact S.move | exact S.assign | exact S.add_one (by omega))))
        refine lp_n (k + 1) hlt (by omega) ?_
        rw [e1, hl]
        refine wo_wk h1 h2 hL (K := (a :: r) ++ [k]) (x := 8) (by decide) (by decide) rfl rfl rfl rfl rfl ?_ rfl rfl rfl rfl rfl (fun _ => ?_)
        · show _ = some (AObj.cells (bk B a1 (.gs 8 ((r ++ [k]).length + 1))).cells)
          rw [List.length_append]; rfl
        · rw [flat_append]; rfl
  · obtain rfl : k = B.nc := by omega
    have hlt' : ¬ (B.nc : Int) < B.nc := by omega
    cases hl : kpL L B.nc with
    | nil =>
      repeat' (first | refine RT.nil ?_ | refine sq_n ?_ | refine Tr.seq ?_ | refine Tr.region ?_ | refine Tr.cond_f rfl ?_ | refine Tr.ret ?_ | refine Tr.exit ?_ | refine sq_x ?_ | refine blk_hit rfl ?_ | refine lp_x ?_ | (refine RT.goK rfl rfl rfl rfl ?_; first | refine Nx.of (S.lss_f hlt') ?_) | (refine RT.goK rfl rfl rfl rfl ?_; apply Nx.of; (first | exact S.move | exact S.load1c rfl rfl rfl rfl | exact S.loadNc rfl rfl rfl rfl | exact S.fieldAddr rfl rfl rfl)) | (refine RT.goK0 rfl rfl rfl ?_; apply Nx.of; (first | exact S.store rfl rfl (bkr_one h1) rfl rfl rfl)) | (refine RT.goK rfl rfl rfl rfl ?_; apply Nx.of; (first | exact S.len_sl rfl rfl rfl (by assumption))))
      (first | refine rt_go rfl ?_)
      exact ⟨rfl, rfl, fun h => absurd rfl h⟩
    | cons a r =>
      repeat' (first | refine RT.nil ?_ | refine sq_n ?_ | refine Tr.seq ?_ | refine Tr.region ?_ | refine Tr.cond_f rfl ?_ | refine Tr.ret ?_ | refine Tr.exit ?_ | refine sq_x ?_ | refine blk_hit rfl ?_ | refine lp_x ?_ | (refine RT.goK rfl rfl rfl rfl ?_; first | refine Nx.of (S.lss_f hlt') ?_) | (refine RT.goK rfl rfl rfl rfl ?_; apply Nx.of; (first | exact S.move | exact S.load1c rfl rfl rfl rfl | exact S.loadNc rfl rfl rfl rfl | exact S.fieldAddr rfl rfl rfl)) | (refine RT.goK0 rfl rfl rfl ?_; apply Nx.of; (first | exact S.store rfl rfl (bkr_one h1) rfl rfl rfl)) | (refine RT.goK rfl rfl rfl rfl ?_; apply Nx.of; (first | exact S.len_sl rfl rfl rfl (by assumption))))
      (first | refine rt_go rfl ?_)
      exact ⟨rfl, rfl, fun _ => getM rfl⟩
end Go.Proofs.Ytjncfddnphhofaa

/- What ClaimWrong needs: Wrong and without at any memory, the truths of a book without some clocks. -/
namespace Go.Proofs.Ytjncfddnphhofaa
open Go Go.Ev

theorem lookM_app {ms g : List (Nat × Option AObj)} {x : Nat} {o : AObj} (h : lookM (ms ++ g) x = some o) : lookM ms x = some o ∨ lookM g x = some o := by
  induction ms with
  | nil => exact .inr h
  | cons e ms ih =>
    obtain ⟨y, ob⟩ := e
    rw [List.cons_append, lookM, Bool.cond_eq_ite] at h
    rw [lookM, Bool.cond_eq_ite]
    split at h
    · rename_i hy
      rw [if_pos hy]; exact .inl h
    · rename_i hy
      rw [if_neg hy]; exact ih h
def swT (a : Nat) (j : Nat) : Nat := if j = 0 then a else if j = a then 0 else j
theorem swT_inj {a : Nat} (i j : Nat) (h : swT a i = swT a j) : i = j := by
  unfold swT at h
  (repeat' split at h) <;> omega
/-- Wrong: its list lies under the first new name. -/
theorem Wrong_w {B : CBook} {v1 v2 : AV} {m : List (Nat × Option AObj)} {c : Nat} (h : BkX B v1 v2 m c) (hm : ∀ x o, lookM m x = some o → x < c) (hn : B.ns ≤ 9223372036854775807) (hB : bkOk B) (fl : Nat) :
    OkAt 0 Try.prog fl 32 [bk B v1 v2] (ofM m) c (.tup [fuV c (wrongL B), .int .i64 0]) (ofM (m ++ grM c (wrongL B))) (c + 14) := by
  obtain ⟨a1, a2, i1, i2, he⟩ := h.three
  have e0 : ∀ (σ : Nat → Nat) (x : Nat), (AV.tup [fuV x (wrongL B), .int .i64 0]).ren σ = .tup [fuV (σ x) (wrongL B), .int .i64 0] := fun σ x => by
    show AV.tup [(fuV x (wrongL B)).ren σ, .int .i64 0] = _
    rw [fu_ren σ rfl]
  have hw := wrO_is B
  have := CanS.freshT (swT (wrO B)) (H' := ofM (m ++ grM c (wrongL B))) (k := 14) (v0 := .tup [fuV 0 (wrongL B), .int .i64 0]) (Wrong_yes B a1 a2 i1 i2 hn hB) (fun j hj => by unfold swT; (repeat' split) <;> omega) swT_inj he (fun v1 H1 c1 ⟨g1, g2, g3⟩ => ?_) fl
  · rw [e0] at this
    exact this
  · have hw2 : 7 + (fwN (fwE B []) - 5) = 3 + wrO B := by unfold wrO; omega
    rw [hw2] at g2 g3
    have s0 : swT (wrO B) 0 = wrO B := rfl
    refine ⟨by rw [g2, e0, s0], by omega, fun x o hx => ?_⟩
    rw [ofM_get] at hx
    rcases lookM_app hx with k | k
    · exact .inl ⟨hm x o k, getM k⟩
    · generalize wrongL B = L at g3 k
      cases L with
      | nil => cases k
      | cons a r =>
        replace k : lookM ((c, some (.grown (natV (a :: r)) 1)) :: []) x = some o := k
        by_cases e1 : x = c
        · subst e1
          rw [lookM_hd] at k
          cases k
          exact .inr ⟨0, .grown (natV (a :: r)) 1, rfl, by rw [natV_ren, s0]; exact g3 (by simp), (natV_ren _ _ _).symm⟩
        · rw [lookM_tl e1] at k
          cases k

/-- A window on a list of numbers, and its value seen through it. -/
structure Lw (m : List (Nat × Option AObj)) (v : AV) (L : List Nat) : Prop where
  ex : ∃ w : Wnd, (∃ o, (ofM m).get w.1 = some o ∧ (natV L = [] ∨ ∃ ca, cellsOf o = some ca ∧ cut ca w.2.1 (natV L).length = some (natV L))) ∧ ∀ (W : List Wnd) (i : Nat), W[i]? = some w → ∃ a, ArgW W v a ∧ IsSl a L.length i
theorem Lw.fu {m : List (Nat × Option AObj)} {x z : Nat} {L : List Nat} (hx : LiesF m x L) (hz : ∃ o, lookM m z = some o) : Lw m (fuV x L) L := ⟨winF x z L, winF_ok hx hz, fun W i h => ⟨argF i L, argF_w h, argF_is i L⟩⟩
theorem Lw.al {m : List (Nat × Option AObj)} {x : Nat} {L : List Nat} (hx : lookM m x = some (alO L)) : Lw m (alV x L) L := by
  cases L with
  | nil => exact ⟨(x, 0, some 0), ⟨_, getM hx, .inl rfl⟩, fun W i h => ⟨.gs i 0, ArgW.sl h (Nat.le_refl _), IsSl.gs i 0⟩⟩
  | cons a r => exact ⟨(x, 0, none), ⟨_, getM hx, .inr ⟨_, rfl, cut_all rfl⟩⟩, fun W i h => ⟨.gs i (a :: r).length, ArgW.gs h, IsSl.gs i _⟩⟩
theorem Rising_at {m : List (Nat × Option AObj)} {c : Nat} {v : AV} {L : List Nat} (h : Lw m v L) (hl : L.length ≤ 1000) {n : Nat} (hr : RisL L n) (fl : Nat) : OkAt 0 Try.prog fl 45 [v, .int .i64 (n : Int)] (ofM m) c (.bool true) (ofM m) c := by
  obtain ⟨w, hw, ha⟩ := h.ex
  obtain ⟨a, h1, h2⟩ := ha [w] 0 rfl
  exact (Rising_can L a h2 hl n hr).pure (.bool _) (Entry.win (W := [w]) (CS := [natV L]) rfl ⟨hw, pls_nat L, trivial⟩ (show ArgsW [w] [v, .int .i64 (n : Int)] [a, .int .i64 (n : Int)] from ⟨h1, .pl (.int _ _), trivial⟩)) fl
theorem Fewer_at {m : List (Nat × Option AObj)} {c : Nat} {v u : AV} {L Q : List Nat} (h : Lw m v L) (k : Lw m u Q) (hl : L.length ≤ 1000) (fl : Nat) : OkAt 0 Try.prog fl 48 [v, u] (ofM m) c (.bool (decide (cmpL L Q < 0))) (ofM m) c := by
  obtain ⟨w, hw, ha⟩ := h.ex
  obtain ⟨x, hx, hb⟩ := k.ex
  obtain ⟨a, h1, h2⟩ := ha [w, x] 0 rfl
  obtain ⟨b, k1, k2⟩ := hb [w, x] 1 rfl
  exact (Fewer_can L Q hl a b h2 k2).pure (.bool _) (Entry.win (W := [w, x]) (CS := [natV L, natV Q]) rfl ⟨hw, pls_nat L, hx, pls_nat Q, trivial⟩ (show ArgsW [w, x] [v, u] [a, b] from ⟨h1, k1, trivial⟩)) fl
theorem without_at {B : CBook} {a1 a2 lv : AV} {m : List (Nat × Option AObj)} {c : Nat} {L : List Nat} (h : BkIn B a1 a2 m c) (hm : ∀ x o, lookM m x = some o → x < c) (hL : Lw m lv L) (hnc : B.nc ≤ 4) (hlL : L.length ≤ 1000) (fl : Nat) :
    OkAt 0 Try.prog fl 47 [bk B a1 a2, lv] (ofM m) c (bk B a1 (grV (c + 3) (kpL L B.nc))) (ofM (m ++ kpM B (c + 3) (kpL L B.nc))) (c + 4) := by
  obtain ⟨w, hw, ha⟩ := hL.ex
  have hc := h.hc
  obtain ⟨a, k1, k2⟩ := ha [(0, 0, none), (1, 0, none), w] 2 rfl
  have e0 : ∀ (σ : Nat → Nat), σ 0 = 0 → ∀ x, (bk B a1 (grV x (kpL L B.nc))).ren σ = bk B a1 (grV (σ x) (kpL L B.nc)) := fun σ h0 x => by simp only [bk, AV.ren, AV.rens, h.h1.ren h0, grV_ren σ rfl]
  have sl : ∀ {v : AV} {n x i : Nat}, IsSl v n x → [((0, 0, none) : Wnd), (1, 0, none), w][x]? = some (x, 0, none) → ArgW [(0, 0, none), (1, 0, none), w] v v := fun {v n x i} hi hx => by
    rcases hi with rfl | ⟨rfl, rfl⟩
    · exact ArgW.gs hx
    · exact .pl Pl.nils
  have := CanS.freshD 2 (H' := ofM (m ++ kpM B (c + 3) (kpL L B.nc))) (k := 4) (v0 := bk B a1 (grV 5 (kpL L B.nc))) (without_can B a1 a2 a L h.h1 h.h2 k2 hnc hlL) hc (by decide) (args := [bk B a1 a2, lv]) (H := ofM m) (fun ρ w' us hH hv => by
    have := Entry.windows (W := [(0, 0, none), (1, 0, none), w]) (CS := [flat (stE B) (List.range B.ns), flat (ckE B) (List.range B.nc), natV L]) rfl
      ⟨⟨_, getM h.m1, .inr ⟨_, rfl, cut_all rfl⟩⟩, pls_flat _ _, ⟨_, getM h.m2, .inr ⟨_, rfl, cut_all rfl⟩⟩, pls_flat _ _, hw, pls_nat L, trivial⟩
      (args := [bk B a1 a2, lv]) (args0 := [bk B a1 a2, a]) ⟨ArgW.agg (show ArgsW _ [a1, .int .i64 B.wea, .int .i64 (B.cost 0), .int .i64 (B.cost 1), .int .i64 (B.cost 2), a2, .int .i64 B.rate] [a1, .int .i64 B.wea, .int .i64 (B.cost 0), .int .i64 (B.cost 1), .int .i64 (B.cost 2), a2, .int .i64 B.rate] from
        ⟨sl (i := 0) h.h1 rfl, .pl (fun _ => rfl), .pl (fun _ => rfl), .pl (fun _ => rfl), .pl (fun _ => rfl), sl (i := 0) h.h2 rfl, .pl (fun _ => rfl), trivial⟩), k1, trivial⟩ ρ w' us hH hv
    exact ⟨_, this.1, this.2, fun y hy => by
      obtain rfl | rfl : y = 0 ∨ y = 1 := by omega
      · exact winR_id rfl
      · exact winR_id rfl⟩) (fun v1 H1 c1 ⟨g1, g2, g3⟩ => ?_) fl
  · rw [e0 _ rfl] at this
    exact this
  · refine ⟨by rw [g1, e0 _ rfl]; rfl, g2, fun x o hx => ?_⟩
    rw [ofM_get] at hx
    rcases lookM_app hx with k | k
    · exact .inl ⟨hm x o k, getM k⟩
    · generalize kpL L B.nc = K at g3 k
      cases K with
      | nil => cases k
      | cons p r =>
        replace k : lookM ((c + 3, some (.grown (flat (ckE B) (p :: r)) 3)) :: []) x = some o := k
        by_cases e1 : x = c + 3
        · subst e1
          rw [lookM_hd] at k
          cases k
          exact .inr ⟨3, .grown (flat (ckE B) (p :: r)) 3, rfl, by rw [ren_grown]; exact g3 (by simp), (ren_grown _ _ _ _).symm⟩
        · rw [lookM_tl e1] at k
          cases k

/-- The book with some of its clocks alone. -/
noncomputable def woB (B : CBook) (K : List Nat) : CBook := { B with nc := K.length, ck := fun i => B.ck (K[i]?.getD 0), rd := fun i => B.rd (K[i]?.getD 0), er := fun i => B.er (K[i]?.getD 0) }
theorem flat_wo (B : CBook) (K : List Nat) : flat (ckE (woB B K)) (List.range K.length) = flat (ckE B) K := by
  have : flat (ckE (woB B K)) (List.range K.length) = flat (ckE B) ((List.range K.length).map fun i => K[i]?.getD 0) := by
    unfold flat
    rw [List.map_map]
    rfl
  rw [this]
  refine congrArg _ (List.ext_getElem? fun i => ?_)
  rw [List.getElem?_map]
  by_cases h : i < K.length
  · rw [List.getElem?_range h, List.getElem?_eq_getElem h]
    show some (K[i]?.getD 0) = _
    rw [List.getElem?_eq_getElem h]; rfl
  · rw [List.getElem?_eq_none (by rw [List.length_range]; omega), List.getElem?_eq_none (by omega)]; rfl
section
variable {B : CBook} {K : List Nat}
theorem woB_ok (hB : bkOk B) (hK : ∀ k ∈ K, k < B.nc) (hl : K.length ≤ 4) : bkOk (woB B K) := by
  refine ⟨⟨hB.1.1, fun i hi => ?_⟩, hB.2.1, ⟨hl, fun i hi => ?_⟩, hB.2.2.2⟩
  · have := hB.1.2 i hi
    unfold stOk at this ⊢
    have e : before (woB B K) i = before B i := by cases i <;> rfl
    rw [e]
    exact this
  · have hi : i < K.length := hi
    show ckOk B (B.ck (K[i]?.getD 0)) (B.rd (K[i]?.getD 0)) (B.er (K[i]?.getD 0))
    rw [List.getElem?_eq_getElem hi]
    exact hB.2.2.1.2 _ (hK _ (List.getElem_mem hi))
theorem bits_0 : ∀ a : Fin 16, (∀ k : Fin 5, ¬ andI ((a.1 : Int).fdiv (2 ^ k.1)) 1 = 1) → (a.1 : Int) = 0 := by decide +kernel
theorem wrV_0 (hB : B.nc ≤ 4) (q : Int × Int) : wrV B q = 0 ↔ ∀ k, k < B.nc → B.ck k = q.1 → B.rd k - B.er k ≤ q.2 ∧ q.2 ≤ B.rd k + B.er k := by
  constructor
  · intro h k hk he
    refine Classical.byContradiction fun hn => ?_
    have := (wrS_has B q.1 q.2 (k := k) (by omega) B.nc hB).1.2 ⟨hk, he, hn⟩
    rw [show wrS B q.1 q.2 B.nc = 0 from h] at this
    exact hasP_0 (by omega) this
  · intro h
    obtain ⟨_, b0, b1⟩ := wrS_has B q.1 q.2 (k := 0) (by omega) B.nc hB
    have hb : ∀ k : Fin 5, ¬ hasP (wrV B q) k.1 := fun k hk => by
      obtain ⟨k1, k2, k3⟩ := (wrS_has B q.1 q.2 k.2 B.nc hB).1.1 hk
      exact k3 (h k.1 k1 k2)
    show wrV B q = 0
    replace b0 : 0 ≤ wrV B q := b0
    replace b1 : wrV B q < 16 := b1
    generalize wrV B q = a at *
    obtain ⟨n, rfl⟩ := Int.eq_ofNat_of_zero_le b0
    exact bits_0 ⟨n, by omega⟩ hb
/-- A truth of a book: one without its clocks, in which none is wrong. -/
theorem mem_nc (hB : bkOk B) {t : Tru} : t ∈ Ws B ↔ t ∈ Ws (ncB B) ∧ ∀ k, k < B.nc → ¬ clkW B t k := by
  have h2 := ncB_ok hB
  rw [mem_Ws hB.1 hB.2.1, mem_Ws h2.1 h2.2.1]
  have hck := hB.2.2.1
  constructor
  · intro h
    refine ⟨⟨h.w, fun i hi => ⟨(h.st i hi).1, (h.st i hi).2.1, rfl⟩, h.z⟩, fun k hk hw => hw ?_⟩
    have g := (hck.2 k hk).1
    have := (wrV_0 hck.1 _).1 (h.st (B.ck k).toNat (by omega)).2.2 k hk (by show B.ck k = ((B.ck k).toNat : Int); omega)
    exact this
  · rintro ⟨h, hw⟩
    refine ⟨h.w, fun i hi => ⟨(h.st i hi).1, (h.st i hi).2.1, (wrV_0 hck.1 _).2 fun k hk he => ?_⟩, h.z⟩
    have := Classical.not_not.1 (hw k hk)
    rw [he, Int.toNat_natCast] at this
    exact this
theorem mem_wo (hB : bkOk B) (hK : ∀ k ∈ K, k < B.nc) (hl : K.length ≤ 4) {t : Tru} : t ∈ Ws (woB B K) ↔ t ∈ Ws (ncB B) ∧ ∀ k ∈ K, ¬ clkW B t k := by
  have hw := woB_ok hB hK hl
  rw [mem_nc hw]
  have h1 := ncB_ok hw
  have h2 := ncB_ok hB
  rw [mem_Ws h1.1 h1.2.1, mem_Ws h2.1 h2.2.1]
  refine and_congr ⟨fun h => ⟨h.w, h.st, h.z⟩, fun h => ⟨h.w, h.st, h.z⟩⟩ ⟨fun h k hk => ?_, fun h i hi => ?_⟩
  · obtain ⟨i, hi⟩ := List.getElem?_of_mem hk
    have hlt : i < K.length := Classical.byContradiction fun q => by rw [List.getElem?_eq_none (by omega)] at hi; cases hi
    have := h i hlt
    show ¬ clkW B t k
    unfold clkW woB at this
    simp only [hi] at this
    exact this
  · have hi : i < K.length := hi
    have := h K[i] (List.getElem_mem hi)
    unfold clkW woB
    simp only [List.getElem?_eq_getElem hi]
    exact this
theorem kpL_mem {L : List Nat} {n k : Nat} : k ∈ kpL L n ↔ k < n ∧ k ∉ L := by
  unfold kpL
  rw [List.mem_filter, List.mem_range]
  exact and_congr Iff.rfl dB_eq
theorem nc_ne (hB : bkOk B) : Ws (ncB B) ≠ [] := ne_nc (ncB_ok hB) (wrV_nc _)
/-- Without the clocks that are told the book can be true. -/
theorem wr_rest (hB : bkOk B) : Ws (woB B (kpL (wrongL B) B.nc)) ≠ [] := by
  have hK : ∀ k ∈ kpL (wrongL B) B.nc, k < B.nc := fun k hk => (kpL_mem.1 hk).1
  have hl : (kpL (wrongL B) B.nc).length ≤ 4 := Nat.le_trans (kpL_len _ _) hB.2.2.1.1
  have key : ∃ t, t ∈ Ws (woB B (kpL (wrongL B) B.nc)) := by
    rcases wr_is hB with h | ⟨t, ht, h⟩
    · obtain ⟨t, ht⟩ := List.exists_mem_of_ne_nil _ (nc_ne hB)
      refine ⟨t, (mem_wo hB hK hl).2 ⟨ht, fun k hk => ?_⟩⟩
      obtain ⟨k1, k2⟩ := kpL_mem.1 hk
      rw [h] at k2
      exact absurd (List.mem_range.2 k1) k2
    · refine ⟨t, (mem_wo hB hK hl).2 ⟨ht, fun k hk hw => ?_⟩⟩
      obtain ⟨k1, k2⟩ := kpL_mem.1 hk
      rw [h, fwL_filter hB.2.2.1] at k2
      exact k2 (List.mem_filter.2 ⟨List.mem_range.2 k1, dB_eq.2 hw⟩)
  intro e
  obtain ⟨t, ht⟩ := key
  rw [e] at ht
  cases ht
/-- Without fewer, or as many and before, it cannot. -/
theorem wr_less (hB : bkOk B) {s : Int} (h : cmpL (numsL s B.nc) (wrongL B) < 0) : Ws (woB B (kpL (numsL s B.nc) B.nc)) = [] := by
  refine Classical.byContradiction fun hne => ?_
  obtain ⟨t, ht⟩ := List.exists_mem_of_ne_nil _ hne
  have hK : ∀ k ∈ kpL (numsL s B.nc) B.nc, k < B.nc := fun k hk => (kpL_mem.1 hk).1
  have hl : (kpL (numsL s B.nc) B.nc).length ≤ 4 := Nat.le_trans (kpL_len _ _) hB.2.2.1.1
  obtain ⟨h1, h2⟩ := (mem_wo hB hK hl).1 ht
  have hbest := wr_best h1
  have hsub : ∀ k, k < B.nc → clkW B t k → k ∈ numsL s B.nc := fun k hk hw => Classical.byContradiction fun q => h2 k (kpL_mem.2 ⟨hk, q⟩) hw
  have e : fwL B t = (numsL s B.nc).filter fun k => dB (clkW B t k) := by
    rw [fwL_filter hB.2.2.1, numsL_filter, List.filter_filter]
    refine List.filter_congr fun k hk => ?_
    have hk := List.mem_range.1 hk
    by_cases hw : clkW B t k
    · have := hsub k hk hw
      rw [numsL_filter, List.mem_filter] at this
      rw [dB_tt hw, this.2]; rfl
    · rw [dB_ff hw]; rfl
  by_cases hall : ∀ k ∈ numsL s B.nc, clkW B t k
  · rw [List.filter_eq_self.2 fun k hk => dB_eq.2 (hall k hk)] at e
    rw [e] at hbest
    exact hbest h
  · obtain ⟨k, hk⟩ := Classical.not_forall.1 hall
    obtain ⟨hk1, hk2⟩ := Classical.not_imp.1 hk
    have hlt : (fwL B t).length < (numsL s B.nc).length := by
      rw [e]
      exact List.length_filter_lt_length_iff_exists.2 ⟨k, hk1, by rw [dB_ff hk2]; decide⟩
    exact hbest (cmpL_trans (cmpL_lt.2 (.inl hlt)) h)
theorem wr_nil (hB : bkOk B) : wrongL B = [] ↔ Ws B ≠ [] := by
  constructor
  · intro h e
    rcases wr_is hB with k | ⟨t, ht, k⟩
    · rw [h] at k
      have h0 : B.nc = 0 := by have := congrArg List.length k; rw [List.length_range] at this; exact this.symm
      obtain ⟨t, ht⟩ := List.exists_mem_of_ne_nil _ (nc_ne hB)
      have := (mem_nc hB).2 ⟨ht, fun k hk => by omega⟩
      rw [e] at this
      cases this
    · have := (mem_nc hB).2 ⟨ht, fun j hj hw => by
        rw [h, fwL_filter hB.2.2.1] at k
        have : j ∈ ([] : List Nat) := by rw [k]; exact List.mem_filter.2 ⟨List.mem_range.2 hj, dB_eq.2 hw⟩
        cases this⟩
      rw [e] at this
      cases this
  · intro h
    obtain ⟨t, ht⟩ := List.exists_mem_of_ne_nil _ h
    obtain ⟨h1, h2⟩ := (mem_nc hB).1 ht
    have e : fwL B t = [] := by
      rw [fwL_filter hB.2.2.1]
      refine List.filter_eq_nil_iff.2 fun k hk => ?_
      rw [dB_ff (h2 k (List.mem_range.1 hk))]; decide
    have := wr_best h1
    rw [e] at this
    cases hL : wrongL B with
    | nil => rfl
    | cons a r => rw [hL] at this; exact absurd (cmpL_lt.2 (.inl (by simp))) this
theorem filter_ris {p : Nat → Bool} : ∀ n, RisL ((List.range n).filter p) n := fun n => by
  have hp : List.Pairwise (fun a b : Nat => a < b) ((List.range n).filter p) := List.Pairwise.filter _ (List.pairwise_lt_range)
  refine ⟨fun k x h => ?_, fun k x y h1 h2 => ?_⟩
  · have := List.mem_of_getElem? h
    exact List.mem_range.1 (List.mem_filter.1 this).1
  · rw [List.pairwise_iff_getElem] at hp
    have g1 : k < ((List.range n).filter p).length := Classical.byContradiction fun q => by rw [List.getElem?_eq_none (by omega)] at h1; cases h1
    have g2 : k + 1 < ((List.range n).filter p).length := Classical.byContradiction fun q => by rw [List.getElem?_eq_none (by omega)] at h2; cases h2
    have := hp k (k + 1) g1 g2 (Nat.lt_succ_self _)
    rw [List.getElem?_eq_getElem g1] at h1
    rw [List.getElem?_eq_getElem g2] at h2
    cases h1
    cases h2
    exact this
theorem wr_ris (hB : bkOk B) : RisL (wrongL B) B.nc := by
  rcases wr_is hB with h | ⟨t, _, h⟩
  · rw [h]
    have := filter_ris (p := fun _ => true) B.nc
    rwa [List.filter_eq_self.2 fun _ _ => rfl] at this
  · rw [h, fwL_filter hB.2.2.1]
    exact filter_ris _
end
end Go.Proofs.Ytjncfddnphhofaa

/- ClaimWrong: the law, for every book and every number. -/
namespace Go.Proofs.Ytjncfddnphhofaa
open Go Go.Ev

/-- All names of a memory lie below a number. -/
def Kb (m : List (Nat × Option AObj)) (b : Nat) : Prop := ∀ e ∈ m, e.1 < b
theorem Kb.nil {b : Nat} : Kb [] b := fun e h => by cases h
theorem Kb.cons {m : List (Nat × Option AObj)} {b x : Nat} {o : Option AObj} (hx : x < b) (h : Kb m b) : Kb ((x, o) :: m) b := fun e he => by
  rcases List.mem_cons.1 he with rfl | he
  · exact hx
  · exact h e he
theorem Kb.app {m g : List (Nat × Option AObj)} {b : Nat} (h : Kb m b) (k : Kb g b) : Kb (m ++ g) b := fun e he => (List.mem_append.1 he).elim (h e) (k e)
theorem Kb.gr {x b : Nat} {L : List Nat} (h : x < b) : Kb (grM x L) b := by
  cases L with
  | nil => exact Kb.nil
  | cons a r => exact Kb.cons h Kb.nil
theorem Kb.kp {B : CBook} {x b : Nat} {K : List Nat} (h : x < b) : Kb (kpM B x K) b := by
  cases K with
  | nil => exact Kb.nil
  | cons a r => exact Kb.cons h Kb.nil
theorem Kb.hm {m : List (Nat × Option AObj)} {c : Nat} (h : Kb m c) : ∀ x o, lookM m x = some o → x < c := fun x o hx => by
  have := lookM_mem hx
  obtain ⟨e, he, rfl⟩ := List.mem_map.1 this
  exact h e he
theorem look_kp {B : CBook} {x : Nat} {K : List Nat} (hne : K ≠ []) : ∀ {m : List (Nat × Option AObj)}, Kb m x → lookM (m ++ kpM B x K) x = some (.grown (flat (ckE B) K) 3)
  | [], _ => by
    cases K with
    | nil => exact absurd rfl hne
    | cons a r => exact lookM_hd
  | (y, o) :: m, h => by
    have hy : y < x := h (y, o) List.mem_cons_self
    rw [List.cons_append, lookM_tl (by omega)]
    exact look_kp hne fun e he => h e (List.mem_cons_of_mem _ he)
theorem look_gr {x : Nat} {L : List Nat} (hne : L ≠ []) : ∀ {m : List (Nat × Option AObj)}, (∀ e ∈ m, e.1 ≠ x) → lookM (m ++ grM x L) x = some (.grown (natV L) 1)
  | [], _ => by
    cases L with
    | nil => exact absurd rfl hne
    | cons a r => exact lookM_hd
  | (y, o) :: m, h => by
    have hy : y ≠ x := h (y, o) List.mem_cons_self
    rw [List.cons_append, lookM_tl hy.symm]
    exact look_gr hne fun e he => h e (List.mem_cons_of_mem _ he)
theorem look_left {m g : List (Nat × Option AObj)} {x : Nat} {o : AObj} (h : lookM m x = some o) : lookM (m ++ g) x = some o := by
  induction m with
  | nil => cases h
  | cons e m ih =>
    obtain ⟨y, ob⟩ := e
    rw [List.cons_append, lookM, Bool.cond_eq_ite]
    rw [lookM, Bool.cond_eq_ite] at h
    split at h
    · rename_i hy
      rw [if_pos hy]; exact h
    · rename_i hy
      rw [if_neg hy]; exact ih h
theorem Lw.of {m : List (Nat × Option AObj)} {x z : Nat} {L : List Nat} {o : AObj} (h : L ≠ [] → lookM m x = some (.grown (natV L) 1)) (hz : lookM m z = some o) : Lw m (fuV x L) L := Lw.fu (z := z) (by
  by_cases k : L = []
  · exact .inl k
  · exact .inr (h k)) ⟨o, hz⟩
theorem BkX.wo {B : CBook} {K : List Nat} {a1 : AV} {x : Nat} {m : List (Nat × Option AObj)} {c : Nat} (h1 : IsSl a1 B.ns 0) (m0 : lookM m 0 = some (oSt B)) (hK : K ≠ [] → lookM m x = some (.grown (flat (ckE B) K) 3)) : BkX (woB B K) a1 (grV x K) m c := by
  have st : LiesAt m a1 (woB B K).ns 0 (flat (stE (woB B K)) (List.range (woB B K).ns)) := ⟨h1, _, m0, .inr rfl⟩
  have e := flat_wo B K
  cases K with
  | nil => exact BkX.of (x1 := 0) (x2 := 0) st ⟨IsSl.nils 0, _, m0, .inl rfl⟩
  | cons a r => exact BkX.of (x1 := 0) (x2 := x) st ⟨IsSl.gs x _, _, hK (by simp), .inr (congrArg some e.symm)⟩
theorem S.eql_b {P : Program} {fl c t yt : Nat} {m : List (Nat × Option AObj)} {x1 x2 : Operand} {a b : Int} {q : Bool} (h : AV.bool (decide (a = b)) = .bool q) : OpE P fl (.binOp .eql t x1 x2 yt) [.int .i64 a, .int .i64 b] m c (.bool q) m c := by
  have := S.eql (P := P) (fl := fl) (m := m) (c := c) (t := t) (yt := yt) (x1 := x1) (x2 := x2) (a := a) (b := b)
  rwa [h] at this
set_option maxRecDepth 100000 in
set_option maxHeartbeats 8000000 in
theorem wrong_law (hb : BillOK) (B : CBook) (a1 a2 : AV) (h1 : IsSl a1 B.ns 0) (h2 : IsSl a2 B.nc 1) (hn : B.ns ≤ 9223372036854775807) (n : Int) : CanS 0 Try.prog 8 2 [bk B a1 a2, .int .i64 n] [(0, some (oSt B)), (1, some (oCk B))] 2 fun v _ _ => v = .bool true := by
  by_cases hB : bkOk B
  · have hns := hB.1.1
    have hnc := hB.2.2.1.1
    have hp2 : 1 ≤ (2 : Int) ^ B.nc ∧ (2 : Int) ^ B.nc ≤ 16 := by
      obtain h | h | h | h | h : B.nc = 0 ∨ B.nc = 1 ∨ B.nc = 2 ∨ B.nc = 3 ∨ B.nc = 4 := by omega
      all_goals (rw [h]; decide)
    have hs64 : In64 (1 * 2 ^ B.nc) := by unfold In64; omega
    obtain ⟨L, hL⟩ : ∃ L, wrongL B = L := ⟨_, rfl⟩
    obtain ⟨O, hO⟩ : ∃ O, numsL (wrapV n (1 * 2 ^ B.nc)) B.nc = O := ⟨_, rfl⟩
    have hris : RisL L B.nc := hL ▸ wr_ris hB
    have hl1 : L.length ≤ 1000 := by have := wr_len hB; rw [hL] at this; omega
    have hl2 : O.length ≤ 1000 := by have := numsL_len (wrapV n (1 * 2 ^ B.nc)) B.nc; rw [hO] at this; omega
    have hnil : L = [] ↔ Ws B ≠ [] := hL ▸ wr_nil hB
    have hKL : ∀ Q : List Nat, (∀ k ∈ kpL Q B.nc, k < B.nc) ∧ (kpL Q B.nc).length ≤ 4 := fun Q => ⟨fun k hk => (kpL_mem.1 hk).1, Nat.le_trans (kpL_len _ _) hnc⟩
    have hR1 := rtV_t (woB_ok hB (hKL L).1 (hKL L).2) (by have := wr_rest hB; rw [hL] at this; exact this)
    have key : ∀ isv : Bool, rtV B = .tup [.bool isv, .int .i64 0] → ∀ lz : Bool, AV.bool (decide ((L.length : Int) = 0)) = .bool lz → lz = isv → ∀ less fe : Bool, rtV (woB B (kpL O B.nc)) = .tup [.bool less, .int .i64 0] → AV.bool (decide (cmpL O L < 0)) = .bool fe → (fe = true → less = false) → CanS 0 Try.prog 8 2 [bk B a1 a2, .int .i64 n] [(0, some (oSt B)), (1, some (oCk B))] 2 fun v _ _ => v = .bool true := by
      intro isv hR lz hz hlz less fe hR2 hFe hfl
      subst hlz
      refine CanS.mk Try.func8 rfl rfl rfl ?_
      repeat' (first | refine RT.nil ?_ | refine sq_n ?_ | refine Tr.seq ?_ | refine Tr.region ?_ | refine Tr.cond_f rfl ?_ | refine Tr.skip ?_ | (refine RT.call rfl rfl rfl (hL ▸ Wrong_w (BkX.of (B := B) (v1 := a1) (v2 := a2) (x1 := 0) (x2 := 1) ⟨h1, _, rfl, .inr rfl⟩ ⟨h2, _, rfl, .inr rfl⟩) (fun x o hx => by have := lookM_mem hx; simp at this; omega) hn hB _) rfl rfl (by decide) ?_) | (refine RT.call rfl rfl rfl (sound_t ⟨h1, h2, rfl, rfl, by decide⟩ hn hB _) rfl rfl (Nat.le_refl _) ?_) | (refine RT.call rfl rfl rfl (val_is hR (Right_at ⟨h1, h2, rfl, rfl, by decide⟩ hn _)) rfl rfl (Nat.le_refl _) ?_) | (refine RT.call rfl rfl rfl (Rising_at (L := L) (Lw.of (z := 0) (fun hne => by repeat' (first | exact look_gr hne (by simp))) rfl) hl1 hris _) rfl rfl (Nat.le_refl _) ?_) | (refine RT.goK rfl rfl rfl rfl ?_; first | refine Nx.of (S.eql_b hz) ?_) | (refine RT.goK rfl rfl rfl rfl ?_; apply Nx.of; (first | exact S.neq_f (by decide))) | (refine RT.goK rfl rfl rfl rfl ?_; apply Nx.of; (first | exact S.move | exact S.assign | exact S.load1c rfl rfl rfl rfl | exact S.loadNc rfl rfl rfl rfl | exact S.fieldAddr rfl rfl rfl | exact S.not_t | exact S.pick_ff | exact S.box | exact S.extract rfl | exact S.neqB_f (eqBt _) | exact S.len_fu rfl rfl rfl)) | (refine RT.goK rfl rfl rfl rfl ?_; apply Nx.of; (first | exact S.len_sl rfl rfl rfl (by assumption))))
      refine Tr.openK un8_7 (by kernel_rfl) (by kernel_rfl) (alts [wrapF, pinX 46 [.int .i64 (wrapV n (1 * 2 ^ B.nc)), .int .i64 (B.nc : Int)] ([(2, some (.cells (bk B a1 a2).cells)), (0, some (oSt B)), (1, some (oCk B))] ++ grM 3 L) 17 (alV 17 O) ((17, some (alO O)) :: ([(2, some (.cells (bk B a1 a2).cells)), (0, some (oSt B)), (1, some (oCk B))] ++ grM 3 L)) 18]) (alts_calm fun g hg => by
        simp only [List.mem_cons, List.not_mem_nil, or_false] at hg
        rcases hg with rfl | rfl
        · exact wrapF_calm
        · exact pinX_calm (fun fl => hO ▸ All_at (c := 17) _ B.nc (by omega) (Kb.hm (by repeat' (first | exact Kb.nil | refine Kb.cons (by decide) ?_ | refine Kb.app ?_ ?_ | exact Kb.gr (by decide)))) fl) (fun fl => (Good.refl fl 17 (ofM ([(2, some (.cells (bk B a1 a2).cells)), (0, some (oSt B)), (1, some (oCk B))] ++ grM 3 L))).cons (c2 := 18) (by decide) (by decide) (by decide))) ?_
      repeat' (first | (refine RD.free rfl rfl rfl rfl rfl rfl ?_; apply Nx.of; (first | exact S.move | exact S.assign | exact S.fieldAddr rfl rfl rfl | exact S.shl (by omega) hs64 | exact S.len_sl rfl rfl rfl (by assumption))) | (refine RD.load rfl rfl rfl rfl rfl rfl rfl rfl ?_; apply Nx.of; (first | exact S.load1c rfl rfl rfl rfl)) | (refine RD.load rfl rfl rfl rfl rfl rfl rfl (by refine us_all ?_; simp only [usOk, cond_true, cond_false]; (repeat' (first | exact trivial | refine And.intro ?_ ?_)); all_goals (first | rfl | exact .inl trivial | (refine Or.inr (was_same rfl ?_); (first | (refine ⟨_, rfl, ?_⟩; simp [bk, AV.cells, pbC, rfO, rfVs, rfV, h1.rf, h2.rf]; done))))) ?_; apply Nx.of; (first | exact S.load1c rfl rfl rfl rfl)) | (refine RD.callN rfl rfl rfl rfl rfl rfl rfl rfl rfl (fun fl' => alts_hd (wrapF_at _ _ (by omega) fl' _ _)) (fun _ => by refine srOk_all ?_; simp only [srOk]; (repeat' (first | exact trivial | refine And.intro ?_ ?_)); all_goals (first | exact trivial | (refine ⟨_, rfl, ?_⟩; (first | rfl | (simp [rfO, rfVs, rfV, rfVs_flat]; done) | (simp [bk, AV.cells, pbC, rfO, rfVs, rfV, h1.rf, h2.rf]; done))))) ?_) | (refine RD.callX rfl rfl rfl rfl rfl rfl rfl rfl rfl (fun fl' => (alts_tl (famA_ne _ (by decide))).trans (alts_hd (pinX_at _ _ _ _ _ _ _ fl'))) (fun _ => by refine srOkX_all ?_; simp only [srOkX]; (repeat' (first | exact trivial | refine And.intro ?_ ?_)); all_goals (first | exact trivial | (refine ⟨_, rfl, rfl, ?_⟩; (first | rfl | (simp [rfO, rfVs, rfV, rfVs_flat]; done) | (simp [bk, AV.cells, pbC, rfO, rfVs, rfV, h1.rf, h2.rf]; done))))) ?_) | refine RD.nil ⟨Nat.le_of_ble_eq_true rfl, ?_⟩)
      repeat' (first | refine RT.nil ?_ | refine sq_n ?_ | refine Tr.seq ?_ | refine Tr.region ?_ | (refine RT.call rfl rfl rfl (without_at (L := L) ⟨h1, h2, rfl, rfl, by decide⟩ (Kb.hm (by repeat' (first | exact Kb.nil | refine Kb.cons (by decide) ?_ | refine Kb.app ?_ ?_ | exact Kb.gr (by decide)))) (Lw.of (z := 0) (fun hne => by repeat' (first | exact look_gr hne (by simp))) rfl) hnc hl1 _) rfl rfl (by decide) ?_) | (refine RT.call rfl rfl rfl (without_at (L := O) ⟨h1, h2, rfl, rfl, by decide⟩ (Kb.hm (by repeat' (first | exact Kb.nil | refine Kb.cons (by decide) ?_ | refine Kb.app ?_ ?_ | exact Kb.gr (by decide) | exact Kb.kp (by decide)))) (Lw.al rfl) hnc hl2 _) rfl rfl (by decide) ?_) | (refine RT.call rfl rfl rfl (val_is hR1 (Right_x (BkX.wo (K := kpL L B.nc) h1 rfl (fun hne => look_kp hne (by repeat' (first | exact Kb.nil | refine Kb.cons (by decide) ?_ | refine Kb.app ?_ ?_ | exact Kb.gr (by decide))))) hn _)) rfl rfl (Nat.le_refl _) ?_) | (refine RT.call rfl rfl rfl (val_is hR2 (Right_x (BkX.wo (K := kpL O B.nc) h1 rfl (fun hne => look_kp hne (by repeat' (first | exact Kb.nil | refine Kb.cons (by decide) ?_ | refine Kb.app ?_ ?_ | exact Kb.gr (by decide) | exact Kb.kp (by decide))))) hn _)) rfl rfl (Nat.le_refl _) ?_) | (refine RT.goK rfl rfl rfl rfl ?_; apply Nx.of; (first | exact S.eql_t (by decide))) | (refine RT.goK rfl rfl rfl rfl ?_; apply Nx.of; (first | exact S.move | exact S.assign | exact S.loadNc rfl rfl rfl rfl | exact S.pick_tt | exact S.extract rfl)))
      have h3 : (fe = true ∧ less = false) ∨ fe = false := by cases fe <;> simp_all
      rcases h3 with ⟨rfl, rfl⟩ | rfl
      · repeat' (first | refine RT.nil ?_ | refine sq_n ?_ | refine Tr.ret ?_ | (refine RT.call rfl rfl rfl (val_is hFe (Fewer_at (L := O) (Q := L) (Lw.al rfl) (Lw.of (z := 0) (fun hne => by repeat' (first | exact look_gr hne (by simp) | refine (lookM_tl (by decide)).trans ?_ | refine look_left ?_)) rfl) hl2 _)) rfl rfl (Nat.le_refl _) ?_) | (refine RT.call rfl rfl rfl (hb.root_at _ _ _) rfl rfl (Nat.le_refl _) ?_) | (refine RT.goK rfl rfl rfl rfl ?_; apply Nx.of; (first | exact S.move | exact S.assign | exact S.not_t | exact S.not_f | exact S.pick_tt | exact S.pick_ff)))
        (first | refine rt_go rfl ?_)
        rfl
      · repeat' (first | refine RT.nil ?_ | refine sq_n ?_ | refine Tr.ret ?_ | (refine RT.call rfl rfl rfl (val_is hFe (Fewer_at (L := O) (Q := L) (Lw.al rfl) (Lw.of (z := 0) (fun hne => by repeat' (first | exact look_gr hne (by simp) | refine (lookM_tl (by decide)).trans ?_ | refine look_left ?_)) rfl) hl2 _)) rfl rfl (Nat.le_refl _) ?_) | (refine RT.call rfl rfl rfl (hb.root_at _ _ _) rfl rfl (Nat.le_refl _) ?_) | (refine RT.goK rfl rfl rfl rfl ?_; apply Nx.of; (first | exact S.move | exact S.assign | exact S.not_f | exact S.pick_tt)) | (refine RT.no rfl rfl rfl ?_))
        (first | refine rt_go rfl ?_)
        rfl
    have hw2 := woB_ok hB (hKL O).1 (hKL O).2
    have hz : AV.bool (decide ((L.length : Int) = 0)) = .bool (dB (Ws B ≠ [])) := congrArg AV.bool (by
      by_cases h : L = []
      · rw [dB_tt (hnil.1 h), h]; rfl
      · rw [dB_ff (fun k => h (hnil.2 k)), decide_eq_false]
        intro k
        exact h (List.length_eq_zero_iff.1 (by omega)))
    have hR : rtV B = .tup [.bool (dB (Ws B ≠ [])), .int .i64 0] := by
      by_cases h : Ws B = []
      · rw [rtV_f hB h, dB_ff (fun k => k h)]
      · rw [rtV_t hB h, dB_tt h]
    have hR2 : rtV (woB B (kpL O B.nc)) = .tup [.bool (dB (Ws (woB B (kpL O B.nc)) ≠ [])), .int .i64 0] := by
      by_cases h : Ws (woB B (kpL O B.nc)) = []
      · rw [rtV_f hw2 h, dB_ff (fun k => k h)]
      · rw [rtV_t hw2 h, dB_tt h]
    refine key _ hR _ hz rfl _ _ hR2 rfl (fun h => ?_)
    have h2 := wr_less (s := wrapV n (1 * 2 ^ B.nc)) hB (by rw [hO, hL]; exact of_decide_eq_true h)
    rw [hO] at h2
    exact dB_ff (fun k => k h2)
  · have hnl : IsSl .nils 0 0 := IsSl.nils 0
    refine CanS.mk Try.func8 rfl rfl rfl ?_
    repeat' (first | refine RT.nil ?_ | refine sq_n ?_ | refine Tr.seq ?_ | refine Tr.region ?_ | refine Tr.cond_t rfl ?_ | refine Tr.ret ?_ | refine sq_r ?_ | (refine RT.call rfl rfl rfl (Wrong_xn (BkX.of (B := B) (v1 := a1) (v2 := a2) (x1 := 0) (x2 := 1) ⟨h1, _, rfl, .inr rfl⟩ ⟨h2, _, rfl, .inr rfl⟩) hn hB _) rfl rfl (Nat.le_refl _) ?_) | (refine RT.call rfl rfl rfl (hb.root_at _ _ _) rfl rfl (Nat.le_refl _) ?_) | (refine RT.call rfl rfl rfl (sound_f ⟨h1, h2, rfl, rfl, by decide⟩ hn hB _) rfl rfl (Nat.le_refl _) ?_) | (refine RT.goK rfl rfl rfl rfl ?_; apply Nx.of; (first | exact S.eql_t (by decide))) | (refine RT.goK rfl rfl rfl rfl ?_; apply Nx.of; (first | exact S.move | exact S.assign | exact S.loadNc rfl rfl rfl rfl | exact S.not_f | exact S.pick_tt | exact S.box | exact S.extract rfl)) | (refine RT.goK rfl rfl rfl rfl ?_; apply Nx.of; (first | exact S.len_sl rfl rfl rfl (by assumption))))
    (first | refine rt_go rfl ?_)
    rfl
end Go.Proofs.Ytjncfddnphhofaa
