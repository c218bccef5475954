/- Texts of one kind, one behind the other: Kr5, Ks, Kt, Ku, Kv, Kw, Kx, Ky, Kz, Na, Nd, Ne. -/
import Derived.Test.YtjnckbefajfgbaaRm5
set_option linter.unusedVariables false
set_option linter.unusedSimpArgs false
/- Package roll: add and learn, for a book of 5 days. -/
namespace Go.Proofs.Ytjnckbefajfgbaa
open Go Go.Ev
namespace Days5
def lsV : List Tru → AV
  | [] => .nils
  | _ :: ts => .gs 15 (ts.length + 1)
def lsM : List Tru → List (Nat × Option AObj)
  | [] => []
  | t :: ts => [(15, some (.grown (flat truE (t :: ts)) 28))]
theorem add_at {B : RBook} {a1 a2 a3 : AV} (h1 : IsSl a1 B.nl 0) (h2 : IsSl a2 B.nd 1) (h3 : IsSl a3 B.nk 2) (s : List Tru) (hs : s.length ≤ 20000) (t : Tru) (e : B.nd = 5) {m mr : List (Nat × Option AObj)} {c : Nat} (hc : 16 ≤ c) (g7 : lookM m 7 = some (.cells [.ptr 6 0, lsV s, .map 8, .map 9, .map 10, .map 11, .map 12])) (g8 : lookM m 8 = some (rdO 0 s)) (g9 : lookM m 9 = some (rdO 1 s)) (g10 : lookM m 10 = some (rdO 2 s)) (g11 : lookM m 11 = some (rdO 3 s)) (g12 : lookM m 12 = some (rdO 4 s)) (g6 : lookM m 6 = some (.cells (pbC B a1 a2 a3))) (k0 : lookM m 0 = some (oLa B)) (k1 : lookM m 1 = some (oDa B)) (k2 : lookM m 2 = some (oLo B)) (gl : s ≠ [] → lookM m 15 = some (.grown (flat truE s) 28))
    (hr : ∀ x o, lookM mr x = some o → (x < 7 ∨ 13 ≤ x) ∧ x < c ∧ x ≠ 15 ∧ lookM m x = some o) (fl : Nat) (hfl : fl ≤ 7) :
    OkAt 0 Try.prog fl 75 [.ptr 7 0, trV t] (ofM m) c (.tup []) (ofM ((7, some (.cells [.ptr 6 0, .gs (c + 2) (s ++ [t]).length, .map 8, .map 9, .map 10, .map 11, .map 12])) :: (8, some (rdO 0 (s ++ [t]))) :: (9, some (rdO 1 (s ++ [t]))) :: (10, some (rdO 2 (s ++ [t]))) :: (11, some (rdO 3 (s ++ [t]))) :: (12, some (rdO 4 (s ++ [t]))) :: (c + 2, some (.grown (flat truE (s ++ [t])) 28)) :: mr)) (c + 3) := by
  cases s with
  | nil =>
    let τ : Nat → Nat := fun y => if y < 13 then y else c + (y - 13)
    have low : ∀ {z : Nat} {ob : AObj}, lookM [(7, some (.cells [.ptr 6 0, .nils, .map 8, .map 9, .map 10, .map 11, .map 12])), (8, some (rdO 0 [])), (9, some (rdO 1 [])), (10, some (rdO 2 [])), (11, some (rdO 3 [])), (12, some (rdO 4 [])), (6, some (.cells (pbC B a1 a2 a3))), (0, some (oLa B)), (1, some (oDa B)), (2, some (oLo B))] z = some ob → z = 7 ∨ z = 8 ∨ z = 9 ∨ z = 10 ∨ z = 11 ∨ z = 12 ∨ z = 6 ∨ z = 0 ∨ z = 1 ∨ z = 2 := fun {z ob} hz => by
      have := lookM_mem hz
      simpa using this
    have ha : AV.rens τ [.ptr 7 0, trV t] = [.ptr 7 0, trV t] := rfl
    rw [← ha]
    refine CanS.inst (add_nil B a1 a2 a3 h1 h2 h3 t e) (Nat.zero_le _) (by decide) τ (fun g hg => by omega) (fun y hy => by simp only [τ]; (repeat' split) <;> omega) (fun y hy => by simp only [τ]; (repeat' split) <;> omega) (fun y o hy => ?_) (fun x y o o' hx hy hxy => .inl ?_) (fun y hy hy' => ?_) (fun v1 H1 c1 hq _ => ?_)
    · rcases low hy with rfl | rfl | rfl | rfl | rfl | rfl | rfl | rfl | rfl | rfl
      · cases hy; exact getM g7
      · cases hy; rw [rd_ren]; exact getM g8
      · cases hy; rw [rd_ren]; exact getM g9
      · cases hy; rw [rd_ren]; exact getM g10
      · cases hy; rw [rd_ren]; exact getM g11
      · cases hy; rw [rd_ren]; exact getM g12
      · cases hy; rw [pbc_ren h1 h2 h3 rfl rfl rfl]; exact getM g6
      · cases hy; rw [ren_ro]; exact getM k0
      · cases hy; rw [ren_ro]; exact getM k1
      · cases hy; rw [ren_ro]; exact getM k2
    · have q1 := low hx
      have q2 := low hy
      simp only [τ]
      (repeat' split) <;> omega
    · rcases (by omega : y = 7 ∨ y = 8 ∨ y = 9 ∨ y = 10 ∨ y = 11 ∨ y = 12) with rfl | rfl | rfl | rfl | rfl | rfl
      all_goals exact ⟨by simp only [τ]; (repeat' split) <;> omega, _, rfl, rfl⟩
    · obtain ⟨p7, p8, p9, p10, p11, p12, pl, pc, pv⟩ := hq
      refine ⟨by rw [pv]; rfl, by omega, fun x o hx => ?_⟩
      rw [ofM_get] at hx
      by_cases e7 : x = 7
      · subst e7
        rw [lookM_hd] at hx
        cases hx
        exact .inr ⟨7, _, by omega, p7, rfl, rfl⟩
      rw [lookM_tl e7] at hx
      by_cases e8 : x = 8
      · subst e8
        rw [lookM_hd] at hx
        cases hx
        exact .inr ⟨8, _, by omega, p8, rfl, (rd_ren _ _ _).symm⟩
      rw [lookM_tl e8] at hx
      by_cases e9 : x = 9
      · subst e9
        rw [lookM_hd] at hx
        cases hx
        exact .inr ⟨9, _, by omega, p9, rfl, (rd_ren _ _ _).symm⟩
      rw [lookM_tl e9] at hx
      by_cases e10 : x = 10
      · subst e10
        rw [lookM_hd] at hx
        cases hx
        exact .inr ⟨10, _, by omega, p10, rfl, (rd_ren _ _ _).symm⟩
      rw [lookM_tl e10] at hx
      by_cases e11 : x = 11
      · subst e11
        rw [lookM_hd] at hx
        cases hx
        exact .inr ⟨11, _, by omega, p11, rfl, (rd_ren _ _ _).symm⟩
      rw [lookM_tl e11] at hx
      by_cases e12 : x = 12
      · subst e12
        rw [lookM_hd] at hx
        cases hx
        exact .inr ⟨12, _, by omega, p12, rfl, (rd_ren _ _ _).symm⟩
      rw [lookM_tl e12] at hx
      by_cases ec : x = c + 2
      · subst ec
        rw [lookM_hd] at hx
        cases hx
        exact .inr ⟨15, _, by omega, pl, rfl, (ren_grown _ _ _ _).symm⟩
      rw [lookM_tl ec] at hx
      obtain ⟨r1, r2, r3, r4⟩ := hr x o hx
      exact .inl ⟨r2, fun y hy hy' => by simp only [τ]; (repeat' split) <;> omega, getM r4⟩
  | cons t0 ts =>
    let τ : Nat → Nat := fun y => if y < 13 then y else if y = 13 then 15 else c + (y - 14)
    have low : ∀ {z : Nat} {ob : AObj}, lookM [(13, some (.grown (flat truE (t0 :: ts)) 28)), (7, some (.cells [.ptr 6 0, .gs 13 (ts.length + 1), .map 8, .map 9, .map 10, .map 11, .map 12])), (8, some (rdO 0 (t0 :: ts))), (9, some (rdO 1 (t0 :: ts))), (10, some (rdO 2 (t0 :: ts))), (11, some (rdO 3 (t0 :: ts))), (12, some (rdO 4 (t0 :: ts))), (6, some (.cells (pbC B a1 a2 a3))), (0, some (oLa B)), (1, some (oDa B)), (2, some (oLo B))] z = some ob → z = 13 ∨ z = 7 ∨ z = 8 ∨ z = 9 ∨ z = 10 ∨ z = 11 ∨ z = 12 ∨ z = 6 ∨ z = 0 ∨ z = 1 ∨ z = 2 := fun {z ob} hz => by
      have := lookM_mem hz
      simpa using this
    have ha : AV.rens τ [.ptr 7 0, trV t] = [.ptr 7 0, trV t] := rfl
    rw [← ha]
    refine CanS.inst (add_cons B a1 a2 a3 h1 h2 h3 t t0 ts (by simp at hs; omega) e) (Nat.zero_le _) (by decide) τ (fun g hg => by omega) (fun y hy => by simp only [τ]; (repeat' split) <;> omega) (fun y hy => by simp only [τ]; (repeat' split) <;> omega) (fun y o hy => ?_) (fun x y o o' hx hy hxy => .inl ?_) (fun y hy hy' => ?_) (fun v1 H1 c1 hq _ => ?_)
    · rcases low hy with rfl | rfl | rfl | rfl | rfl | rfl | rfl | rfl | rfl | rfl | rfl
      · cases hy; rw [ren_grown]; exact getM (gl (by simp))
      · cases hy; exact getM g7
      · cases hy; rw [rd_ren]; exact getM g8
      · cases hy; rw [rd_ren]; exact getM g9
      · cases hy; rw [rd_ren]; exact getM g10
      · cases hy; rw [rd_ren]; exact getM g11
      · cases hy; rw [rd_ren]; exact getM g12
      · cases hy; rw [pbc_ren h1 h2 h3 rfl rfl rfl]; exact getM g6
      · cases hy; rw [ren_ro]; exact getM k0
      · cases hy; rw [ren_ro]; exact getM k1
      · cases hy; rw [ren_ro]; exact getM k2
    · have q1 := low hx
      have q2 := low hy
      simp only [τ]
      (repeat' split) <;> omega
    · rcases (by omega : y = 7 ∨ y = 8 ∨ y = 9 ∨ y = 10 ∨ y = 11 ∨ y = 12 ∨ y = 13) with rfl | rfl | rfl | rfl | rfl | rfl | rfl
      all_goals exact ⟨by simp only [τ]; (repeat' split) <;> omega, _, rfl, rfl⟩
    · obtain ⟨p7, p8, p9, p10, p11, p12, pl, pc, pv⟩ := hq
      refine ⟨by rw [pv]; rfl, by omega, fun x o hx => ?_⟩
      rw [ofM_get] at hx
      by_cases e7 : x = 7
      · subst e7
        rw [lookM_hd] at hx
        cases hx
        exact .inr ⟨7, _, by omega, p7, rfl, rfl⟩
      rw [lookM_tl e7] at hx
      by_cases e8 : x = 8
      · subst e8
        rw [lookM_hd] at hx
        cases hx
        exact .inr ⟨8, _, by omega, p8, rfl, (rd_ren _ _ _).symm⟩
      rw [lookM_tl e8] at hx
      by_cases e9 : x = 9
      · subst e9
        rw [lookM_hd] at hx
        cases hx
        exact .inr ⟨9, _, by omega, p9, rfl, (rd_ren _ _ _).symm⟩
      rw [lookM_tl e9] at hx
      by_cases e10 : x = 10
      · subst e10
        rw [lookM_hd] at hx
        cases hx
        exact .inr ⟨10, _, by omega, p10, rfl, (rd_ren _ _ _).symm⟩
      rw [lookM_tl e10] at hx
      by_cases e11 : x = 11
      · subst e11
        rw [lookM_hd] at hx
        cases hx
        exact .inr ⟨11, _, by omega, p11, rfl, (rd_ren _ _ _).symm⟩
      rw [lookM_tl e11] at hx
      by_cases e12 : x = 12
      · subst e12
        rw [lookM_hd] at hx
        cases hx
        exact .inr ⟨12, _, by omega, p12, rfl, (rd_ren _ _ _).symm⟩
      rw [lookM_tl e12] at hx
      by_cases ec : x = c + 2
      · subst ec
        rw [lookM_hd] at hx
        cases hx
        exact .inr ⟨16, _, by omega, pl, rfl, (ren_grown _ _ _ _).symm⟩
      rw [lookM_tl ec] at hx
      obtain ⟨r1, r2, r3, r4⟩ := hr x o hx
      exact .inl ⟨r2, fun y hy hy' => by simp only [τ]; (repeat' split) <;> omega, getM r4⟩
theorem add_rd {B : RBook} {a1 a2 a3 : AV} (h1 : IsSl a1 B.nl 0) (h2 : IsSl a2 B.nd 1) (h3 : IsSl a3 B.nk 2) (s : List Tru) (hs : s.length ≤ 20000) (t : Tru) (e : B.nd = 5) {m : List (Nat × Option AObj)} {LO : AObj} {c : Nat} (hc : 16 ≤ c) (g7 : lookM m 7 = some (.cells [.ptr 6 0, lsV s, .map 8, .map 9, .map 10, .map 11, .map 12])) (g8 : lookM m 8 = some (rdO 0 s)) (g9 : lookM m 9 = some (rdO 1 s)) (g10 : lookM m 10 = some (rdO 2 s)) (g11 : lookM m 11 = some (rdO 3 s)) (g12 : lookM m 12 = some (rdO 4 s)) (g6 : lookM m 6 = some (.cells (pbC B a1 a2 a3))) (k0 : lookM m 0 = some (oLa B)) (k1 : lookM m 1 = some (oDa B)) (k2 : lookM m 2 = some (oLo B)) (gl : s ≠ [] → lookM m 15 = some (.grown (flat truE s) 28)) (gL : lookM m 14 = some LO) (gd : lookM m 13 = some .dfr) (fl : Nat) (hfl : fl ≤ 7) :
    OkAt 0 Try.prog fl 75 [.ptr 7 0, trV t] (ofM m) c (.tup []) (ofM ((7, some (.cells [.ptr 6 0, .gs (c + 2) (s ++ [t]).length, .map 8, .map 9, .map 10, .map 11, .map 12])) :: (8, some (rdO 0 (s ++ [t]))) :: (9, some (rdO 1 (s ++ [t]))) :: (10, some (rdO 2 (s ++ [t]))) :: (11, some (rdO 3 (s ++ [t]))) :: (12, some (rdO 4 (s ++ [t]))) :: (c + 2, some (.grown (flat truE (s ++ [t])) 28)) :: [(14, some LO), (6, some (.cells (pbC B a1 a2 a3))), (0, some (oLa B)), (1, some (oDa B)), (2, some (oLo B)), (13, some .dfr)])) (c + 3) :=
  add_at h1 h2 h3 s hs t e hc g7 g8 g9 g10 g11 g12 g6 k0 k1 k2 gl (fun x o hx => by
    have h := lookM_mem hx
    have h : x = 14 ∨ x = 6 ∨ x = 0 ∨ x = 1 ∨ x = 2 ∨ x = 13 := by simpa using h
    rcases h with rfl | rfl | rfl | rfl | rfl | rfl
    all_goals (cases hx; exact ⟨by omega, by omega, by omega, by assumption⟩)) fl hfl
def lnM (B : RBook) (a1 a2 a3 : AV) (s : List Tru) : List (Nat × Option AObj) := [(7, some (.cells [.ptr 6 0, lsV s, .map 8, .map 9, .map 10, .map 11, .map 12])), (8, some (rdO 0 s)), (9, some (rdO 1 s)), (10, some (rdO 2 s)), (11, some (rdO 3 s)), (12, some (rdO 4 s)), (6, some (.cells (pbC B a1 a2 a3))), (0, some (oLa B)), (1, some (oDa B)), (2, some (oLo B)), (13, some .dfr)] ++ lsM s
set_option maxRecDepth 100000 in
set_option maxHeartbeats 8000000 in
theorem learn_yes (B : RBook) (a1 a2 a3 : AV) (h1 : IsSl a1 B.nl 0) (h2 : IsSl a2 B.nd 1) (h3 : IsSl a3 B.nk 2) (hn : B.nd ≤ 9223372036854775807) (hB : bkOk B) (e : B.nd = 5) : CanS 0 Try.prog 40 3 [bk B a1 a2 a3, .bool true] [(0, some (oLa B)), (1, some (oDa B)), (2, some (oLo B))] 3 fun v H1 c1 => (Wn B = [] ∧ v = .tup [.agg [.nilp, .nils, .nilm, .nilm, .nilm, .nilm, .nilm], .int .i64 72]) ∨
    (c1 = 16 ∧ Wn B ≠ [] ∧ v = .tup [.agg [.ptr 6 0, .gs 15 (Wn B).length, .map 8, .map 9, .map 10, .map 11, .map 12], .int .i64 0] ∧ H1.get 6 = some (.cells (pbC B a1 a2 a3)) ∧ H1.get 8 = some (rdO 0 (Wn B)) ∧ H1.get 9 = some (rdO 1 (Wn B)) ∧ H1.get 10 = some (rdO 2 (Wn B)) ∧ H1.get 11 = some (rdO 3 (Wn B)) ∧ H1.get 12 = some (rdO 4 (Wn B)) ∧ H1.get 15 = some (.grown (flat truE (Wn B)) 28)) := by
  refine CanS.mk Try.func40 rfl rfl rfl ?_
  repeat' (first | refine RT.nil ?_ | refine sq_n ?_ | refine Tr.seq ?_ | refine Tr.region ?_ | refine Tr.cond_f rfl ?_ | refine Tr.skip ?_ | refine Tr.block ?_ | (refine RT.call rfl rfl rfl (Check_ok ⟨h1, h2, h3, rfl, rfl, rfl, by decide⟩ hn hB _) rfl rfl (Nat.le_refl _) ?_) | (refine RT.call rfl rfl rfl (prepare_at ⟨h1, h2, h3, rfl, rfl, rfl, by decide⟩ (fun x o hx => by have := lookM_mem hx; simp at this; omega) _) rfl rfl (by decide) ?_) | (refine RT.goK rfl rfl rfl rfl ?_; apply Nx.of; (first | exact S.neq_f (by decide))) | (refine RT.goK rfl rfl rfl rfl ?_; apply Nx.of; (first | exact S.move | exact S.assign | exact S.load1c rfl rfl rfl rfl | exact S.loadNc rfl rfl rfl rfl | exact S.fieldAddr rfl rfl rfl | exact S.not_t | exact S.box | exact S.alloc rfl | exact S.build rfl rfl rfl)) | (refine RT.goK0 rfl rfl rfl ?_; apply Nx.of; (first | exact S.store rfl rfl rfl rfl rfl rfl)) | (refine RT.goK rfl rfl rfl rfl ?_; apply Nx.of; (first | exact S.len_sl rfl rfl rfl (by assumption))))
  refine Tr.unroll 5 ?_
  repeat' (first | refine RT.nil ?_ | refine sq_n ?_ | refine Tr.seq ?_ | refine Tr.region ?_ | refine Tr.cond_d rfl (fun _ => ?_) (fun _ => ?_) | refine Tr.skip ?_ | refine Tr.exit ?_ | refine sq_x ?_ | refine Tr.block ?_ | refine blk_n ?_ | refine blk_hit rfl ?_ | refine un_n ?_ | refine un_x ?_ | (refine RT.goK rfl rfl rfl rfl ?_; apply Nx.of; (first | exact S.idx_arrI rfl rfl rfl (by decide) (by decide))) | (refine RT.goK rfl rfl rfl rfl ?_; apply Nx.of; (first | exact S.move | exact S.assign | exact S.load1c rfl rfl rfl rfl | exact S.fieldAddr rfl rfl rfl | exact S.lss | exact S.add (by unfold In64; omega) | exact S.makeMap | exact S.makeFunc)) | (refine RT.goK0 rfl rfl rfl ?_; apply Nx.of; (first | exact S.store rfl rfl rfl rfl rfl rfl)))
  · exfalso; omega
  refine Tr.wk (Wk.by (l2 := [(4, .ptr 4 0), (5, .int .i64 0), (7, .ptr 7 0), (35, .fn 74 [.ptr 6 0] [])]) (m2 := [(7, some (.cells [.ptr 6 0, .nils, .map 8, .map 9, .map 10, .map 11, .map 12])), (8, some (rdO 0 [])), (9, some (rdO 1 [])), (10, some (rdO 2 [])), (11, some (rdO 3 [])), (12, some (rdO 4 [])), (4, some (.cells [.nilp, .nils, .nilm, .nilm, .nilm, .nilm, .nilm])), (6, some (.cells (pbC B a1 a2 a3))), (0, some (oLa B)), (1, some (oDa B)), (2, some (oLo B))]) (c2 := 13) (fun y => y) (by decide) (by decide) (by decide) ⟨rfl, rfl, rfl, rfl, trivial⟩ ⟨rfl, rfl, rfl, rfl, rfl, rfl, rfl, congrArg some (pbc_ren h1 h2 h3 rfl rfl rfl).symm, congrArg some (ren_ro _ _ _).symm, congrArg some (ren_ro _ _ _).symm, congrArg some (ren_ro _ _ _).symm, trivial⟩ rfl (fun x _ y _ hh => hh) (fun x hx => by omega) (fun x _ => rfl) (fun x hx => hx)) ?_
  refine Tr.rangeR (T := [0, 1, 2, 4, 6]) (NC := [7, 8, 9, 10, 11, 12, 6, 0, 1, 2, 13]) (s0 := []) (M := lnM B a1 a2 a3) (ok := lnOk) (stp := lnS) (room := lnRoom) (hroom := lnRoom_ok) (lC := [(7, .ptr 7 0)]) (memT := [(0, some (oLa B)), (1, some (oDa B)), (2, some (oLo B)), (4, some (.cells [.nilp, .nils, .nilm, .nilm, .nilm, .nilm, .nilm])), (6, some (.cells (pbC B a1 a2 a3)))]) (flT := 7) (flC := 7) (cc := 16) (R := fun v m' s' => m' = [(0, some (oLa B)), (1, some (oDa B)), (2, some (oLo B)), (4, some (.cells [.nilp, .nils, .nilm, .nilm, .nilm, .nilm, .nilm])), (6, some (.cells (pbC B a1 a2 a3)))] ∧ s' = (Wn B, none)) rfl rfl (by decide) (by decide) (by decide) (by decide) (by decide) (by decide) ?_ ?_ rfl ?_ ?_ ?_ (by simp) ?_ ?_ ?_ ?_ ?_
  · exact ⟨⟨by decide, rfl, ren_ro _ _ _⟩, ⟨by decide, rfl, ren_ro _ _ _⟩, ⟨by decide, rfl, ren_ro _ _ _⟩, ⟨by decide, rfl, rfl⟩, ⟨by decide, rfl, pbc_ren h1 h2 h3 rfl rfl rfl⟩, trivial⟩
  · intro x hx
    simp only [List.mem_cons, List.not_mem_nil, or_false] at hx
    rcases hx with rfl | rfl | rfl | rfl | rfl
    all_goals exact ⟨by omega, _, rfl, fun h => by first | rfl | (exfalso; omega)⟩
  · exact ⟨⟨rfl, rfl⟩, trivial⟩
  · exact ⟨⟨by decide, .inr ⟨rfl, by decide⟩, rfl⟩, ⟨by decide, .inr ⟨rfl, by decide⟩, rd_ren _ _ _⟩, ⟨by decide, .inr ⟨rfl, by decide⟩, rd_ren _ _ _⟩, ⟨by decide, .inr ⟨rfl, by decide⟩, rd_ren _ _ _⟩, ⟨by decide, .inr ⟨rfl, by decide⟩, rd_ren _ _ _⟩, ⟨by decide, .inr ⟨rfl, by decide⟩, rd_ren _ _ _⟩, ⟨by decide, .inr ⟨rfl, by decide⟩, pbc_ren h1 h2 h3 rfl rfl rfl⟩, ⟨by decide, .inr ⟨rfl, by decide⟩, ren_ro _ _ _⟩, ⟨by decide, .inr ⟨rfl, by decide⟩, ren_ro _ _ _⟩, ⟨by decide, .inr ⟨rfl, by decide⟩, ren_ro _ _ _⟩, ⟨by decide, .inl ⟨rfl, rfl⟩, rfl⟩, trivial⟩
  · intro y hy
    simp only [List.mem_cons, List.not_mem_nil, or_false] at hy
    rcases hy with rfl | rfl | rfl | rfl | rfl | rfl | rfl | rfl | rfl | rfl | rfl
    · exact .inr (.inl ⟨by omega, by omega, by decide, _, rfl, rfl⟩)
    · exact .inr (.inl ⟨by omega, by omega, by decide, _, rfl, rfl⟩)
    · exact .inr (.inl ⟨by omega, by omega, by decide, _, rfl, rfl⟩)
    · exact .inr (.inl ⟨by omega, by omega, by decide, _, rfl, rfl⟩)
    · exact .inr (.inl ⟨by omega, by omega, by decide, _, rfl, rfl⟩)
    · exact .inr (.inl ⟨by omega, by omega, by decide, _, rfl, rfl⟩)
    · exact .inr (.inr ⟨by omega, by omega, _, rfl⟩)
    · exact .inr (.inr ⟨by omega, by omega, _, rfl⟩)
    · exact .inr (.inr ⟨by omega, by omega, _, rfl⟩)
    · exact .inr (.inr ⟨by omega, by omega, _, rfl⟩)
    · exact .inl rfl
  · intro s y o h
    have := lookM_mem h
    cases s <;> simp [lnM, lsM] at this <;> omega
  · refine ⟨fun s args ⟨⟨t, h⟩, _⟩ => ⟨trV t, h, fun _ => rfl⟩, fun s v ⟨⟨t, h⟩, hr⟩ => ?_⟩
    cases h
    repeat' (first | refine RT.nil ?_ | refine Tr.region ?_ | (refine RT.goK rfl rfl rfl rfl ?_; apply Nx.of; (first | exact S.alloc rfl)) | (refine RT.goK0 rfl rfl rfl ?_; apply Nx.of; (first | exact S.store rfl rfl rfl rfl rfl rfl)))
    refine ⟨rfl, _, _, _, rfl, rfl, ?_⟩
    cases s with
    | nil =>
      repeat' (first | refine RT.nil ?_ | refine Tr.region ?_ | refine Tr.block ?_ | refine blk_n ?_ | (refine RT.call rfl rfl rfl (add_rd h1 h2 h3 _ (by unfold lnRoom at hr; omega) (norm t) e (by decide) rfl rfl rfl rfl rfl rfl rfl rfl rfl rfl (fun hne => by first | exact absurd rfl hne) rfl rfl _ (by decide)) rfl rfl (by decide) ?_) | (refine RT.goK rfl rfl rfl rfl ?_; apply Nx.of; (first | exact S.loadNc rfl rfl rfl rfl)))
      refine ⟨rfl, Wk.by (fun y => if y = 15 then 19 else if y < 15 then y else 20 + y) (by decide) (by decide) (by decide) trivial ⟨congrArg some (lpO_ren (l := [(7, .ptr 7 0)]) ⟨rfl, trivial⟩ rfl).symm, rfl, congrArg some (rd_ren _ _ _).symm, congrArg some (rd_ren _ _ _).symm, congrArg some (rd_ren _ _ _).symm, congrArg some (rd_ren _ _ _).symm, congrArg some (rd_ren _ _ _).symm, congrArg some (pbc_ren h1 h2 h3 rfl rfl rfl).symm, congrArg some (ren_ro _ _ _).symm, congrArg some (ren_ro _ _ _).symm, congrArg some (ren_ro _ _ _).symm, rfl, congrArg some (ren_grown _ _ _ _).symm, trivial⟩ rfl (fun x hx y hy hxy e => ?_) (fun x hx => ?_) (fun x hx => ?_) (fun x hx => ?_)⟩
      · have hx' : x = 14 ∨ x = 7 ∨ x = 8 ∨ x = 9 ∨ x = 10 ∨ x = 11 ∨ x = 12 ∨ x = 6 ∨ x = 0 ∨ x = 1 ∨ x = 2 ∨ x = 13 ∨ x = 15 := by simpa [lnM, lnS, lsM] using hx
        have hy' : y = 14 ∨ y = 7 ∨ y = 8 ∨ y = 9 ∨ y = 10 ∨ y = 11 ∨ y = 12 ∨ y = 6 ∨ y = 0 ∨ y = 1 ∨ y = 2 ∨ y = 13 ∨ y = 15 := by simpa [lnM, lnS, lsM] using hy
        (repeat' split at e) <;> omega
      all_goals ((repeat' split) <;> omega)
    | cons t0 ts =>
      repeat' (first | refine RT.nil ?_ | refine Tr.region ?_ | refine Tr.block ?_ | refine blk_n ?_ | (refine RT.call rfl rfl rfl (add_rd h1 h2 h3 _ (by unfold lnRoom at hr; omega) (norm t) e (by decide) rfl rfl rfl rfl rfl rfl rfl rfl rfl rfl (fun hne => by first | rfl) rfl rfl _ (by decide)) rfl rfl (by decide) ?_) | (refine RT.goK rfl rfl rfl rfl ?_; apply Nx.of; (first | exact S.loadNc rfl rfl rfl rfl)))
      refine ⟨rfl, Wk.by (fun y => if y = 15 then 19 else if y < 15 then y else 20 + y) (by decide) (by decide) (by decide) trivial ⟨congrArg some (lpO_ren (l := [(7, .ptr 7 0)]) ⟨rfl, trivial⟩ rfl).symm, rfl, congrArg some (rd_ren _ _ _).symm, congrArg some (rd_ren _ _ _).symm, congrArg some (rd_ren _ _ _).symm, congrArg some (rd_ren _ _ _).symm, congrArg some (rd_ren _ _ _).symm, congrArg some (pbc_ren h1 h2 h3 rfl rfl rfl).symm, congrArg some (ren_ro _ _ _).symm, congrArg some (ren_ro _ _ _).symm, congrArg some (ren_ro _ _ _).symm, rfl, congrArg some (ren_grown _ _ _ _).symm, trivial⟩ rfl (fun x hx y hy hxy e => ?_) (fun x hx => ?_) (fun x hx => ?_) (fun x hx => ?_)⟩
      · have hx' : x = 14 ∨ x = 7 ∨ x = 8 ∨ x = 9 ∨ x = 10 ∨ x = 11 ∨ x = 12 ∨ x = 6 ∨ x = 0 ∨ x = 1 ∨ x = 2 ∨ x = 13 ∨ x = 15 := by simpa [lnM, lnS, lsM] using hx
        have hy' : y = 14 ∨ y = 7 ∨ y = 8 ∨ y = 9 ∨ y = 10 ∨ y = 11 ∨ y = 12 ∨ y = 6 ∨ y = 0 ∨ y = 1 ∨ y = 2 ∨ y = 13 ∨ y = 15 := by simpa [lnM, lnS, lsM] using hy
        (repeat' split at e) <;> omega
      all_goals ((repeat' split) <;> omega)
  · intro ρ0 lb h hY
    refine OkJ.mono (truths_ok ⟨h1, h2, h3, rfl, rfl, rfl, rfl, by decide, by decide⟩ rfl hB hY (fun k s t hl => ⟨hl.1, ⟨t, rfl⟩, ?_⟩) ?_ 7) ?_
    · have := hl.2
      unfold lnRoom at this ⊢
      omega
    · refine ⟨rfl, ?_⟩
      have := allT_len hB.2.1
      show 0 + _ ≤ 20000
      omega
    rintro v m' s' ⟨⟨hv, hs⟩, hm⟩
    subst hm
    exact ⟨rfl, by rw [hs, foldC_rnd, foldS_ln]; rfl⟩
  · rintro v m' s' ⟨rfl, _⟩
    rfl
  · rintro v m' s' j ⟨rfl, hs⟩
    cases hs
    cases hq : Wn B with
    | nil =>
      have hs0 : IsSl .nils 0 15 := .nils _
      show blk _ _ _ _
      repeat' (first | refine RT.nil ?_ | refine sq_n ?_ | refine Tr.seq ?_ | refine Tr.region ?_ | refine Tr.cond_t rfl ?_ | refine Tr.ret ?_ | refine sq_r ?_ | refine blk_n ?_ | (refine RT.goK rfl rfl rfl rfl ?_; apply Nx.of; (first | exact S.assign | exact S.load1c rfl rfl rfl rfl | exact S.fieldAddr rfl rfl rfl | exact S.eql | exact S.build rfl rfl rfl)) | (refine RT.goK0 rfl rfl rfl ?_; apply Nx.of; (first | exact S.store rfl rfl rfl rfl rfl rfl)) | (refine RT.goK rfl rfl rfl rfl ?_; apply Nx.of; (first | exact S.len_sl rfl rfl rfl (by assumption))))
      · refine rt_goD rfl rfl rfl ?_
        exact .inl ⟨rfl, rfl⟩
    | cons t ts =>
      have hs0 : IsSl (.gs 15 (ts.length + 1)) (ts.length + 1) 15 := .gs _ _
      show blk _ _ _ _
      repeat' (first | refine RT.nil ?_ | refine sq_n ?_ | refine Tr.seq ?_ | refine Tr.region ?_ | refine Tr.cond_f rfl ?_ | refine Tr.skip ?_ | refine Tr.ret ?_ | refine blk_n ?_ | (refine RT.goK rfl rfl rfl rfl ?_; apply Nx.of; (first | exact S.assign | exact S.load1c rfl rfl rfl rfl | exact S.loadNc rfl rfl rfl rfl | exact S.fieldAddr rfl rfl rfl | exact S.eql)) | (refine RT.goK0 rfl rfl rfl ?_; apply Nx.of; (first | exact S.store rfl rfl rfl rfl rfl rfl)) | (refine RT.goK rfl rfl rfl rfl ?_; apply Nx.of; (first | exact S.len_sl rfl rfl rfl (by assumption))))
      · refine rt_goD rfl rfl rfl ?_
        exact .inr ⟨rfl, by simp, rfl, getM rfl, getM rfl, getM rfl, getM rfl, getM rfl, getM rfl, getM rfl⟩
  all_goals (exfalso; omega)
theorem learn_at {B : RBook} {a1 a2 a3 : AV} {m : List (Nat × Option AObj)} {c : Nat} (h : BkIn B a1 a2 a3 m c) (hm : ∀ x o, lookM m x = some o → x < c) (hn : B.nd ≤ 9223372036854775807) (hB : bkOk B) (e : B.nd = 5) (hW : Wn B ≠ []) (fl : Nat) : OkAt 0 Try.prog fl 40 [bk B a1 a2 a3, .bool true] (ofM m) c
    (.tup [.agg (.ptr (c + 3) 0 :: .gs (c + 12) (Wn B).length :: mpsV 5 (c + 5)), .int .i64 0]) (ofM ((c + 3, some (.cells (pbC B a1 a2 a3))) :: (c + 12, some (oWn (Wn B))) :: (m ++ rdsM (Wn B) (c + 5) 5))) (c + 13) := by
  let τ : Nat → Nat := fun y => if y < 3 then y else c + (y - 3)
  have hc := h.hc
  have t0 : τ 0 = 0 := rfl
  have t1 : τ 1 = 1 := rfl
  have t2 : τ 2 = 2 := rfl
  have low : ∀ {u : Nat} {ob : AObj}, lookM [(0, some (oLa B)), (1, some (oDa B)), (2, some (oLo B))] u = some ob → u = 0 ∨ u = 1 ∨ u = 2 := fun {u ob} hz => by
    have := lookM_mem hz
    simpa using this
  have ha : AV.rens τ [bk B a1 a2 a3, .bool true] = [bk B a1 a2 a3, .bool true] := by simp only [bk, AV.ren, AV.rens, h.h1.ren t0, h.h2.ren t1, h.h3.ren t2]
  rw [← ha]
  refine CanS.inst (learn_yes B a1 a2 a3 h.h1 h.h2 h.h3 hn hB e) (Nat.zero_le _) (Nat.le_refl _) τ (fun g hg => by omega) (fun y hy => by simp only [τ]; split <;> omega) (fun y hy => by simp only [τ]; split <;> omega) (fun y o hy => ?_) (fun x y o o' hx hy hxy => ?_) (fun y hy hy' => by omega) (fun v1 H1 c1 hq _ => ?_)
  · rcases low hy with rfl | rfl | rfl
    · cases hy; rw [t0, ren_ro]; exact getM h.m1
    · cases hy; rw [t1, ren_ro]; exact getM h.m2
    · cases hy; rw [t2, ren_ro]; exact getM h.m3
  · refine .inl ?_
    rcases low hx with rfl | rfl | rfl <;> rcases low hy with rfl | rfl | rfl <;> simp only [t0, t1, t2] <;> omega
  · rcases hq with ⟨hq, _⟩ | ⟨rfl, _, rfl, p6, p8, p9, p10, p11, p12, pl⟩
    · exact absurd hq hW
    refine ⟨rfl, by omega, fun x o hx => ?_⟩
    rw [ofM_get] at hx
    replace hx : lookM ((c + 3, some (.cells (pbC B a1 a2 a3))) :: (c + 12, some (oWn (Wn B))) :: (m ++ [(c + 9, some (rdO 4 (Wn B))), (c + 8, some (rdO 3 (Wn B))), (c + 7, some (rdO 2 (Wn B))), (c + 6, some (rdO 1 (Wn B))), (c + 5, some (rdO 0 (Wn B)))])) x = some o := hx
    by_cases e6 : x = c + 3
    · subst e6
      rw [lookM_hd] at hx
      cases hx
      exact .inr ⟨6, _, by omega, p6, rfl, by simp only [pbC, AObj.ren, AV.ren, AV.rens, h.h1.ren t0, h.h2.ren t1, h.h3.ren t2]⟩
    rw [lookM_tl e6] at hx
    by_cases e15 : x = c + 12
    · subst e15
      rw [lookM_hd] at hx
      cases hx
      exact .inr ⟨15, _, by omega, pl, rfl, (ren_grown _ _ _ _).symm⟩
    rw [lookM_tl e15] at hx
    rcases lookM_app hx with hx | hx
    · exact .inl ⟨hm x o hx, fun y hy hy' => by omega, getM hx⟩
    by_cases e12 : x = c + 9
    · subst e12
      rw [lookM_hd] at hx
      cases hx
      exact .inr ⟨12, _, by omega, p12, rfl, (rd_ren _ _ _).symm⟩
    rw [lookM_tl e12] at hx
    by_cases e11 : x = c + 8
    · subst e11
      rw [lookM_hd] at hx
      cases hx
      exact .inr ⟨11, _, by omega, p11, rfl, (rd_ren _ _ _).symm⟩
    rw [lookM_tl e11] at hx
    by_cases e10 : x = c + 7
    · subst e10
      rw [lookM_hd] at hx
      cases hx
      exact .inr ⟨10, _, by omega, p10, rfl, (rd_ren _ _ _).symm⟩
    rw [lookM_tl e10] at hx
    by_cases e9 : x = c + 6
    · subst e9
      rw [lookM_hd] at hx
      cases hx
      exact .inr ⟨9, _, by omega, p9, rfl, (rd_ren _ _ _).symm⟩
    rw [lookM_tl e9] at hx
    by_cases e8 : x = c + 5
    · subst e8
      rw [lookM_hd] at hx
      cases hx
      exact .inr ⟨8, _, by omega, p8, rfl, (rd_ren _ _ _).symm⟩
    rw [lookM_tl e8] at hx
    cases hx
end Days5
end Go.Proofs.Ytjnckbefajfgbaa

/- Package roll: what is known of a book, as its callers see it. -/
namespace Go.Proofs.Ytjnckbefajfgbaa
open Go Go.Ev

/-- What learn returns where a book can be true, and what it leaves behind. -/
noncomputable abbrev knV (B : RBook) (c : Nat) : AV := .agg (.ptr (c + 3) 0 :: .gs (c + 12) (Wn B).length :: mpsV B.nd (c + 5))
noncomputable def knM (B : RBook) (a1 a2 a3 : AV) (c : Nat) (m : List (Nat × Option AObj)) : List (Nat × Option AObj) := (c + 3, some (.cells (pbC B a1 a2 a3))) :: (c + 12, some (oWn (Wn B))) :: (m ++ rdsM (Wn B) (c + 5) B.nd)
abbrev knZ : AV := .agg [.nilp, .nils, .nilm, .nilm, .nilm, .nilm, .nilm]
theorem learn_at {B : RBook} {a1 a2 a3 : AV} {m : List (Nat × Option AObj)} {c : Nat} (h : BkIn B a1 a2 a3 m c) (hm : ∀ x o, lookM m x = some o → x < c) (hn : B.nd ≤ 9223372036854775807) (hB : bkOk B) (hW : Wn B ≠ []) (fl : Nat) : OkAt 0 Try.prog fl 40 [bk B a1 a2 a3, .bool true] (ofM m) c
    (.tup [knV B c, .int .i64 0]) (ofM (knM B a1 a2 a3 c m)) (c + 13) := by
  have hnd := hB.2.1.1
  unfold knM knV
  rcases (by omega : B.nd = 1 ∨ B.nd = 2 ∨ B.nd = 3 ∨ B.nd = 4 ∨ B.nd = 5) with e | e | e | e | e
  · rw [e]; exact Days1.learn_at h hm hn hB e hW fl
  · rw [e]; exact Days2.learn_at h hm hn hB e hW fl
  · rw [e]; exact Days3.learn_at h hm hn hB e hW fl
  · rw [e]; exact Days4.learn_at h hm hn hB e hW fl
  · rw [e]; exact Days5.learn_at h hm hn hB e hW fl
theorem learn_false {B : RBook} {a1 a2 a3 : AV} {m : List (Nat × Option AObj)} {c : Nat} (h : BkIn B a1 a2 a3 m c) (hn : B.nd ≤ 9223372036854775807) (hB : bkOk B) (hW : Wn B = []) (fl : Nat) : OkAt 0 Try.prog fl 40 [bk B a1 a2 a3, .bool true] (ofM m) c (.tup [knZ, .int .i64 72]) (ofM m) c := by
  have hnd := hB.2.1.1
  have key : CanS 0 Try.prog 40 3 [bk B a1 a2 a3, .bool true] [(0, some (oLa B)), (1, some (oDa B)), (2, some (oLo B))] 3 fun v _ _ => v = .tup [knZ, .int .i64 72] := by
    rcases (by omega : B.nd = 1 ∨ B.nd = 2 ∨ B.nd = 3 ∨ B.nd = 4 ∨ B.nd = 5) with e | e | e | e | e
    · exact (Days1.learn_yes B a1 a2 a3 h.h1 h.h2 h.h3 hn hB e).mono fun v H1 c1 hq => hq.elim (fun q => q.2) fun q => absurd hW q.2.1
    · exact (Days2.learn_yes B a1 a2 a3 h.h1 h.h2 h.h3 hn hB e).mono fun v H1 c1 hq => hq.elim (fun q => q.2) fun q => absurd hW q.2.1
    · exact (Days3.learn_yes B a1 a2 a3 h.h1 h.h2 h.h3 hn hB e).mono fun v H1 c1 hq => hq.elim (fun q => q.2) fun q => absurd hW q.2.1
    · exact (Days4.learn_yes B a1 a2 a3 h.h1 h.h2 h.h3 hn hB e).mono fun v H1 c1 hq => hq.elim (fun q => q.2) fun q => absurd hW q.2.1
    · exact (Days5.learn_yes B a1 a2 a3 h.h1 h.h2 h.h3 hn hB e).mono fun v H1 c1 hq => hq.elim (fun q => q.2) fun q => absurd hW q.2.1
  exact key.pure (fun _ => rfl) (h.entry _ fun _ => rfl) fl
theorem learn_no_at {B : RBook} {a1 a2 a3 : AV} {m : List (Nat × Option AObj)} {c : Nat} (h : BkIn B a1 a2 a3 m c) (hn : B.nd ≤ 9223372036854775807) (hB : ¬ bkOk B) (q : Bool) (fl : Nat) : OkAt 0 Try.prog fl 40 [bk B a1 a2 a3, .bool q] (ofM m) c (.tup [knZ, .int .i64 70]) (ofM m) c :=
  (learn_no B a1 a2 a3 h.h1 h.h2 h.h3 hn hB q).pure (fun _ => rfl) (h.entry _ fun _ => rfl) fl
theorem learn_ask_at {B : RBook} {a1 a2 a3 : AV} {m : List (Nat × Option AObj)} {c : Nat} (h : BkIn B a1 a2 a3 m c) (hn : B.nd ≤ 9223372036854775807) (hB : bkOk B) (fl : Nat) : OkAt 0 Try.prog fl 40 [bk B a1 a2 a3, .bool false] (ofM m) c (.tup [knZ, .int .i64 71]) (ofM m) c :=
  (learn_ask B a1 a2 a3 h.h1 h.h2 h.h3 hn hB).pure (fun _ => rfl) (h.entry _ fun _ => rfl) fl
end Go.Proofs.Ytjnckbefajfgbaa

/- Package roll: span. -/
namespace Go.Proofs.Ytjnckbefajfgbaa
open Go Go.Ev

theorem mp_one (nd x i : Nat) : (mpV nd x i).one = true := by unfold mpV; split <;> rfl
theorem mp_ren (nd : Nat) {x y i : Nat} {σ : Nat → Nat} (h : σ (x + i) = y + i) : (mpV nd x i).ren σ = mpV nd y i := by
  unfold mpV
  split
  · show AV.map _ = _; rw [h]
  · rfl
theorem kn_one (n x g nd y : Nat) : ((AV.agg (.ptr x 0 :: .gs g n :: mpsV nd y)).cells.all AV.one) = true := by
  simp only [AV.cells, List.all_cons, List.all_nil, mp_one]
  rfl
theorem kn_ren {n nd : Nat} (σ : Nat → Nat) (h : ∀ y, y < 8 → σ y = y) : (AObj.cells (.ptr 2 0 :: .gs 0 n :: mpsV nd 3)).ren σ = .cells (.ptr 2 0 :: .gs 0 n :: mpsV nd 3) := by
  simp only [AObj.ren, AV.rens, AV.ren, h 2 (by omega), h 0 (by omega), mp_ren nd (x := 3) (y := 3) (i := 0) (h 3 (by omega)), mp_ren nd (x := 3) (y := 3) (i := 1) (h 4 (by omega)), mp_ren nd (x := 3) (y := 3) (i := 2) (h 5 (by omega)), mp_ren nd (x := 3) (y := 3) (i := 3) (h 6 (by omega)), mp_ren nd (x := 3) (y := 3) (i := 4) (h 7 (by omega))]

/-- A function's call that answers with a number of a truth. -/
def NumOK (W : List Tru) (f : Nat) (x0 : AV) (num : Tru → Int) : Prop := ∀ t ∈ W, ∀ m c, 2 ≤ c → lookM m 1 = some (.cells [x0]) → ∀ fl, OkAt 0 Try.prog fl f [trV t, .ptr 1 0] (ofM m) c (.int .i64 (num t)) (ofM m) c

set_option maxRecDepth 100000 in
set_option maxHeartbeats 4000000 in
theorem span_can (W : List Tru) (nd : Nat) (hW : W ≠ []) (hlen : W.length ≤ 20000) (f : Nat) (x0 : AV) (hx : ∀ σ : Nat → Nat, σ 0 = 0 → AV.rens σ [x0] = [x0]) (hr : rfVs [x0] = true)
    (num : Tru → Int) (hnum : NumOK W f x0 num) : CanS 0 Try.prog 41 8 [.agg (.ptr 2 0 :: .gs 0 W.length :: mpsV nd 3), .fn f [] [.ptr 1 0]] [(0, some (oWn W)), (1, some (.cells [x0]))] 8 fun v _ _ => v = .agg [.int .i64 (spL num W), .int .i64 (spH num W)] := by
  have hpos : 0 < W.length := List.length_pos_iff.2 hW
  obtain ⟨t0, ht0, hm0⟩ := at_some hpos
  have htk := ht0
  have hs := IsSl.gs 0 W.length
  refine CanS.mk Try.func41 rfl rfl rfl ?_
  repeat' (first | refine RT.nil ?_ | refine sq_n ?_ | refine Tr.seq ?_ | refine Tr.region ?_ | refine Tr.block ?_ | (refine RT.call rfl rfl rfl (hnum t0 hm0 _ _ (by decide) rfl _) rfl rfl (Nat.le_refl _) ?_) | (refine RT.goK rfl rfl rfl rfl ?_; apply Nx.of; (first | exact S.move | exact S.assign | exact S.load1c rfl rfl rfl rfl | exact S.fieldAddr rfl rfl rfl | exact S.box | exact S.alloc rfl | exact S.build rfl rfl rfl | exact S.rowG rfl rfl rfl (fun _ => rfl) ht0 rfl rfl)) | (refine RT.goK0 rfl rfl rfl ?_; apply Nx.of; (first | exact S.store rfl rfl rfl rfl rfl rfl)) | (refine RT.goK rfl rfl rfl rfl ?_; apply Nx.of; (first | exact S.idx_sl rfl rfl rfl (by assumption) (by omega) | exact S.len_sl rfl rfl rfl (by assumption))))
  refine Tr.loop (fun k : Nat => stL Try.f41.ntmps [] [(1, .fn f [] [.ptr 1 0]), (2, .ptr 8 0), (4, .ptr 9 0), (6, .ptr 10 0), (20, .gs 0 W.length), (21, .int .i64 W.length), (22, .int .i64 k)] ([(10, some (.cells [.int .i64 (loK num W (num t0) k), .int .i64 (hiK num W (num t0) k)])), (9, some (.cells [.int .i64 0, .int .i64 0])), (8, some (.cells (.ptr 2 0 :: .gs 0 W.length :: mpsV nd 3)))] ++ [(0, some (oWn W)), (1, some (.cells [x0]))]) 11) (fun k => k ≤ W.length) (fun k => W.length - k) 0 (Nat.zero_le _) (by (refine Wk.same (by decide) (by decide) (by decide) (by decide) ?_ ?_ rfl; all_goals ((try simp only [allL, allM]); (repeat' (first | exact trivial | refine And.intro ?_ ?_)); all_goals (first | rfl | exact ren_grown _ _ _ _ | exact congrArg AObj.cells (hx _ (nm_lt (by decide))) | exact kn_ren _ (fun y hy => nm_lt (by omega)) | decide)))) (fun k hk => ?_)
  by_cases hlt : k < W.length
  · obtain ⟨tk, htk, hmk⟩ := at_some hlt
    have e1 := loK_succ (f := num) (a := num t0) htk
    have e2 := hiK_succ (f := num) (a := num t0) htk
    have hlt' : (k : Int) < W.length := by omega
    repeat' (first | refine RT.nil ?_ | refine sq_n ?_ | refine Tr.seq ?_ | refine Tr.region ?_ | refine Tr.cond_t rfl ?_ | refine Tr.skip ?_ | refine Tr.block ?_ | refine blk_n ?_ | (refine RT.call rfl rfl rfl (hnum tk hmk _ _ (by decide) rfl _) rfl rfl (Nat.le_refl _) ?_) | (refine RT.goK rfl rfl rfl rfl ?_; (refine Nx.of (S.lss_t hlt') ?_)) | (refine RT.goK rfl rfl rfl rfl ?_; apply Nx.of; (first | exact S.move | exact S.assign | exact S.load1c rfl rfl rfl rfl | exact S.loadNc rfl rfl rfl rfl | exact S.fieldAddr rfl rfl rfl | exact S.alloc rfl | exact S.add_one (by omega) | exact S.min2 | exact S.max2 | exact S.build rfl rfl rfl | exact S.rowG rfl rfl rfl (fun _ => rfl) htk rfl rfl)) | (refine RT.goK0 rfl rfl rfl ?_; apply Nx.of; (first | exact S.store rfl rfl rfl rfl rfl rfl)) | (refine RT.goK rfl rfl rfl rfl ?_; apply Nx.of; (first | exact S.idx_sl rfl rfl rfl (by assumption) (by omega))))
    refine lp_n (k + 1) hlt (by omega) (by (refine Wk.same (by decide) (by decide) (by decide) (by decide) ?_ ?_ rfl; all_goals ((try simp only [allL, allM]); (repeat' (first | exact trivial | refine And.intro ?_ ?_)); all_goals (first | rfl | exact ren_grown _ _ _ _ | (rw [← e1, ← e2]; rfl) | exact congrArg AObj.cells (hx _ (nm_lt (by decide))) | exact kn_ren _ (fun y hy => nm_lt (by omega)) | decide))))
  · have hlt' : ¬ (k : Int) < W.length := by omega
    have hke : k = W.length := by omega
    have e3 := loK_end (f := num) ht0
    have e4 := hiK_end (f := num) ht0
    rw [← hke] at e3 e4
    repeat' (first | refine RT.nil ?_ | refine sq_n ?_ | refine Tr.seq ?_ | refine Tr.region ?_ | refine Tr.cond_f rfl ?_ | refine Tr.ret ?_ | refine Tr.exit ?_ | refine sq_x ?_ | refine blk_hit rfl ?_ | refine lp_x ?_ | (refine RT.goK rfl rfl rfl rfl ?_; (refine Nx.of (S.lss_f hlt') ?_)) | (refine RT.goK rfl rfl rfl rfl ?_; apply Nx.of; (first | exact S.loadNc rfl rfl rfl rfl)) | (refine RT.goK0 rfl rfl rfl ?_; apply Nx.of; (first | exact S.store rfl rfl rfl rfl rfl rfl)))
    (first | refine rt_go rfl ?_)
    rw [← e3, ← e4]
    rfl
end Go.Proofs.Ytjnckbefajfgbaa

/- Package roll: span at any memory; Bound, Wagons. -/
namespace Go.Proofs.Ytjnckbefajfgbaa
open Go Go.Ev

theorem span_at {W : List Tru} {nd : Nat} {x z p q : Nat} {d : Int} {m : List (Nat × Option AObj)} {c : Nat} (mx : lookM m x = some (oWn W)) (mz : lookM m z = some (.cells [.int .i64 d])) (hW : W ≠ []) (hlen : W.length ≤ 20000) (f : Nat) (num : Tru → Int) (hnum : NumOK W f (.int .i64 d) num) (fl : Nat) :
    OkAt 0 Try.prog fl 41 [.agg (.ptr p 0 :: .gs x W.length :: mpsV nd q), .fn f [] [.ptr z 0]] (ofM m) c (.agg [.int .i64 (spL num W), .int .i64 (spH num W)]) (ofM m) c := by
  let τ : Nat → Nat := tau [x, z, p, q, q + 1, q + 2, q + 3, q + 4] c
  have ha : AV.rens τ [.agg (.ptr 2 0 :: .gs 0 W.length :: mpsV nd 3), .fn f [] [.ptr 1 0]] = [.agg (.ptr p 0 :: .gs x W.length :: mpsV nd q), .fn f [] [.ptr z 0]] := by
    have e0 : τ (3 + 0) = q + 0 := rfl
    have e1 : τ (3 + 1) = q + 1 := rfl
    have e2 : τ (3 + 2) = q + 2 := rfl
    have e3 : τ (3 + 3) = q + 3 := rfl
    have e4 : τ (3 + 4) = q + 4 := rfl
    simp only [AV.ren, AV.rens, mp_ren nd e0, mp_ren nd e1, mp_ren nd e2, mp_ren nd e3, mp_ren nd e4]
    rfl
  have low : ∀ {u : Nat} {ob : AObj}, lookM [(0, some (oWn W)), (1, some (.cells [.int .i64 d]))] u = some ob → u = 0 ∨ u = 1 := fun {u ob} hz => by
    have := lookM_mem hz
    simpa using this
  have hxz : x ≠ z := fun e => by rw [e, mz] at mx; cases mx
  refine (span_can W nd hW hlen f (.int .i64 d) (fun σ _ => rfl) rfl num hnum).pure (fun _ => rfl) ?_ fl
  rw [← ha]
  refine Entry.ren τ (fun g hg => by omega) (fun y hy => by show c ≤ tau _ _ _; rw [tau_ge hy]; omega) ⟨getM (mx.trans (congrArg some (ren_grown _ _ _ _).symm)), getM mz, trivial⟩ (fun u u' o o' hu hu' hne => .inl fun e => ?_)
  rcases low hu with rfl | rfl <;> rcases low hu' with rfl | rfl
  · exact hne rfl
  · exact hxz e
  · exact hxz e.symm
  · exact hne rfl

/-- An answer as a span: whether the book is wrong, the question, the book false. -/
noncomputable def spV (B : RBook) (Q : Prop) (num : Tru → Int) : AV :=
  if dB (bkOk B) = false then .tup [.agg [.int .i64 0, .int .i64 0], .int .i64 70] else if dB Q = false then .tup [.agg [.int .i64 0, .int .i64 0], .int .i64 71] else if dB (Wn B = []) then .tup [.agg [.int .i64 0, .int .i64 0], .int .i64 72] else .tup [.agg [.int .i64 (spL num (Wn B)), .int .i64 (spH num (Wn B))], .int .i64 0]
theorem spV_no {B : RBook} {Q : Prop} {num : Tru → Int} (h : ¬ bkOk B) : spV B Q num = .tup [.agg [.int .i64 0, .int .i64 0], .int .i64 70] := by unfold spV; rw [dB_ff h, if_pos rfl]
theorem spV_ask {B : RBook} {Q : Prop} {num : Tru → Int} (h : bkOk B) (hq : ¬ Q) : spV B Q num = .tup [.agg [.int .i64 0, .int .i64 0], .int .i64 71] := by unfold spV; rw [dB_tt h, if_neg (by decide), dB_ff hq, if_pos rfl]
theorem spV_false {B : RBook} {Q : Prop} {num : Tru → Int} (h : bkOk B) (hq : Q) (hW : Wn B = []) : spV B Q num = .tup [.agg [.int .i64 0, .int .i64 0], .int .i64 72] := by unfold spV; rw [dB_tt h, if_neg (by decide), dB_tt hq, if_neg (by decide), dB_tt hW, if_pos rfl]
theorem spV_ok {B : RBook} {Q : Prop} {num : Tru → Int} (h : bkOk B) (hq : Q) (hW : Wn B ≠ []) : spV B Q num = .tup [.agg [.int .i64 (spL num (Wn B)), .int .i64 (spH num (Wn B))], .int .i64 0] := by unfold spV; rw [dB_tt h, if_neg (by decide), dB_tt hq, if_neg (by decide), dB_ff hW, if_neg (by decide)]
theorem spV_pl (B : RBook) (Q : Prop) (num : Tru → Int) : Pl (spV B Q num) := by unfold spV; (repeat' split) <;> exact fun _ => rfl
theorem Wn_len {B : RBook} (hB : bkOk B) : (Wn B).length ≤ 20000 := by
  have := allT_len hB.2.1
  unfold Wn
  rw [List.length_map]
  omega

set_option maxRecDepth 100000 in
set_option maxHeartbeats 4000000 in
theorem bound1_can (t : Tru) (d : Nat) (hd : d < 5) : CanS 0 Try.prog 68 2 [trV t, .ptr 1 0] [(1, some (.cells [.int .i64 (d : Int)]))] 2 fun v _ _ => v = .int .i64 (t.eb d) := by
  refine CanS.mk Try.func68 rfl rfl rfl ?_
  repeat' (first | refine RT.nil ?_ | refine sq_n ?_ | refine Tr.seq ?_ | refine Tr.region ?_ | refine Tr.ret ?_ | (refine RT.goK rfl rfl rfl rfl ?_; apply Nx.of; (first | exact S.idx_arr rfl rfl rfl hd | exact S.load1c rfl rfl rfl (truC_b hd))) | (refine RT.goK rfl rfl rfl rfl ?_; apply Nx.of; (first | exact S.assign | exact S.load1c rfl rfl rfl rfl | exact S.fieldAddr rfl rfl rfl | exact S.box)))
  (first | refine rt_go rfl ?_)
  rfl
theorem bound_num (W : List Tru) (d : Nat) (hd : d < 5) : NumOK W 68 (.int .i64 (d : Int)) (fun t => t.eb d) := fun t _ m c hc hm fl =>
  (bound1_can t d hd).pure (.int _ _) (Entry.nm hc (by omega) ⟨⟨hm, rfl, by omega⟩, trivial⟩ (by
    show [trV t, AV.ptr (nm 2 c 1) 0] = _
    rw [nm_lt (by omega)])) fl
theorem look_nil {x : Nat} {r : List (Nat × Option AObj)} (h : lookM r x = none) : ∀ {m : List (Nat × Option AObj)}, lookM (m ++ r) x = lookM m x
  | [] => h
  | (y, o) :: m => by
    rw [List.cons_append, lookM, lookM, look_nil h]
theorem gd_app {fl c c' : Nat} {m r : List (Nat × Option AObj)} (hc : c ≤ c') (hr : ∀ x, lookM r x ≠ none → c ≤ x ∧ x < c') : Go.Ev.Good fl c (ofM m) c' (ofM (m ++ r)) := by
  refine ⟨hc, fun x _ h2 => ?_, fun hd x hx => ?_⟩
  · rw [ofM_get, ofM_get]
    exact look_nil (Classical.byContradiction fun q => by have := (hr x q).1; omega)
  · rw [ofM_get] at hx
    by_cases q : lookM r x = none
    · rw [look_nil q] at hx
      have := hd x (by rw [ofM_get]; exact hx)
      omega
    · exact (hr x q).2
theorem rds_dom {ts : List Tru} {x y : Nat} : ∀ {n : Nat}, lookM (rdsM ts x n) y ≠ none → x ≤ y ∧ y < x + n
  | 0, h => absurd rfl h
  | n + 1, h => by
    by_cases e : y = x + n
    · omega
    · rw [rdsM, lookM_tl e] at h
      have := rds_dom h
      omega
theorem kn_good {B : RBook} (hB : bkOk B) (a1 a2 a3 : AV) (c : Nat) (m : List (Nat × Option AObj)) (fl : Nat) : Go.Ev.Good fl c (ofM m) (c + 13) (ofM (knM B a1 a2 a3 c m)) := by
  have hnd := hB.2.1.1
  exact ((gd_app (c' := c + 12) (by omega) fun x hx => by have := rds_dom hx; omega).cons (c2 := c + 13) (by omega) (by omega) (by omega)).cons (c2 := c + 13) (by omega) (by omega) (by omega)
/-- Whether there is such a day, in a region whose order is open. -/
noncomputable def dayF (B : RBook) (a1 a2 a3 : AV) (d : Int) (q : Bool) : CallFn := one1 67 [bk B a1 a2 a3, .int .i64 d] (.bool q) fun H c => ∃ m, H = ofM m ∧ BkIn B a1 a2 a3 m c
theorem dayF_calm {B : RBook} {a1 a2 a3 : AV} (hn : B.nd ≤ 9223372036854775807) {d : Int} {q : Bool} (h : dB (dyQ B d) = q) : CalmC 0 Try.prog (dayF B a1 a2 a3 d q) :=
  one1_calm fun fl H c ⟨m, hm, hk⟩ => by subst hm; exact val_is (by rw [h]) (isDay_at hk hn fl d)
/-- learn, where it answers an error. -/
noncomputable def lnF (B : RBook) (a1 a2 a3 : AV) (q : Bool) (e : Int) : CallFn := one1 40 [bk B a1 a2 a3, .bool q] (.tup [knZ, .int .i64 e]) fun H c => ∃ m, H = ofM m ∧ BkIn B a1 a2 a3 m c
theorem lnF_no {B : RBook} {a1 a2 a3 : AV} (hn : B.nd ≤ 9223372036854775807) (hB : ¬ bkOk B) (q : Bool) : CalmC 0 Try.prog (lnF B a1 a2 a3 q 70) := one1_calm fun fl H c ⟨m, hm, hk⟩ => by subst hm; exact learn_no_at hk hn hB q fl
theorem lnF_ask {B : RBook} {a1 a2 a3 : AV} (hn : B.nd ≤ 9223372036854775807) (hB : bkOk B) : CalmC 0 Try.prog (lnF B a1 a2 a3 false 71) := one1_calm fun fl H c ⟨m, hm, hk⟩ => by subst hm; exact learn_ask_at hk hn hB fl
theorem lnF_false {B : RBook} {a1 a2 a3 : AV} (hn : B.nd ≤ 9223372036854775807) (hB : bkOk B) (hW : Wn B = []) : CalmC 0 Try.prog (lnF B a1 a2 a3 true 72) := one1_calm fun fl H c ⟨m, hm, hk⟩ => by subst hm; exact learn_false hk hn hB hW fl
theorem two_calm {f g : CallFn} (h : CalmC 0 Try.prog f) (k : CalmC 0 Try.prog g) : CalmC 0 Try.prog (alts [f, g]) := alts_calm fun x hx => by
  simp only [List.mem_cons, List.not_mem_nil, or_false] at hx
  rcases hx with rfl | rfl
  · exact h
  · exact k
set_option format.width 260
set_option maxRecDepth 100000 in
set_option maxHeartbeats 4000000 in
theorem Bound_can (B : RBook) (a1 a2 a3 : AV) (h1 : IsSl a1 B.nl 0) (h2 : IsSl a2 B.nd 1) (h3 : IsSl a3 B.nk 2) (hn : B.nd ≤ 9223372036854775807) (d : Int) : CanS 0 Try.prog 28 3 [bk B a1 a2 a3, .int .i64 d] [(0, some (oLa B)), (1, some (oDa B)), (2, some (oLo B))] 3 fun v _ _ => v = spV B (dyQ B d) (fun t => t.eb d.toNat) := by
  by_cases hB : bkOk B
  · by_cases hq : dyQ B d
    · by_cases hW : Wn B = []
      · rw [spV_false hB hq hW]
        refine CanS.mk Try.func28 rfl rfl rfl ?_
        repeat' (first | refine RT.nil ?_ | refine sq_n ?_ | refine Tr.seq ?_ | refine Tr.region ?_ | (refine RT.goK rfl rfl rfl rfl ?_; apply Nx.of; (first | exact S.assign | exact S.box | exact S.alloc rfl)))
        refine Tr.openK un28_1 (by kernel_rfl) (by kernel_rfl) (alts [dayF B a1 a2 a3 d true, lnF B a1 a2 a3 true 72]) (two_calm (dayF_calm hn (dB_tt hq)) (lnF_false hn hB hW)) ?_
        repeat' (first | (refine RD.callN rfl rfl rfl rfl rfl rfl rfl rfl rfl (fun fl' => alts_hd (one1_at ⟨_, rfl, ⟨h1, h2, h3, rfl, rfl, rfl, by decide⟩⟩ fl')) (fun _ => by refine srOk_all ?_; simp only [srOk]; (repeat' (first | exact trivial | refine And.intro ?_ ?_)); all_goals (first | (refine ⟨_, rfl, ?_⟩; (first | (simp [rfO, rfVs, rfV, bk, AV.cells, h1.rf, h2.rf, h3.rf]; done))))) ?_) | (refine RD.callN rfl rfl rfl rfl rfl rfl rfl rfl rfl (fun fl' => (alts_tl (famA_ne _ (by decide))).trans (alts_hd (one1_at ⟨_, rfl, ⟨h1, h2, h3, rfl, rfl, rfl, by decide⟩⟩ fl'))) (fun _ => by refine srOk_all ?_; simp only [srOk]; (repeat' (first | exact trivial | refine And.intro ?_ ?_)); all_goals (first | exact trivial | (refine ⟨_, rfl, ?_⟩; (first | rfl | (simp [rfO, rfVs, rfV, rfVs_flat]; done) | (simp [rfO, rfVs, rfV, bk, AV.cells, h1.rf, h2.rf, h3.rf]; done))))) ?_) | (refine RD.free rfl rfl rfl rfl rfl rfl ?_; apply Nx.of; (first | exact S.move | exact S.assign | exact S.extract rfl)) | (refine RD.new rfl rfl rfl rfl rfl rfl ?_; apply Nx.of; (first | exact S.alloc rfl)) | (refine RD.load rfl rfl rfl rfl rfl rfl rfl rfl ?_; apply Nx.of; (first | exact S.load1c rfl rfl rfl rfl | exact S.loadNc rfl rfl rfl rfl)) | (refine RD.store rfl rfl rfl rfl rfl rfl rfl ?_; apply Nx.of; (first | exact S.store rfl rfl rfl rfl rfl rfl)) | refine RD.nil ⟨Nat.le_of_ble_eq_true rfl, ?_⟩)
        repeat' (first | refine RT.nil ?_ | refine sq_n ?_ | refine Tr.seq ?_ | refine Tr.region ?_ | refine Tr.cond_t rfl ?_ | refine Tr.ret ?_ | refine sq_r ?_ | (refine RT.goK rfl rfl rfl rfl ?_; apply Nx.of; (first | exact S.move | exact S.assign | exact S.neq | exact S.build rfl rfl rfl)) | (refine RT.goK0 rfl rfl rfl ?_; apply Nx.of; (first | exact S.store rfl rfl rfl rfl rfl rfl)))
        (first | refine rt_go rfl ?_)
        rfl
      · rw [spV_ok hB hq hW]
        have hnd := hB.2.1.1.2
        have hd5 : d.toNat < 5 := by unfold dyQ at hq; omega
        obtain ⟨d', hd'⟩ := Int.eq_ofNat_of_zero_le hq.1
        subst hd'
        rw [Int.toNat_natCast] at hd5 ⊢
        refine CanS.mk Try.func28 rfl rfl rfl ?_
        repeat' (first | refine RT.nil ?_ | refine sq_n ?_ | refine Tr.seq ?_ | refine Tr.region ?_ | (refine RT.goK rfl rfl rfl rfl ?_; apply Nx.of; (first | exact S.assign | exact S.box | exact S.alloc rfl)))
        obtain ⟨d, hdd⟩ : ∃ d : Int, (d' : Int) = d := ⟨_, rfl⟩
        rw [hdd] at hq
        refine Tr.openK un28_1 (by kernel_rfl) (by kernel_rfl) (alts [dayF B a1 a2 a3 d' true, pinX 40 [bk B a1 a2 a3, .bool true] [(5, some (.cells [.int .i64 0, .int .i64 0])), (4, some (.cells [.int .i64 (d' : Int)])), (3, some (.cells (bk B a1 a2 a3).cells)), (0, some (oLa B)), (1, some (oDa B)), (2, some (oLo B))] 6 (.tup [knV B 6, .int .i64 0]) (knM B a1 a2 a3 6 [(5, some (.cells [.int .i64 0, .int .i64 0])), (4, some (.cells [.int .i64 (d' : Int)])), (3, some (.cells (bk B a1 a2 a3).cells)), (0, some (oLa B)), (1, some (oDa B)), (2, some (oLo B))]) 19]) (two_calm (dayF_calm hn (by rw [hdd]; exact dB_tt hq)) (pinX_calm (fun fl => learn_at ⟨h1, h2, h3, rfl, rfl, rfl, by decide⟩ (fun x o hx => by have := lookM_mem hx; simp at this; omega) hn hB hW fl) (fun fl => kn_good hB a1 a2 a3 6 _ fl))) ?_
        repeat' (first | (refine RD.callN rfl rfl rfl rfl rfl rfl rfl rfl rfl (fun fl' => alts_hd (one1_at ⟨_, rfl, ⟨h1, h2, h3, rfl, rfl, rfl, by decide⟩⟩ fl')) (fun _ => by refine srOk_all ?_; simp only [srOk]; (repeat' (first | exact trivial | refine And.intro ?_ ?_)); all_goals (first | (refine ⟨_, rfl, ?_⟩; (first | (simp [rfO, rfVs, rfV, bk, AV.cells, h1.rf, h2.rf, h3.rf]; done))))) ?_) | (refine RD.callX rfl rfl rfl rfl rfl rfl rfl rfl rfl (fun fl' => (alts_tl (famA_ne _ (by decide))).trans (alts_hd (pinX_at _ _ _ _ _ _ _ fl'))) (fun _ => by refine srOkX_all ?_; simp only [srOkX]; (repeat' (first | exact trivial | refine And.intro ?_ ?_)); all_goals (first | exact trivial | (refine ⟨_, rfl, rfl, ?_⟩; (first | rfl | (simp [rfO, rfVs, rfV, rfVs_flat]; done) | (simp [rfO, rfVs, rfV, bk, AV.cells, h1.rf, h2.rf, h3.rf]; done))))) ?_) | (refine RD.free rfl rfl rfl rfl rfl rfl ?_; apply Nx.of; (first | exact S.move | exact S.assign | exact S.extract rfl)) | (refine RD.new rfl rfl rfl rfl rfl rfl ?_; apply Nx.of; (first | exact S.alloc rfl)) | (refine RD.load rfl rfl rfl rfl rfl rfl rfl rfl ?_; apply Nx.of; (first | exact S.load1c rfl rfl rfl rfl | exact S.loadNc rfl rfl rfl rfl)) | (refine RD.store rfl rfl rfl rfl rfl rfl rfl ?_; apply Nx.of; (first | exact S.store rfl rfl (kn_one _ _ _ _ _) rfl rfl rfl)) | refine RD.nil ⟨Nat.le_of_ble_eq_true rfl, ?_⟩)
        repeat' (first | refine RT.nil ?_ | refine sq_n ?_ | refine Tr.seq ?_ | refine Tr.region ?_ | refine Tr.cond_f rfl ?_ | refine Tr.skip ?_ | refine Tr.ret ?_ | (refine RT.call rfl rfl rfl (span_at (x := 18) (z := 4) rfl rfl hW (Wn_len hB) _ _ (bound_num _ _ hd5) _) rfl rfl (Nat.le_refl _) ?_) | (refine RT.goK rfl rfl rfl rfl ?_; apply Nx.of; (first | exact S.move | exact S.assign | exact S.loadNc rfl rfl rfl rfl | exact S.neq | exact S.makeFunc)) | (refine RT.goK0 rfl rfl rfl ?_; apply Nx.of; (first | exact S.store rfl rfl rfl rfl rfl rfl)))
        (first | refine rt_go rfl ?_)
        rfl
    · rw [spV_ask hB hq]
      refine CanS.mk Try.func28 rfl rfl rfl ?_
      repeat' (first | refine RT.nil ?_ | refine sq_n ?_ | refine Tr.seq ?_ | refine Tr.region ?_ | (refine RT.goK rfl rfl rfl rfl ?_; apply Nx.of; (first | exact S.assign | exact S.box | exact S.alloc rfl)))
      refine Tr.openK un28_1 (by kernel_rfl) (by kernel_rfl) (alts [dayF B a1 a2 a3 d false, lnF B a1 a2 a3 false 71]) (two_calm (dayF_calm hn (dB_ff hq)) (lnF_ask hn hB)) ?_
      repeat' (first | (refine RD.callN rfl rfl rfl rfl rfl rfl rfl rfl rfl (fun fl' => alts_hd (one1_at ⟨_, rfl, ⟨h1, h2, h3, rfl, rfl, rfl, by decide⟩⟩ fl')) (fun _ => by refine srOk_all ?_; simp only [srOk]; (repeat' (first | exact trivial | refine And.intro ?_ ?_)); all_goals (first | (refine ⟨_, rfl, ?_⟩; (first | (simp [rfO, rfVs, rfV, bk, AV.cells, h1.rf, h2.rf, h3.rf]; done))))) ?_) | (refine RD.callN rfl rfl rfl rfl rfl rfl rfl rfl rfl (fun fl' => (alts_tl (famA_ne _ (by decide))).trans (alts_hd (one1_at ⟨_, rfl, ⟨h1, h2, h3, rfl, rfl, rfl, by decide⟩⟩ fl'))) (fun _ => by refine srOk_all ?_; simp only [srOk]; (repeat' (first | exact trivial | refine And.intro ?_ ?_)); all_goals (first | exact trivial | (refine ⟨_, rfl, ?_⟩; (first | rfl | (simp [rfO, rfVs, rfV, rfVs_flat]; done) | (simp [rfO, rfVs, rfV, bk, AV.cells, h1.rf, h2.rf, h3.rf]; done))))) ?_) | (refine RD.free rfl rfl rfl rfl rfl rfl ?_; apply Nx.of; (first | exact S.move | exact S.assign | exact S.extract rfl)) | (refine RD.new rfl rfl rfl rfl rfl rfl ?_; apply Nx.of; (first | exact S.alloc rfl)) | (refine RD.load rfl rfl rfl rfl rfl rfl rfl rfl ?_; apply Nx.of; (first | exact S.load1c rfl rfl rfl rfl | exact S.loadNc rfl rfl rfl rfl)) | (refine RD.store rfl rfl rfl rfl rfl rfl rfl ?_; apply Nx.of; (first | exact S.store rfl rfl rfl rfl rfl rfl)) | refine RD.nil ⟨Nat.le_of_ble_eq_true rfl, ?_⟩)
      repeat' (first | refine RT.nil ?_ | refine sq_n ?_ | refine Tr.seq ?_ | refine Tr.region ?_ | refine Tr.cond_t rfl ?_ | refine Tr.ret ?_ | refine sq_r ?_ | (refine RT.goK rfl rfl rfl rfl ?_; apply Nx.of; (first | exact S.move | exact S.assign | exact S.neq | exact S.build rfl rfl rfl)) | (refine RT.goK0 rfl rfl rfl ?_; apply Nx.of; (first | exact S.store rfl rfl rfl rfl rfl rfl)))
      (first | refine rt_go rfl ?_)
      rfl
  · rw [spV_no hB]
    refine CanS.mk Try.func28 rfl rfl rfl ?_
    repeat' (first | refine RT.nil ?_ | refine sq_n ?_ | refine Tr.seq ?_ | refine Tr.region ?_ | (refine RT.goK rfl rfl rfl rfl ?_; apply Nx.of; (first | exact S.assign | exact S.box | exact S.alloc rfl)))
    obtain ⟨q, hq⟩ : ∃ q, dB (dyQ B d) = q := ⟨_, rfl⟩
    refine Tr.openK un28_1 (by kernel_rfl) (by kernel_rfl) (alts [dayF B a1 a2 a3 d q, lnF B a1 a2 a3 q 70]) (two_calm (dayF_calm hn hq) (lnF_no hn hB q)) ?_
    repeat' (first | (refine RD.callN rfl rfl rfl rfl rfl rfl rfl rfl rfl (fun fl' => alts_hd (one1_at ⟨_, rfl, ⟨h1, h2, h3, rfl, rfl, rfl, by decide⟩⟩ fl')) (fun _ => by refine srOk_all ?_; simp only [srOk]; (repeat' (first | exact trivial | refine And.intro ?_ ?_)); all_goals (first | (refine ⟨_, rfl, ?_⟩; (first | (simp [rfO, rfVs, rfV, bk, AV.cells, h1.rf, h2.rf, h3.rf]; done))))) ?_) | (refine RD.callN rfl rfl rfl rfl rfl rfl rfl rfl rfl (fun fl' => (alts_tl (famA_ne _ (by decide))).trans (alts_hd (one1_at ⟨_, rfl, ⟨h1, h2, h3, rfl, rfl, rfl, by decide⟩⟩ fl'))) (fun _ => by refine srOk_all ?_; simp only [srOk]; (repeat' (first | exact trivial | refine And.intro ?_ ?_)); all_goals (first | exact trivial | (refine ⟨_, rfl, ?_⟩; (first | rfl | (simp [rfO, rfVs, rfV, rfVs_flat]; done) | (simp [rfO, rfVs, rfV, bk, AV.cells, h1.rf, h2.rf, h3.rf]; done))))) ?_) | (refine RD.free rfl rfl rfl rfl rfl rfl ?_; apply Nx.of; (first | exact S.move | exact S.assign | exact S.extract rfl)) | (refine RD.new rfl rfl rfl rfl rfl rfl ?_; apply Nx.of; (first | exact S.alloc rfl)) | (refine RD.load rfl rfl rfl rfl rfl rfl rfl rfl ?_; apply Nx.of; (first | exact S.load1c rfl rfl rfl rfl | exact S.loadNc rfl rfl rfl rfl)) | (refine RD.store rfl rfl rfl rfl rfl rfl rfl ?_; apply Nx.of; (first | exact S.store rfl rfl rfl rfl rfl rfl)) | refine RD.nil ⟨Nat.le_of_ble_eq_true rfl, ?_⟩)
    repeat' (first | refine RT.nil ?_ | refine sq_n ?_ | refine Tr.seq ?_ | refine Tr.region ?_ | refine Tr.cond_t rfl ?_ | refine Tr.ret ?_ | refine sq_r ?_ | (refine RT.goK rfl rfl rfl rfl ?_; apply Nx.of; (first | exact S.move | exact S.assign | exact S.neq | exact S.build rfl rfl rfl)) | (refine RT.goK0 rfl rfl rfl ?_; apply Nx.of; (first | exact S.store rfl rfl rfl rfl rfl rfl)))
    (first | refine rt_go rfl ?_)
    rfl
theorem Bound_at {B : RBook} {a1 a2 a3 : AV} {m : List (Nat × Option AObj)} {c : Nat} (h : BkIn B a1 a2 a3 m c) (hn : B.nd ≤ 9223372036854775807) (d : Int) (fl : Nat) : OkAt 0 Try.prog fl 28 [bk B a1 a2 a3, .int .i64 d] (ofM m) c (spV B (dyQ B d) (fun t => t.eb d.toNat)) (ofM m) c :=
  (Bound_can B a1 a2 a3 h.h1 h.h2 h.h3 hn d).pure (spV_pl _ _ _) (h.entry _ fun _ => rfl) fl
end Go.Proofs.Ytjnckbefajfgbaa

/- Package roll: Fits. -/
namespace Go.Proofs.Ytjnckbefajfgbaa
open Go Go.Ev

/-- A function's call that tells whether something is so in a truth, in all memory that holds another one's. -/
def PrOK (W : List Tru) (g : Nat) (first cap : List AV) (m : List (Nat × Option AObj)) (c : Nat) (pr : Tru → Prop) : Prop := ∀ t ∈ W, ∀ m' c', Sub m c m' c' → ∀ fl, OkAt 0 Try.prog fl g (first ++ [trV t] ++ cap) (ofM m') c' (.bool (dB (pr t))) (ofM m') c'
section
variable {W : List Tru} {g x : Nat} {first cap : List AV} {m : List (Nat × Option AObj)} {c : Nat} {pr : Tru → Prop}

set_option maxRecDepth 100000 in
set_option maxHeartbeats 4000000 in
theorem index_at (hx : lookM m x = some (oWn W)) (hlen : W.length ≤ 20000) (hp : PrOK W g first cap m c pr) (fl : Nat) : OkAt 0 Try.prog fl 92 [.gs x W.length, .fn g first cap] (ofM m) c (.int .i64 (ixV pr W)) (ofM m) c := by
  refine CanS.here (CanS.mk Try.func92 rfl rfl rfl ?_) (.int _ _) fl
  have hs := IsSl.gs x W.length
  repeat' (first | refine RT.nil ?_ | refine sq_n ?_ | refine Tr.seq ?_ | refine Tr.region ?_ | refine Tr.block ?_ | (refine RT.goK rfl rfl rfl rfl ?_; apply Nx.of; (first | exact S.move | exact S.assign)) | (refine RT.goK rfl rfl rfl rfl ?_; apply Nx.of; (first | exact S.len_sl rfl rfl rfl (by assumption))))
  refine Tr.loop (fun k : Nat => stL Try.f92.ntmps [] [(0, .gs x W.length), (1, .fn g first cap), (7, .int .i64 W.length), (8, .int .i64 k)] m c) (fun k => k ≤ W.length ∧ ∀ i u, i < k → W[i]? = some u → ¬ pr u) (fun k => W.length - k) 0 ⟨Nat.zero_le _, fun i u hi => by omega⟩ (Wk.temps (Nat.le_refl _) (Nat.zero_le _) (Nat.le_refl _) ⟨rfl, rfl, rfl, rfl, trivial⟩) (fun k hk => ?_)
  obtain ⟨hk, hno⟩ := hk
  by_cases hlt : k < W.length
  · obtain ⟨tk, htk, hmk⟩ := at_some hlt
    have hlt' : (k : Int) < W.length := by omega
    repeat' (first | refine RT.nil ?_ | refine sq_n ?_ | refine Tr.seq ?_ | refine Tr.region ?_ | refine Tr.cond_t rfl ?_ | refine Tr.cond_d rfl (fun _ => ?_) (fun _ => ?_) | refine Tr.skip ?_ | refine Tr.ret ?_ | refine sq_r ?_ | refine Tr.block ?_ | refine blk_n ?_ | refine blk_r ?_ | refine lp_r ?_ | (refine RT.goK rfl rfl rfl rfl ?_; (refine Nx.of (S.lss_t hlt') ?_)) | (refine RT.call rfl rfl rfl (hp tk hmk _ _ .refl _) rfl rfl (Nat.le_refl _) ?_) | (refine RT.goK rfl rfl rfl rfl ?_; refine Nx.of (S.rowG rfl rfl hx (fun _ => rfl) htk rfl rfl) ?_) | (refine RT.goK rfl rfl rfl rfl ?_; apply Nx.of; (first | exact S.move | exact S.assign | exact S.add_one (by omega))) | (refine RT.goK rfl rfl rfl rfl ?_; apply Nx.of; (first | exact S.idx_sl rfl rfl rfl (by assumption) (by omega))))
    · (first | refine rt_go rfl ?_)
      exact congrArg (AV.int .i64) (ixV_at hno htk (by assumption)).symm
    · refine lp_n (k + 1) ⟨hlt, fun i u hi hu => ?_⟩ (by omega) (Wk.temps (Nat.le_refl _) (Nat.zero_le _) (Nat.le_refl _) ⟨rfl, rfl, rfl, rfl, trivial⟩)
      rcases Nat.lt_succ_iff_lt_or_eq.1 hi with h | rfl
      · exact hno i u h hu
      · rw [htk] at hu; cases hu; assumption
  · have hlt' : ¬ (k : Int) < W.length := by omega
    repeat' (first | refine RT.nil ?_ | refine sq_n ?_ | refine Tr.seq ?_ | refine Tr.region ?_ | refine Tr.cond_f rfl ?_ | refine Tr.ret ?_ | refine Tr.exit ?_ | refine sq_x ?_ | refine blk_hit rfl ?_ | refine lp_x ?_ | (refine RT.goK rfl rfl rfl rfl ?_; (refine Nx.of (S.lss_f hlt') ?_)) | (refine RT.goK rfl rfl rfl rfl ?_; apply Nx.of; (first | exact S.assign)))
    (first | refine rt_go rfl ?_)
    exact congrArg (AV.int .i64) (ixV_none fun i u hi hu => hno i u (by omega) hu).symm

set_option maxRecDepth 100000 in
set_option maxHeartbeats 4000000 in
theorem contains_at (hx : lookM m x = some (oWn W)) (hlen : W.length ≤ 20000) (hp : PrOK W g first cap m c pr) (fl : Nat) : OkAt 0 Try.prog fl 72 [.gs x W.length, .fn g first cap] (ofM m) c (.bool (dB (∃ t ∈ W, pr t))) (ofM m) c := by
  refine CanS.here (CanS.mk Try.func72 rfl rfl rfl ?_) (.bool _) fl
  repeat' (first | refine RT.nil ?_ | refine sq_n ?_ | refine Tr.seq ?_ | refine Tr.region ?_ | refine Tr.ret ?_ | (refine RT.call rfl rfl rfl (index_at hx hlen hp _) rfl rfl (Nat.le_refl _) ?_) | (refine RT.goK rfl rfl rfl rfl ?_; apply Nx.of; (first | exact S.move | exact S.assign | exact S.geq)))
  (first | refine rt_go rfl ?_)
  exact dB_iff ixV_nn

end
/-- An answer that is yes or no. -/
noncomputable def ftV (B : RBook) (d b : Int) : AV :=
  if dB (bkOk B) = false then .tup [.bool false, .int .i64 70] else if dB (lkOk B d b) = false then .tup [.bool false, .int .i64 71] else if dB (Wn B = []) then .tup [.bool false, .int .i64 72] else .tup [.bool (dB (∃ t ∈ Wn B, t.eb d.toNat = b)), .int .i64 0]
theorem ftV_no {B : RBook} {d b : Int} (h : ¬ bkOk B) : ftV B d b = .tup [.bool false, .int .i64 70] := by unfold ftV; rw [dB_ff h, if_pos rfl]
theorem ftV_ask {B : RBook} {d b : Int} (h : bkOk B) (hq : ¬ lkOk B d b) : ftV B d b = .tup [.bool false, .int .i64 71] := by unfold ftV; rw [dB_tt h, if_neg (by decide), dB_ff hq, if_pos rfl]
theorem ftV_false {B : RBook} {d b : Int} (h : bkOk B) (hq : lkOk B d b) (hW : Wn B = []) : ftV B d b = .tup [.bool false, .int .i64 72] := by unfold ftV; rw [dB_tt h, if_neg (by decide), dB_tt hq, if_neg (by decide), dB_tt hW, if_pos rfl]
theorem ftV_ok {B : RBook} {d b : Int} (h : bkOk B) (hq : lkOk B d b) (hW : Wn B ≠ []) : ftV B d b = .tup [.bool (dB (∃ t ∈ Wn B, t.eb d.toNat = b)), .int .i64 0] := by unfold ftV; rw [dB_tt h, if_neg (by decide), dB_tt hq, if_neg (by decide), dB_ff hW, if_neg (by decide)]
theorem ftV_pl (B : RBook) (d b : Int) : Pl (ftV B d b) := by unfold ftV; (repeat' split) <;> exact fun _ => rfl
/-- Whether there can be such a look, in a region whose order is open. -/
noncomputable def lokF (B : RBook) (a1 a2 a3 : AV) (d b : Int) (q : Bool) : CallFn := one1 71 [bk B a1 a2 a3, .agg [.int .i64 d, .int .i64 b]] (.bool q) fun H c => ∃ m, H = ofM m ∧ BkIn B a1 a2 a3 m c
theorem lokF_calm {B : RBook} {a1 a2 a3 : AV} (hn : B.nd ≤ 9223372036854775807) {d b : Int} {q : Bool} (h : dB (lkOk B d b) = q) : CalmC 0 Try.prog (lokF B a1 a2 a3 d b q) :=
  one1_calm fun fl H c ⟨m, hm, hk⟩ => by subst hm; exact val_is (by rw [h]) (isLook_at hk hn d b fl)
set_option format.width 260
set_option maxRecDepth 100000 in
set_option maxHeartbeats 4000000 in
theorem fits_can (B : RBook) (a1 a2 a3 : AV) (h1 : IsSl a1 B.nl 0) (h2 : IsSl a2 B.nd 1) (h3 : IsSl a3 B.nk 2) (hn : B.nd ≤ 9223372036854775807) (d : Nat) (b : Int) (hB : bkOk B) (hq : lkOk B d b) (hW : Wn B ≠ []) : CanS 0 Try.prog 34 3 [bk B a1 a2 a3, .agg [.int .i64 (d : Int), .int .i64 b]] [(0, some (oLa B)), (1, some (oDa B)), (2, some (oLo B))] 3 fun v _ _ => v = .tup [.bool (dB (∃ t ∈ Wn B, t.eb d = b)), .int .i64 0] := by
  have hnd := hB.2.1.1.2
  have hd5 : d < 5 := by unfold lkOk dyQ at hq; omega
  refine CanS.mk Try.func34 rfl rfl rfl ?_
  repeat' (first | refine RT.nil ?_ | refine sq_n ?_ | refine Tr.seq ?_ | refine Tr.region ?_ | (refine RT.goK rfl rfl rfl rfl ?_; apply Nx.of; (first | exact S.assign | exact S.box)))
  refine Tr.openK un34_1 (by kernel_rfl) (by kernel_rfl) (alts [lokF B a1 a2 a3 d b true, pinX 40 [bk B a1 a2 a3, .bool true] [(4, some (.cells [.int .i64 (d : Int), .int .i64 b])), (3, some (.cells (bk B a1 a2 a3).cells)), (0, some (oLa B)), (1, some (oDa B)), (2, some (oLo B))] 5 (.tup [knV B 5, .int .i64 0]) (knM B a1 a2 a3 5 [(4, some (.cells [.int .i64 (d : Int), .int .i64 b])), (3, some (.cells (bk B a1 a2 a3).cells)), (0, some (oLa B)), (1, some (oDa B)), (2, some (oLo B))]) 18]) (two_calm (lokF_calm hn (dB_tt hq)) (pinX_calm (fun fl => learn_at ⟨h1, h2, h3, rfl, rfl, rfl, by decide⟩ (fun x o hx => by have := lookM_mem hx; simp at this; omega) hn hB hW fl) (fun fl => kn_good hB a1 a2 a3 5 _ fl))) ?_
  repeat' (first | (refine RD.callN rfl rfl rfl rfl rfl rfl rfl rfl rfl (fun fl' => alts_hd (one1_at ⟨_, rfl, ⟨h1, h2, h3, rfl, rfl, rfl, by decide⟩⟩ fl')) (fun _ => by refine srOk_all ?_; simp only [srOk]; (repeat' (first | exact trivial | refine And.intro ?_ ?_)); all_goals (first | (refine ⟨_, rfl, ?_⟩; (first | (simp [rfO, rfVs, rfV, bk, AV.cells, h1.rf, h2.rf, h3.rf]; done))))) ?_) | (refine RD.callX rfl rfl rfl rfl rfl rfl rfl rfl rfl (fun fl' => (alts_tl (famA_ne _ (by decide))).trans (alts_hd (pinX_at _ _ _ _ _ _ _ fl'))) (fun _ => by refine srOkX_all ?_; simp only [srOkX]; (repeat' (first | exact trivial | refine And.intro ?_ ?_)); all_goals (first | exact trivial | (refine ⟨_, rfl, rfl, ?_⟩; (first | rfl | (simp [rfO, rfVs, rfV, rfVs_flat]; done) | (simp [rfO, rfVs, rfV, bk, AV.cells, h1.rf, h2.rf, h3.rf]; done))))) ?_) | (refine RD.free rfl rfl rfl rfl rfl rfl ?_; apply Nx.of; (first | exact S.move | exact S.assign | exact S.extract rfl)) | (refine RD.new rfl rfl rfl rfl rfl rfl ?_; apply Nx.of; (first | exact S.alloc rfl)) | (refine RD.load rfl rfl rfl rfl rfl rfl rfl rfl ?_; apply Nx.of; (first | exact S.loadNc rfl rfl rfl rfl)) | (refine RD.store rfl rfl rfl rfl rfl rfl rfl ?_; apply Nx.of; (first | exact S.store rfl rfl (kn_one _ _ _ _ _) rfl rfl rfl)) | refine RD.nil ⟨Nat.le_of_ble_eq_true rfl, ?_⟩)
  repeat' (first | refine RT.nil ?_ | refine sq_n ?_ | refine Tr.seq ?_ | refine Tr.region ?_ | refine Tr.cond_f rfl ?_ | refine Tr.skip ?_ | refine Tr.ret ?_ | (refine RT.call rfl rfl rfl (contains_at (x := 17) (pr := fun t => t.eb d = b) rfl (Wn_len hB) (fun t _ m' c' _ fl => isRight_at fl t d hd5 b _ _) _) rfl rfl (Nat.le_refl _) ?_) | (refine RT.goK rfl rfl rfl rfl ?_; apply Nx.of; (first | exact S.move | exact S.assign | exact S.load1c rfl rfl rfl rfl | exact S.loadNc rfl rfl rfl rfl | exact S.fieldAddr rfl rfl rfl | exact S.neq | exact S.makeFunc)))
  (first | refine rt_go rfl ?_)
  rfl
set_option maxRecDepth 100000 in
set_option maxHeartbeats 4000000 in
theorem Fits_can (B : RBook) (a1 a2 a3 : AV) (h1 : IsSl a1 B.nl 0) (h2 : IsSl a2 B.nd 1) (h3 : IsSl a3 B.nk 2) (hn : B.nd ≤ 9223372036854775807) (d b : Int) : CanS 0 Try.prog 34 3 [bk B a1 a2 a3, .agg [.int .i64 d, .int .i64 b]] [(0, some (oLa B)), (1, some (oDa B)), (2, some (oLo B))] 3 fun v _ _ => v = ftV B d b := by
  by_cases hB : bkOk B
  · by_cases hq : lkOk B d b
    · by_cases hW : Wn B = []
      · rw [ftV_false hB hq hW]
        refine CanS.mk Try.func34 rfl rfl rfl ?_
        repeat' (first | refine RT.nil ?_ | refine sq_n ?_ | refine Tr.seq ?_ | refine Tr.region ?_ | (refine RT.goK rfl rfl rfl rfl ?_; apply Nx.of; (first | exact S.assign | exact S.box)))
        refine Tr.openK un34_1 (by kernel_rfl) (by kernel_rfl) (alts [lokF B a1 a2 a3 d b true, lnF B a1 a2 a3 true 72]) (two_calm (lokF_calm hn (dB_tt hq)) (lnF_false hn hB hW)) ?_
        repeat' (first | (refine RD.callN rfl rfl rfl rfl rfl rfl rfl rfl rfl (fun fl' => alts_hd (one1_at ⟨_, rfl, ⟨h1, h2, h3, rfl, rfl, rfl, by decide⟩⟩ fl')) (fun _ => by refine srOk_all ?_; simp only [srOk]; (repeat' (first | exact trivial | refine And.intro ?_ ?_)); all_goals (first | (refine ⟨_, rfl, ?_⟩; (first | (simp [rfO, rfVs, rfV, bk, AV.cells, h1.rf, h2.rf, h3.rf]; done))))) ?_) | (refine RD.callN rfl rfl rfl rfl rfl rfl rfl rfl rfl (fun fl' => (alts_tl (famA_ne _ (by decide))).trans (alts_hd (one1_at ⟨_, rfl, ⟨h1, h2, h3, rfl, rfl, rfl, by decide⟩⟩ fl'))) (fun _ => by refine srOk_all ?_; simp only [srOk]; (repeat' (first | exact trivial | refine And.intro ?_ ?_)); all_goals (first | exact trivial | (refine ⟨_, rfl, ?_⟩; (first | rfl | (simp [rfO, rfVs, rfV, rfVs_flat]; done) | (simp [rfO, rfVs, rfV, bk, AV.cells, h1.rf, h2.rf, h3.rf]; done))))) ?_) | (refine RD.free rfl rfl rfl rfl rfl rfl ?_; apply Nx.of; (first | exact S.move | exact S.assign | exact S.extract rfl)) | (refine RD.new rfl rfl rfl rfl rfl rfl ?_; apply Nx.of; (first | exact S.alloc rfl)) | (refine RD.load rfl rfl rfl rfl rfl rfl rfl rfl ?_; apply Nx.of; (first | exact S.loadNc rfl rfl rfl rfl)) | (refine RD.store rfl rfl rfl rfl rfl rfl rfl ?_; apply Nx.of; (first | exact S.store rfl rfl rfl rfl rfl rfl)) | refine RD.nil ⟨Nat.le_of_ble_eq_true rfl, ?_⟩)
        repeat' (first | refine RT.nil ?_ | refine sq_n ?_ | refine Tr.seq ?_ | refine Tr.region ?_ | refine Tr.cond_t rfl ?_ | refine Tr.ret ?_ | refine sq_r ?_ | (refine RT.goK rfl rfl rfl rfl ?_; apply Nx.of; (first | exact S.move | exact S.assign | exact S.neq)))
        (first | refine rt_go rfl ?_)
        rfl
      · rw [ftV_ok hB hq hW]
        obtain ⟨d', hd'⟩ := Int.eq_ofNat_of_zero_le hq.1.1
        subst hd'
        rw [Int.toNat_natCast]
        exact fits_can B a1 a2 a3 h1 h2 h3 hn d' b hB hq hW
    · rw [ftV_ask hB hq]
      refine CanS.mk Try.func34 rfl rfl rfl ?_
      repeat' (first | refine RT.nil ?_ | refine sq_n ?_ | refine Tr.seq ?_ | refine Tr.region ?_ | (refine RT.goK rfl rfl rfl rfl ?_; apply Nx.of; (first | exact S.assign | exact S.box)))
      refine Tr.openK un34_1 (by kernel_rfl) (by kernel_rfl) (alts [lokF B a1 a2 a3 d b false, lnF B a1 a2 a3 false 71]) (two_calm (lokF_calm hn (dB_ff hq)) (lnF_ask hn hB)) ?_
      repeat' (first | (refine RD.callN rfl rfl rfl rfl rfl rfl rfl rfl rfl (fun fl' => alts_hd (one1_at ⟨_, rfl, ⟨h1, h2, h3, rfl, rfl, rfl, by decide⟩⟩ fl')) (fun _ => by refine srOk_all ?_; simp only [srOk]; (repeat' (first | exact trivial | refine And.intro ?_ ?_)); all_goals (first | (refine ⟨_, rfl, ?_⟩; (first | (simp [rfO, rfVs, rfV, bk, AV.cells, h1.rf, h2.rf, h3.rf]; done))))) ?_) | (refine RD.callN rfl rfl rfl rfl rfl rfl rfl rfl rfl (fun fl' => (alts_tl (famA_ne _ (by decide))).trans (alts_hd (one1_at ⟨_, rfl, ⟨h1, h2, h3, rfl, rfl, rfl, by decide⟩⟩ fl'))) (fun _ => by refine srOk_all ?_; simp only [srOk]; (repeat' (first | exact trivial | refine And.intro ?_ ?_)); all_goals (first | exact trivial | (refine ⟨_, rfl, ?_⟩; (first | rfl | (simp [rfO, rfVs, rfV, rfVs_flat]; done) | (simp [rfO, rfVs, rfV, bk, AV.cells, h1.rf, h2.rf, h3.rf]; done))))) ?_) | (refine RD.free rfl rfl rfl rfl rfl rfl ?_; apply Nx.of; (first | exact S.move | exact S.assign | exact S.extract rfl)) | (refine RD.new rfl rfl rfl rfl rfl rfl ?_; apply Nx.of; (first | exact S.alloc rfl)) | (refine RD.load rfl rfl rfl rfl rfl rfl rfl rfl ?_; apply Nx.of; (first | exact S.loadNc rfl rfl rfl rfl)) | (refine RD.store rfl rfl rfl rfl rfl rfl rfl ?_; apply Nx.of; (first | exact S.store rfl rfl rfl rfl rfl rfl)) | refine RD.nil ⟨Nat.le_of_ble_eq_true rfl, ?_⟩)
      repeat' (first | refine RT.nil ?_ | refine sq_n ?_ | refine Tr.seq ?_ | refine Tr.region ?_ | refine Tr.cond_t rfl ?_ | refine Tr.ret ?_ | refine sq_r ?_ | (refine RT.goK rfl rfl rfl rfl ?_; apply Nx.of; (first | exact S.move | exact S.assign | exact S.neq)))
      (first | refine rt_go rfl ?_)
      rfl
  · rw [ftV_no hB]
    refine CanS.mk Try.func34 rfl rfl rfl ?_
    repeat' (first | refine RT.nil ?_ | refine sq_n ?_ | refine Tr.seq ?_ | refine Tr.region ?_ | (refine RT.goK rfl rfl rfl rfl ?_; apply Nx.of; (first | exact S.assign | exact S.box)))
    obtain ⟨q, hq⟩ : ∃ q, dB (lkOk B d b) = q := ⟨_, rfl⟩
    refine Tr.openK un34_1 (by kernel_rfl) (by kernel_rfl) (alts [lokF B a1 a2 a3 d b q, lnF B a1 a2 a3 q 70]) (two_calm (lokF_calm hn hq) (lnF_no hn hB q)) ?_
    repeat' (first | (refine RD.callN rfl rfl rfl rfl rfl rfl rfl rfl rfl (fun fl' => alts_hd (one1_at ⟨_, rfl, ⟨h1, h2, h3, rfl, rfl, rfl, by decide⟩⟩ fl')) (fun _ => by refine srOk_all ?_; simp only [srOk]; (repeat' (first | exact trivial | refine And.intro ?_ ?_)); all_goals (first | (refine ⟨_, rfl, ?_⟩; (first | (simp [rfO, rfVs, rfV, bk, AV.cells, h1.rf, h2.rf, h3.rf]; done))))) ?_) | (refine RD.callN rfl rfl rfl rfl rfl rfl rfl rfl rfl (fun fl' => (alts_tl (famA_ne _ (by decide))).trans (alts_hd (one1_at ⟨_, rfl, ⟨h1, h2, h3, rfl, rfl, rfl, by decide⟩⟩ fl'))) (fun _ => by refine srOk_all ?_; simp only [srOk]; (repeat' (first | exact trivial | refine And.intro ?_ ?_)); all_goals (first | exact trivial | (refine ⟨_, rfl, ?_⟩; (first | rfl | (simp [rfO, rfVs, rfV, rfVs_flat]; done) | (simp [rfO, rfVs, rfV, bk, AV.cells, h1.rf, h2.rf, h3.rf]; done))))) ?_) | (refine RD.free rfl rfl rfl rfl rfl rfl ?_; apply Nx.of; (first | exact S.move | exact S.assign | exact S.extract rfl)) | (refine RD.new rfl rfl rfl rfl rfl rfl ?_; apply Nx.of; (first | exact S.alloc rfl)) | (refine RD.load rfl rfl rfl rfl rfl rfl rfl rfl ?_; apply Nx.of; (first | exact S.loadNc rfl rfl rfl rfl)) | (refine RD.store rfl rfl rfl rfl rfl rfl rfl ?_; apply Nx.of; (first | exact S.store rfl rfl rfl rfl rfl rfl)) | refine RD.nil ⟨Nat.le_of_ble_eq_true rfl, ?_⟩)
    repeat' (first | refine RT.nil ?_ | refine sq_n ?_ | refine Tr.seq ?_ | refine Tr.region ?_ | refine Tr.cond_t rfl ?_ | refine Tr.ret ?_ | refine sq_r ?_ | (refine RT.goK rfl rfl rfl rfl ?_; apply Nx.of; (first | exact S.move | exact S.assign | exact S.neq)))
    (first | refine rt_go rfl ?_)
    rfl
theorem Fits_at {B : RBook} {a1 a2 a3 : AV} {m : List (Nat × Option AObj)} {c : Nat} (h : BkIn B a1 a2 a3 m c) (hn : B.nd ≤ 9223372036854775807) (d b : Int) (fl : Nat) : OkAt 0 Try.prog fl 34 [bk B a1 a2 a3, .agg [.int .i64 d, .int .i64 b]] (ofM m) c (ftV B d b) (ofM m) c :=
  (Fits_can B a1 a2 a3 h.h1 h.h2 h.h3 hn d b).pure (ftV_pl _ _ _) (h.entry _ fun _ => rfl) fl
end Go.Proofs.Ytjnckbefajfgbaa

/- Package roll: how many layers are bound from day to day: plain facts. -/
namespace Go.Proofs.Ytjnckbefajfgbaa
open Go Go.Ev

theorem lv0 {B : RBook} (hB : bkOk B) : LvOk B tru0 0 := by
  have hz : noLa tru0 := ⟨rfl, rfl, rfl, rfl⟩
  have e1 : befB tru0 0 = 0 := by unfold befB; rw [dB_tt hz]; rfl
  have e2 : befR tru0 0 = 0 := by unfold befR; rw [dB_tt hz]; rfl
  refine ⟨.inl hz, ?_, ?_, ?_, fun i _ => ⟨Int.le_refl _, Int.le_refl _⟩, fun i _ => ⟨Int.le_refl _, Int.le_refl _⟩⟩
  · rw [e1]; omega
  · rw [e2]; decide
  · intro _; exact e2
theorem norm_eb {t : Tru} {j : Nat} (h : j < 5) : (norm t).eb j = t.eb j := by rcases lt5 h with rfl | rfl | rfl | rfl | rfl <;> rfl
end Go.Proofs.Ytjnckbefajfgbaa

/- Package roll: whether all layers are bound at a day's end, surely or perhaps; the first such day. -/
namespace Go.Proofs.Ytjnckbefajfgbaa
open Go Go.Ev

theorem mp_rf (nd x i : Nat) : rfV (mpV nd x i) = true := by unfold mpV; split <;> rfl
set_option format.width 260
set_option maxRecDepth 100000 in
set_option maxHeartbeats 4000000 in
theorem surely_can (B : RBook) (a1 a2 a3 : AV) (h1 : IsSl a1 B.nl 0) (h2 : IsSl a2 B.nd 1) (h3 : IsSl a3 B.nk 2) (W : List Tru) (n d : Nat) (hd : d < B.nd) (hd5 : d < 5) : CanS 0 Try.prog 47 10 [.agg (.ptr 3 0 :: .gs 9 n :: mpsV B.nd 4), .int .i64 (d : Int)] [(4 + d, some (rdO d W)), (0, some (oLa B)), (1, some (oDa B)), (2, some (oLo B)), (3, some (.cells (pbC B a1 a2 a3)))] 10 fun v _ _ => v = .bool (decide (rdC d W (B.nl, 0) = n)) := by
  have e : mpV B.nd 4 d = .map (4 + d) := if_pos hd
  have hs := IsSl.gs 9 n
  rcases lt5 hd5 with rfl | rfl | rfl | rfl | rfl
  all_goals
    unfold mpsV
    rw [e]
    refine CanS.mk Try.func47 rfl rfl rfl ?_
    repeat' (first | refine RT.nil ?_ | refine sq_n ?_ | refine Tr.seq ?_ | refine Tr.region ?_ | (refine RT.goK rfl rfl rfl rfl ?_; apply Nx.of; (first | exact S.assign | exact S.box)))
    refine Tr.openK un47_1 (by kernel_rfl) (by kernel_rfl) (one1 79 [.ptr 3 0] (roV B.nl 0) fun H c => ∃ m, H = ofM m ∧ PbIn B a1 a2 a3 3 m c) done_calm ?_
    repeat' (first | (refine RD.callN rfl rfl rfl rfl rfl rfl rfl rfl rfl (fun fl' => one1_at ⟨_, rfl, h1, h2, h3, rfl, rfl, rfl, rfl, by decide, by decide⟩ fl') (fun _ => by refine srOk_all ?_; simp only [srOk]; (repeat' (first | exact trivial | refine And.intro ?_ ?_)); all_goals (first | (refine ⟨_, rfl, ?_⟩; (first | (simp [rfO, rfVs, rfV, pbC, bk, AV.cells, h1.rf, h2.rf, h3.rf, mp_rf]; done))))) ?_) | (refine RD.load rfl rfl rfl rfl rfl rfl rfl (by refine us_all ?_; simp only [usOk, cond_true, cond_false]; (repeat' (first | exact trivial | refine And.intro ?_ ?_)); all_goals (first | rfl | exact .inl trivial | (refine Or.inr (was_same rfl ?_); (first | (refine ⟨_, rfl, ?_⟩; simp [rfO, rfVs, rfV, pbC, bk, AV.cells, h1.rf, h2.rf, h3.rf, mp_rf]; done))))) ?_; (refine Nx.of (S.look0 (enc := roE) (encV := roW) (f := rdF _ W) (L := rdK _ W) (k := ((B.nl : Int), 0)) roKeys rfl rfl rfl rfl (fun h => by unfold rdF; rw [rdC_0 h])) ?_)) | (refine RD.free rfl rfl rfl rfl rfl rfl ?_; refine Nx.of (S.idx_arr rfl rfl rfl (by decide)) ?_) | (refine RD.free rfl rfl rfl rfl rfl rfl ?_; apply Nx.of; (first | exact S.move | exact S.assign | exact S.fieldAddr rfl rfl rfl | exact S.eql | exact S.len_sl rfl rfl rfl (by assumption))) | (refine RD.load rfl rfl rfl rfl rfl rfl rfl rfl ?_; apply Nx.of; (first | exact S.load1c rfl rfl rfl rfl)) | (refine RD.load rfl rfl rfl rfl rfl rfl rfl (by refine us_all ?_; simp only [usOk, cond_true, cond_false]; (repeat' (first | exact trivial | refine And.intro ?_ ?_)); all_goals (first | rfl | exact .inl trivial | (refine Or.inr (was_same rfl ?_); (first | (refine ⟨_, rfl, ?_⟩; simp [rfO, rfVs, rfV, pbC, bk, AV.cells, h1.rf, h2.rf, h3.rf, mp_rf]; done))))) ?_; apply Nx.of; (first | exact S.load1c rfl rfl rfl rfl)) | refine RD.nil ⟨Nat.le_of_ble_eq_true rfl, ?_⟩)
    repeat' (first | refine sq_n ?_ | refine Tr.ret ?_)
    (first | refine rt_go rfl ?_)
    rfl
set_option maxRecDepth 100000 in
set_option maxHeartbeats 4000000 in
theorem may_can (B : RBook) (a1 a2 a3 : AV) (h1 : IsSl a1 B.nl 0) (h2 : IsSl a2 B.nd 1) (h3 : IsSl a3 B.nk 2) (W : List Tru) (n d : Nat) (hd : d < B.nd) (hd5 : d < 5) : CanS 0 Try.prog 49 10 [.agg (.ptr 3 0 :: .gs 9 n :: mpsV B.nd 4), .int .i64 (d : Int)] [(4 + d, some (rdO d W)), (0, some (oLa B)), (1, some (oDa B)), (2, some (oLo B)), (3, some (.cells (pbC B a1 a2 a3)))] 10 fun v _ _ => v = .bool (decide (0 < rdC d W (B.nl, 0))) := by
  have e : mpV B.nd 4 d = .map (4 + d) := if_pos hd
  have hs := IsSl.gs 9 n
  rcases lt5 hd5 with rfl | rfl | rfl | rfl | rfl
  all_goals
    unfold mpsV
    rw [e]
    refine CanS.mk Try.func49 rfl rfl rfl ?_
    repeat' (first | refine RT.nil ?_ | refine sq_n ?_ | refine Tr.seq ?_ | refine Tr.region ?_ | (refine RT.goK rfl rfl rfl rfl ?_; apply Nx.of; (first | exact S.assign | exact S.box)))
    refine Tr.openK un49_1 (by kernel_rfl) (by kernel_rfl) (one1 79 [.ptr 3 0] (roV B.nl 0) fun H c => ∃ m, H = ofM m ∧ PbIn B a1 a2 a3 3 m c) done_calm ?_
    repeat' (first | (refine RD.callN rfl rfl rfl rfl rfl rfl rfl rfl rfl (fun fl' => one1_at ⟨_, rfl, h1, h2, h3, rfl, rfl, rfl, rfl, by decide, by decide⟩ fl') (fun _ => by refine srOk_all ?_; simp only [srOk]; (repeat' (first | exact trivial | refine And.intro ?_ ?_)); all_goals (first | (refine ⟨_, rfl, ?_⟩; (first | (simp [rfO, rfVs, rfV, pbC, bk, AV.cells, h1.rf, h2.rf, h3.rf, mp_rf]; done))))) ?_) | (refine RD.load rfl rfl rfl rfl rfl rfl rfl (by refine us_all ?_; simp only [usOk, cond_true, cond_false]; (repeat' (first | exact trivial | refine And.intro ?_ ?_)); all_goals (first | rfl | exact .inl trivial)) ?_; (refine Nx.of (S.look0 (enc := roE) (encV := roW) (f := rdF _ W) (L := rdK _ W) (k := ((B.nl : Int), 0)) roKeys rfl rfl rfl rfl (fun h => by unfold rdF; rw [rdC_0 h])) ?_)) | (refine RD.free rfl rfl rfl rfl rfl rfl ?_; refine Nx.of (S.idx_arr rfl rfl rfl (by decide)) ?_) | (refine RD.free rfl rfl rfl rfl rfl rfl ?_; apply Nx.of; (first | exact S.move | exact S.assign | exact S.fieldAddr rfl rfl rfl | exact S.gtr)) | (refine RD.load rfl rfl rfl rfl rfl rfl rfl rfl ?_; apply Nx.of; (first | exact S.load1c rfl rfl rfl rfl)) | refine RD.nil ⟨Nat.le_of_ble_eq_true rfl, ?_⟩)
    repeat' (first | refine sq_n ?_ | refine Tr.ret ?_)
    (first | refine rt_go rfl ?_)
    rfl
/-- The same, where the book that is known lies anywhere. -/
structure KnAt (B : RBook) (a1 a2 a3 : AV) (p q d : Nat) (W : List Tru) (m : List (Nat × Option AObj)) (c : Nat) : Prop where
  pb : PbIn B a1 a2 a3 p m c
  mx : lookM m (q + d) = some (rdO d W)
theorem KnAt.entry {B : RBook} {a1 a2 a3 : AV} {p q x d n : Nat} {W : List Tru} {m : List (Nat × Option AObj)} {c : Nat} (h : KnAt B a1 a2 a3 p q d W m c) (hd5 : d < 5) : Entry 0 (ofM m) c [.agg (.ptr p 0 :: .gs x n :: mpsV B.nd q), .int .i64 (d : Int)] [(4 + d, some (rdO d W)), (0, some (oLa B)), (1, some (oDa B)), (2, some (oLo B)), (3, some (.cells (pbC B a1 a2 a3)))] 10 [.agg (.ptr 3 0 :: .gs 9 n :: mpsV B.nd 4), .int .i64 (d : Int)] := by
  let τ : Nat → Nat := tau [0, 1, 2, p, q, q + 1, q + 2, q + 3, q + 4, x] c
  have e0 : τ (4 + 0) = q + 0 := rfl
  have e1 : τ (4 + 1) = q + 1 := rfl
  have e2 : τ (4 + 2) = q + 2 := rfl
  have e3 : τ (4 + 3) = q + 3 := rfl
  have e4 : τ (4 + 4) = q + 4 := rfl
  have t0 : τ 0 = 0 := rfl
  have t1 : τ 1 = 1 := rfl
  have t2 : τ 2 = 2 := rfl
  have t3 : τ 3 = p := rfl
  have ha : AV.rens τ [.agg (.ptr 3 0 :: .gs 9 n :: mpsV B.nd 4), .int .i64 (d : Int)] = [.agg (.ptr p 0 :: .gs x n :: mpsV B.nd q), .int .i64 (d : Int)] := by
    simp only [AV.ren, AV.rens, mp_ren B.nd e0, mp_ren B.nd e1, mp_ren B.nd e2, mp_ren B.nd e3, mp_ren B.nd e4]
    rfl
  have td : τ (4 + d) = q + d := by rcases lt5 hd5 with rfl | rfl | rfl | rfl | rfl <;> rfl
  have low : ∀ {u : Nat} {ob : AObj}, lookM [(4 + d, some (rdO d W)), (0, some (oLa B)), (1, some (oDa B)), (2, some (oLo B)), (3, some (.cells (pbC B a1 a2 a3)))] u = some ob → u = 4 + d ∨ u = 0 ∨ u = 1 ∨ u = 2 ∨ u = 3 := fun {u ob} hz => by
    have := lookM_mem hz
    simpa using this
  have lk : ∀ {u : Nat} {o : AObj}, u < 4 → lookM [(4 + d, some (rdO d W)), (0, some (oLa B)), (1, some (oDa B)), (2, some (oLo B)), (3, some (.cells (pbC B a1 a2 a3)))] u = some o → lookM [(0, some (oLa B)), (1, some (oDa B)), (2, some (oLo B)), (3, some (.cells (pbC B a1 a2 a3)))] u = some o := fun {u o} hu ho => by
    rwa [lookM_tl (by omega)] at ho
  have hobj : ∀ u o, lookM [(4 + d, some (rdO d W)), (0, some (oLa B)), (1, some (oDa B)), (2, some (oLo B)), (3, some (.cells (pbC B a1 a2 a3)))] u = some o → lookM m (τ u) = some (o.ren τ) := fun u o hu => by
    rcases low hu with rfl | rfl | rfl | rfl | rfl
    · rw [lookM_hd] at hu; cases hu; rw [td, rd_ren]; exact h.mx
    · have := lk (by omega) hu; cases this; rw [t0, ren_ro]; exact h.pb.m1
    · have := lk (by omega) hu; cases this; rw [t1, ren_ro]; exact h.pb.m2
    · have := lk (by omega) hu; cases this; rw [t2, ren_ro]; exact h.pb.m3
    · have := lk (by omega) hu; cases this; rw [t3, pbc_ren h.pb.h1 h.pb.h2 h.pb.h3 t0 t1 t2]; exact h.pb.m4
  rw [← ha]
  refine Entry.ren τ (fun g hg => by omega) (fun y hy => by show c ≤ tau _ _ _; rw [tau_ge hy]; omega) ⟨getM (hobj _ _ lookM_hd), getM (hobj 0 _ ((lookM_tl (by omega)).trans rfl)), getM (hobj 1 _ ((lookM_tl (by omega)).trans rfl)), getM (hobj 2 _ ((lookM_tl (by omega)).trans rfl)), getM (hobj 3 _ ((lookM_tl (by omega)).trans rfl)), trivial⟩ (fun u u' o o' hu hu' hne => .inl fun e => ?_)
  have g1 := hobj u o hu
  have g2 := hobj u' o' hu'
  rw [e] at g1
  rw [g1] at g2
  have key : ∀ (u : Nat) (o : AObj), lookM [(4 + d, some (rdO d W)), (0, some (oLa B)), (1, some (oDa B)), (2, some (oLo B)), (3, some (.cells (pbC B a1 a2 a3)))] u = some o → (u = 4 + d ∧ ∃ es, o.ren τ = .map es) ∨ (u < 3 ∧ τ u = u ∧ ∃ es, o.ren τ = .ro es) ∨ (u = 3 ∧ ∃ es, o.ren τ = .cells es) := fun u o hu => by
    rcases low hu with rfl | rfl | rfl | rfl | rfl
    · rw [lookM_hd] at hu; cases hu; exact .inl ⟨rfl, _, rd_ren _ _ _⟩
    · have := lk (by omega) hu; cases this; exact .inr (.inl ⟨by omega, rfl, _, ren_ro _ _ _⟩)
    · have := lk (by omega) hu; cases this; exact .inr (.inl ⟨by omega, rfl, _, ren_ro _ _ _⟩)
    · have := lk (by omega) hu; cases this; exact .inr (.inl ⟨by omega, rfl, _, ren_ro _ _ _⟩)
    · have := lk (by omega) hu; cases this; exact .inr (.inr ⟨rfl, _, rfl⟩)
  rw [Option.some.injEq] at g2
  rcases key u o hu with ⟨x1, es, y1⟩ | ⟨x1, z1, es, y1⟩ | ⟨x1, es, y1⟩ <;> rcases key u' o' hu' with ⟨x2, es', y2⟩ | ⟨x2, z2, es', y2⟩ | ⟨x2, es', y2⟩ <;> rw [y1, y2] at g2 <;> first | (cases g2; done) | omega
theorem surely_at {B : RBook} {a1 a2 a3 : AV} {p q x d n : Nat} {W : List Tru} {m : List (Nat × Option AObj)} {c : Nat} (h : KnAt B a1 a2 a3 p q d W m c) (hd : d < B.nd) (hd5 : d < 5) (fl : Nat) : OkAt 0 Try.prog fl 47 [.agg (.ptr p 0 :: .gs x n :: mpsV B.nd q), .int .i64 (d : Int)] (ofM m) c (.bool (decide (rdC d W (B.nl, 0) = n))) (ofM m) c :=
  (surely_can B a1 a2 a3 h.pb.h1 h.pb.h2 h.pb.h3 W n d hd hd5).pure (.bool _) (h.entry hd5) fl
theorem may_at {B : RBook} {a1 a2 a3 : AV} {p q x d n : Nat} {W : List Tru} {m : List (Nat × Option AObj)} {c : Nat} (h : KnAt B a1 a2 a3 p q d W m c) (hd : d < B.nd) (hd5 : d < 5) (fl : Nat) : OkAt 0 Try.prog fl 49 [.agg (.ptr p 0 :: .gs x n :: mpsV B.nd q), .int .i64 (d : Int)] (ofM m) c (.bool (decide (0 < rdC d W (B.nl, 0)))) (ofM m) c :=
  (may_can B a1 a2 a3 h.pb.h1 h.pb.h2 h.pb.h3 W n d hd hd5).pure (.bool _) (h.entry hd5) fl
end Go.Proofs.Ytjnckbefajfgbaa

/- Package roll: Done, Perhaps. -/
namespace Go.Proofs.Ytjnckbefajfgbaa
open Go Go.Ev

theorem rds_at {ts : List Tru} {x d : Nat} : ∀ {n : Nat}, d < n → lookM (rdsM ts x n) (x + d) = some (rdO d ts)
  | 0, h => absurd h (by omega)
  | n + 1, h => by
    rw [rdsM]
    by_cases e : d = n
    · subst e; exact lookM_hd
    · rw [lookM_tl (by omega)]
      exact rds_at (by omega)
theorem look_skip {r : List (Nat × Option AObj)} {x : Nat} : ∀ {m : List (Nat × Option AObj)}, (∀ e ∈ m, e.1 ≠ x) → lookM (m ++ r) x = lookM r x
  | [], _ => rfl
  | (y, o) :: m, h => by
    have hy : y ≠ x := h (y, o) List.mem_cons_self
    rw [List.cons_append, lookM_tl hy.symm]
    exact look_skip fun e he => h e (List.mem_cons_of_mem _ he)
open Classical in
/-- The first day on which something is so. -/
noncomputable def fdV (pr : Nat → Prop) (n : Nat) : AV := if h : ∃ d, d < n ∧ pr d ∧ ∀ j, j < d → ¬ pr j then .tup [.int .i64 (h.choose : Int), .int .i64 0] else .tup [.int .i64 0, .int .i64 4]
theorem fdV_at {pr : Nat → Prop} {n d : Nat} (hd : d < n) (hp : pr d) (hno : ∀ j, j < d → ¬ pr j) : fdV pr n = .tup [.int .i64 (d : Int), .int .i64 0] := by
  have h : ∃ d, d < n ∧ pr d ∧ ∀ j, j < d → ¬ pr j := ⟨d, hd, hp, hno⟩
  have : h.choose = d := by
    obtain ⟨_, h2, h3⟩ := h.choose_spec
    rcases Nat.lt_trichotomy h.choose d with q | q | q
    · exact absurd h2 (hno _ q)
    · exact q
    · exact absurd hp (h3 _ q)
  unfold fdV
  rw [dif_pos h, this]
theorem fdV_none {pr : Nat → Prop} {n : Nat} (hno : ∀ j, j < n → ¬ pr j) : fdV pr n = .tup [.int .i64 0, .int .i64 4] := by
  unfold fdV
  rw [dif_neg fun ⟨d, h1, h2, _⟩ => hno d h1 h2]
theorem fdV_pl (pr : Nat → Prop) (n : Nat) : Pl (fdV pr n) := by unfold fdV; split <;> exact fun _ => rfl
/-- What firstDay answers. -/
noncomputable def fsV (B : RBook) (pr : Nat → Prop) : AV := if dB (bkOk B) = false then .tup [.int .i64 0, .int .i64 70] else if dB (Wn B = []) then .tup [.int .i64 0, .int .i64 72] else fdV pr B.nd
theorem fsV_no {B : RBook} {pr : Nat → Prop} (h : ¬ bkOk B) : fsV B pr = .tup [.int .i64 0, .int .i64 70] := by unfold fsV; rw [dB_ff h, if_pos rfl]
theorem fsV_false {B : RBook} {pr : Nat → Prop} (h : bkOk B) (hW : Wn B = []) : fsV B pr = .tup [.int .i64 0, .int .i64 72] := by unfold fsV; rw [dB_tt h, if_neg (by decide), dB_tt hW, if_pos rfl]
theorem fsV_ok {B : RBook} {pr : Nat → Prop} (h : bkOk B) (hW : Wn B ≠ []) : fsV B pr = fdV pr B.nd := by unfold fsV; rw [dB_tt h, if_neg (by decide), dB_ff hW, if_neg (by decide)]
theorem fsV_pl (B : RBook) (pr : Nat → Prop) : Pl (fsV B pr) := by
  unfold fsV
  split
  · exact fun _ => rfl
  · split
    · exact fun _ => rfl
    · exact fdV_pl _ _
/-- A function that tells whether something is so on a day. -/
def DayOK (B : RBook) (a1 a2 a3 : AV) (f : Nat) (pr : Nat → Prop) : Prop := ∀ (p q x d : Nat) (m : List (Nat × Option AObj)) (c : Nat), KnAt B a1 a2 a3 p q d (Wn B) m c → d < B.nd → d < 5 → ∀ fl, OkAt 0 Try.prog fl f [.agg (.ptr p 0 :: .gs x (Wn B).length :: mpsV B.nd q), .int .i64 (d : Int)] (ofM m) c (.bool (dB (pr d))) (ofM m) c
set_option format.width 260
set_option maxRecDepth 100000 in
set_option maxHeartbeats 4000000 in
theorem first_can (B : RBook) (a1 a2 a3 : AV) (h1 : IsSl a1 B.nl 0) (h2 : IsSl a2 B.nd 1) (h3 : IsSl a3 B.nk 2) (hn : B.nd ≤ 9223372036854775807) (f : Nat) (pr : Nat → Prop) (hf : DayOK B a1 a2 a3 f pr) : CanS 0 Try.prog 46 3 [bk B a1 a2 a3, .fn f [] []] [(0, some (oLa B)), (1, some (oDa B)), (2, some (oLo B))] 3 fun v _ _ => v = fsV B pr := by
  by_cases hB : bkOk B
  · by_cases hW : Wn B = []
    · rw [fsV_false hB hW]
      refine CanS.mk Try.func46 rfl rfl rfl ?_
      repeat' (first | refine RT.nil ?_ | refine sq_n ?_ | refine Tr.seq ?_ | refine Tr.region ?_ | refine Tr.cond_t rfl ?_ | refine Tr.ret ?_ | refine sq_r ?_ | (refine RT.call rfl rfl rfl (learn_false ⟨h1, h2, h3, rfl, rfl, rfl, by decide⟩ hn hB hW _) rfl rfl (Nat.le_refl _) ?_) | (refine RT.goK rfl rfl rfl rfl ?_; apply Nx.of; (first | exact S.move | exact S.assign | exact S.loadNc rfl rfl rfl rfl | exact S.neq | exact S.box | exact S.alloc rfl | exact S.extract rfl)) | (refine RT.goK0 rfl rfl rfl ?_; apply Nx.of; (first | exact S.store rfl rfl rfl rfl rfl rfl)))
      (first | refine rt_go rfl ?_)
      rfl
    · rw [fsV_ok hB hW]
      have hnd := hB.2.1.1
      refine CanS.mk Try.func46 rfl rfl rfl ?_
      repeat' (first | refine RT.nil ?_ | refine sq_n ?_ | refine Tr.seq ?_ | refine Tr.region ?_ | refine Tr.cond_f rfl ?_ | refine Tr.skip ?_ | refine Tr.block ?_ | (refine RT.call rfl rfl rfl (learn_at ⟨h1, h2, h3, rfl, rfl, rfl, by decide⟩ (fun x o hx => by have := lookM_mem hx; simp at this; omega) hn hB hW _) rfl rfl (by decide) ?_) | (refine RT.goK rfl rfl rfl rfl ?_; apply Nx.of; (first | exact S.move | exact S.assign | exact S.load1c rfl rfl rfl rfl | exact S.loadNc rfl rfl rfl rfl | exact S.fieldAddr rfl rfl rfl | exact S.neq | exact S.box | exact S.alloc rfl | exact S.nilCheck | exact S.extract rfl)) | (refine RT.goK0 rfl rfl rfl ?_; apply Nx.of; (first | exact S.store rfl rfl (kn_one _ _ _ _ _) rfl rfl rfl)) | (refine RT.goK rfl rfl rfl rfl ?_; apply Nx.of; (first | exact S.len_sl rfl rfl rfl (by assumption))))
      refine Tr.loop (fun k : Nat => stL Try.f46.ntmps [] [(1, .fn f [] []), (6, .ptr 17 0), (23, .int .i64 B.nd), (24, .int .i64 k)] ((17, some (.cells (.ptr 7 0 :: .gs 16 (Wn B).length :: mpsV B.nd 9))) :: (17, some (.cells [.nilp, .nils, .nilm, .nilm, .nilm, .nilm, .nilm])) :: knM B a1 a2 a3 4 [(3, some (.cells (bk B a1 a2 a3).cells)), (0, some (oLa B)), (1, some (oDa B)), (2, some (oLo B))]) 18) (fun k => k ≤ B.nd ∧ ∀ j, j < k → ¬ pr j) (fun k => B.nd - k) 0 ⟨Nat.zero_le _, fun j hj => absurd hj (Nat.not_lt_zero j)⟩ (Wk.temps (by decide) (by decide) (by decide) ⟨rfl, rfl, rfl, rfl, trivial⟩) (fun k ⟨hk, hno⟩ => ?_)
      by_cases hlt : k < B.nd
      · have hlt' : (k : Int) < B.nd := by omega
        have hk5 : k < 5 := by omega
        have hmx : lookM ((17, some (.cells (.ptr 7 0 :: .gs 16 (Wn B).length :: mpsV B.nd 9))) :: (17, some (.cells [.nilp, .nils, .nilm, .nilm, .nilm, .nilm, .nilm])) :: knM B a1 a2 a3 4 [(3, some (.cells (bk B a1 a2 a3).cells)), (0, some (oLa B)), (1, some (oDa B)), (2, some (oLo B))]) (9 + k) = some (rdO k (Wn B)) := by
          rw [lookM_tl (by omega), lookM_tl (by omega)]
          unfold knM
          rw [lookM_tl (by omega), lookM_tl (by omega), look_skip (fun e he => by simp at he; rcases he with rfl | rfl | rfl | rfl <;> simp <;> omega)]
          exact rds_at hlt
        by_cases hp : pr k
        · have hpv : AV.bool (dB (pr k)) = .bool true := by rw [dB_tt hp]
          repeat' (first | refine RT.nil ?_ | refine sq_n ?_ | refine Tr.seq ?_ | refine Tr.region ?_ | refine Tr.cond_t rfl ?_ | refine Tr.skip ?_ | refine Tr.ret ?_ | refine sq_r ?_ | refine Tr.block ?_ | refine blk_r ?_ | refine lp_r ?_ | (refine RT.goK rfl rfl rfl rfl ?_; refine Nx.of (S.lss_t hlt') ?_) | (refine RT.call rfl rfl rfl (val_is hpv (hf 7 9 16 k _ _ ⟨⟨h1, h2, h3, rfl, rfl, rfl, rfl, by decide, by decide⟩, hmx⟩ hlt hk5 _)) rfl rfl (Nat.le_refl _) ?_) | (refine RT.goK rfl rfl rfl rfl ?_; apply Nx.of; (first | exact S.move | exact S.assign | exact S.loadNc rfl rfl rfl rfl)))
          (first | refine rt_go rfl ?_)
          exact (fdV_at hlt hp hno).symm
        · have hpv : AV.bool (dB (pr k)) = .bool false := by rw [dB_ff hp]
          repeat' (first | refine RT.nil ?_ | refine sq_n ?_ | refine Tr.seq ?_ | refine Tr.region ?_ | refine Tr.cond_t rfl ?_ | refine Tr.cond_f rfl ?_ | refine Tr.skip ?_ | refine Tr.block ?_ | refine blk_n ?_ | (refine RT.goK rfl rfl rfl rfl ?_; refine Nx.of (S.lss_t hlt') ?_) | (refine RT.call rfl rfl rfl (val_is hpv (hf 7 9 16 k _ _ ⟨⟨h1, h2, h3, rfl, rfl, rfl, rfl, by decide, by decide⟩, hmx⟩ hlt hk5 _)) rfl rfl (Nat.le_refl _) ?_) | (refine RT.goK rfl rfl rfl rfl ?_; apply Nx.of; (first | exact S.move | exact S.assign | exact S.loadNc rfl rfl rfl rfl | exact S.add_one (by omega))))
          refine lp_n (k + 1) ⟨hlt, fun j hj => ?_⟩ (by omega) (Wk.temps (by decide) (by decide) (by decide) ⟨rfl, rfl, rfl, rfl, trivial⟩)
          rcases Nat.lt_succ_iff_lt_or_eq.1 hj with q | rfl
          · exact hno j q
          · exact hp
      · have hlt' : ¬ (k : Int) < B.nd := by omega
        repeat' (first | refine RT.nil ?_ | refine sq_n ?_ | refine Tr.seq ?_ | refine Tr.region ?_ | refine Tr.cond_f rfl ?_ | refine Tr.ret ?_ | refine Tr.exit ?_ | refine sq_x ?_ | refine blk_hit rfl ?_ | refine lp_x ?_ | (refine RT.goK rfl rfl rfl rfl ?_; refine Nx.of (S.lss_f hlt') ?_) | (refine RT.goK rfl rfl rfl rfl ?_; apply Nx.of; (first | exact S.assign)))
        (first | refine rt_go rfl ?_)
        exact (fdV_none fun j hj => hno j (by omega)).symm
  · rw [fsV_no hB]
    refine CanS.mk Try.func46 rfl rfl rfl ?_
    repeat' (first | refine RT.nil ?_ | refine sq_n ?_ | refine Tr.seq ?_ | refine Tr.region ?_ | refine Tr.cond_t rfl ?_ | refine Tr.ret ?_ | refine sq_r ?_ | (refine RT.call rfl rfl rfl (learn_no_at ⟨h1, h2, h3, rfl, rfl, rfl, by decide⟩ hn hB _ _) rfl rfl (Nat.le_refl _) ?_) | (refine RT.goK rfl rfl rfl rfl ?_; apply Nx.of; (first | exact S.move | exact S.assign | exact S.loadNc rfl rfl rfl rfl | exact S.neq | exact S.box | exact S.alloc rfl | exact S.extract rfl)) | (refine RT.goK0 rfl rfl rfl ?_; apply Nx.of; (first | exact S.store rfl rfl rfl rfl rfl rfl)))
    (first | refine rt_go rfl ?_)
    rfl
theorem first_at {B : RBook} {a1 a2 a3 : AV} {m : List (Nat × Option AObj)} {c : Nat} (h : BkIn B a1 a2 a3 m c) (hn : B.nd ≤ 9223372036854775807) (f : Nat) (pr : Nat → Prop) (hf : DayOK B a1 a2 a3 f pr) (fl : Nat) : OkAt 0 Try.prog fl 46 [bk B a1 a2 a3, .fn f [] []] (ofM m) c (fsV B pr) (ofM m) c :=
  (first_can B a1 a2 a3 h.h1 h.h2 h.h3 hn f pr hf).pure (fsV_pl _ _) (h.entry _ fun _ => rfl) fl
/-- At a day's end all layers surely are bound, or perhaps. -/
abbrev sureP (B : RBook) (d : Nat) : Prop := rdC d (Wn B) (B.nl, 0) = (Wn B).length
abbrev mayP (B : RBook) (d : Nat) : Prop := 0 < rdC d (Wn B) (B.nl, 0)
theorem dB_de {p : Prop} [Decidable p] : decide p = dB p := by
  by_cases h : p
  · rw [dB_tt h, decide_eq_true h]
  · rw [dB_ff h, decide_eq_false h]
theorem sure_ok (B : RBook) (a1 a2 a3 : AV) : DayOK B a1 a2 a3 47 (sureP B) := fun p q x d m c h hd hd5 fl => val_is (congrArg AV.bool (dB_de (p := rdC d (Wn B) (B.nl, 0) = (Wn B).length))) (surely_at h hd hd5 fl)
theorem may_ok (B : RBook) (a1 a2 a3 : AV) : DayOK B a1 a2 a3 49 (mayP B) := fun p q x d m c h hd hd5 fl => val_is (congrArg AV.bool (dB_de (p := 0 < rdC d (Wn B) (B.nl, 0)))) (may_at h hd hd5 fl)
set_option maxRecDepth 100000 in
theorem Done_can (B : RBook) (a1 a2 a3 : AV) (h1 : IsSl a1 B.nl 0) (h2 : IsSl a2 B.nd 1) (h3 : IsSl a3 B.nk 2) (hn : B.nd ≤ 9223372036854775807) : CanS 0 Try.prog 15 3 [bk B a1 a2 a3] [(0, some (oLa B)), (1, some (oDa B)), (2, some (oLo B))] 3 fun v _ _ => v = fsV B (sureP B) := by
  refine CanS.mk Try.func15 rfl rfl rfl ?_
  obtain ⟨u, w, hv⟩ : ∃ u w : Int, fsV B (sureP B) = .tup [.int .i64 u, .int .i64 w] := by
    unfold fsV fdV
    (repeat' split) <;> exact ⟨_, _, rfl⟩
  rw [hv]
  repeat' (first | refine RT.nil ?_ | refine sq_n ?_ | refine Tr.seq ?_ | refine Tr.region ?_ | refine Tr.ret ?_ | (refine RT.call rfl rfl rfl (val_is hv (first_at ⟨h1, h2, h3, rfl, rfl, rfl, by decide⟩ hn _ _ (sure_ok B a1 a2 a3) _)) rfl rfl (Nat.le_refl _) ?_) | (refine RT.goK rfl rfl rfl rfl ?_; apply Nx.of; (first | exact S.assign | exact S.loadNc rfl rfl rfl rfl | exact S.box | exact S.extract rfl)))
  (first | refine rt_go rfl ?_)
  rfl
set_option maxRecDepth 100000 in
theorem Perhaps_can (B : RBook) (a1 a2 a3 : AV) (h1 : IsSl a1 B.nl 0) (h2 : IsSl a2 B.nd 1) (h3 : IsSl a3 B.nk 2) (hn : B.nd ≤ 9223372036854775807) : CanS 0 Try.prog 17 3 [bk B a1 a2 a3] [(0, some (oLa B)), (1, some (oDa B)), (2, some (oLo B))] 3 fun v _ _ => v = fsV B (mayP B) := by
  refine CanS.mk Try.func17 rfl rfl rfl ?_
  obtain ⟨u, w, hv⟩ : ∃ u w : Int, fsV B (mayP B) = .tup [.int .i64 u, .int .i64 w] := by
    unfold fsV fdV
    (repeat' split) <;> exact ⟨_, _, rfl⟩
  rw [hv]
  repeat' (first | refine RT.nil ?_ | refine sq_n ?_ | refine Tr.seq ?_ | refine Tr.region ?_ | refine Tr.ret ?_ | (refine RT.call rfl rfl rfl (val_is hv (first_at ⟨h1, h2, h3, rfl, rfl, rfl, by decide⟩ hn _ _ (may_ok B a1 a2 a3) _)) rfl rfl (Nat.le_refl _) ?_) | (refine RT.goK rfl rfl rfl rfl ?_; apply Nx.of; (first | exact S.assign | exact S.loadNc rfl rfl rfl rfl | exact S.box | exact S.extract rfl)))
  (first | refine rt_go rfl ?_)
  rfl
theorem Done_at {B : RBook} {a1 a2 a3 : AV} {m : List (Nat × Option AObj)} {c : Nat} (h : BkIn B a1 a2 a3 m c) (hn : B.nd ≤ 9223372036854775807) (fl : Nat) : OkAt 0 Try.prog fl 15 [bk B a1 a2 a3] (ofM m) c (fsV B (sureP B)) (ofM m) c :=
  (Done_can B a1 a2 a3 h.h1 h.h2 h.h3 hn).pure (fsV_pl _ _) (h.entry [] .nil) fl
theorem Perhaps_at {B : RBook} {a1 a2 a3 : AV} {m : List (Nat × Option AObj)} {c : Nat} (h : BkIn B a1 a2 a3 m c) (hn : B.nd ≤ 9223372036854775807) (fl : Nat) : OkAt 0 Try.prog fl 17 [bk B a1 a2 a3] (ofM m) c (fsV B (mayP B)) (ofM m) c :=
  (Perhaps_can B a1 a2 a3 h.h1 h.h2 h.h3 hn).pure (fsV_pl _ _) (h.entry [] .nil) fl
end Go.Proofs.Ytjnckbefajfgbaa

/- Package roll: when all layers are bound: plain facts. -/
namespace Go.Proofs.Ytjnckbefajfgbaa
open Go Go.Ev

theorem pas_keepR {B : RBook} {t : Tru} {d j : Nat} (h : j ≠ d) : (pasT B t d).er j = t.er j := by
  have key : ∀ (u : Tru) (rb : Nat) (rr : Int), (passN B u d rb rr).er j = u.er j := fun u rb rr => by
    unfold passN
    (repeat' split) <;> exact upd_ne h
  unfold pasT
  by_cases hd : befB t d = B.nl ∧ befR t d = 0
  · rw [dB_tt hd, cond_true]
    exact upd_ne h
  · rw [dB_ff hd, cond_false, key]
    by_cases hl : t.la (befB t d).toNat = t.lo (befB t d).toNat
    · rw [dB_tt hl]; rfl
    · rw [dB_ff hl]; rfl
theorem er_keep {B : RBook} : ∀ {k d j : Nat} {t u : Tru}, u ∈ trs B k d t → j < d → u.er j = t.er j
  | 0, d, j, t, u, h, _ => by rw [List.mem_singleton.1 h]
  | k + 1, d, j, t, u, h, hj => by
    obtain ⟨n, _, sk, _, _, hu⟩ := mem_step.1 h
    rw [er_keep hu (by omega)]
    exact pas_keepR (t := (t.setW d n).setS d (sk : Int)) (by omega)
theorem trs_done {B : RBook} (hB : bkOk B) : ∀ {k d : Nat} {t u : Tru}, d + k = B.nd → LvOk B t d → u ∈ trs B k d t → ∀ j, d ≤ j → j < B.nd → u.eb j = B.nl → u.er j = 0
  | 0, d, t, u, he, _, _, j, h1, h2 => absurd h2 (by omega)
  | k + 1, d, t, u, he, hl, hu, j, hj1, hj2 => by
    obtain ⟨n, hn, sk, hs, _, hu⟩ := mem_step.1 hu
    have hnd := hB.2.1.1.2
    have hda := hB.2.1.2 d (by omega)
    unfold daOk at hda
    have hn2 : 0 ≤ n ∧ n ≤ 20 := by
      unfold ints at hn
      obtain ⟨i, hi, rfl⟩ := List.mem_map.1 hn
      have := List.mem_range.1 hi
      omega
    have hs2 : sk < 3 := List.mem_range.1 hs
    rcases Nat.lt_or_ge d j with hdj | hdj
    · exact trs_done hB (by omega) (hl.next hB (by omega) hn2 hs2) hu j (by omega) hj2
    · obtain rfl : j = d := by omega
      obtain ⟨_, _, g3, _⟩ := pas_e hB (hl.pas (show j < 5 by omega) hn2 hs2) hl.r.2
      rw [eb_keep hu (Nat.lt_succ_self j), er_keep hu (Nat.lt_succ_self j)]
      exact g3
theorem norm_er {t : Tru} {j : Nat} (h : j < 5) : (norm t).er j = t.er j := by rcases lt5 h with rfl | rfl | rfl | rfl | rfl <;> rfl
theorem wn_done {B : RBook} (hB : bkOk B) {t : Tru} (ht : t ∈ Wn B) {j : Nat} (hj : j < B.nd) : endK j t = ((B.nl : Int), 0) ↔ t.eb j = B.nl := by
  obtain ⟨u, hu, rfl⟩ := List.mem_map.1 ht
  have hnd := hB.2.1.1.2
  have := trs_done hB (k := B.nd) (d := 0) (t := tru0) (u := u) (by omega) (lv0 hB) hu j (Nat.zero_le _) hj
  unfold endK
  rw [norm_eb (show j < 5 by omega), norm_er (show j < 5 by omega)]
  exact ⟨fun h => congrArg Prod.fst h, fun h => by rw [h, this h]⟩
theorem sure_iff {B : RBook} (hB : bkOk B) {j : Nat} (hj : j < B.nd) : sureP B j ↔ ∀ t ∈ Wn B, t.eb j = B.nl := by
  unfold sureP rdC
  constructor
  · intro h t ht
    have hl : ((Wn B).filter fun t => decide (endK j t = ((B.nl : Int), 0))).length = (Wn B).length := by omega
    have := List.length_filter_eq_length_iff.1 hl t ht
    exact (wn_done hB ht hj).1 (of_decide_eq_true this)
  · intro h
    rw [List.filter_eq_self.2 fun t ht => decide_eq_true ((wn_done hB ht hj).2 (h t ht))]
theorem may_iff {B : RBook} (hB : bkOk B) {j : Nat} (hj : j < B.nd) : mayP B j ↔ ∃ t ∈ Wn B, t.eb j = B.nl := by
  unfold mayP rdC
  constructor
  · intro h
    have hp : 0 < ((Wn B).filter fun t => decide (endK j t = ((B.nl : Int), 0))).length := by omega
    obtain ⟨t, ht⟩ := List.exists_mem_of_ne_nil _ (List.length_pos_iff.1 hp)
    obtain ⟨h1, h2⟩ := List.mem_filter.1 ht
    exact ⟨t, h1, (wn_done hB h1 hj).1 (of_decide_eq_true h2)⟩
  · rintro ⟨t, h1, h2⟩
    have : t ∈ (Wn B).filter fun t => decide (endK j t = ((B.nl : Int), 0)) := List.mem_filter.2 ⟨h1, decide_eq_true ((wn_done hB h1 hj).2 h2)⟩
    have := List.length_pos_of_mem this
    omega
theorem first_case (pr : Nat → Prop) (n : Nat) : (∃ d, d < n ∧ pr d ∧ (∀ j, j < d → ¬ pr j)) ∨ ∀ j, j < n → ¬ pr j := by
  induction n with
  | zero => exact .inr fun j h => absurd h (Nat.not_lt_zero j)
  | succ n ih =>
    rcases ih with ⟨d, h1, h2, h3⟩ | h
    · exact .inl ⟨d, by omega, h2, h3⟩
    · by_cases q : pr n
      · exact .inl ⟨n, by omega, q, h⟩
      · refine .inr fun j hj => ?_
        rcases Nat.lt_succ_iff_lt_or_eq.1 hj with k | rfl
        · exact h j k
        · exact q
end Go.Proofs.Ytjnckbefajfgbaa

/- Package roll: Bound, Done, Perhaps of a book whose lists lie anywhere; what wagons and skies of two books do. -/
namespace Go.Proofs.Ytjnckbefajfgbaa
open Go Go.Ev

theorem Bound_x {B : RBook} {v1 v2 v3 : AV} {m : List (Nat × Option AObj)} {c : Nat} (h : BkX B v1 v2 v3 m c) (hn : B.nd ≤ 9223372036854775807) (d : Int) (fl : Nat) : OkAt 0 Try.prog fl 28 [bk B v1 v2 v3, .int .i64 d] (ofM m) c (spV B (dyQ B d) (fun t => t.eb d.toNat)) (ofM m) c :=
  h.use [.int .i64 d] (fun _ => rfl) (spV_pl _ _ _) (fun a1 a2 a3 i1 i2 i3 => Bound_can B a1 a2 a3 i1 i2 i3 hn d) fl
theorem Done_x {B : RBook} {v1 v2 v3 : AV} {m : List (Nat × Option AObj)} {c : Nat} (h : BkX B v1 v2 v3 m c) (hn : B.nd ≤ 9223372036854775807) (fl : Nat) : OkAt 0 Try.prog fl 15 [bk B v1 v2 v3] (ofM m) c (fsV B (sureP B)) (ofM m) c :=
  h.use [] .nil (fsV_pl _ _) (fun a1 a2 a3 i1 i2 i3 => Done_can B a1 a2 a3 i1 i2 i3 hn) fl
theorem Perhaps_x {B : RBook} {v1 v2 v3 : AV} {m : List (Nat × Option AObj)} {c : Nat} (h : BkX B v1 v2 v3 m c) (hn : B.nd ≤ 9223372036854775807) (fl : Nat) : OkAt 0 Try.prog fl 17 [bk B v1 v2 v3] (ofM m) c (fsV B (mayP B)) (ofM m) c :=
  h.use [] .nil (fsV_pl _ _) (fun a1 a2 a3 i1 i2 i3 => Perhaps_can B a1 a2 a3 i1 i2 i3 hn) fl

/-- What a day makes of a road: layers bound, wagons on the next. -/
noncomputable def stB (B : RBook) (b r n : Int) (sk : Nat) : Int := if b = B.nl ∧ r = 0 then b else if sk = 1 then rolB (B.nee b.toNat) b r n else b
noncomputable def stR (B : RBook) (b r n : Int) (sk : Nat) : Int := if b = B.nl ∧ r = 0 then r else if sk = 0 then r else if sk = 1 then rolR (B.nee b.toNat) b r n else 0
/-- A day on before which something was laid. -/
def LaOk (t : Tru) (d : Nat) : Prop := (d = 0 → noLa t ∧ t.lo 0 = 0) ∧ (1 ≤ d → 1 ≤ t.la 0)
/-- The road of a book, as far as it may be. -/
structure RdOk (B : RBook) (x y : Int) : Prop where
  b : 0 ≤ x ∧ x ≤ B.nl
  r : 0 ≤ y ∧ y ≤ 30
  z : x = B.nl → y = 0
theorem mem_ints {a b n : Int} : n ∈ ints a b ↔ a ≤ n ∧ n ≤ b := by
  unfold ints
  rw [List.mem_map]
  constructor
  · rintro ⟨k, hk, rfl⟩
    have := List.mem_range.1 hk
    omega
  · rintro ⟨h1, h2⟩
    exact ⟨(n - a).toNat, List.mem_range.2 (by omega), by omega⟩
theorem wg_bd {B : RBook} (hB : bkOk B) {d : Nat} (hd : d < B.nd) {n : Int} (hn : n ∈ ints (B.wl d) (B.wh d)) : 0 ≤ n ∧ n ≤ 20 := by
  have h1 := hB.2.1.2 d hd
  unfold daOk at h1
  have := mem_ints.1 hn
  omega
end Go.Proofs.Ytjnckbefajfgbaa

/- Package roll: Wagons, Sky. -/
namespace Go.Proofs.Ytjnckbefajfgbaa
open Go Go.Ev

set_option maxRecDepth 100000 in
set_option maxHeartbeats 4000000 in
theorem wag1_can (t : Tru) (d : Nat) (hd : d < 5) : CanS 0 Try.prog 69 2 [trV t, .ptr 1 0] [(1, some (.cells [.int .i64 (d : Int)]))] 2 fun v _ _ => v = .int .i64 (t.w d) := by
  refine CanS.mk Try.func69 rfl rfl rfl ?_
  repeat' (first | refine RT.nil ?_ | refine sq_n ?_ | refine Tr.seq ?_ | refine Tr.region ?_ | refine Tr.ret ?_ | (refine RT.goK rfl rfl rfl rfl ?_; apply Nx.of; (first | exact S.idx_arr rfl rfl rfl hd | exact S.load1c rfl rfl rfl (truC_w hd))) | (refine RT.goK rfl rfl rfl rfl ?_; apply Nx.of; (first | exact S.assign | exact S.load1c rfl rfl rfl rfl | exact S.fieldAddr rfl rfl rfl | exact S.box)))
  (first | refine rt_go rfl ?_)
  rfl
theorem wag_num (W : List Tru) (d : Nat) (hd : d < 5) : NumOK W 69 (.int .i64 (d : Int)) (fun t => t.w d) := fun t _ m c hc hm fl =>
  (wag1_can t d hd).pure (.int _ _) (Entry.nm hc (by omega) ⟨⟨hm, rfl, by omega⟩, trivial⟩ (by
    show [trV t, AV.ptr (nm 2 c 1) 0] = _
    rw [nm_lt (by omega)])) fl
set_option format.width 260
set_option maxRecDepth 100000 in
set_option maxHeartbeats 4000000 in
theorem Wagons_can (B : RBook) (a1 a2 a3 : AV) (h1 : IsSl a1 B.nl 0) (h2 : IsSl a2 B.nd 1) (h3 : IsSl a3 B.nk 2) (hn : B.nd ≤ 9223372036854775807) (d : Int) : CanS 0 Try.prog 29 3 [bk B a1 a2 a3, .int .i64 d] [(0, some (oLa B)), (1, some (oDa B)), (2, some (oLo B))] 3 fun v _ _ => v = spV B (dyQ B d) (fun t => t.w d.toNat) := by
  by_cases hB : bkOk B
  · by_cases hq : dyQ B d
    · by_cases hW : Wn B = []
      · rw [spV_false hB hq hW]
        refine CanS.mk Try.func29 rfl rfl rfl ?_
        repeat' (first | refine RT.nil ?_ | refine sq_n ?_ | refine Tr.seq ?_ | refine Tr.region ?_ | (refine RT.goK rfl rfl rfl rfl ?_; apply Nx.of; (first | exact S.assign | exact S.box | exact S.alloc rfl)))
        refine Tr.openK un29_1 (by kernel_rfl) (by kernel_rfl) (alts [dayF B a1 a2 a3 d true, lnF B a1 a2 a3 true 72]) (two_calm (dayF_calm hn (dB_tt hq)) (lnF_false hn hB hW)) ?_
        repeat' (first | (refine RD.callN rfl rfl rfl rfl rfl rfl rfl rfl rfl (fun fl' => alts_hd (one1_at ⟨_, rfl, ⟨h1, h2, h3, rfl, rfl, rfl, by decide⟩⟩ fl')) (fun _ => by refine srOk_all ?_; simp only [srOk]; (repeat' (first | exact trivial | refine And.intro ?_ ?_)); all_goals (first | (refine ⟨_, rfl, ?_⟩; (first | (simp [rfO, rfVs, rfV, bk, AV.cells, h1.rf, h2.rf, h3.rf]; done))))) ?_) | (refine RD.callN rfl rfl rfl rfl rfl rfl rfl rfl rfl (fun fl' => (alts_tl (famA_ne _ (by decide))).trans (alts_hd (one1_at ⟨_, rfl, ⟨h1, h2, h3, rfl, rfl, rfl, by decide⟩⟩ fl'))) (fun _ => by refine srOk_all ?_; simp only [srOk]; (repeat' (first | exact trivial | refine And.intro ?_ ?_)); all_goals (first | exact trivial | (refine ⟨_, rfl, ?_⟩; (first | rfl | (simp [rfO, rfVs, rfV, rfVs_flat]; done) | (simp [rfO, rfVs, rfV, bk, AV.cells, h1.rf, h2.rf, h3.rf]; done))))) ?_) | (refine RD.free rfl rfl rfl rfl rfl rfl ?_; apply Nx.of; (first | exact S.move | exact S.assign | exact S.extract rfl)) | (refine RD.new rfl rfl rfl rfl rfl rfl ?_; apply Nx.of; (first | exact S.alloc rfl)) | (refine RD.load rfl rfl rfl rfl rfl rfl rfl rfl ?_; apply Nx.of; (first | exact S.load1c rfl rfl rfl rfl | exact S.loadNc rfl rfl rfl rfl)) | (refine RD.store rfl rfl rfl rfl rfl rfl rfl ?_; apply Nx.of; (first | exact S.store rfl rfl rfl rfl rfl rfl)) | refine RD.nil ⟨Nat.le_of_ble_eq_true rfl, ?_⟩)
        repeat' (first | refine RT.nil ?_ | refine sq_n ?_ | refine Tr.seq ?_ | refine Tr.region ?_ | refine Tr.cond_t rfl ?_ | refine Tr.ret ?_ | refine sq_r ?_ | (refine RT.goK rfl rfl rfl rfl ?_; apply Nx.of; (first | exact S.move | exact S.assign | exact S.neq | exact S.build rfl rfl rfl)) | (refine RT.goK0 rfl rfl rfl ?_; apply Nx.of; (first | exact S.store rfl rfl rfl rfl rfl rfl)))
        (first | refine rt_go rfl ?_)
        rfl
      · rw [spV_ok hB hq hW]
        have hnd := hB.2.1.1.2
        have hd5 : d.toNat < 5 := by unfold dyQ at hq; omega
        obtain ⟨d', hd'⟩ := Int.eq_ofNat_of_zero_le hq.1
        subst hd'
        rw [Int.toNat_natCast] at hd5 ⊢
        refine CanS.mk Try.func29 rfl rfl rfl ?_
        repeat' (first | refine RT.nil ?_ | refine sq_n ?_ | refine Tr.seq ?_ | refine Tr.region ?_ | (refine RT.goK rfl rfl rfl rfl ?_; apply Nx.of; (first | exact S.assign | exact S.box | exact S.alloc rfl)))
        obtain ⟨d, hdd⟩ : ∃ d : Int, (d' : Int) = d := ⟨_, rfl⟩
        rw [hdd] at hq
        refine Tr.openK un29_1 (by kernel_rfl) (by kernel_rfl) (alts [dayF B a1 a2 a3 d' true, pinX 40 [bk B a1 a2 a3, .bool true] [(5, some (.cells [.int .i64 0, .int .i64 0])), (4, some (.cells [.int .i64 (d' : Int)])), (3, some (.cells (bk B a1 a2 a3).cells)), (0, some (oLa B)), (1, some (oDa B)), (2, some (oLo B))] 6 (.tup [knV B 6, .int .i64 0]) (knM B a1 a2 a3 6 [(5, some (.cells [.int .i64 0, .int .i64 0])), (4, some (.cells [.int .i64 (d' : Int)])), (3, some (.cells (bk B a1 a2 a3).cells)), (0, some (oLa B)), (1, some (oDa B)), (2, some (oLo B))]) 19]) (two_calm (dayF_calm hn (by rw [hdd]; exact dB_tt hq)) (pinX_calm (fun fl => learn_at ⟨h1, h2, h3, rfl, rfl, rfl, by decide⟩ (fun x o hx => by have := lookM_mem hx; simp at this; omega) hn hB hW fl) (fun fl => kn_good hB a1 a2 a3 6 _ fl))) ?_
        repeat' (first | (refine RD.callN rfl rfl rfl rfl rfl rfl rfl rfl rfl (fun fl' => alts_hd (one1_at ⟨_, rfl, ⟨h1, h2, h3, rfl, rfl, rfl, by decide⟩⟩ fl')) (fun _ => by refine srOk_all ?_; simp only [srOk]; (repeat' (first | exact trivial | refine And.intro ?_ ?_)); all_goals (first | (refine ⟨_, rfl, ?_⟩; (first | (simp [rfO, rfVs, rfV, bk, AV.cells, h1.rf, h2.rf, h3.rf]; done))))) ?_) | (refine RD.callX rfl rfl rfl rfl rfl rfl rfl rfl rfl (fun fl' => (alts_tl (famA_ne _ (by decide))).trans (alts_hd (pinX_at _ _ _ _ _ _ _ fl'))) (fun _ => by refine srOkX_all ?_; simp only [srOkX]; (repeat' (first | exact trivial | refine And.intro ?_ ?_)); all_goals (first | exact trivial | (refine ⟨_, rfl, rfl, ?_⟩; (first | rfl | (simp [rfO, rfVs, rfV, rfVs_flat]; done) | (simp [rfO, rfVs, rfV, bk, AV.cells, h1.rf, h2.rf, h3.rf]; done))))) ?_) | (refine RD.free rfl rfl rfl rfl rfl rfl ?_; apply Nx.of; (first | exact S.move | exact S.assign | exact S.extract rfl)) | (refine RD.new rfl rfl rfl rfl rfl rfl ?_; apply Nx.of; (first | exact S.alloc rfl)) | (refine RD.load rfl rfl rfl rfl rfl rfl rfl rfl ?_; apply Nx.of; (first | exact S.load1c rfl rfl rfl rfl | exact S.loadNc rfl rfl rfl rfl)) | (refine RD.store rfl rfl rfl rfl rfl rfl rfl ?_; apply Nx.of; (first | exact S.store rfl rfl (kn_one _ _ _ _ _) rfl rfl rfl)) | refine RD.nil ⟨Nat.le_of_ble_eq_true rfl, ?_⟩)
        repeat' (first | refine RT.nil ?_ | refine sq_n ?_ | refine Tr.seq ?_ | refine Tr.region ?_ | refine Tr.cond_f rfl ?_ | refine Tr.skip ?_ | refine Tr.ret ?_ | (refine RT.call rfl rfl rfl (span_at (x := 18) (z := 4) rfl rfl hW (Wn_len hB) _ _ (wag_num _ _ hd5) _) rfl rfl (Nat.le_refl _) ?_) | (refine RT.goK rfl rfl rfl rfl ?_; apply Nx.of; (first | exact S.move | exact S.assign | exact S.loadNc rfl rfl rfl rfl | exact S.neq | exact S.makeFunc)) | (refine RT.goK0 rfl rfl rfl ?_; apply Nx.of; (first | exact S.store rfl rfl rfl rfl rfl rfl)))
        (first | refine rt_go rfl ?_)
        rfl
    · rw [spV_ask hB hq]
      refine CanS.mk Try.func29 rfl rfl rfl ?_
      repeat' (first | refine RT.nil ?_ | refine sq_n ?_ | refine Tr.seq ?_ | refine Tr.region ?_ | (refine RT.goK rfl rfl rfl rfl ?_; apply Nx.of; (first | exact S.assign | exact S.box | exact S.alloc rfl)))
      refine Tr.openK un29_1 (by kernel_rfl) (by kernel_rfl) (alts [dayF B a1 a2 a3 d false, lnF B a1 a2 a3 false 71]) (two_calm (dayF_calm hn (dB_ff hq)) (lnF_ask hn hB)) ?_
      repeat' (first | (refine RD.callN rfl rfl rfl rfl rfl rfl rfl rfl rfl (fun fl' => alts_hd (one1_at ⟨_, rfl, ⟨h1, h2, h3, rfl, rfl, rfl, by decide⟩⟩ fl')) (fun _ => by refine srOk_all ?_; simp only [srOk]; (repeat' (first | exact trivial | refine And.intro ?_ ?_)); all_goals (first | (refine ⟨_, rfl, ?_⟩; (first | (simp [rfO, rfVs, rfV, bk, AV.cells, h1.rf, h2.rf, h3.rf]; done))))) ?_) | (refine RD.callN rfl rfl rfl rfl rfl rfl rfl rfl rfl (fun fl' => (alts_tl (famA_ne _ (by decide))).trans (alts_hd (one1_at ⟨_, rfl, ⟨h1, h2, h3, rfl, rfl, rfl, by decide⟩⟩ fl'))) (fun _ => by refine srOk_all ?_; simp only [srOk]; (repeat' (first | exact trivial | refine And.intro ?_ ?_)); all_goals (first | exact trivial | (refine ⟨_, rfl, ?_⟩; (first | rfl | (simp [rfO, rfVs, rfV, rfVs_flat]; done) | (simp [rfO, rfVs, rfV, bk, AV.cells, h1.rf, h2.rf, h3.rf]; done))))) ?_) | (refine RD.free rfl rfl rfl rfl rfl rfl ?_; apply Nx.of; (first | exact S.move | exact S.assign | exact S.extract rfl)) | (refine RD.new rfl rfl rfl rfl rfl rfl ?_; apply Nx.of; (first | exact S.alloc rfl)) | (refine RD.load rfl rfl rfl rfl rfl rfl rfl rfl ?_; apply Nx.of; (first | exact S.load1c rfl rfl rfl rfl | exact S.loadNc rfl rfl rfl rfl)) | (refine RD.store rfl rfl rfl rfl rfl rfl rfl ?_; apply Nx.of; (first | exact S.store rfl rfl rfl rfl rfl rfl)) | refine RD.nil ⟨Nat.le_of_ble_eq_true rfl, ?_⟩)
      repeat' (first | refine RT.nil ?_ | refine sq_n ?_ | refine Tr.seq ?_ | refine Tr.region ?_ | refine Tr.cond_t rfl ?_ | refine Tr.ret ?_ | refine sq_r ?_ | (refine RT.goK rfl rfl rfl rfl ?_; apply Nx.of; (first | exact S.move | exact S.assign | exact S.neq | exact S.build rfl rfl rfl)) | (refine RT.goK0 rfl rfl rfl ?_; apply Nx.of; (first | exact S.store rfl rfl rfl rfl rfl rfl)))
      (first | refine rt_go rfl ?_)
      rfl
  · rw [spV_no hB]
    refine CanS.mk Try.func29 rfl rfl rfl ?_
    repeat' (first | refine RT.nil ?_ | refine sq_n ?_ | refine Tr.seq ?_ | refine Tr.region ?_ | (refine RT.goK rfl rfl rfl rfl ?_; apply Nx.of; (first | exact S.assign | exact S.box | exact S.alloc rfl)))
    obtain ⟨q, hq⟩ : ∃ q, dB (dyQ B d) = q := ⟨_, rfl⟩
    refine Tr.openK un29_1 (by kernel_rfl) (by kernel_rfl) (alts [dayF B a1 a2 a3 d q, lnF B a1 a2 a3 q 70]) (two_calm (dayF_calm hn hq) (lnF_no hn hB q)) ?_
    repeat' (first | (refine RD.callN rfl rfl rfl rfl rfl rfl rfl rfl rfl (fun fl' => alts_hd (one1_at ⟨_, rfl, ⟨h1, h2, h3, rfl, rfl, rfl, by decide⟩⟩ fl')) (fun _ => by refine srOk_all ?_; simp only [srOk]; (repeat' (first | exact trivial | refine And.intro ?_ ?_)); all_goals (first | (refine ⟨_, rfl, ?_⟩; (first | (simp [rfO, rfVs, rfV, bk, AV.cells, h1.rf, h2.rf, h3.rf]; done))))) ?_) | (refine RD.callN rfl rfl rfl rfl rfl rfl rfl rfl rfl (fun fl' => (alts_tl (famA_ne _ (by decide))).trans (alts_hd (one1_at ⟨_, rfl, ⟨h1, h2, h3, rfl, rfl, rfl, by decide⟩⟩ fl'))) (fun _ => by refine srOk_all ?_; simp only [srOk]; (repeat' (first | exact trivial | refine And.intro ?_ ?_)); all_goals (first | exact trivial | (refine ⟨_, rfl, ?_⟩; (first | rfl | (simp [rfO, rfVs, rfV, rfVs_flat]; done) | (simp [rfO, rfVs, rfV, bk, AV.cells, h1.rf, h2.rf, h3.rf]; done))))) ?_) | (refine RD.free rfl rfl rfl rfl rfl rfl ?_; apply Nx.of; (first | exact S.move | exact S.assign | exact S.extract rfl)) | (refine RD.new rfl rfl rfl rfl rfl rfl ?_; apply Nx.of; (first | exact S.alloc rfl)) | (refine RD.load rfl rfl rfl rfl rfl rfl rfl rfl ?_; apply Nx.of; (first | exact S.load1c rfl rfl rfl rfl | exact S.loadNc rfl rfl rfl rfl)) | (refine RD.store rfl rfl rfl rfl rfl rfl rfl ?_; apply Nx.of; (first | exact S.store rfl rfl rfl rfl rfl rfl)) | refine RD.nil ⟨Nat.le_of_ble_eq_true rfl, ?_⟩)
    repeat' (first | refine RT.nil ?_ | refine sq_n ?_ | refine Tr.seq ?_ | refine Tr.region ?_ | refine Tr.cond_t rfl ?_ | refine Tr.ret ?_ | refine sq_r ?_ | (refine RT.goK rfl rfl rfl rfl ?_; apply Nx.of; (first | exact S.move | exact S.assign | exact S.neq | exact S.build rfl rfl rfl)) | (refine RT.goK0 rfl rfl rfl ?_; apply Nx.of; (first | exact S.store rfl rfl rfl rfl rfl rfl)))
    (first | refine rt_go rfl ?_)
    rfl
theorem Wagons_at {B : RBook} {a1 a2 a3 : AV} {m : List (Nat × Option AObj)} {c : Nat} (h : BkIn B a1 a2 a3 m c) (hn : B.nd ≤ 9223372036854775807) (d : Int) (fl : Nat) : OkAt 0 Try.prog fl 29 [bk B a1 a2 a3, .int .i64 d] (ofM m) c (spV B (dyQ B d) (fun t => t.w d.toNat)) (ofM m) c :=
  (Wagons_can B a1 a2 a3 h.h1 h.h2 h.h3 hn d).pure (spV_pl _ _ _) (h.entry _ fun _ => rfl) fl
theorem Wagons_x {B : RBook} {v1 v2 v3 : AV} {m : List (Nat × Option AObj)} {c : Nat} (h : BkX B v1 v2 v3 m c) (hn : B.nd ≤ 9223372036854775807) (d : Int) (fl : Nat) : OkAt 0 Try.prog fl 29 [bk B v1 v2 v3, .int .i64 d] (ofM m) c (spV B (dyQ B d) (fun t => t.w d.toNat)) (ofM m) c :=
  h.use [.int .i64 d] (fun _ => rfl) (spV_pl _ _ _) (fun a1 a2 a3 i1 i2 i3 => Wagons_can B a1 a2 a3 i1 i2 i3 hn d) fl
end Go.Proofs.Ytjnckbefajfgbaa

/- Package roll: Sky. -/
namespace Go.Proofs.Ytjnckbefajfgbaa
open Go Go.Ev

/-- A set, number by number. -/
noncomputable def setV (p : Nat → Prop) : Nat → Int
  | 0 => 0
  | k + 1 => bif dB (p k) then orI (setV p k) (1 * 2 ^ k) else setV p k
theorem setV_3 (p : Nat → Prop) : setV p 3 = bif dB (p 2) then orI (bif dB (p 1) then orI (bif dB (p 0) then orI 0 1 else 0) 2 else bif dB (p 0) then orI 0 1 else 0) 4 else bif dB (p 1) then orI (bif dB (p 0) then orI 0 1 else 0) 2 else bif dB (p 0) then orI 0 1 else 0 := rfl
theorem setV_add {p q : Nat → Prop} {s : Nat} (hs : s < 3) (h : ∀ i, i < 3 → (q i ↔ p i ∨ i = s)) : orI (setV p 3) (1 * 2 ^ s) = setV q 3 := by
  have e : ∀ i, i < 3 → dB (q i) = (dB (p i) || decide (i = s)) := fun i hi => by
    by_cases h1 : q i
    · rw [dB_tt h1]
      rcases (h i hi).1 h1 with h2 | h2
      · rw [dB_tt h2]; rfl
      · rw [decide_eq_true h2, Bool.or_true]
    · rw [dB_ff h1, dB_ff fun k => h1 ((h i hi).2 (.inl k)), decide_eq_false fun k => h1 ((h i hi).2 (.inr k))]; rfl
  rw [setV_3, setV_3, e 0 (by omega), e 1 (by omega), e 2 (by omega)]
  generalize dB (p 0) = x
  generalize dB (p 1) = y
  generalize dB (p 2) = z
  obtain rfl | rfl | rfl : s = 0 ∨ s = 1 ∨ s = 2 := by omega
  all_goals cases x <;> cases y <;> cases z <;> decide +kernel
theorem setV_cases (p : Nat → Prop) : (0 ≤ setV p 3 ∧ setV p 3 ≤ 7) ∧ ∀ w, w < 3 → (hasP (setV p 3) w ↔ p w) := by
  by_cases h0 : p 0 <;> by_cases h1 : p 1 <;> by_cases h2 : p 2
  all_goals
    simp only [setV, h0, h1, h2, dB_tt trivial, dB_ff not_false, cond_true, cond_false]
    refine ⟨by decide +kernel, fun w hw => ?_⟩
    obtain rfl | rfl | rfl : w = 0 ∨ w = 1 ∨ w = 2 := by omega
    all_goals
      unfold hasP
      first | exact iff_of_true (by decide +kernel) (by assumption) | exact iff_of_false (by decide +kernel) (by assumption)
theorem andn_8 : ∀ s b : Fin 8, (∀ w : Fin 3, andI ((s.1 : Int).fdiv (2 ^ w.1)) 1 = 1 → andI ((b.1 : Int).fdiv (2 ^ w.1)) 1 = 1) → andnI s.1 b.1 = 0 := by decide +kernel
theorem andn_set {p q : Nat → Prop} (h : ∀ w, w < 3 → p w → q w) : andnI (setV p 3) (setV q 3) = 0 := by
  obtain ⟨⟨s0, s7⟩, hs⟩ := setV_cases p
  obtain ⟨⟨b0, b7⟩, hb⟩ := setV_cases q
  obtain ⟨s, es⟩ := Int.eq_ofNat_of_zero_le s0
  obtain ⟨b, eb⟩ := Int.eq_ofNat_of_zero_le b0
  rw [es] at hs ⊢ s7
  rw [eb] at hb ⊢ b7
  exact andn_8 ⟨s, by omega⟩ ⟨b, by omega⟩ fun w hw => (hb w.1 w.2).2 (h w.1 w.2 ((hs w.1 w.2).1 hw))
theorem setV_ne {p : Nat → Prop} {w : Nat} (hw : w < 3) (h : p w) : setV p 3 ≠ 0 := fun e => by
  have := ((setV_cases p).2 w hw).2 h
  rw [e] at this
  obtain rfl | rfl | rfl : w = 0 ∨ w = 1 ∨ w = 2 := by omega
  all_goals exact absurd this (by unfold hasP; decide +kernel)
/-- The skies that a day has. -/
def skP (d : Nat) (W : List Tru) (i : Nat) : Prop := ∃ t ∈ W, t.s d = i
noncomputable def skN (d : Nat) (W : List Tru) (k : Nat) : Int := setV (skP d (W.take k)) 3
theorem skN_succ {d k s : Nat} {W : List Tru} {t : Tru} (ht : W[k]? = some t) (he : t.s d = s) (hs : s < 3) : orI (skN d W k) (1 * 2 ^ s) = skN d W (k + 1) := by
  refine setV_add hs fun i _ => ?_
  unfold skP
  rw [take_snoc ht]
  constructor
  · rintro ⟨u, hu, e⟩
    rcases List.mem_append.1 hu with h | h
    · exact .inl ⟨u, h, e⟩
    · rw [List.mem_singleton.1 h, he] at e
      exact .inr (by omega)
  · rintro (⟨u, hu, e⟩ | rfl)
    · exact ⟨u, List.mem_append_left _ hu, e⟩
    · exact ⟨t, List.mem_append_right _ (List.mem_singleton_self _), he⟩
set_option maxRecDepth 100000 in
set_option maxHeartbeats 4000000 in
theorem skies_can (W : List Tru) (nd d : Nat) (hd : d < 5) (hlen : W.length ≤ 20000) (hsk : ∀ t ∈ W, ∃ s : Nat, s < 3 ∧ t.s d = s) : CanS 0 Try.prog 70 8 [.agg (.ptr 2 0 :: .gs 0 W.length :: mpsV nd 3), .int .i64 (d : Int)] [(0, some (oWn W))] 8 fun v _ _ => v = .int .i64 (skN d W W.length) := by
  have hs := IsSl.gs 0 W.length
  have e0 : skN d W 0 = 0 := by
    have hf : ∀ i, ¬ skP d (W.take 0) i := fun i ⟨t, ht, _⟩ => by rw [List.take_zero] at ht; cases ht
    unfold skN
    rw [setV_3, dB_ff (hf 0), dB_ff (hf 1), dB_ff (hf 2)]
    rfl
  refine CanS.mk Try.func70 rfl rfl rfl ?_
  repeat' (first | refine RT.nil ?_ | refine sq_n ?_ | refine Tr.seq ?_ | refine Tr.region ?_ | refine Tr.block ?_ | (refine RT.goK rfl rfl rfl rfl ?_; apply Nx.of; (first | exact S.move | exact S.assign | exact S.load1c rfl rfl rfl rfl | exact S.fieldAddr rfl rfl rfl | exact S.box)) | (refine RT.goK rfl rfl rfl rfl ?_; apply Nx.of; (first | exact S.len_sl rfl rfl rfl (by assumption))))
  refine Tr.loop (fun k : Nat => stL Try.f70.ntmps [] [(1, .int .i64 (d : Int)), (5, .int .i64 (skN d W k)), (9, .gs 0 W.length), (10, .int .i64 W.length), (11, .int .i64 k)] ([(8, some (.cells (.ptr 2 0 :: .gs 0 W.length :: mpsV nd 3)))] ++ [(0, some (oWn W))]) 9) (fun k => k ≤ W.length) (fun k => W.length - k) 0 (Nat.zero_le _) (by (refine Wk.same (by decide) (by decide) (by decide) (by decide) ?_ ?_ rfl; all_goals ((try simp only [allL, allM]); (repeat' (first | exact trivial | refine And.intro ?_ ?_)); all_goals (first | rfl | exact congrArg some (congrArg (AV.int .i64) (by omega)) | exact ren_grown _ _ _ _ | exact kn_ren _ (fun y hy => nm_lt (by omega)) | decide)))) (fun k hk => ?_)
  by_cases hlt : k < W.length
  · obtain ⟨tk, htk, hmk⟩ := at_some hlt
    obtain ⟨s, hs3, hss⟩ := hsk tk hmk
    have e1 := skN_succ htk hss hs3
    have hlt' : (k : Int) < W.length := by omega
    have xs : (truC tk)[0 + 5 + d * 1]? = some (.int .i64 (s : Int)) := by rw [truC_s hd, hss]
    have hs64 : In64 (1 * 2 ^ s) := by
      obtain rfl | rfl | rfl : s = 0 ∨ s = 1 ∨ s = 2 := by omega
      all_goals (unfold In64; decide)
    repeat' (first | refine RT.nil ?_ | refine sq_n ?_ | refine Tr.seq ?_ | refine Tr.region ?_ | refine Tr.cond_t rfl ?_ | refine Tr.skip ?_ | refine Tr.block ?_ | refine blk_n ?_ | (refine RT.goK rfl rfl rfl rfl ?_; (refine Nx.of (S.lss_t hlt') ?_)) | (refine RT.goK rfl rfl rfl rfl ?_; apply Nx.of; (first | exact S.idx_arr rfl rfl rfl hd | exact S.load1c rfl rfl rfl xs | exact S.shl (by omega) hs64 | exact S.or)) | (refine RT.goK rfl rfl rfl rfl ?_; apply Nx.of; (first | exact S.move | exact S.assign | exact S.fieldAddr rfl rfl rfl | exact S.alloc rfl | exact S.add_one (by omega) | exact S.rowG rfl rfl rfl (fun _ => rfl) htk rfl rfl)) | (refine RT.goK0 rfl rfl rfl ?_; apply Nx.of; (first | exact S.store rfl rfl rfl rfl rfl rfl)) | (refine RT.goK rfl rfl rfl rfl ?_; apply Nx.of; (first | exact S.idx_sl rfl rfl rfl (by assumption) (by omega))))
    refine lp_n (k + 1) hlt (by omega) (by (refine Wk.same (by decide) (by decide) (by decide) (by decide) ?_ ?_ rfl; all_goals ((try simp only [allL, allM]); (repeat' (first | exact trivial | refine And.intro ?_ ?_)); all_goals (first | rfl | exact congrArg some (congrArg (AV.int .i64) (by omega)) | exact ren_grown _ _ _ _ | exact kn_ren _ (fun y hy => nm_lt (by omega)) | decide))))
  · have hlt' : ¬ (k : Int) < W.length := by omega
    obtain rfl : k = W.length := by omega
    repeat' (first | refine RT.nil ?_ | refine sq_n ?_ | refine Tr.seq ?_ | refine Tr.region ?_ | refine Tr.cond_f rfl ?_ | refine Tr.ret ?_ | refine Tr.exit ?_ | refine sq_x ?_ | refine blk_hit rfl ?_ | refine lp_x ?_ | (refine RT.goK rfl rfl rfl rfl ?_; (refine Nx.of (S.lss_f hlt') ?_)) | (refine RT.goK rfl rfl rfl rfl ?_; apply Nx.of; (first | exact S.move | exact S.assign)))
    (first | refine rt_go rfl ?_)
    rfl
theorem skies_at {W : List Tru} {nd x p q d : Nat} {m : List (Nat × Option AObj)} {c : Nat} (mx : lookM m x = some (oWn W)) (hd : d < 5) (hlen : W.length ≤ 20000) (hsk : ∀ t ∈ W, ∃ s : Nat, s < 3 ∧ t.s d = s) (fl : Nat) :
    OkAt 0 Try.prog fl 70 [.agg (.ptr p 0 :: .gs x W.length :: mpsV nd q), .int .i64 (d : Int)] (ofM m) c (.int .i64 (skN d W W.length)) (ofM m) c := by
  let τ : Nat → Nat := tau [x, x, p, q, q + 1, q + 2, q + 3, q + 4] c
  have ha : AV.rens τ [.agg (.ptr 2 0 :: .gs 0 W.length :: mpsV nd 3), .int .i64 (d : Int)] = [.agg (.ptr p 0 :: .gs x W.length :: mpsV nd q), .int .i64 (d : Int)] := by
    have e0 : τ (3 + 0) = q + 0 := rfl
    have e1 : τ (3 + 1) = q + 1 := rfl
    have e2 : τ (3 + 2) = q + 2 := rfl
    have e3 : τ (3 + 3) = q + 3 := rfl
    have e4 : τ (3 + 4) = q + 4 := rfl
    simp only [AV.ren, AV.rens, mp_ren nd e0, mp_ren nd e1, mp_ren nd e2, mp_ren nd e3, mp_ren nd e4]
    rfl
  have low : ∀ {u : Nat} {ob : AObj}, lookM [(0, some (oWn W))] u = some ob → u = 0 := fun {u ob} hz => by
    have := lookM_mem hz
    simpa using this
  refine (skies_can W nd d hd hlen hsk).pure (.int _ _) ?_ fl
  rw [← ha]
  refine Entry.ren τ (fun g hg => by omega) (fun y hy => by show c ≤ tau _ _ _; rw [tau_ge hy]; omega) ⟨getM (mx.trans (congrArg some (ren_grown _ _ _ _).symm)), trivial⟩ (fun u u' o o' hu hu' hne => .inl fun e => ?_)
  exact hne ((low hu).trans (low hu').symm)
theorem trs_s {B : RBook} : ∀ {k d : Nat} {t u : Tru}, u ∈ trs B k d t → ∀ j, (d ≤ j → j < d + k → ∃ s : Nat, s < 3 ∧ hasP (B.sky j) s ∧ u.s j = s) ∧ (j < d → u.s j = t.s j)
  | 0, d, t, u, h, j => by
    rw [List.mem_singleton.1 h]
    exact ⟨fun h1 h2 => absurd h1 (by omega), fun _ => rfl⟩
  | k + 1, d, t, u, h, j => by
    obtain ⟨n, _, sk, hsk, ⟨hh, _⟩, hu⟩ := mem_step.1 h
    have hsk := List.mem_range.1 hsk
    have ih := trs_s hu j
    have key : (nxT B t d n sk).s = upd t.s d sk := by
      have k1 : ∀ (u : Tru) (rb : Nat) (rr : Int), (passN B u d rb rr).s = u.s := fun u rb rr => by
        unfold passN
        (repeat' split) <;> rfl
      unfold nxT pasT
      by_cases hd : befB ((t.setW d n).setS d (sk : Int)) d = B.nl ∧ befR ((t.setW d n).setS d (sk : Int)) d = 0
      · rw [dB_tt hd, cond_true]; rfl
      · rw [dB_ff hd, cond_false, k1]
        by_cases hl : ((t.setW d n).setS d (sk : Int)).la (befB ((t.setW d n).setS d (sk : Int)) d).toNat = ((t.setW d n).setS d (sk : Int)).lo (befB ((t.setW d n).setS d (sk : Int)) d).toNat
        · rw [dB_tt hl]; rfl
        · rw [dB_ff hl]; rfl
    rw [key] at ih
    refine ⟨fun h1 h2 => ?_, fun h1 => ?_⟩
    · rcases Nat.lt_or_ge d j with hj | hj
      · exact ih.1 hj (by omega)
      · obtain rfl : j = d := by omega
        exact ⟨sk, hsk, hh, (ih.2 (Nat.lt_succ_self j)).trans upd_at⟩
    · exact (ih.2 (by omega)).trans (upd_ne (by omega))
theorem norm_s {t : Tru} {j : Nat} (h : j < 5) : (norm t).s j = t.s j := by rcases lt5 h with rfl | rfl | rfl | rfl | rfl <;> rfl
theorem wn_s {B : RBook} (hB : bkOk B) {t : Tru} (ht : t ∈ Wn B) {j : Nat} (hj : j < B.nd) : ∃ s : Nat, s < 3 ∧ hasP (B.sky j) s ∧ t.s j = s := by
  obtain ⟨u, hu, rfl⟩ := List.mem_map.1 ht
  have := hB.2.1.1.2
  rw [norm_s (by omega)]
  exact (trs_s hu j).1 (Nat.zero_le _) (by omega)
/-- What Sky answers. -/
noncomputable def skyV (B : RBook) (Q : Prop) (d : Nat) : AV :=
  if dB (bkOk B) = false then .tup [.int .i64 0, .int .i64 70] else if dB Q = false then .tup [.int .i64 0, .int .i64 71] else if dB (Wn B = []) then .tup [.int .i64 0, .int .i64 72] else .tup [.int .i64 (skN d (Wn B) (Wn B).length), .int .i64 0]
theorem skyV_no {B : RBook} {Q : Prop} {d : Nat} (h : ¬ bkOk B) : skyV B Q d = .tup [.int .i64 0, .int .i64 70] := by unfold skyV; rw [dB_ff h, if_pos rfl]
theorem skyV_ask {B : RBook} {Q : Prop} {d : Nat} (h : bkOk B) (hq : ¬ Q) : skyV B Q d = .tup [.int .i64 0, .int .i64 71] := by unfold skyV; rw [dB_tt h, if_neg (by decide), dB_ff hq, if_pos rfl]
theorem skyV_false {B : RBook} {Q : Prop} {d : Nat} (h : bkOk B) (hq : Q) (hW : Wn B = []) : skyV B Q d = .tup [.int .i64 0, .int .i64 72] := by unfold skyV; rw [dB_tt h, if_neg (by decide), dB_tt hq, if_neg (by decide), dB_tt hW, if_pos rfl]
theorem skyV_ok {B : RBook} {Q : Prop} {d : Nat} (h : bkOk B) (hq : Q) (hW : Wn B ≠ []) : skyV B Q d = .tup [.int .i64 (skN d (Wn B) (Wn B).length), .int .i64 0] := by unfold skyV; rw [dB_tt h, if_neg (by decide), dB_tt hq, if_neg (by decide), dB_ff hW, if_neg (by decide)]
theorem skyV_pl (B : RBook) (Q : Prop) (d : Nat) : Pl (skyV B Q d) := by unfold skyV; (repeat' split) <;> exact fun _ => rfl
set_option format.width 260
set_option maxRecDepth 100000 in
set_option maxHeartbeats 4000000 in
theorem Sky_can (B : RBook) (a1 a2 a3 : AV) (h1 : IsSl a1 B.nl 0) (h2 : IsSl a2 B.nd 1) (h3 : IsSl a3 B.nk 2) (hn : B.nd ≤ 9223372036854775807) (d : Int) : CanS 0 Try.prog 30 3 [bk B a1 a2 a3, .int .i64 d] [(0, some (oLa B)), (1, some (oDa B)), (2, some (oLo B))] 3 fun v _ _ => v = skyV B (dyQ B d) d.toNat := by
  by_cases hB : bkOk B
  · by_cases hq : dyQ B d
    · by_cases hW : Wn B = []
      · rw [skyV_false hB hq hW]
        refine CanS.mk Try.func30 rfl rfl rfl ?_
        repeat' (first | refine RT.nil ?_ | refine sq_n ?_ | refine Tr.seq ?_ | refine Tr.region ?_ | (refine RT.goK rfl rfl rfl rfl ?_; apply Nx.of; (first | exact S.assign | exact S.box)))
        refine Tr.openK un30_1 (by kernel_rfl) (by kernel_rfl) (alts [dayF B a1 a2 a3 d true, lnF B a1 a2 a3 true 72]) (two_calm (dayF_calm hn (dB_tt hq)) (lnF_false hn hB hW)) ?_
        repeat' (first | (refine RD.callN rfl rfl rfl rfl rfl rfl rfl rfl rfl (fun fl' => alts_hd (one1_at ⟨_, rfl, ⟨h1, h2, h3, rfl, rfl, rfl, by decide⟩⟩ fl')) (fun _ => by refine srOk_all ?_; simp only [srOk]; (repeat' (first | exact trivial | refine And.intro ?_ ?_)); all_goals (first | (refine ⟨_, rfl, ?_⟩; (first | (simp [rfO, rfVs, rfV, bk, AV.cells, h1.rf, h2.rf, h3.rf]; done))))) ?_) | (refine RD.callN rfl rfl rfl rfl rfl rfl rfl rfl rfl (fun fl' => (alts_tl (famA_ne _ (by decide))).trans (alts_hd (one1_at ⟨_, rfl, ⟨h1, h2, h3, rfl, rfl, rfl, by decide⟩⟩ fl'))) (fun _ => by refine srOk_all ?_; simp only [srOk]; (repeat' (first | exact trivial | refine And.intro ?_ ?_)); all_goals (first | exact trivial | (refine ⟨_, rfl, ?_⟩; (first | rfl | (simp [rfO, rfVs, rfV, rfVs_flat]; done) | (simp [rfO, rfVs, rfV, bk, AV.cells, h1.rf, h2.rf, h3.rf]; done))))) ?_) | (refine RD.free rfl rfl rfl rfl rfl rfl ?_; apply Nx.of; (first | exact S.move | exact S.assign | exact S.extract rfl)) | (refine RD.new rfl rfl rfl rfl rfl rfl ?_; apply Nx.of; (first | exact S.alloc rfl)) | (refine RD.load rfl rfl rfl rfl rfl rfl rfl rfl ?_; apply Nx.of; (first | exact S.loadNc rfl rfl rfl rfl)) | (refine RD.store rfl rfl rfl rfl rfl rfl rfl ?_; apply Nx.of; (first | exact S.store rfl rfl rfl rfl rfl rfl)) | refine RD.nil ⟨Nat.le_of_ble_eq_true rfl, ?_⟩)
        repeat' (first | refine RT.nil ?_ | refine sq_n ?_ | refine Tr.seq ?_ | refine Tr.region ?_ | refine Tr.cond_t rfl ?_ | refine Tr.ret ?_ | refine sq_r ?_ | (refine RT.goK rfl rfl rfl rfl ?_; apply Nx.of; (first | exact S.move | exact S.assign | exact S.neq)))
        (first | refine rt_go rfl ?_)
        rfl
      · rw [skyV_ok hB hq hW]
        have hnd := hB.2.1.1.2
        have hd5 : d.toNat < 5 := by unfold dyQ at hq; omega
        have hdn : d.toNat < B.nd := by unfold dyQ at hq; omega
        obtain ⟨d', hd'⟩ := Int.eq_ofNat_of_zero_le hq.1
        subst hd'
        rw [Int.toNat_natCast] at hd5 hdn ⊢
        refine CanS.mk Try.func30 rfl rfl rfl ?_
        repeat' (first | refine RT.nil ?_ | refine sq_n ?_ | refine Tr.seq ?_ | refine Tr.region ?_ | (refine RT.goK rfl rfl rfl rfl ?_; apply Nx.of; (first | exact S.assign | exact S.box)))
        refine Tr.openK un30_1 (by kernel_rfl) (by kernel_rfl) (alts [dayF B a1 a2 a3 d' true, pinX 40 [bk B a1 a2 a3, .bool true] [(3, some (.cells (bk B a1 a2 a3).cells)), (0, some (oLa B)), (1, some (oDa B)), (2, some (oLo B))] 4 (.tup [knV B 4, .int .i64 0]) (knM B a1 a2 a3 4 [(3, some (.cells (bk B a1 a2 a3).cells)), (0, some (oLa B)), (1, some (oDa B)), (2, some (oLo B))]) 17]) (two_calm (dayF_calm hn (dB_tt hq)) (pinX_calm (fun fl => learn_at ⟨h1, h2, h3, rfl, rfl, rfl, by decide⟩ (fun x o hx => by have := lookM_mem hx; simp at this; omega) hn hB hW fl) (fun fl => kn_good hB a1 a2 a3 4 _ fl))) ?_
        repeat' (first | (refine RD.callN rfl rfl rfl rfl rfl rfl rfl rfl rfl (fun fl' => alts_hd (one1_at ⟨_, rfl, ⟨h1, h2, h3, rfl, rfl, rfl, by decide⟩⟩ fl')) (fun _ => by refine srOk_all ?_; simp only [srOk]; (repeat' (first | exact trivial | refine And.intro ?_ ?_)); all_goals (first | (refine ⟨_, rfl, ?_⟩; (first | (simp [rfO, rfVs, rfV, bk, AV.cells, h1.rf, h2.rf, h3.rf]; done))))) ?_) | (refine RD.callX rfl rfl rfl rfl rfl rfl rfl rfl rfl (fun fl' => (alts_tl (famA_ne _ (by decide))).trans (alts_hd (pinX_at _ _ _ _ _ _ _ fl'))) (fun _ => by refine srOkX_all ?_; simp only [srOkX]; (repeat' (first | exact trivial | refine And.intro ?_ ?_)); all_goals (first | exact trivial | (refine ⟨_, rfl, rfl, ?_⟩; (first | rfl | (simp [rfO, rfVs, rfV, rfVs_flat]; done) | (simp [rfO, rfVs, rfV, bk, AV.cells, h1.rf, h2.rf, h3.rf]; done))))) ?_) | (refine RD.free rfl rfl rfl rfl rfl rfl ?_; apply Nx.of; (first | exact S.move | exact S.assign | exact S.extract rfl)) | (refine RD.new rfl rfl rfl rfl rfl rfl ?_; apply Nx.of; (first | exact S.alloc rfl)) | (refine RD.load rfl rfl rfl rfl rfl rfl rfl rfl ?_; apply Nx.of; (first | exact S.loadNc rfl rfl rfl rfl)) | (refine RD.store rfl rfl rfl rfl rfl rfl rfl ?_; apply Nx.of; (first | exact S.store rfl rfl (kn_one _ _ _ _ _) rfl rfl rfl)) | refine RD.nil ⟨Nat.le_of_ble_eq_true rfl, ?_⟩)
        repeat' (first | refine RT.nil ?_ | refine sq_n ?_ | refine Tr.seq ?_ | refine Tr.region ?_ | refine Tr.cond_f rfl ?_ | refine Tr.skip ?_ | refine Tr.ret ?_ | (refine RT.call rfl rfl rfl (skies_at (x := 16) rfl hd5 (Wn_len hB) (fun t ht => (wn_s hB ht hdn).imp fun s h => ⟨h.1, h.2.2⟩) _) rfl rfl (Nat.le_refl _) ?_) | (refine RT.goK rfl rfl rfl rfl ?_; apply Nx.of; (first | exact S.move | exact S.assign | exact S.loadNc rfl rfl rfl rfl | exact S.neq)))
        (first | refine rt_go rfl ?_)
        rfl
    · rw [skyV_ask hB hq]
      refine CanS.mk Try.func30 rfl rfl rfl ?_
      repeat' (first | refine RT.nil ?_ | refine sq_n ?_ | refine Tr.seq ?_ | refine Tr.region ?_ | (refine RT.goK rfl rfl rfl rfl ?_; apply Nx.of; (first | exact S.assign | exact S.box)))
      refine Tr.openK un30_1 (by kernel_rfl) (by kernel_rfl) (alts [dayF B a1 a2 a3 d false, lnF B a1 a2 a3 false 71]) (two_calm (dayF_calm hn (dB_ff hq)) (lnF_ask hn hB)) ?_
      repeat' (first | (refine RD.callN rfl rfl rfl rfl rfl rfl rfl rfl rfl (fun fl' => alts_hd (one1_at ⟨_, rfl, ⟨h1, h2, h3, rfl, rfl, rfl, by decide⟩⟩ fl')) (fun _ => by refine srOk_all ?_; simp only [srOk]; (repeat' (first | exact trivial | refine And.intro ?_ ?_)); all_goals (first | (refine ⟨_, rfl, ?_⟩; (first | (simp [rfO, rfVs, rfV, bk, AV.cells, h1.rf, h2.rf, h3.rf]; done))))) ?_) | (refine RD.callN rfl rfl rfl rfl rfl rfl rfl rfl rfl (fun fl' => (alts_tl (famA_ne _ (by decide))).trans (alts_hd (one1_at ⟨_, rfl, ⟨h1, h2, h3, rfl, rfl, rfl, by decide⟩⟩ fl'))) (fun _ => by refine srOk_all ?_; simp only [srOk]; (repeat' (first | exact trivial | refine And.intro ?_ ?_)); all_goals (first | exact trivial | (refine ⟨_, rfl, ?_⟩; (first | rfl | (simp [rfO, rfVs, rfV, rfVs_flat]; done) | (simp [rfO, rfVs, rfV, bk, AV.cells, h1.rf, h2.rf, h3.rf]; done))))) ?_) | (refine RD.free rfl rfl rfl rfl rfl rfl ?_; apply Nx.of; (first | exact S.move | exact S.assign | exact S.extract rfl)) | (refine RD.new rfl rfl rfl rfl rfl rfl ?_; apply Nx.of; (first | exact S.alloc rfl)) | (refine RD.load rfl rfl rfl rfl rfl rfl rfl rfl ?_; apply Nx.of; (first | exact S.loadNc rfl rfl rfl rfl)) | (refine RD.store rfl rfl rfl rfl rfl rfl rfl ?_; apply Nx.of; (first | exact S.store rfl rfl rfl rfl rfl rfl)) | refine RD.nil ⟨Nat.le_of_ble_eq_true rfl, ?_⟩)
      repeat' (first | refine RT.nil ?_ | refine sq_n ?_ | refine Tr.seq ?_ | refine Tr.region ?_ | refine Tr.cond_t rfl ?_ | refine Tr.ret ?_ | refine sq_r ?_ | (refine RT.goK rfl rfl rfl rfl ?_; apply Nx.of; (first | exact S.move | exact S.assign | exact S.neq)))
      (first | refine rt_go rfl ?_)
      rfl
  · rw [skyV_no hB]
    refine CanS.mk Try.func30 rfl rfl rfl ?_
    repeat' (first | refine RT.nil ?_ | refine sq_n ?_ | refine Tr.seq ?_ | refine Tr.region ?_ | (refine RT.goK rfl rfl rfl rfl ?_; apply Nx.of; (first | exact S.assign | exact S.box)))
    obtain ⟨q, hq⟩ : ∃ q, dB (dyQ B d) = q := ⟨_, rfl⟩
    refine Tr.openK un30_1 (by kernel_rfl) (by kernel_rfl) (alts [dayF B a1 a2 a3 d q, lnF B a1 a2 a3 q 70]) (two_calm (dayF_calm hn hq) (lnF_no hn hB q)) ?_
    repeat' (first | (refine RD.callN rfl rfl rfl rfl rfl rfl rfl rfl rfl (fun fl' => alts_hd (one1_at ⟨_, rfl, ⟨h1, h2, h3, rfl, rfl, rfl, by decide⟩⟩ fl')) (fun _ => by refine srOk_all ?_; simp only [srOk]; (repeat' (first | exact trivial | refine And.intro ?_ ?_)); all_goals (first | (refine ⟨_, rfl, ?_⟩; (first | (simp [rfO, rfVs, rfV, bk, AV.cells, h1.rf, h2.rf, h3.rf]; done))))) ?_) | (refine RD.callN rfl rfl rfl rfl rfl rfl rfl rfl rfl (fun fl' => (alts_tl (famA_ne _ (by decide))).trans (alts_hd (one1_at ⟨_, rfl, ⟨h1, h2, h3, rfl, rfl, rfl, by decide⟩⟩ fl'))) (fun _ => by refine srOk_all ?_; simp only [srOk]; (repeat' (first | exact trivial | refine And.intro ?_ ?_)); all_goals (first | exact trivial | (refine ⟨_, rfl, ?_⟩; (first | rfl | (simp [rfO, rfVs, rfV, rfVs_flat]; done) | (simp [rfO, rfVs, rfV, bk, AV.cells, h1.rf, h2.rf, h3.rf]; done))))) ?_) | (refine RD.free rfl rfl rfl rfl rfl rfl ?_; apply Nx.of; (first | exact S.move | exact S.assign | exact S.extract rfl)) | (refine RD.new rfl rfl rfl rfl rfl rfl ?_; apply Nx.of; (first | exact S.alloc rfl)) | (refine RD.load rfl rfl rfl rfl rfl rfl rfl rfl ?_; apply Nx.of; (first | exact S.loadNc rfl rfl rfl rfl)) | (refine RD.store rfl rfl rfl rfl rfl rfl rfl ?_; apply Nx.of; (first | exact S.store rfl rfl rfl rfl rfl rfl)) | refine RD.nil ⟨Nat.le_of_ble_eq_true rfl, ?_⟩)
    repeat' (first | refine RT.nil ?_ | refine sq_n ?_ | refine Tr.seq ?_ | refine Tr.region ?_ | refine Tr.cond_t rfl ?_ | refine Tr.ret ?_ | refine sq_r ?_ | (refine RT.goK rfl rfl rfl rfl ?_; apply Nx.of; (first | exact S.move | exact S.assign | exact S.neq)))
    (first | refine rt_go rfl ?_)
    rfl
theorem Sky_x {B : RBook} {v1 v2 v3 : AV} {m : List (Nat × Option AObj)} {c : Nat} (h : BkX B v1 v2 v3 m c) (hn : B.nd ≤ 9223372036854775807) (d : Int) (fl : Nat) : OkAt 0 Try.prog fl 30 [bk B v1 v2 v3, .int .i64 d] (ofM m) c (skyV B (dyQ B d) d.toNat) (ofM m) c :=
  h.use [.int .i64 d] (fun _ => rfl) (skyV_pl _ _ _) (fun a1 a2 a3 i1 i2 i3 => Sky_can B a1 a2 a3 i1 i2 i3 hn d) fl
end Go.Proofs.Ytjnckbefajfgbaa
