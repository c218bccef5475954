/- Texts of one kind, one behind the other: Kr2, Kq3, Kr3, Kq4, Kr4, Kq5. -/
import Derived.Test.YtjnckbefajfgbaaRm4
set_option linter.unusedVariables false
set_option linter.unusedSimpArgs false
/- Package roll: add and learn, for a book of 2 days. -/
namespace Go.Proofs.Ytjnckbefajfgbaa
open Go Go.Ev
namespace Days2
def lsV : List Tru → AV
  | [] => .nils
  | _ :: ts => .gs 15 (ts.length + 1)
def lsM : List Tru → List (Nat × Option AObj)
  | [] => []
  | t :: ts => [(15, some (.grown (flat truE (t :: ts)) 28))]
theorem add_at {B : RBook} {a1 a2 a3 : AV} (h1 : IsSl a1 B.nl 0) (h2 : IsSl a2 B.nd 1) (h3 : IsSl a3 B.nk 2) (s : List Tru) (hs : s.length ≤ 20000) (t : Tru) (e : B.nd = 2) {m mr : List (Nat × Option AObj)} {c : Nat} (hc : 16 ≤ c) (g7 : lookM m 7 = some (.cells [.ptr 6 0, lsV s, .map 8, .map 9, .nilm, .nilm, .nilm])) (g8 : lookM m 8 = some (rdO 0 s)) (g9 : lookM m 9 = some (rdO 1 s)) (g6 : lookM m 6 = some (.cells (pbC B a1 a2 a3))) (k0 : lookM m 0 = some (oLa B)) (k1 : lookM m 1 = some (oDa B)) (k2 : lookM m 2 = some (oLo B)) (gl : s ≠ [] → lookM m 15 = some (.grown (flat truE s) 28))
    (hr : ∀ x o, lookM mr x = some o → (x < 7 ∨ 13 ≤ x) ∧ x < c ∧ x ≠ 15 ∧ lookM m x = some o) (fl : Nat) (hfl : fl ≤ 7) :
    OkAt 0 Try.prog fl 75 [.ptr 7 0, trV t] (ofM m) c (.tup []) (ofM ((7, some (.cells [.ptr 6 0, .gs (c + 2) (s ++ [t]).length, .map 8, .map 9, .nilm, .nilm, .nilm])) :: (8, some (rdO 0 (s ++ [t]))) :: (9, some (rdO 1 (s ++ [t]))) :: (c + 2, some (.grown (flat truE (s ++ [t])) 28)) :: mr)) (c + 3) := by
  cases s with
  | nil =>
    let τ : Nat → Nat := fun y => if y < 10 then y else c + (y - 10)
    have low : ∀ {z : Nat} {ob : AObj}, lookM [(7, some (.cells [.ptr 6 0, .nils, .map 8, .map 9, .nilm, .nilm, .nilm])), (8, some (rdO 0 [])), (9, some (rdO 1 [])), (6, some (.cells (pbC B a1 a2 a3))), (0, some (oLa B)), (1, some (oDa B)), (2, some (oLo B))] z = some ob → z = 7 ∨ z = 8 ∨ z = 9 ∨ z = 6 ∨ z = 0 ∨ z = 1 ∨ z = 2 := fun {z ob} hz => by
      have := lookM_mem hz
      simpa using this
    have ha : AV.rens τ [.ptr 7 0, trV t] = [.ptr 7 0, trV t] := rfl
    rw [← ha]
    refine CanS.inst (add_nil B a1 a2 a3 h1 h2 h3 t e) (Nat.zero_le _) (by decide) τ (fun g hg => by omega) (fun y hy => by simp only [τ]; (repeat' split) <;> omega) (fun y hy => by simp only [τ]; (repeat' split) <;> omega) (fun y o hy => ?_) (fun x y o o' hx hy hxy => .inl ?_) (fun y hy hy' => ?_) (fun v1 H1 c1 hq _ => ?_)
    · rcases low hy with rfl | rfl | rfl | rfl | rfl | rfl | rfl
      · cases hy; exact getM g7
      · cases hy; rw [rd_ren]; exact getM g8
      · cases hy; rw [rd_ren]; exact getM g9
      · cases hy; rw [pbc_ren h1 h2 h3 rfl rfl rfl]; exact getM g6
      · cases hy; rw [ren_ro]; exact getM k0
      · cases hy; rw [ren_ro]; exact getM k1
      · cases hy; rw [ren_ro]; exact getM k2
    · have q1 := low hx
      have q2 := low hy
      simp only [τ]
      (repeat' split) <;> omega
    · rcases (by omega : y = 7 ∨ y = 8 ∨ y = 9) with rfl | rfl | rfl
      all_goals exact ⟨by simp only [τ]; (repeat' split) <;> omega, _, rfl, rfl⟩
    · obtain ⟨p7, p8, p9, pl, pc, pv⟩ := hq
      refine ⟨by rw [pv]; rfl, by omega, fun x o hx => ?_⟩
      rw [ofM_get] at hx
      by_cases e7 : x = 7
      · subst e7
        rw [lookM_hd] at hx
        cases hx
        exact .inr ⟨7, _, by omega, p7, rfl, rfl⟩
      rw [lookM_tl e7] at hx
      by_cases e8 : x = 8
      · subst e8
        rw [lookM_hd] at hx
        cases hx
        exact .inr ⟨8, _, by omega, p8, rfl, (rd_ren _ _ _).symm⟩
      rw [lookM_tl e8] at hx
      by_cases e9 : x = 9
      · subst e9
        rw [lookM_hd] at hx
        cases hx
        exact .inr ⟨9, _, by omega, p9, rfl, (rd_ren _ _ _).symm⟩
      rw [lookM_tl e9] at hx
      by_cases ec : x = c + 2
      · subst ec
        rw [lookM_hd] at hx
        cases hx
        exact .inr ⟨12, _, by omega, pl, rfl, (ren_grown _ _ _ _).symm⟩
      rw [lookM_tl ec] at hx
      obtain ⟨r1, r2, r3, r4⟩ := hr x o hx
      exact .inl ⟨r2, fun y hy hy' => by simp only [τ]; (repeat' split) <;> omega, getM r4⟩
  | cons t0 ts =>
    let τ : Nat → Nat := fun y => if y < 10 then y else if y = 10 then 15 else c + (y - 11)
    have low : ∀ {z : Nat} {ob : AObj}, lookM [(10, some (.grown (flat truE (t0 :: ts)) 28)), (7, some (.cells [.ptr 6 0, .gs 10 (ts.length + 1), .map 8, .map 9, .nilm, .nilm, .nilm])), (8, some (rdO 0 (t0 :: ts))), (9, some (rdO 1 (t0 :: ts))), (6, some (.cells (pbC B a1 a2 a3))), (0, some (oLa B)), (1, some (oDa B)), (2, some (oLo B))] z = some ob → z = 10 ∨ z = 7 ∨ z = 8 ∨ z = 9 ∨ z = 6 ∨ z = 0 ∨ z = 1 ∨ z = 2 := fun {z ob} hz => by
      have := lookM_mem hz
      simpa using this
    have ha : AV.rens τ [.ptr 7 0, trV t] = [.ptr 7 0, trV t] := rfl
    rw [← ha]
    refine CanS.inst (add_cons B a1 a2 a3 h1 h2 h3 t t0 ts (by simp at hs; omega) e) (Nat.zero_le _) (by decide) τ (fun g hg => by omega) (fun y hy => by simp only [τ]; (repeat' split) <;> omega) (fun y hy => by simp only [τ]; (repeat' split) <;> omega) (fun y o hy => ?_) (fun x y o o' hx hy hxy => .inl ?_) (fun y hy hy' => ?_) (fun v1 H1 c1 hq _ => ?_)
    · rcases low hy with rfl | rfl | rfl | rfl | rfl | rfl | rfl | rfl
      · cases hy; rw [ren_grown]; exact getM (gl (by simp))
      · cases hy; exact getM g7
      · cases hy; rw [rd_ren]; exact getM g8
      · cases hy; rw [rd_ren]; exact getM g9
      · cases hy; rw [pbc_ren h1 h2 h3 rfl rfl rfl]; exact getM g6
      · cases hy; rw [ren_ro]; exact getM k0
      · cases hy; rw [ren_ro]; exact getM k1
      · cases hy; rw [ren_ro]; exact getM k2
    · have q1 := low hx
      have q2 := low hy
      simp only [τ]
      (repeat' split) <;> omega
    · rcases (by omega : y = 7 ∨ y = 8 ∨ y = 9 ∨ y = 10) with rfl | rfl | rfl | rfl
      all_goals exact ⟨by simp only [τ]; (repeat' split) <;> omega, _, rfl, rfl⟩
    · obtain ⟨p7, p8, p9, pl, pc, pv⟩ := hq
      refine ⟨by rw [pv]; rfl, by omega, fun x o hx => ?_⟩
      rw [ofM_get] at hx
      by_cases e7 : x = 7
      · subst e7
        rw [lookM_hd] at hx
        cases hx
        exact .inr ⟨7, _, by omega, p7, rfl, rfl⟩
      rw [lookM_tl e7] at hx
      by_cases e8 : x = 8
      · subst e8
        rw [lookM_hd] at hx
        cases hx
        exact .inr ⟨8, _, by omega, p8, rfl, (rd_ren _ _ _).symm⟩
      rw [lookM_tl e8] at hx
      by_cases e9 : x = 9
      · subst e9
        rw [lookM_hd] at hx
        cases hx
        exact .inr ⟨9, _, by omega, p9, rfl, (rd_ren _ _ _).symm⟩
      rw [lookM_tl e9] at hx
      by_cases ec : x = c + 2
      · subst ec
        rw [lookM_hd] at hx
        cases hx
        exact .inr ⟨13, _, by omega, pl, rfl, (ren_grown _ _ _ _).symm⟩
      rw [lookM_tl ec] at hx
      obtain ⟨r1, r2, r3, r4⟩ := hr x o hx
      exact .inl ⟨r2, fun y hy hy' => by simp only [τ]; (repeat' split) <;> omega, getM r4⟩
theorem add_rd {B : RBook} {a1 a2 a3 : AV} (h1 : IsSl a1 B.nl 0) (h2 : IsSl a2 B.nd 1) (h3 : IsSl a3 B.nk 2) (s : List Tru) (hs : s.length ≤ 20000) (t : Tru) (e : B.nd = 2) {m : List (Nat × Option AObj)} {LO : AObj} {c : Nat} (hc : 16 ≤ c) (g7 : lookM m 7 = some (.cells [.ptr 6 0, lsV s, .map 8, .map 9, .nilm, .nilm, .nilm])) (g8 : lookM m 8 = some (rdO 0 s)) (g9 : lookM m 9 = some (rdO 1 s)) (g6 : lookM m 6 = some (.cells (pbC B a1 a2 a3))) (k0 : lookM m 0 = some (oLa B)) (k1 : lookM m 1 = some (oDa B)) (k2 : lookM m 2 = some (oLo B)) (gl : s ≠ [] → lookM m 15 = some (.grown (flat truE s) 28)) (gL : lookM m 14 = some LO) (gd : lookM m 13 = some .dfr) (fl : Nat) (hfl : fl ≤ 7) :
    OkAt 0 Try.prog fl 75 [.ptr 7 0, trV t] (ofM m) c (.tup []) (ofM ((7, some (.cells [.ptr 6 0, .gs (c + 2) (s ++ [t]).length, .map 8, .map 9, .nilm, .nilm, .nilm])) :: (8, some (rdO 0 (s ++ [t]))) :: (9, some (rdO 1 (s ++ [t]))) :: (c + 2, some (.grown (flat truE (s ++ [t])) 28)) :: [(14, some LO), (6, some (.cells (pbC B a1 a2 a3))), (0, some (oLa B)), (1, some (oDa B)), (2, some (oLo B)), (13, some .dfr)])) (c + 3) :=
  add_at h1 h2 h3 s hs t e hc g7 g8 g9 g6 k0 k1 k2 gl (fun x o hx => by
    have h := lookM_mem hx
    have h : x = 14 ∨ x = 6 ∨ x = 0 ∨ x = 1 ∨ x = 2 ∨ x = 13 := by simpa using h
    rcases h with rfl | rfl | rfl | rfl | rfl | rfl
    all_goals (cases hx; exact ⟨by omega, by omega, by omega, by assumption⟩)) fl hfl
def lnM (B : RBook) (a1 a2 a3 : AV) (s : List Tru) : List (Nat × Option AObj) := [(7, some (.cells [.ptr 6 0, lsV s, .map 8, .map 9, .nilm, .nilm, .nilm])), (8, some (rdO 0 s)), (9, some (rdO 1 s)), (6, some (.cells (pbC B a1 a2 a3))), (0, some (oLa B)), (1, some (oDa B)), (2, some (oLo B)), (13, some .dfr)] ++ lsM s
set_option maxRecDepth 100000 in
set_option maxHeartbeats 8000000 in
theorem learn_yes (B : RBook) (a1 a2 a3 : AV) (h1 : IsSl a1 B.nl 0) (h2 : IsSl a2 B.nd 1) (h3 : IsSl a3 B.nk 2) (hn : B.nd ≤ 9223372036854775807) (hB : bkOk B) (e : B.nd = 2) : CanS 0 Try.prog 40 3 [bk B a1 a2 a3, .bool true] [(0, some (oLa B)), (1, some (oDa B)), (2, some (oLo B))] 3 fun v H1 c1 => (Wn B = [] ∧ v = .tup [.agg [.nilp, .nils, .nilm, .nilm, .nilm, .nilm, .nilm], .int .i64 72]) ∨
    (c1 = 16 ∧ Wn B ≠ [] ∧ v = .tup [.agg [.ptr 6 0, .gs 15 (Wn B).length, .map 8, .map 9, .nilm, .nilm, .nilm], .int .i64 0] ∧ H1.get 6 = some (.cells (pbC B a1 a2 a3)) ∧ H1.get 8 = some (rdO 0 (Wn B)) ∧ H1.get 9 = some (rdO 1 (Wn B)) ∧ H1.get 15 = some (.grown (flat truE (Wn B)) 28)) := by
  refine CanS.mk Try.func40 rfl rfl rfl ?_
  repeat' (first | refine RT.nil ?_ | refine sq_n ?_ | refine Tr.seq ?_ | refine Tr.region ?_ | refine Tr.cond_f rfl ?_ | refine Tr.skip ?_ | refine Tr.block ?_ | (refine RT.call rfl rfl rfl (Check_ok ⟨h1, h2, h3, rfl, rfl, rfl, by decide⟩ hn hB _) rfl rfl (Nat.le_refl _) ?_) | (refine RT.call rfl rfl rfl (prepare_at ⟨h1, h2, h3, rfl, rfl, rfl, by decide⟩ (fun x o hx => by have := lookM_mem hx; simp at this; omega) _) rfl rfl (by decide) ?_) | (refine RT.goK rfl rfl rfl rfl ?_; apply Nx.of; (first | exact S.neq_f (by decide))) | (refine RT.goK rfl rfl rfl rfl ?_; apply Nx.of; (first | exact S.move | exact S.assign | exact S.load1c rfl rfl rfl rfl | exact S.loadNc rfl rfl rfl rfl | exact S.fieldAddr rfl rfl rfl | exact S.not_t | exact S.box | exact S.alloc rfl | exact S.build rfl rfl rfl)) | (refine RT.goK0 rfl rfl rfl ?_; apply Nx.of; (first | exact S.store rfl rfl rfl rfl rfl rfl)) | (refine RT.goK rfl rfl rfl rfl ?_; apply Nx.of; (first | exact S.len_sl rfl rfl rfl (by assumption))))
  refine Tr.unroll 2 ?_
  repeat' (first | refine RT.nil ?_ | refine sq_n ?_ | refine Tr.seq ?_ | refine Tr.region ?_ | refine Tr.cond_d rfl (fun _ => ?_) (fun _ => ?_) | refine Tr.skip ?_ | refine Tr.exit ?_ | refine sq_x ?_ | refine Tr.block ?_ | refine blk_n ?_ | refine blk_hit rfl ?_ | refine un_n ?_ | refine un_x ?_ | (refine RT.goK rfl rfl rfl rfl ?_; apply Nx.of; (first | exact S.idx_arrI rfl rfl rfl (by decide) (by decide))) | (refine RT.goK rfl rfl rfl rfl ?_; apply Nx.of; (first | exact S.move | exact S.assign | exact S.load1c rfl rfl rfl rfl | exact S.fieldAddr rfl rfl rfl | exact S.lss | exact S.add_one (by omega) | exact S.add (by unfold In64; omega) | exact S.makeMap | exact S.makeFunc)) | (refine RT.goK0 rfl rfl rfl ?_; apply Nx.of; (first | exact S.store rfl rfl rfl rfl rfl rfl)))
  · exfalso; omega
  refine Tr.wk (Wk.by (l2 := [(4, .ptr 4 0), (5, .int .i64 0), (7, .ptr 7 0), (35, .fn 74 [.ptr 6 0] [])]) (m2 := [(7, some (.cells [.ptr 6 0, .nils, .map 8, .map 9, .nilm, .nilm, .nilm])), (8, some (rdO 0 [])), (9, some (rdO 1 [])), (4, some (.cells [.nilp, .nils, .nilm, .nilm, .nilm, .nilm, .nilm])), (6, some (.cells (pbC B a1 a2 a3))), (0, some (oLa B)), (1, some (oDa B)), (2, some (oLo B))]) (c2 := 13) (fun y => y) (by decide) (by decide) (by decide) ⟨rfl, rfl, rfl, rfl, trivial⟩ ⟨rfl, rfl, rfl, rfl, congrArg some (pbc_ren h1 h2 h3 rfl rfl rfl).symm, congrArg some (ren_ro _ _ _).symm, congrArg some (ren_ro _ _ _).symm, congrArg some (ren_ro _ _ _).symm, trivial⟩ rfl (fun x _ y _ hh => hh) (fun x hx => by omega) (fun x _ => rfl) (fun x hx => hx)) ?_
  refine Tr.rangeR (T := [0, 1, 2, 4, 6]) (NC := [7, 8, 9, 6, 0, 1, 2, 13]) (s0 := []) (M := lnM B a1 a2 a3) (ok := lnOk) (stp := lnS) (room := lnRoom) (hroom := lnRoom_ok) (lC := [(7, .ptr 7 0)]) (memT := [(0, some (oLa B)), (1, some (oDa B)), (2, some (oLo B)), (4, some (.cells [.nilp, .nils, .nilm, .nilm, .nilm, .nilm, .nilm])), (6, some (.cells (pbC B a1 a2 a3)))]) (flT := 7) (flC := 7) (cc := 16) (R := fun v m' s' => m' = [(0, some (oLa B)), (1, some (oDa B)), (2, some (oLo B)), (4, some (.cells [.nilp, .nils, .nilm, .nilm, .nilm, .nilm, .nilm])), (6, some (.cells (pbC B a1 a2 a3)))] ∧ s' = (Wn B, none)) rfl rfl (by decide) (by decide) (by decide) (by decide) (by decide) (by decide) ?_ ?_ rfl ?_ ?_ ?_ (by simp) ?_ ?_ ?_ ?_ ?_
  · exact ⟨⟨by decide, rfl, ren_ro _ _ _⟩, ⟨by decide, rfl, ren_ro _ _ _⟩, ⟨by decide, rfl, ren_ro _ _ _⟩, ⟨by decide, rfl, rfl⟩, ⟨by decide, rfl, pbc_ren h1 h2 h3 rfl rfl rfl⟩, trivial⟩
  · intro x hx
    simp only [List.mem_cons, List.not_mem_nil, or_false] at hx
    rcases hx with rfl | rfl | rfl | rfl | rfl
    all_goals exact ⟨by omega, _, rfl, fun h => by first | rfl | (exfalso; omega)⟩
  · exact ⟨⟨rfl, rfl⟩, trivial⟩
  · exact ⟨⟨by decide, .inr ⟨rfl, by decide⟩, rfl⟩, ⟨by decide, .inr ⟨rfl, by decide⟩, rd_ren _ _ _⟩, ⟨by decide, .inr ⟨rfl, by decide⟩, rd_ren _ _ _⟩, ⟨by decide, .inr ⟨rfl, by decide⟩, pbc_ren h1 h2 h3 rfl rfl rfl⟩, ⟨by decide, .inr ⟨rfl, by decide⟩, ren_ro _ _ _⟩, ⟨by decide, .inr ⟨rfl, by decide⟩, ren_ro _ _ _⟩, ⟨by decide, .inr ⟨rfl, by decide⟩, ren_ro _ _ _⟩, ⟨by decide, .inl ⟨rfl, rfl⟩, rfl⟩, trivial⟩
  · intro y hy
    simp only [List.mem_cons, List.not_mem_nil, or_false] at hy
    rcases hy with rfl | rfl | rfl | rfl | rfl | rfl | rfl | rfl
    · exact .inr (.inl ⟨by omega, by omega, by decide, _, rfl, rfl⟩)
    · exact .inr (.inl ⟨by omega, by omega, by decide, _, rfl, rfl⟩)
    · exact .inr (.inl ⟨by omega, by omega, by decide, _, rfl, rfl⟩)
    · exact .inr (.inr ⟨by omega, by omega, _, rfl⟩)
    · exact .inr (.inr ⟨by omega, by omega, _, rfl⟩)
    · exact .inr (.inr ⟨by omega, by omega, _, rfl⟩)
    · exact .inr (.inr ⟨by omega, by omega, _, rfl⟩)
    · exact .inl rfl
  · intro s y o h
    have := lookM_mem h
    cases s <;> simp [lnM, lsM] at this <;> omega
  · refine ⟨fun s args ⟨⟨t, h⟩, _⟩ => ⟨trV t, h, fun _ => rfl⟩, fun s v ⟨⟨t, h⟩, hr⟩ => ?_⟩
    cases h
    repeat' (first | refine RT.nil ?_ | refine Tr.region ?_ | (refine RT.goK rfl rfl rfl rfl ?_; apply Nx.of; (first | exact S.alloc rfl)) | (refine RT.goK0 rfl rfl rfl ?_; apply Nx.of; (first | exact S.store rfl rfl rfl rfl rfl rfl)))
    refine ⟨rfl, _, _, _, rfl, rfl, ?_⟩
    cases s with
    | nil =>
      repeat' (first | refine RT.nil ?_ | refine Tr.region ?_ | refine Tr.block ?_ | refine blk_n ?_ | (refine RT.call rfl rfl rfl (add_rd h1 h2 h3 _ (by unfold lnRoom at hr; omega) (norm t) e (by decide) rfl rfl rfl rfl rfl rfl rfl (fun hne => by first | exact absurd rfl hne) rfl rfl _ (by decide)) rfl rfl (by decide) ?_) | (refine RT.goK rfl rfl rfl rfl ?_; apply Nx.of; (first | exact S.loadNc rfl rfl rfl rfl)))
      refine ⟨rfl, Wk.by (fun y => if y = 15 then 19 else if y < 15 then y else 20 + y) (by decide) (by decide) (by decide) trivial ⟨congrArg some (lpO_ren (l := [(7, .ptr 7 0)]) ⟨rfl, trivial⟩ rfl).symm, rfl, congrArg some (rd_ren _ _ _).symm, congrArg some (rd_ren _ _ _).symm, congrArg some (pbc_ren h1 h2 h3 rfl rfl rfl).symm, congrArg some (ren_ro _ _ _).symm, congrArg some (ren_ro _ _ _).symm, congrArg some (ren_ro _ _ _).symm, rfl, congrArg some (ren_grown _ _ _ _).symm, trivial⟩ rfl (fun x hx y hy hxy e => ?_) (fun x hx => ?_) (fun x hx => ?_) (fun x hx => ?_)⟩
      · have hx' : x = 14 ∨ x = 7 ∨ x = 8 ∨ x = 9 ∨ x = 6 ∨ x = 0 ∨ x = 1 ∨ x = 2 ∨ x = 13 ∨ x = 15 := by simpa [lnM, lnS, lsM] using hx
        have hy' : y = 14 ∨ y = 7 ∨ y = 8 ∨ y = 9 ∨ y = 6 ∨ y = 0 ∨ y = 1 ∨ y = 2 ∨ y = 13 ∨ y = 15 := by simpa [lnM, lnS, lsM] using hy
        (repeat' split at e) <;> omega
      all_goals ((repeat' split) <;> omega)
    | cons t0 ts =>
      repeat' (first | refine RT.nil ?_ | refine Tr.region ?_ | refine Tr.block ?_ | refine blk_n ?_ | (refine RT.call rfl rfl rfl (add_rd h1 h2 h3 _ (by unfold lnRoom at hr; omega) (norm t) e (by decide) rfl rfl rfl rfl rfl rfl rfl (fun hne => by first | rfl) rfl rfl _ (by decide)) rfl rfl (by decide) ?_) | (refine RT.goK rfl rfl rfl rfl ?_; apply Nx.of; (first | exact S.loadNc rfl rfl rfl rfl)))
      refine ⟨rfl, Wk.by (fun y => if y = 15 then 19 else if y < 15 then y else 20 + y) (by decide) (by decide) (by decide) trivial ⟨congrArg some (lpO_ren (l := [(7, .ptr 7 0)]) ⟨rfl, trivial⟩ rfl).symm, rfl, congrArg some (rd_ren _ _ _).symm, congrArg some (rd_ren _ _ _).symm, congrArg some (pbc_ren h1 h2 h3 rfl rfl rfl).symm, congrArg some (ren_ro _ _ _).symm, congrArg some (ren_ro _ _ _).symm, congrArg some (ren_ro _ _ _).symm, rfl, congrArg some (ren_grown _ _ _ _).symm, trivial⟩ rfl (fun x hx y hy hxy e => ?_) (fun x hx => ?_) (fun x hx => ?_) (fun x hx => ?_)⟩
      · have hx' : x = 14 ∨ x = 7 ∨ x = 8 ∨ x = 9 ∨ x = 6 ∨ x = 0 ∨ x = 1 ∨ x = 2 ∨ x = 13 ∨ x = 15 := by simpa [lnM, lnS, lsM] using hx
        have hy' : y = 14 ∨ y = 7 ∨ y = 8 ∨ y = 9 ∨ y = 6 ∨ y = 0 ∨ y = 1 ∨ y = 2 ∨ y = 13 ∨ y = 15 := by simpa [lnM, lnS, lsM] using hy
        (repeat' split at e) <;> omega
      all_goals ((repeat' split) <;> omega)
  · intro ρ0 lb h hY
    refine OkJ.mono (truths_ok ⟨h1, h2, h3, rfl, rfl, rfl, rfl, by decide, by decide⟩ rfl hB hY (fun k s t hl => ⟨hl.1, ⟨t, rfl⟩, ?_⟩) ?_ 7) ?_
    · have := hl.2
      unfold lnRoom at this ⊢
      omega
    · refine ⟨rfl, ?_⟩
      have := allT_len hB.2.1
      show 0 + _ ≤ 20000
      omega
    rintro v m' s' ⟨⟨hv, hs⟩, hm⟩
    subst hm
    exact ⟨rfl, by rw [hs, foldC_rnd, foldS_ln]; rfl⟩
  · rintro v m' s' ⟨rfl, _⟩
    rfl
  · rintro v m' s' j ⟨rfl, hs⟩
    cases hs
    cases hq : Wn B with
    | nil =>
      have hs0 : IsSl .nils 0 15 := .nils _
      show blk _ _ _ _
      repeat' (first | refine RT.nil ?_ | refine sq_n ?_ | refine Tr.seq ?_ | refine Tr.region ?_ | refine Tr.cond_t rfl ?_ | refine Tr.ret ?_ | refine sq_r ?_ | refine blk_n ?_ | (refine RT.goK rfl rfl rfl rfl ?_; apply Nx.of; (first | exact S.assign | exact S.load1c rfl rfl rfl rfl | exact S.fieldAddr rfl rfl rfl | exact S.eql | exact S.build rfl rfl rfl)) | (refine RT.goK0 rfl rfl rfl ?_; apply Nx.of; (first | exact S.store rfl rfl rfl rfl rfl rfl)) | (refine RT.goK rfl rfl rfl rfl ?_; apply Nx.of; (first | exact S.len_sl rfl rfl rfl (by assumption))))
      · refine rt_goD rfl rfl rfl ?_
        exact .inl ⟨rfl, rfl⟩
    | cons t ts =>
      have hs0 : IsSl (.gs 15 (ts.length + 1)) (ts.length + 1) 15 := .gs _ _
      show blk _ _ _ _
      repeat' (first | refine RT.nil ?_ | refine sq_n ?_ | refine Tr.seq ?_ | refine Tr.region ?_ | refine Tr.cond_f rfl ?_ | refine Tr.skip ?_ | refine Tr.ret ?_ | refine blk_n ?_ | (refine RT.goK rfl rfl rfl rfl ?_; apply Nx.of; (first | exact S.assign | exact S.load1c rfl rfl rfl rfl | exact S.loadNc rfl rfl rfl rfl | exact S.fieldAddr rfl rfl rfl | exact S.eql)) | (refine RT.goK0 rfl rfl rfl ?_; apply Nx.of; (first | exact S.store rfl rfl rfl rfl rfl rfl)) | (refine RT.goK rfl rfl rfl rfl ?_; apply Nx.of; (first | exact S.len_sl rfl rfl rfl (by assumption))))
      · refine rt_goD rfl rfl rfl ?_
        exact .inr ⟨rfl, by simp, rfl, getM rfl, getM rfl, getM rfl, getM rfl⟩
  all_goals (exfalso; omega)
theorem learn_at {B : RBook} {a1 a2 a3 : AV} {m : List (Nat × Option AObj)} {c : Nat} (h : BkIn B a1 a2 a3 m c) (hm : ∀ x o, lookM m x = some o → x < c) (hn : B.nd ≤ 9223372036854775807) (hB : bkOk B) (e : B.nd = 2) (hW : Wn B ≠ []) (fl : Nat) : OkAt 0 Try.prog fl 40 [bk B a1 a2 a3, .bool true] (ofM m) c
    (.tup [.agg (.ptr (c + 3) 0 :: .gs (c + 12) (Wn B).length :: mpsV 2 (c + 5)), .int .i64 0]) (ofM ((c + 3, some (.cells (pbC B a1 a2 a3))) :: (c + 12, some (oWn (Wn B))) :: (m ++ rdsM (Wn B) (c + 5) 2))) (c + 13) := by
  let τ : Nat → Nat := fun y => if y < 3 then y else c + (y - 3)
  have hc := h.hc
  have t0 : τ 0 = 0 := rfl
  have t1 : τ 1 = 1 := rfl
  have t2 : τ 2 = 2 := rfl
  have low : ∀ {u : Nat} {ob : AObj}, lookM [(0, some (oLa B)), (1, some (oDa B)), (2, some (oLo B))] u = some ob → u = 0 ∨ u = 1 ∨ u = 2 := fun {u ob} hz => by
    have := lookM_mem hz
    simpa using this
  have ha : AV.rens τ [bk B a1 a2 a3, .bool true] = [bk B a1 a2 a3, .bool true] := by simp only [bk, AV.ren, AV.rens, h.h1.ren t0, h.h2.ren t1, h.h3.ren t2]
  rw [← ha]
  refine CanS.inst (learn_yes B a1 a2 a3 h.h1 h.h2 h.h3 hn hB e) (Nat.zero_le _) (Nat.le_refl _) τ (fun g hg => by omega) (fun y hy => by simp only [τ]; split <;> omega) (fun y hy => by simp only [τ]; split <;> omega) (fun y o hy => ?_) (fun x y o o' hx hy hxy => ?_) (fun y hy hy' => by omega) (fun v1 H1 c1 hq _ => ?_)
  · rcases low hy with rfl | rfl | rfl
    · cases hy; rw [t0, ren_ro]; exact getM h.m1
    · cases hy; rw [t1, ren_ro]; exact getM h.m2
    · cases hy; rw [t2, ren_ro]; exact getM h.m3
  · refine .inl ?_
    rcases low hx with rfl | rfl | rfl <;> rcases low hy with rfl | rfl | rfl <;> simp only [t0, t1, t2] <;> omega
  · rcases hq with ⟨hq, _⟩ | ⟨rfl, _, rfl, p6, p8, p9, pl⟩
    · exact absurd hq hW
    refine ⟨rfl, by omega, fun x o hx => ?_⟩
    rw [ofM_get] at hx
    replace hx : lookM ((c + 3, some (.cells (pbC B a1 a2 a3))) :: (c + 12, some (oWn (Wn B))) :: (m ++ [(c + 6, some (rdO 1 (Wn B))), (c + 5, some (rdO 0 (Wn B)))])) x = some o := hx
    by_cases e6 : x = c + 3
    · subst e6
      rw [lookM_hd] at hx
      cases hx
      exact .inr ⟨6, _, by omega, p6, rfl, by simp only [pbC, AObj.ren, AV.ren, AV.rens, h.h1.ren t0, h.h2.ren t1, h.h3.ren t2]⟩
    rw [lookM_tl e6] at hx
    by_cases e15 : x = c + 12
    · subst e15
      rw [lookM_hd] at hx
      cases hx
      exact .inr ⟨15, _, by omega, pl, rfl, (ren_grown _ _ _ _).symm⟩
    rw [lookM_tl e15] at hx
    rcases lookM_app hx with hx | hx
    · exact .inl ⟨hm x o hx, fun y hy hy' => by omega, getM hx⟩
    by_cases e9 : x = c + 6
    · subst e9
      rw [lookM_hd] at hx
      cases hx
      exact .inr ⟨9, _, by omega, p9, rfl, (rd_ren _ _ _).symm⟩
    rw [lookM_tl e9] at hx
    by_cases e8 : x = c + 5
    · subst e8
      rw [lookM_hd] at hx
      cases hx
      exact .inr ⟨8, _, by omega, p8, rfl, (rd_ren _ _ _).symm⟩
    rw [lookM_tl e8] at hx
    cases hx
end Days2
end Go.Proofs.Ytjnckbefajfgbaa

/- Package roll: add, for a book of 3 days. -/
namespace Go.Proofs.Ytjnckbefajfgbaa
open Go Go.Ev
namespace Days3
theorem all_two {α : Type} {p : α → Bool} {a b : α} (h : p a = true) (k : p b = true) : [a, b].all p = true := by simp [h, k]
set_option maxRecDepth 100000 in
set_option maxHeartbeats 8000000 in
theorem add_nil (B : RBook) (a1 a2 a3 : AV) (h1 : IsSl a1 B.nl 0) (h2 : IsSl a2 B.nd 1) (h3 : IsSl a3 B.nk 2) (t : Tru) (e : B.nd = 3) : CanS 0 Try.prog 75 7 [.ptr 7 0, trV t] [(7, some (.cells [.ptr 6 0, .nils, .map 8, .map 9, .map 10, .nilm, .nilm])), (8, some (rdO 0 [])), (9, some (rdO 1 [])), (10, some (rdO 2 [])), (6, some (.cells (pbC B a1 a2 a3))), (0, some (oLa B)), (1, some (oDa B)), (2, some (oLo B))] 11 fun v H1 c1 => H1.get 7 = some (.cells [.ptr 6 0, .gs 13 (([] ++ [t]).length), .map 8, .map 9, .map 10, .nilm, .nilm]) ∧ H1.get 8 = some (rdO 0 ([] ++ [t])) ∧ H1.get 9 = some (rdO 1 ([] ++ [t])) ∧ H1.get 10 = some (rdO 2 ([] ++ [t])) ∧ H1.get 13 = some (.grown (flat truE ([] ++ [t])) 28) ∧ c1 = 14 ∧ v = .tup [] := by
  refine CanS.mk Try.func75 rfl rfl rfl ?_
  repeat' (first | refine RT.nil ?_ | refine sq_n ?_ | refine Tr.seq ?_ | refine Tr.region ?_ | (refine RT.goK rfl rfl rfl rfl ?_; apply Nx.of; (first | exact S.box)))
  refine Tr.openK un75_1 (by kernel_rfl) (by kernel_rfl) noCall noCall_calm ?_
  repeat' (first | (refine RD.wide rfl rfl rfl rfl rfl rfl rfl rfl ?_; (first | refine Nx.of (S.append_nil rfl rfl rfl rfl rfl rfl rfl rfl rfl rfl rfl) ⟨rfl, ?_⟩)) | (refine RD.free rfl rfl rfl rfl rfl rfl ?_; apply Nx.of; (first | exact S.move | exact S.fieldAddr rfl rfl rfl | exact S.nilCheck)) | (refine RD.new rfl rfl rfl rfl rfl rfl ?_; apply Nx.of; (first | exact S.buildSlice rfl rfl rfl rfl rfl rfl rfl)) | (refine RD.load rfl rfl rfl rfl rfl rfl rfl rfl ?_; apply Nx.of; (first | exact S.load1c rfl rfl rfl rfl | exact S.loadNc rfl rfl rfl rfl)) | (refine RD.store rfl rfl rfl rfl rfl rfl rfl ?_; apply Nx.of; (first | exact S.store rfl rfl rfl rfl rfl rfl)) | refine RD.nil ⟨Nat.le_of_ble_eq_true rfl, ?_⟩)
  repeat' (first | refine RT.nil ?_ | refine sq_n ?_ | refine Tr.seq ?_ | refine Tr.region ?_ | refine Tr.block ?_ | (refine RT.goK rfl rfl rfl rfl ?_; apply Nx.of; (first | exact S.move | exact S.load1c rfl rfl rfl rfl | exact S.fieldAddr rfl rfl rfl | exact S.nilCheck)) | (refine RT.goK rfl rfl rfl rfl ?_; apply Nx.of; (first | exact S.len_sl rfl rfl rfl (by assumption))))
  refine Tr.unroll 3 ?_
  have hb0 := rdC_bd 0 [] (endK 0 t)
  repeat' (first | refine RT.nil ?_ | refine sq_n ?_ | refine Tr.seq ?_ | refine Tr.region ?_ | refine Tr.cond_d rfl (fun _ => ?_) (fun _ => ?_) | refine Tr.skip ?_ | refine Tr.exit ?_ | refine sq_x ?_ | refine Tr.block ?_ | refine blk_hit rfl ?_ | refine un_x ?_ | (refine RT.goK rfl rfl rfl rfl ?_; apply Nx.of; (first | exact S.move | exact S.assign | exact S.lss)))
  refine Tr.openK un75_5 (by kernel_rfl) (by kernel_rfl) noCall noCall_calm ?_
  repeat' (first | (refine RD.free rfl rfl rfl rfl rfl rfl ?_; apply Nx.of; (first | exact S.move | exact S.fieldAddr rfl rfl rfl | exact S.add_w | exact S.nilCheck | exact S.idx_arrI rfl rfl rfl (by decide) (by decide))) | (refine RD.load rfl rfl rfl rfl rfl rfl rfl rfl ?_; apply Nx.of; (first | exact S.load1c rfl rfl rfl rfl | exact S.loadNc rfl rfl rfl rfl)) | (refine RD.load rfl rfl rfl rfl rfl rfl rfl rfl ?_; (refine Nx.of (S.look0 (enc := roE) (encV := roW) (f := rdF 0 []) (L := rdK 0 []) (k := endK 0 t) roKeys rfl rfl rfl rfl (fun h => by unfold rdF; rw [rdC_0 h])) ?_)))
  refine RD.wide rfl rfl rfl rfl rfl rfl rfl rfl ?_
  refine Nx.of (S.entry (enc := roE) (encV := roW) (f := rdF 0 []) (L := rdK 0 []) (k := endK 0 t) roKeys roBits rfl rfl rfl rfl rfl (fun h => by unfold rdF; rw [rdC_0 h])) ⟨?_, ?_⟩
  · refine all_two ?_ ?_ <;> first | rfl | exact same_look (enc := roE) (encV := roW) (f := rdF 0 []) (L := insK (rdK 0 []) (endK 0 t)) (k := endK 0 t) (n := rdC 0 [] (endK 0 t)) roKeys rfl rfl rfl ins_mem rfl
  repeat' (first | (refine RD.free rfl rfl rfl rfl rfl rfl ?_; apply Nx.of; (first | exact S.extract rfl)))
  refine RD.wide0 rfl rfl rfl rfl rfl rfl rfl ?_
  refine Nx.of (S.entryStore (enc := roE) (f := rdF 0 []) (L := insK (rdK 0 []) (endK 0 t)) (k := endK 0 t) rfl rfl (ins_nodup (rdK_nodup _ _)) ins_mem (ix_ins _)) ⟨rfl, ?_⟩
  refine RD.nil ⟨Nat.le_of_ble_eq_true rfl, ?_⟩
  have hb1 := rdC_bd 1 [] (endK 1 t)
  repeat' (first | refine RT.nil ?_ | refine sq_n ?_ | refine Tr.seq ?_ | refine Tr.region ?_ | refine Tr.cond_d rfl (fun _ => ?_) (fun _ => ?_) | refine Tr.skip ?_ | refine Tr.exit ?_ | refine sq_x ?_ | refine Tr.block ?_ | refine blk_n ?_ | refine blk_hit rfl ?_ | refine un_n ?_ | refine un_x ?_ | (refine RT.goK rfl rfl rfl rfl ?_; apply Nx.of; (first | exact S.move | exact S.assign | exact S.lss | exact S.add (by unfold In64; omega))))
  refine Tr.openK un75_5 (by kernel_rfl) (by kernel_rfl) noCall noCall_calm ?_
  repeat' (first | (refine RD.free rfl rfl rfl rfl rfl rfl ?_; apply Nx.of; (first | exact S.move | exact S.fieldAddr rfl rfl rfl | exact S.add_w | exact S.nilCheck | exact S.idx_arrI rfl rfl rfl (by decide) (by decide))) | (refine RD.load rfl rfl rfl rfl rfl rfl rfl rfl ?_; apply Nx.of; (first | exact S.load1c rfl rfl rfl rfl | exact S.loadNc rfl rfl rfl rfl)) | (refine RD.load rfl rfl rfl rfl rfl rfl rfl rfl ?_; (refine Nx.of (S.look0 (enc := roE) (encV := roW) (f := rdF 1 []) (L := rdK 1 []) (k := endK 1 t) roKeys rfl rfl rfl rfl (fun h => by unfold rdF; rw [rdC_0 h])) ?_)))
  refine RD.wide rfl rfl rfl rfl rfl rfl rfl rfl ?_
  refine Nx.of (S.entry (enc := roE) (encV := roW) (f := rdF 1 []) (L := rdK 1 []) (k := endK 1 t) roKeys roBits rfl rfl rfl rfl rfl (fun h => by unfold rdF; rw [rdC_0 h])) ⟨?_, ?_⟩
  · refine all_two ?_ ?_ <;> first | rfl | exact same_look (enc := roE) (encV := roW) (f := rdF 1 []) (L := insK (rdK 1 []) (endK 1 t)) (k := endK 1 t) (n := rdC 1 [] (endK 1 t)) roKeys rfl rfl rfl ins_mem rfl
  repeat' (first | (refine RD.free rfl rfl rfl rfl rfl rfl ?_; apply Nx.of; (first | exact S.extract rfl)))
  refine RD.wide0 rfl rfl rfl rfl rfl rfl rfl ?_
  refine Nx.of (S.entryStore (enc := roE) (f := rdF 1 []) (L := insK (rdK 1 []) (endK 1 t)) (k := endK 1 t) rfl rfl (ins_nodup (rdK_nodup _ _)) ins_mem (ix_ins _)) ⟨rfl, ?_⟩
  refine RD.nil ⟨Nat.le_of_ble_eq_true rfl, ?_⟩
  have hb2 := rdC_bd 2 [] (endK 2 t)
  repeat' (first | refine RT.nil ?_ | refine sq_n ?_ | refine Tr.seq ?_ | refine Tr.region ?_ | refine Tr.cond_d rfl (fun _ => ?_) (fun _ => ?_) | refine Tr.skip ?_ | refine Tr.exit ?_ | refine sq_x ?_ | refine Tr.block ?_ | refine blk_n ?_ | refine blk_hit rfl ?_ | refine un_n ?_ | refine un_x ?_ | (refine RT.goK rfl rfl rfl rfl ?_; apply Nx.of; (first | exact S.move | exact S.assign | exact S.lss | exact S.add (by unfold In64; omega))))
  refine Tr.openK un75_5 (by kernel_rfl) (by kernel_rfl) noCall noCall_calm ?_
  repeat' (first | (refine RD.free rfl rfl rfl rfl rfl rfl ?_; apply Nx.of; (first | exact S.move | exact S.fieldAddr rfl rfl rfl | exact S.add_w | exact S.nilCheck | exact S.idx_arrI rfl rfl rfl (by decide) (by decide))) | (refine RD.load rfl rfl rfl rfl rfl rfl rfl rfl ?_; apply Nx.of; (first | exact S.load1c rfl rfl rfl rfl | exact S.loadNc rfl rfl rfl rfl)) | (refine RD.load rfl rfl rfl rfl rfl rfl rfl rfl ?_; (refine Nx.of (S.look0 (enc := roE) (encV := roW) (f := rdF 2 []) (L := rdK 2 []) (k := endK 2 t) roKeys rfl rfl rfl rfl (fun h => by unfold rdF; rw [rdC_0 h])) ?_)))
  refine RD.wide rfl rfl rfl rfl rfl rfl rfl rfl ?_
  refine Nx.of (S.entry (enc := roE) (encV := roW) (f := rdF 2 []) (L := rdK 2 []) (k := endK 2 t) roKeys roBits rfl rfl rfl rfl rfl (fun h => by unfold rdF; rw [rdC_0 h])) ⟨?_, ?_⟩
  · refine all_two ?_ ?_ <;> first | rfl | exact same_look (enc := roE) (encV := roW) (f := rdF 2 []) (L := insK (rdK 2 []) (endK 2 t)) (k := endK 2 t) (n := rdC 2 [] (endK 2 t)) roKeys rfl rfl rfl ins_mem rfl
  repeat' (first | (refine RD.free rfl rfl rfl rfl rfl rfl ?_; apply Nx.of; (first | exact S.extract rfl)))
  refine RD.wide0 rfl rfl rfl rfl rfl rfl rfl ?_
  refine Nx.of (S.entryStore (enc := roE) (f := rdF 2 []) (L := insK (rdK 2 []) (endK 2 t)) (k := endK 2 t) rfl rfl (ins_nodup (rdK_nodup _ _)) ins_mem (ix_ins _)) ⟨rfl, ?_⟩
  refine RD.nil ⟨Nat.le_of_ble_eq_true rfl, ?_⟩
  repeat' (first | refine RT.nil ?_ | refine sq_n ?_ | refine Tr.seq ?_ | refine Tr.region ?_ | refine Tr.cond_d rfl (fun _ => ?_) (fun _ => ?_) | refine Tr.skip ?_ | refine Tr.exit ?_ | refine sq_x ?_ | refine Tr.block ?_ | refine blk_n ?_ | refine blk_hit rfl ?_ | refine un_n ?_ | refine un_x ?_ | (refine RT.goK rfl rfl rfl rfl ?_; apply Nx.of; (first | exact S.move | exact S.assign | exact S.lss | exact S.add (by unfold In64; omega))))
  · exfalso; omega
  refine rt_gon rfl ?_
  · exact ⟨getM rfl, by rw [← rdO_snoc]; exact getM rfl, by rw [← rdO_snoc]; exact getM rfl, by rw [← rdO_snoc]; exact getM rfl, getM rfl, rfl, rfl⟩
  all_goals (exfalso; omega)
set_option maxRecDepth 100000 in
set_option maxHeartbeats 8000000 in
theorem add_cons (B : RBook) (a1 a2 a3 : AV) (h1 : IsSl a1 B.nl 0) (h2 : IsSl a2 B.nd 1) (h3 : IsSl a3 B.nk 2) (t : Tru) (t0 : Tru) (ts : List Tru) (hr : ts.length ≤ 20000) (e : B.nd = 3) : CanS 0 Try.prog 75 7 [.ptr 7 0, trV t] [(11, some (.grown (flat truE (t0 :: ts)) 28)), (7, some (.cells [.ptr 6 0, .gs 11 (ts.length + 1), .map 8, .map 9, .map 10, .nilm, .nilm])), (8, some (rdO 0 (t0 :: ts))), (9, some (rdO 1 (t0 :: ts))), (10, some (rdO 2 (t0 :: ts))), (6, some (.cells (pbC B a1 a2 a3))), (0, some (oLa B)), (1, some (oDa B)), (2, some (oLo B))] 12 fun v H1 c1 => H1.get 7 = some (.cells [.ptr 6 0, .gs 14 (((t0 :: ts) ++ [t]).length), .map 8, .map 9, .map 10, .nilm, .nilm]) ∧ H1.get 8 = some (rdO 0 ((t0 :: ts) ++ [t])) ∧ H1.get 9 = some (rdO 1 ((t0 :: ts) ++ [t])) ∧ H1.get 10 = some (rdO 2 ((t0 :: ts) ++ [t])) ∧ H1.get 14 = some (.grown (flat truE ((t0 :: ts) ++ [t])) 28) ∧ c1 = 15 ∧ v = .tup [] := by
  refine CanS.mk Try.func75 rfl rfl rfl ?_
  have hcut : cut (flat truE (t0 :: ts)) 0 ((ts.length + 1) * 28) = some (flat truE (t0 :: ts)) := cut_all (flat_len (s := 28) (fun _ => rfl) _)
  have hlen : (t0 :: ts).length = ts.length + 1 := rfl
  repeat' (first | refine RT.nil ?_ | refine sq_n ?_ | refine Tr.seq ?_ | refine Tr.region ?_ | (refine RT.goK rfl rfl rfl rfl ?_; apply Nx.of; (first | exact S.box)))
  refine Tr.openK un75_1 (by kernel_rfl) (by kernel_rfl) noCall noCall_calm ?_
  repeat' (first | (refine RD.wide rfl rfl rfl rfl rfl rfl rfl rfl ?_; (first | refine Nx.of (S.append_gs rfl rfl rfl rfl rfl rfl rfl rfl rfl rfl rfl rfl rfl hcut (by omega) rfl) ⟨rfl, ?_⟩)) | (refine RD.free rfl rfl rfl rfl rfl rfl ?_; apply Nx.of; (first | exact S.move | exact S.fieldAddr rfl rfl rfl | exact S.nilCheck)) | (refine RD.new rfl rfl rfl rfl rfl rfl ?_; apply Nx.of; (first | exact S.buildSlice rfl rfl rfl rfl rfl rfl rfl)) | (refine RD.load rfl rfl rfl rfl rfl rfl rfl rfl ?_; apply Nx.of; (first | exact S.load1c rfl rfl rfl rfl | exact S.loadNc rfl rfl rfl rfl)) | (refine RD.store rfl rfl rfl rfl rfl rfl rfl ?_; apply Nx.of; (first | exact S.store rfl rfl rfl rfl rfl rfl)) | refine RD.nil ⟨Nat.le_of_ble_eq_true rfl, ?_⟩)
  repeat' (first | refine RT.nil ?_ | refine sq_n ?_ | refine Tr.seq ?_ | refine Tr.region ?_ | refine Tr.block ?_ | (refine RT.goK rfl rfl rfl rfl ?_; apply Nx.of; (first | exact S.move | exact S.load1c rfl rfl rfl rfl | exact S.fieldAddr rfl rfl rfl | exact S.nilCheck)) | (refine RT.goK rfl rfl rfl rfl ?_; apply Nx.of; (first | exact S.len_sl rfl rfl rfl (by assumption))))
  refine Tr.unroll 3 ?_
  have hb0 := rdC_bd 0 (t0 :: ts) (endK 0 t)
  repeat' (first | refine RT.nil ?_ | refine sq_n ?_ | refine Tr.seq ?_ | refine Tr.region ?_ | refine Tr.cond_d rfl (fun _ => ?_) (fun _ => ?_) | refine Tr.skip ?_ | refine Tr.exit ?_ | refine sq_x ?_ | refine Tr.block ?_ | refine blk_hit rfl ?_ | refine un_x ?_ | (refine RT.goK rfl rfl rfl rfl ?_; apply Nx.of; (first | exact S.move | exact S.assign | exact S.lss)))
  refine Tr.openK un75_5 (by kernel_rfl) (by kernel_rfl) noCall noCall_calm ?_
  repeat' (first | (refine RD.free rfl rfl rfl rfl rfl rfl ?_; apply Nx.of; (first | exact S.move | exact S.fieldAddr rfl rfl rfl | exact S.add (by unfold In64; omega) | exact S.nilCheck | exact S.idx_arrI rfl rfl rfl (by decide) (by decide))) | (refine RD.load rfl rfl rfl rfl rfl rfl rfl rfl ?_; apply Nx.of; (first | exact S.load1c rfl rfl rfl rfl | exact S.loadNc rfl rfl rfl rfl)) | (refine RD.load rfl rfl rfl rfl rfl rfl rfl rfl ?_; (refine Nx.of (S.look0 (enc := roE) (encV := roW) (f := rdF 0 (t0 :: ts)) (L := rdK 0 (t0 :: ts)) (k := endK 0 t) roKeys rfl rfl rfl rfl (fun h => by unfold rdF; rw [rdC_0 h])) ?_)))
  refine RD.wide rfl rfl rfl rfl rfl rfl rfl rfl ?_
  refine Nx.of (S.entry (enc := roE) (encV := roW) (f := rdF 0 (t0 :: ts)) (L := rdK 0 (t0 :: ts)) (k := endK 0 t) roKeys roBits rfl rfl rfl rfl rfl (fun h => by unfold rdF; rw [rdC_0 h])) ⟨?_, ?_⟩
  · refine all_two ?_ ?_ <;> first | rfl | exact same_look (enc := roE) (encV := roW) (f := rdF 0 (t0 :: ts)) (L := insK (rdK 0 (t0 :: ts)) (endK 0 t)) (k := endK 0 t) (n := rdC 0 (t0 :: ts) (endK 0 t)) roKeys rfl rfl rfl ins_mem rfl
  repeat' (first | (refine RD.free rfl rfl rfl rfl rfl rfl ?_; apply Nx.of; (first | exact S.extract rfl)))
  refine RD.wide0 rfl rfl rfl rfl rfl rfl rfl ?_
  refine Nx.of (S.entryStore (enc := roE) (f := rdF 0 (t0 :: ts)) (L := insK (rdK 0 (t0 :: ts)) (endK 0 t)) (k := endK 0 t) rfl rfl (ins_nodup (rdK_nodup _ _)) ins_mem (ix_ins _)) ⟨rfl, ?_⟩
  refine RD.nil ⟨Nat.le_of_ble_eq_true rfl, ?_⟩
  have hb1 := rdC_bd 1 (t0 :: ts) (endK 1 t)
  repeat' (first | refine RT.nil ?_ | refine sq_n ?_ | refine Tr.seq ?_ | refine Tr.region ?_ | refine Tr.cond_d rfl (fun _ => ?_) (fun _ => ?_) | refine Tr.skip ?_ | refine Tr.exit ?_ | refine sq_x ?_ | refine Tr.block ?_ | refine blk_n ?_ | refine blk_hit rfl ?_ | refine un_n ?_ | refine un_x ?_ | (refine RT.goK rfl rfl rfl rfl ?_; apply Nx.of; (first | exact S.move | exact S.assign | exact S.lss | exact S.add (by unfold In64; omega))))
  refine Tr.openK un75_5 (by kernel_rfl) (by kernel_rfl) noCall noCall_calm ?_
  repeat' (first | (refine RD.free rfl rfl rfl rfl rfl rfl ?_; apply Nx.of; (first | exact S.move | exact S.fieldAddr rfl rfl rfl | exact S.add (by unfold In64; omega) | exact S.nilCheck | exact S.idx_arrI rfl rfl rfl (by decide) (by decide))) | (refine RD.load rfl rfl rfl rfl rfl rfl rfl rfl ?_; apply Nx.of; (first | exact S.load1c rfl rfl rfl rfl | exact S.loadNc rfl rfl rfl rfl)) | (refine RD.load rfl rfl rfl rfl rfl rfl rfl rfl ?_; (refine Nx.of (S.look0 (enc := roE) (encV := roW) (f := rdF 1 (t0 :: ts)) (L := rdK 1 (t0 :: ts)) (k := endK 1 t) roKeys rfl rfl rfl rfl (fun h => by unfold rdF; rw [rdC_0 h])) ?_)))
  refine RD.wide rfl rfl rfl rfl rfl rfl rfl rfl ?_
  refine Nx.of (S.entry (enc := roE) (encV := roW) (f := rdF 1 (t0 :: ts)) (L := rdK 1 (t0 :: ts)) (k := endK 1 t) roKeys roBits rfl rfl rfl rfl rfl (fun h => by unfold rdF; rw [rdC_0 h])) ⟨?_, ?_⟩
  · refine all_two ?_ ?_ <;> first | rfl | exact same_look (enc := roE) (encV := roW) (f := rdF 1 (t0 :: ts)) (L := insK (rdK 1 (t0 :: ts)) (endK 1 t)) (k := endK 1 t) (n := rdC 1 (t0 :: ts) (endK 1 t)) roKeys rfl rfl rfl ins_mem rfl
  repeat' (first | (refine RD.free rfl rfl rfl rfl rfl rfl ?_; apply Nx.of; (first | exact S.extract rfl)))
  refine RD.wide0 rfl rfl rfl rfl rfl rfl rfl ?_
  refine Nx.of (S.entryStore (enc := roE) (f := rdF 1 (t0 :: ts)) (L := insK (rdK 1 (t0 :: ts)) (endK 1 t)) (k := endK 1 t) rfl rfl (ins_nodup (rdK_nodup _ _)) ins_mem (ix_ins _)) ⟨rfl, ?_⟩
  refine RD.nil ⟨Nat.le_of_ble_eq_true rfl, ?_⟩
  have hb2 := rdC_bd 2 (t0 :: ts) (endK 2 t)
  repeat' (first | refine RT.nil ?_ | refine sq_n ?_ | refine Tr.seq ?_ | refine Tr.region ?_ | refine Tr.cond_d rfl (fun _ => ?_) (fun _ => ?_) | refine Tr.skip ?_ | refine Tr.exit ?_ | refine sq_x ?_ | refine Tr.block ?_ | refine blk_n ?_ | refine blk_hit rfl ?_ | refine un_n ?_ | refine un_x ?_ | (refine RT.goK rfl rfl rfl rfl ?_; apply Nx.of; (first | exact S.move | exact S.assign | exact S.lss | exact S.add (by unfold In64; omega))))
  refine Tr.openK un75_5 (by kernel_rfl) (by kernel_rfl) noCall noCall_calm ?_
  repeat' (first | (refine RD.free rfl rfl rfl rfl rfl rfl ?_; apply Nx.of; (first | exact S.move | exact S.fieldAddr rfl rfl rfl | exact S.add (by unfold In64; omega) | exact S.nilCheck | exact S.idx_arrI rfl rfl rfl (by decide) (by decide))) | (refine RD.load rfl rfl rfl rfl rfl rfl rfl rfl ?_; apply Nx.of; (first | exact S.load1c rfl rfl rfl rfl | exact S.loadNc rfl rfl rfl rfl)) | (refine RD.load rfl rfl rfl rfl rfl rfl rfl rfl ?_; (refine Nx.of (S.look0 (enc := roE) (encV := roW) (f := rdF 2 (t0 :: ts)) (L := rdK 2 (t0 :: ts)) (k := endK 2 t) roKeys rfl rfl rfl rfl (fun h => by unfold rdF; rw [rdC_0 h])) ?_)))
  refine RD.wide rfl rfl rfl rfl rfl rfl rfl rfl ?_
  refine Nx.of (S.entry (enc := roE) (encV := roW) (f := rdF 2 (t0 :: ts)) (L := rdK 2 (t0 :: ts)) (k := endK 2 t) roKeys roBits rfl rfl rfl rfl rfl (fun h => by unfold rdF; rw [rdC_0 h])) ⟨?_, ?_⟩
  · refine all_two ?_ ?_ <;> first | rfl | exact same_look (enc := roE) (encV := roW) (f := rdF 2 (t0 :: ts)) (L := insK (rdK 2 (t0 :: ts)) (endK 2 t)) (k := endK 2 t) (n := rdC 2 (t0 :: ts) (endK 2 t)) roKeys rfl rfl rfl ins_mem rfl
  repeat' (first | (refine RD.free rfl rfl rfl rfl rfl rfl ?_; apply Nx.of; (first | exact S.extract rfl)))
  refine RD.wide0 rfl rfl rfl rfl rfl rfl rfl ?_
  refine Nx.of (S.entryStore (enc := roE) (f := rdF 2 (t0 :: ts)) (L := insK (rdK 2 (t0 :: ts)) (endK 2 t)) (k := endK 2 t) rfl rfl (ins_nodup (rdK_nodup _ _)) ins_mem (ix_ins _)) ⟨rfl, ?_⟩
  refine RD.nil ⟨Nat.le_of_ble_eq_true rfl, ?_⟩
  repeat' (first | refine RT.nil ?_ | refine sq_n ?_ | refine Tr.seq ?_ | refine Tr.region ?_ | refine Tr.cond_d rfl (fun _ => ?_) (fun _ => ?_) | refine Tr.skip ?_ | refine Tr.exit ?_ | refine sq_x ?_ | refine Tr.block ?_ | refine blk_n ?_ | refine blk_hit rfl ?_ | refine un_n ?_ | refine un_x ?_ | (refine RT.goK rfl rfl rfl rfl ?_; apply Nx.of; (first | exact S.move | exact S.assign | exact S.lss | exact S.add (by unfold In64; omega))))
  · exfalso; omega
  refine rt_gon rfl ?_
  · exact ⟨by rw [List.length_append]; exact getM rfl, by rw [← rdO_snoc]; exact getM rfl, by rw [← rdO_snoc]; exact getM rfl, by rw [← rdO_snoc]; exact getM rfl, by rw [flat_append]; exact getM rfl, rfl, rfl⟩
  all_goals (exfalso; omega)
end Days3
end Go.Proofs.Ytjnckbefajfgbaa

/- Package roll: add and learn, for a book of 3 days. -/
namespace Go.Proofs.Ytjnckbefajfgbaa
open Go Go.Ev
namespace Days3
def lsV : List Tru → AV
  | [] => .nils
  | _ :: ts => .gs 15 (ts.length + 1)
def lsM : List Tru → List (Nat × Option AObj)
  | [] => []
  | t :: ts => [(15, some (.grown (flat truE (t :: ts)) 28))]
theorem add_at {B : RBook} {a1 a2 a3 : AV} (h1 : IsSl a1 B.nl 0) (h2 : IsSl a2 B.nd 1) (h3 : IsSl a3 B.nk 2) (s : List Tru) (hs : s.length ≤ 20000) (t : Tru) (e : B.nd = 3) {m mr : List (Nat × Option AObj)} {c : Nat} (hc : 16 ≤ c) (g7 : lookM m 7 = some (.cells [.ptr 6 0, lsV s, .map 8, .map 9, .map 10, .nilm, .nilm])) (g8 : lookM m 8 = some (rdO 0 s)) (g9 : lookM m 9 = some (rdO 1 s)) (g10 : lookM m 10 = some (rdO 2 s)) (g6 : lookM m 6 = some (.cells (pbC B a1 a2 a3))) (k0 : lookM m 0 = some (oLa B)) (k1 : lookM m 1 = some (oDa B)) (k2 : lookM m 2 = some (oLo B)) (gl : s ≠ [] → lookM m 15 = some (.grown (flat truE s) 28))
    (hr : ∀ x o, lookM mr x = some o → (x < 7 ∨ 13 ≤ x) ∧ x < c ∧ x ≠ 15 ∧ lookM m x = some o) (fl : Nat) (hfl : fl ≤ 7) :
    OkAt 0 Try.prog fl 75 [.ptr 7 0, trV t] (ofM m) c (.tup []) (ofM ((7, some (.cells [.ptr 6 0, .gs (c + 2) (s ++ [t]).length, .map 8, .map 9, .map 10, .nilm, .nilm])) :: (8, some (rdO 0 (s ++ [t]))) :: (9, some (rdO 1 (s ++ [t]))) :: (10, some (rdO 2 (s ++ [t]))) :: (c + 2, some (.grown (flat truE (s ++ [t])) 28)) :: mr)) (c + 3) := by
  cases s with
  | nil =>
    let τ : Nat → Nat := fun y => if y < 11 then y else c + (y - 11)
    have low : ∀ {z : Nat} {ob : AObj}, lookM [(7, some (.cells [.ptr 6 0, .nils, .map 8, .map 9, .map 10, .nilm, .nilm])), (8, some (rdO 0 [])), (9, some (rdO 1 [])), (10, some (rdO 2 [])), (6, some (.cells (pbC B a1 a2 a3))), (0, some (oLa B)), (1, some (oDa B)), (2, some (oLo B))] z = some ob → z = 7 ∨ z = 8 ∨ z = 9 ∨ z = 10 ∨ z = 6 ∨ z = 0 ∨ z = 1 ∨ z = 2 := fun {z ob} hz => by
      have := lookM_mem hz
      simpa using this
    have ha : AV.rens τ [.ptr 7 0, trV t] = [.ptr 7 0, trV t] := rfl
    rw [← ha]
    refine CanS.inst (add_nil B a1 a2 a3 h1 h2 h3 t e) (Nat.zero_le _) (by decide) τ (fun g hg => by omega) (fun y hy => by simp only [τ]; (repeat' split) <;> omega) (fun y hy => by simp only [τ]; (repeat' split) <;> omega) (fun y o hy => ?_) (fun x y o o' hx hy hxy => .inl ?_) (fun y hy hy' => ?_) (fun v1 H1 c1 hq _ => ?_)
    · rcases low hy with rfl | rfl | rfl | rfl | rfl | rfl | rfl | rfl
      · cases hy; exact getM g7
      · cases hy; rw [rd_ren]; exact getM g8
      · cases hy; rw [rd_ren]; exact getM g9
      · cases hy; rw [rd_ren]; exact getM g10
      · cases hy; rw [pbc_ren h1 h2 h3 rfl rfl rfl]; exact getM g6
      · cases hy; rw [ren_ro]; exact getM k0
      · cases hy; rw [ren_ro]; exact getM k1
      · cases hy; rw [ren_ro]; exact getM k2
    · have q1 := low hx
      have q2 := low hy
      simp only [τ]
      (repeat' split) <;> omega
    · rcases (by omega : y = 7 ∨ y = 8 ∨ y = 9 ∨ y = 10) with rfl | rfl | rfl | rfl
      all_goals exact ⟨by simp only [τ]; (repeat' split) <;> omega, _, rfl, rfl⟩
    · obtain ⟨p7, p8, p9, p10, pl, pc, pv⟩ := hq
      refine ⟨by rw [pv]; rfl, by omega, fun x o hx => ?_⟩
      rw [ofM_get] at hx
      by_cases e7 : x = 7
      · subst e7
        rw [lookM_hd] at hx
        cases hx
        exact .inr ⟨7, _, by omega, p7, rfl, rfl⟩
      rw [lookM_tl e7] at hx
      by_cases e8 : x = 8
      · subst e8
        rw [lookM_hd] at hx
        cases hx
        exact .inr ⟨8, _, by omega, p8, rfl, (rd_ren _ _ _).symm⟩
      rw [lookM_tl e8] at hx
      by_cases e9 : x = 9
      · subst e9
        rw [lookM_hd] at hx
        cases hx
        exact .inr ⟨9, _, by omega, p9, rfl, (rd_ren _ _ _).symm⟩
      rw [lookM_tl e9] at hx
      by_cases e10 : x = 10
      · subst e10
        rw [lookM_hd] at hx
        cases hx
        exact .inr ⟨10, _, by omega, p10, rfl, (rd_ren _ _ _).symm⟩
      rw [lookM_tl e10] at hx
      by_cases ec : x = c + 2
      · subst ec
        rw [lookM_hd] at hx
        cases hx
        exact .inr ⟨13, _, by omega, pl, rfl, (ren_grown _ _ _ _).symm⟩
      rw [lookM_tl ec] at hx
      obtain ⟨r1, r2, r3, r4⟩ := hr x o hx
      exact .inl ⟨r2, fun y hy hy' => by simp only [τ]; (repeat' split) <;> omega, getM r4⟩
  | cons t0 ts =>
    let τ : Nat → Nat := fun y => if y < 11 then y else if y = 11 then 15 else c + (y - 12)
    have low : ∀ {z : Nat} {ob : AObj}, lookM [(11, some (.grown (flat truE (t0 :: ts)) 28)), (7, some (.cells [.ptr 6 0, .gs 11 (ts.length + 1), .map 8, .map 9, .map 10, .nilm, .nilm])), (8, some (rdO 0 (t0 :: ts))), (9, some (rdO 1 (t0 :: ts))), (10, some (rdO 2 (t0 :: ts))), (6, some (.cells (pbC B a1 a2 a3))), (0, some (oLa B)), (1, some (oDa B)), (2, some (oLo B))] z = some ob → z = 11 ∨ z = 7 ∨ z = 8 ∨ z = 9 ∨ z = 10 ∨ z = 6 ∨ z = 0 ∨ z = 1 ∨ z = 2 := fun {z ob} hz => by
      have := lookM_mem hz
      simpa using this
    have ha : AV.rens τ [.ptr 7 0, trV t] = [.ptr 7 0, trV t] := rfl
    rw [← ha]
    refine CanS.inst (add_cons B a1 a2 a3 h1 h2 h3 t t0 ts (by simp at hs; omega) e) (Nat.zero_le _) (by decide) τ (fun g hg => by omega) (fun y hy => by simp only [τ]; (repeat' split) <;> omega) (fun y hy => by simp only [τ]; (repeat' split) <;> omega) (fun y o hy => ?_) (fun x y o o' hx hy hxy => .inl ?_) (fun y hy hy' => ?_) (fun v1 H1 c1 hq _ => ?_)
    · rcases low hy with rfl | rfl | rfl | rfl | rfl | rfl | rfl | rfl | rfl
      · cases hy; rw [ren_grown]; exact getM (gl (by simp))
      · cases hy; exact getM g7
      · cases hy; rw [rd_ren]; exact getM g8
      · cases hy; rw [rd_ren]; exact getM g9
      · cases hy; rw [rd_ren]; exact getM g10
      · cases hy; rw [pbc_ren h1 h2 h3 rfl rfl rfl]; exact getM g6
      · cases hy; rw [ren_ro]; exact getM k0
      · cases hy; rw [ren_ro]; exact getM k1
      · cases hy; rw [ren_ro]; exact getM k2
    · have q1 := low hx
      have q2 := low hy
      simp only [τ]
      (repeat' split) <;> omega
    · rcases (by omega : y = 7 ∨ y = 8 ∨ y = 9 ∨ y = 10 ∨ y = 11) with rfl | rfl | rfl | rfl | rfl
      all_goals exact ⟨by simp only [τ]; (repeat' split) <;> omega, _, rfl, rfl⟩
    · obtain ⟨p7, p8, p9, p10, pl, pc, pv⟩ := hq
      refine ⟨by rw [pv]; rfl, by omega, fun x o hx => ?_⟩
      rw [ofM_get] at hx
      by_cases e7 : x = 7
      · subst e7
        rw [lookM_hd] at hx
        cases hx
        exact .inr ⟨7, _, by omega, p7, rfl, rfl⟩
      rw [lookM_tl e7] at hx
      by_cases e8 : x = 8
      · subst e8
        rw [lookM_hd] at hx
        cases hx
        exact .inr ⟨8, _, by omega, p8, rfl, (rd_ren _ _ _).symm⟩
      rw [lookM_tl e8] at hx
      by_cases e9 : x = 9
      · subst e9
        rw [lookM_hd] at hx
        cases hx
        exact .inr ⟨9, _, by omega, p9, rfl, (rd_ren _ _ _).symm⟩
      rw [lookM_tl e9] at hx
      by_cases e10 : x = 10
      · subst e10
        rw [lookM_hd] at hx
        cases hx
        exact .inr ⟨10, _, by omega, p10, rfl, (rd_ren _ _ _).symm⟩
      rw [lookM_tl e10] at hx
      by_cases ec : x = c + 2
      · subst ec
        rw [lookM_hd] at hx
        cases hx
        exact .inr ⟨14, _, by omega, pl, rfl, (ren_grown _ _ _ _).symm⟩
      rw [lookM_tl ec] at hx
      obtain ⟨r1, r2, r3, r4⟩ := hr x o hx
      exact .inl ⟨r2, fun y hy hy' => by simp only [τ]; (repeat' split) <;> omega, getM r4⟩
theorem add_rd {B : RBook} {a1 a2 a3 : AV} (h1 : IsSl a1 B.nl 0) (h2 : IsSl a2 B.nd 1) (h3 : IsSl a3 B.nk 2) (s : List Tru) (hs : s.length ≤ 20000) (t : Tru) (e : B.nd = 3) {m : List (Nat × Option AObj)} {LO : AObj} {c : Nat} (hc : 16 ≤ c) (g7 : lookM m 7 = some (.cells [.ptr 6 0, lsV s, .map 8, .map 9, .map 10, .nilm, .nilm])) (g8 : lookM m 8 = some (rdO 0 s)) (g9 : lookM m 9 = some (rdO 1 s)) (g10 : lookM m 10 = some (rdO 2 s)) (g6 : lookM m 6 = some (.cells (pbC B a1 a2 a3))) (k0 : lookM m 0 = some (oLa B)) (k1 : lookM m 1 = some (oDa B)) (k2 : lookM m 2 = some (oLo B)) (gl : s ≠ [] → lookM m 15 = some (.grown (flat truE s) 28)) (gL : lookM m 14 = some LO) (gd : lookM m 13 = some .dfr) (fl : Nat) (hfl : fl ≤ 7) :
    OkAt 0 Try.prog fl 75 [.ptr 7 0, trV t] (ofM m) c (.tup []) (ofM ((7, some (.cells [.ptr 6 0, .gs (c + 2) (s ++ [t]).length, .map 8, .map 9, .map 10, .nilm, .nilm])) :: (8, some (rdO 0 (s ++ [t]))) :: (9, some (rdO 1 (s ++ [t]))) :: (10, some (rdO 2 (s ++ [t]))) :: (c + 2, some (.grown (flat truE (s ++ [t])) 28)) :: [(14, some LO), (6, some (.cells (pbC B a1 a2 a3))), (0, some (oLa B)), (1, some (oDa B)), (2, some (oLo B)), (13, some .dfr)])) (c + 3) :=
  add_at h1 h2 h3 s hs t e hc g7 g8 g9 g10 g6 k0 k1 k2 gl (fun x o hx => by
    have h := lookM_mem hx
    have h : x = 14 ∨ x = 6 ∨ x = 0 ∨ x = 1 ∨ x = 2 ∨ x = 13 := by simpa using h
    rcases h with rfl | rfl | rfl | rfl | rfl | rfl
    all_goals (cases hx; exact ⟨by omega, by omega, by omega, by assumption⟩)) fl hfl
def lnM (B : RBook) (a1 a2 a3 : AV) (s : List Tru) : List (Nat × Option AObj) := [(7, some (.cells [.ptr 6 0, lsV s, .map 8, .map 9, .map 10, .nilm, .nilm])), (8, some (rdO 0 s)), (9, some (rdO 1 s)), (10, some (rdO 2 s)), (6, some (.cells (pbC B a1 a2 a3))), (0, some (oLa B)), (1, some (oDa B)), (2, some (oLo B)), (13, some .dfr)] ++ lsM s
set_option maxRecDepth 100000 in
set_option maxHeartbeats 8000000 in
theorem learn_yes (B : RBook) (a1 a2 a3 : AV) (h1 : IsSl a1 B.nl 0) (h2 : IsSl a2 B.nd 1) (h3 : IsSl a3 B.nk 2) (hn : B.nd ≤ 9223372036854775807) (hB : bkOk B) (e : B.nd = 3) : CanS 0 Try.prog 40 3 [bk B a1 a2 a3, .bool true] [(0, some (oLa B)), (1, some (oDa B)), (2, some (oLo B))] 3 fun v H1 c1 => (Wn B = [] ∧ v = .tup [.agg [.nilp, .nils, .nilm, .nilm, .nilm, .nilm, .nilm], .int .i64 72]) ∨
    (c1 = 16 ∧ Wn B ≠ [] ∧ v = .tup [.agg [.ptr 6 0, .gs 15 (Wn B).length, .map 8, .map 9, .map 10, .nilm, .nilm], .int .i64 0] ∧ H1.get 6 = some (.cells (pbC B a1 a2 a3)) ∧ H1.get 8 = some (rdO 0 (Wn B)) ∧ H1.get 9 = some (rdO 1 (Wn B)) ∧ H1.get 10 = some (rdO 2 (Wn B)) ∧ H1.get 15 = some (.grown (flat truE (Wn B)) 28)) := by
  refine CanS.mk Try.func40 rfl rfl rfl ?_
  repeat' (first | refine RT.nil ?_ | refine sq_n ?_ | refine Tr.seq ?_ | refine Tr.region ?_ | refine Tr.cond_f rfl ?_ | refine Tr.skip ?_ | refine Tr.block ?_ | (refine RT.call rfl rfl rfl (Check_ok ⟨h1, h2, h3, rfl, rfl, rfl, by decide⟩ hn hB _) rfl rfl (Nat.le_refl _) ?_) | (refine RT.call rfl rfl rfl (prepare_at ⟨h1, h2, h3, rfl, rfl, rfl, by decide⟩ (fun x o hx => by have := lookM_mem hx; simp at this; omega) _) rfl rfl (by decide) ?_) | (refine RT.goK rfl rfl rfl rfl ?_; apply Nx.of; (first | exact S.neq_f (by decide))) | (refine RT.goK rfl rfl rfl rfl ?_; apply Nx.of; (first | exact S.move | exact S.assign | exact S.load1c rfl rfl rfl rfl | exact S.loadNc rfl rfl rfl rfl | exact S.fieldAddr rfl rfl rfl | exact S.not_t | exact S.box | exact S.alloc rfl | exact S.build rfl rfl rfl)) | (refine RT.goK0 rfl rfl rfl ?_; apply Nx.of; (first | exact S.store rfl rfl rfl rfl rfl rfl)) | (refine RT.goK rfl rfl rfl rfl ?_; apply Nx.of; (first | exact S.len_sl rfl rfl rfl (by assumption))))
  refine Tr.unroll 3 ?_
  repeat' (first | refine RT.nil ?_ | refine sq_n ?_ | refine Tr.seq ?_ | refine Tr.region ?_ | refine Tr.cond_d rfl (fun _ => ?_) (fun _ => ?_) | refine Tr.skip ?_ | refine Tr.exit ?_ | refine sq_x ?_ | refine Tr.block ?_ | refine blk_n ?_ | refine blk_hit rfl ?_ | refine un_n ?_ | refine un_x ?_ | (refine RT.goK rfl rfl rfl rfl ?_; apply Nx.of; (first | exact S.idx_arrI rfl rfl rfl (by decide) (by decide))) | (refine RT.goK rfl rfl rfl rfl ?_; apply Nx.of; (first | exact S.move | exact S.assign | exact S.load1c rfl rfl rfl rfl | exact S.fieldAddr rfl rfl rfl | exact S.lss | exact S.add_one (by omega) | exact S.add (by unfold In64; omega) | exact S.makeMap | exact S.makeFunc)) | (refine RT.goK0 rfl rfl rfl ?_; apply Nx.of; (first | exact S.store rfl rfl rfl rfl rfl rfl)))
  · exfalso; omega
  refine Tr.wk (Wk.by (l2 := [(4, .ptr 4 0), (5, .int .i64 0), (7, .ptr 7 0), (35, .fn 74 [.ptr 6 0] [])]) (m2 := [(7, some (.cells [.ptr 6 0, .nils, .map 8, .map 9, .map 10, .nilm, .nilm])), (8, some (rdO 0 [])), (9, some (rdO 1 [])), (10, some (rdO 2 [])), (4, some (.cells [.nilp, .nils, .nilm, .nilm, .nilm, .nilm, .nilm])), (6, some (.cells (pbC B a1 a2 a3))), (0, some (oLa B)), (1, some (oDa B)), (2, some (oLo B))]) (c2 := 13) (fun y => y) (by decide) (by decide) (by decide) ⟨rfl, rfl, rfl, rfl, trivial⟩ ⟨rfl, rfl, rfl, rfl, rfl, congrArg some (pbc_ren h1 h2 h3 rfl rfl rfl).symm, congrArg some (ren_ro _ _ _).symm, congrArg some (ren_ro _ _ _).symm, congrArg some (ren_ro _ _ _).symm, trivial⟩ rfl (fun x _ y _ hh => hh) (fun x hx => by omega) (fun x _ => rfl) (fun x hx => hx)) ?_
  refine Tr.rangeR (T := [0, 1, 2, 4, 6]) (NC := [7, 8, 9, 10, 6, 0, 1, 2, 13]) (s0 := []) (M := lnM B a1 a2 a3) (ok := lnOk) (stp := lnS) (room := lnRoom) (hroom := lnRoom_ok) (lC := [(7, .ptr 7 0)]) (memT := [(0, some (oLa B)), (1, some (oDa B)), (2, some (oLo B)), (4, some (.cells [.nilp, .nils, .nilm, .nilm, .nilm, .nilm, .nilm])), (6, some (.cells (pbC B a1 a2 a3)))]) (flT := 7) (flC := 7) (cc := 16) (R := fun v m' s' => m' = [(0, some (oLa B)), (1, some (oDa B)), (2, some (oLo B)), (4, some (.cells [.nilp, .nils, .nilm, .nilm, .nilm, .nilm, .nilm])), (6, some (.cells (pbC B a1 a2 a3)))] ∧ s' = (Wn B, none)) rfl rfl (by decide) (by decide) (by decide) (by decide) (by decide) (by decide) ?_ ?_ rfl ?_ ?_ ?_ (by simp) ?_ ?_ ?_ ?_ ?_
  · exact ⟨⟨by decide, rfl, ren_ro _ _ _⟩, ⟨by decide, rfl, ren_ro _ _ _⟩, ⟨by decide, rfl, ren_ro _ _ _⟩, ⟨by decide, rfl, rfl⟩, ⟨by decide, rfl, pbc_ren h1 h2 h3 rfl rfl rfl⟩, trivial⟩
  · intro x hx
    simp only [List.mem_cons, List.not_mem_nil, or_false] at hx
    rcases hx with rfl | rfl | rfl | rfl | rfl
    all_goals exact ⟨by omega, _, rfl, fun h => by first | rfl | (exfalso; omega)⟩
  · exact ⟨⟨rfl, rfl⟩, trivial⟩
  · exact ⟨⟨by decide, .inr ⟨rfl, by decide⟩, rfl⟩, ⟨by decide, .inr ⟨rfl, by decide⟩, rd_ren _ _ _⟩, ⟨by decide, .inr ⟨rfl, by decide⟩, rd_ren _ _ _⟩, ⟨by decide, .inr ⟨rfl, by decide⟩, rd_ren _ _ _⟩, ⟨by decide, .inr ⟨rfl, by decide⟩, pbc_ren h1 h2 h3 rfl rfl rfl⟩, ⟨by decide, .inr ⟨rfl, by decide⟩, ren_ro _ _ _⟩, ⟨by decide, .inr ⟨rfl, by decide⟩, ren_ro _ _ _⟩, ⟨by decide, .inr ⟨rfl, by decide⟩, ren_ro _ _ _⟩, ⟨by decide, .inl ⟨rfl, rfl⟩, rfl⟩, trivial⟩
  · intro y hy
    simp only [List.mem_cons, List.not_mem_nil, or_false] at hy
    rcases hy with rfl | rfl | rfl | rfl | rfl | rfl | rfl | rfl | rfl
    · exact .inr (.inl ⟨by omega, by omega, by decide, _, rfl, rfl⟩)
    · exact .inr (.inl ⟨by omega, by omega, by decide, _, rfl, rfl⟩)
    · exact .inr (.inl ⟨by omega, by omega, by decide, _, rfl, rfl⟩)
    · exact .inr (.inl ⟨by omega, by omega, by decide, _, rfl, rfl⟩)
    · exact .inr (.inr ⟨by omega, by omega, _, rfl⟩)
    · exact .inr (.inr ⟨by omega, by omega, _, rfl⟩)
    · exact .inr (.inr ⟨by omega, by omega, _, rfl⟩)
    · exact .inr (.inr ⟨by omega, by omega, _, rfl⟩)
    · exact .inl rfl
  · intro s y o h
    have := lookM_mem h
    cases s <;> simp [lnM, lsM] at this <;> omega
  · refine ⟨fun s args ⟨⟨t, h⟩, _⟩ => ⟨trV t, h, fun _ => rfl⟩, fun s v ⟨⟨t, h⟩, hr⟩ => ?_⟩
    cases h
    repeat' (first | refine RT.nil ?_ | refine Tr.region ?_ | (refine RT.goK rfl rfl rfl rfl ?_; apply Nx.of; (first | exact S.alloc rfl)) | (refine RT.goK0 rfl rfl rfl ?_; apply Nx.of; (first | exact S.store rfl rfl rfl rfl rfl rfl)))
    refine ⟨rfl, _, _, _, rfl, rfl, ?_⟩
    cases s with
    | nil =>
      repeat' (first | refine RT.nil ?_ | refine Tr.region ?_ | refine Tr.block ?_ | refine blk_n ?_ | (refine RT.call rfl rfl rfl (add_rd h1 h2 h3 _ (by unfold lnRoom at hr; omega) (norm t) e (by decide) rfl rfl rfl rfl rfl rfl rfl rfl (fun hne => by first | exact absurd rfl hne) rfl rfl _ (by decide)) rfl rfl (by decide) ?_) | (refine RT.goK rfl rfl rfl rfl ?_; apply Nx.of; (first | exact S.loadNc rfl rfl rfl rfl)))
      refine ⟨rfl, Wk.by (fun y => if y = 15 then 19 else if y < 15 then y else 20 + y) (by decide) (by decide) (by decide) trivial ⟨congrArg some (lpO_ren (l := [(7, .ptr 7 0)]) ⟨rfl, trivial⟩ rfl).symm, rfl, congrArg some (rd_ren _ _ _).symm, congrArg some (rd_ren _ _ _).symm, congrArg some (rd_ren _ _ _).symm, congrArg some (pbc_ren h1 h2 h3 rfl rfl rfl).symm, congrArg some (ren_ro _ _ _).symm, congrArg some (ren_ro _ _ _).symm, congrArg some (ren_ro _ _ _).symm, rfl, congrArg some (ren_grown _ _ _ _).symm, trivial⟩ rfl (fun x hx y hy hxy e => ?_) (fun x hx => ?_) (fun x hx => ?_) (fun x hx => ?_)⟩
      · have hx' : x = 14 ∨ x = 7 ∨ x = 8 ∨ x = 9 ∨ x = 10 ∨ x = 6 ∨ x = 0 ∨ x = 1 ∨ x = 2 ∨ x = 13 ∨ x = 15 := by simpa [lnM, lnS, lsM] using hx
        have hy' : y = 14 ∨ y = 7 ∨ y = 8 ∨ y = 9 ∨ y = 10 ∨ y = 6 ∨ y = 0 ∨ y = 1 ∨ y = 2 ∨ y = 13 ∨ y = 15 := by simpa [lnM, lnS, lsM] using hy
        (repeat' split at e) <;> omega
      all_goals ((repeat' split) <;> omega)
    | cons t0 ts =>
      repeat' (first | refine RT.nil ?_ | refine Tr.region ?_ | refine Tr.block ?_ | refine blk_n ?_ | (refine RT.call rfl rfl rfl (add_rd h1 h2 h3 _ (by unfold lnRoom at hr; omega) (norm t) e (by decide) rfl rfl rfl rfl rfl rfl rfl rfl (fun hne => by first | rfl) rfl rfl _ (by decide)) rfl rfl (by decide) ?_) | (refine RT.goK rfl rfl rfl rfl ?_; apply Nx.of; (first | exact S.loadNc rfl rfl rfl rfl)))
      refine ⟨rfl, Wk.by (fun y => if y = 15 then 19 else if y < 15 then y else 20 + y) (by decide) (by decide) (by decide) trivial ⟨congrArg some (lpO_ren (l := [(7, .ptr 7 0)]) ⟨rfl, trivial⟩ rfl).symm, rfl, congrArg some (rd_ren _ _ _).symm, congrArg some (rd_ren _ _ _).symm, congrArg some (rd_ren _ _ _).symm, congrArg some (pbc_ren h1 h2 h3 rfl rfl rfl).symm, congrArg some (ren_ro _ _ _).symm, congrArg some (ren_ro _ _ _).symm, congrArg some (ren_ro _ _ _).symm, rfl, congrArg some (ren_grown _ _ _ _).symm, trivial⟩ rfl (fun x hx y hy hxy e => ?_) (fun x hx => ?_) (fun x hx => ?_) (fun x hx => ?_)⟩
      · have hx' : x = 14 ∨ x = 7 ∨ x = 8 ∨ x = 9 ∨ x = 10 ∨ x = 6 ∨ x = 0 ∨ x = 1 ∨ x = 2 ∨ x = 13 ∨ x = 15 := by simpa [lnM, lnS, lsM] using hx
        have hy' : y = 14 ∨ y = 7 ∨ y = 8 ∨ y = 9 ∨ y = 10 ∨ y = 6 ∨ y = 0 ∨ y = 1 ∨ y = 2 ∨ y = 13 ∨ y = 15 := by simpa [lnM, lnS, lsM] using hy
        (repeat' split at e) <;> omega
      all_goals ((repeat' split) <;> omega)
  · intro ρ0 lb h hY
    refine OkJ.mono (truths_ok ⟨h1, h2, h3, rfl, rfl, rfl, rfl, by decide, by decide⟩ rfl hB hY (fun k s t hl => ⟨hl.1, ⟨t, rfl⟩, ?_⟩) ?_ 7) ?_
    · have := hl.2
      unfold lnRoom at this ⊢
      omega
    · refine ⟨rfl, ?_⟩
      have := allT_len hB.2.1
      show 0 + _ ≤ 20000
      omega
    rintro v m' s' ⟨⟨hv, hs⟩, hm⟩
    subst hm
    exact ⟨rfl, by rw [hs, foldC_rnd, foldS_ln]; rfl⟩
  · rintro v m' s' ⟨rfl, _⟩
    rfl
  · rintro v m' s' j ⟨rfl, hs⟩
    cases hs
    cases hq : Wn B with
    | nil =>
      have hs0 : IsSl .nils 0 15 := .nils _
      show blk _ _ _ _
      repeat' (first | refine RT.nil ?_ | refine sq_n ?_ | refine Tr.seq ?_ | refine Tr.region ?_ | refine Tr.cond_t rfl ?_ | refine Tr.ret ?_ | refine sq_r ?_ | refine blk_n ?_ | (refine RT.goK rfl rfl rfl rfl ?_; apply Nx.of; (first | exact S.assign | exact S.load1c rfl rfl rfl rfl | exact S.fieldAddr rfl rfl rfl | exact S.eql | exact S.build rfl rfl rfl)) | (refine RT.goK0 rfl rfl rfl ?_; apply Nx.of; (first | exact S.store rfl rfl rfl rfl rfl rfl)) | (refine RT.goK rfl rfl rfl rfl ?_; apply Nx.of; (first | exact S.len_sl rfl rfl rfl (by assumption))))
      · refine rt_goD rfl rfl rfl ?_
        exact .inl ⟨rfl, rfl⟩
    | cons t ts =>
      have hs0 : IsSl (.gs 15 (ts.length + 1)) (ts.length + 1) 15 := .gs _ _
      show blk _ _ _ _
      repeat' (first | refine RT.nil ?_ | refine sq_n ?_ | refine Tr.seq ?_ | refine Tr.region ?_ | refine Tr.cond_f rfl ?_ | refine Tr.skip ?_ | refine Tr.ret ?_ | refine blk_n ?_ | (refine RT.goK rfl rfl rfl rfl ?_; apply Nx.of; (first | exact S.assign | exact S.load1c rfl rfl rfl rfl | exact S.loadNc rfl rfl rfl rfl | exact S.fieldAddr rfl rfl rfl | exact S.eql)) | (refine RT.goK0 rfl rfl rfl ?_; apply Nx.of; (first | exact S.store rfl rfl rfl rfl rfl rfl)) | (refine RT.goK rfl rfl rfl rfl ?_; apply Nx.of; (first | exact S.len_sl rfl rfl rfl (by assumption))))
      · refine rt_goD rfl rfl rfl ?_
        exact .inr ⟨rfl, by simp, rfl, getM rfl, getM rfl, getM rfl, getM rfl, getM rfl⟩
  all_goals (exfalso; omega)
theorem learn_at {B : RBook} {a1 a2 a3 : AV} {m : List (Nat × Option AObj)} {c : Nat} (h : BkIn B a1 a2 a3 m c) (hm : ∀ x o, lookM m x = some o → x < c) (hn : B.nd ≤ 9223372036854775807) (hB : bkOk B) (e : B.nd = 3) (hW : Wn B ≠ []) (fl : Nat) : OkAt 0 Try.prog fl 40 [bk B a1 a2 a3, .bool true] (ofM m) c
    (.tup [.agg (.ptr (c + 3) 0 :: .gs (c + 12) (Wn B).length :: mpsV 3 (c + 5)), .int .i64 0]) (ofM ((c + 3, some (.cells (pbC B a1 a2 a3))) :: (c + 12, some (oWn (Wn B))) :: (m ++ rdsM (Wn B) (c + 5) 3))) (c + 13) := by
  let τ : Nat → Nat := fun y => if y < 3 then y else c + (y - 3)
  have hc := h.hc
  have t0 : τ 0 = 0 := rfl
  have t1 : τ 1 = 1 := rfl
  have t2 : τ 2 = 2 := rfl
  have low : ∀ {u : Nat} {ob : AObj}, lookM [(0, some (oLa B)), (1, some (oDa B)), (2, some (oLo B))] u = some ob → u = 0 ∨ u = 1 ∨ u = 2 := fun {u ob} hz => by
    have := lookM_mem hz
    simpa using this
  have ha : AV.rens τ [bk B a1 a2 a3, .bool true] = [bk B a1 a2 a3, .bool true] := by simp only [bk, AV.ren, AV.rens, h.h1.ren t0, h.h2.ren t1, h.h3.ren t2]
  rw [← ha]
  refine CanS.inst (learn_yes B a1 a2 a3 h.h1 h.h2 h.h3 hn hB e) (Nat.zero_le _) (Nat.le_refl _) τ (fun g hg => by omega) (fun y hy => by simp only [τ]; split <;> omega) (fun y hy => by simp only [τ]; split <;> omega) (fun y o hy => ?_) (fun x y o o' hx hy hxy => ?_) (fun y hy hy' => by omega) (fun v1 H1 c1 hq _ => ?_)
  · rcases low hy with rfl | rfl | rfl
    · cases hy; rw [t0, ren_ro]; exact getM h.m1
    · cases hy; rw [t1, ren_ro]; exact getM h.m2
    · cases hy; rw [t2, ren_ro]; exact getM h.m3
  · refine .inl ?_
    rcases low hx with rfl | rfl | rfl <;> rcases low hy with rfl | rfl | rfl <;> simp only [t0, t1, t2] <;> omega
  · rcases hq with ⟨hq, _⟩ | ⟨rfl, _, rfl, p6, p8, p9, p10, pl⟩
    · exact absurd hq hW
    refine ⟨rfl, by omega, fun x o hx => ?_⟩
    rw [ofM_get] at hx
    replace hx : lookM ((c + 3, some (.cells (pbC B a1 a2 a3))) :: (c + 12, some (oWn (Wn B))) :: (m ++ [(c + 7, some (rdO 2 (Wn B))), (c + 6, some (rdO 1 (Wn B))), (c + 5, some (rdO 0 (Wn B)))])) x = some o := hx
    by_cases e6 : x = c + 3
    · subst e6
      rw [lookM_hd] at hx
      cases hx
      exact .inr ⟨6, _, by omega, p6, rfl, by simp only [pbC, AObj.ren, AV.ren, AV.rens, h.h1.ren t0, h.h2.ren t1, h.h3.ren t2]⟩
    rw [lookM_tl e6] at hx
    by_cases e15 : x = c + 12
    · subst e15
      rw [lookM_hd] at hx
      cases hx
      exact .inr ⟨15, _, by omega, pl, rfl, (ren_grown _ _ _ _).symm⟩
    rw [lookM_tl e15] at hx
    rcases lookM_app hx with hx | hx
    · exact .inl ⟨hm x o hx, fun y hy hy' => by omega, getM hx⟩
    by_cases e10 : x = c + 7
    · subst e10
      rw [lookM_hd] at hx
      cases hx
      exact .inr ⟨10, _, by omega, p10, rfl, (rd_ren _ _ _).symm⟩
    rw [lookM_tl e10] at hx
    by_cases e9 : x = c + 6
    · subst e9
      rw [lookM_hd] at hx
      cases hx
      exact .inr ⟨9, _, by omega, p9, rfl, (rd_ren _ _ _).symm⟩
    rw [lookM_tl e9] at hx
    by_cases e8 : x = c + 5
    · subst e8
      rw [lookM_hd] at hx
      cases hx
      exact .inr ⟨8, _, by omega, p8, rfl, (rd_ren _ _ _).symm⟩
    rw [lookM_tl e8] at hx
    cases hx
end Days3
end Go.Proofs.Ytjnckbefajfgbaa

/- Package roll: add, for a book of 4 days. -/
namespace Go.Proofs.Ytjnckbefajfgbaa
open Go Go.Ev
namespace Days4
theorem all_two {α : Type} {p : α → Bool} {a b : α} (h : p a = true) (k : p b = true) : [a, b].all p = true := by simp [h, k]
set_option maxRecDepth 100000 in
set_option maxHeartbeats 8000000 in
theorem add_nil (B : RBook) (a1 a2 a3 : AV) (h1 : IsSl a1 B.nl 0) (h2 : IsSl a2 B.nd 1) (h3 : IsSl a3 B.nk 2) (t : Tru) (e : B.nd = 4) : CanS 0 Try.prog 75 7 [.ptr 7 0, trV t] [(7, some (.cells [.ptr 6 0, .nils, .map 8, .map 9, .map 10, .map 11, .nilm])), (8, some (rdO 0 [])), (9, some (rdO 1 [])), (10, some (rdO 2 [])), (11, some (rdO 3 [])), (6, some (.cells (pbC B a1 a2 a3))), (0, some (oLa B)), (1, some (oDa B)), (2, some (oLo B))] 12 fun v H1 c1 => H1.get 7 = some (.cells [.ptr 6 0, .gs 14 (([] ++ [t]).length), .map 8, .map 9, .map 10, .map 11, .nilm]) ∧ H1.get 8 = some (rdO 0 ([] ++ [t])) ∧ H1.get 9 = some (rdO 1 ([] ++ [t])) ∧ H1.get 10 = some (rdO 2 ([] ++ [t])) ∧ H1.get 11 = some (rdO 3 ([] ++ [t])) ∧ H1.get 14 = some (.grown (flat truE ([] ++ [t])) 28) ∧ c1 = 15 ∧ v = .tup [] := by
  refine CanS.mk Try.func75 rfl rfl rfl ?_
  repeat' (first | refine RT.nil ?_ | refine sq_n ?_ | refine Tr.seq ?_ | refine Tr.region ?_ | (refine RT.goK rfl rfl rfl rfl ?_; apply Nx.of; (first | exact S.box)))
  refine Tr.openK un75_1 (by kernel_rfl) (by kernel_rfl) noCall noCall_calm ?_
  repeat' (first | (refine RD.wide rfl rfl rfl rfl rfl rfl rfl rfl ?_; (first | refine Nx.of (S.append_nil rfl rfl rfl rfl rfl rfl rfl rfl rfl rfl rfl) ⟨rfl, ?_⟩)) | (refine RD.free rfl rfl rfl rfl rfl rfl ?_; apply Nx.of; (first | exact S.move | exact S.fieldAddr rfl rfl rfl | exact S.nilCheck)) | (refine RD.new rfl rfl rfl rfl rfl rfl ?_; apply Nx.of; (first | exact S.buildSlice rfl rfl rfl rfl rfl rfl rfl)) | (refine RD.load rfl rfl rfl rfl rfl rfl rfl rfl ?_; apply Nx.of; (first | exact S.load1c rfl rfl rfl rfl | exact S.loadNc rfl rfl rfl rfl)) | (refine RD.store rfl rfl rfl rfl rfl rfl rfl ?_; apply Nx.of; (first | exact S.store rfl rfl rfl rfl rfl rfl)) | refine RD.nil ⟨Nat.le_of_ble_eq_true rfl, ?_⟩)
  repeat' (first | refine RT.nil ?_ | refine sq_n ?_ | refine Tr.seq ?_ | refine Tr.region ?_ | refine Tr.block ?_ | (refine RT.goK rfl rfl rfl rfl ?_; apply Nx.of; (first | exact S.move | exact S.load1c rfl rfl rfl rfl | exact S.fieldAddr rfl rfl rfl | exact S.nilCheck)) | (refine RT.goK rfl rfl rfl rfl ?_; apply Nx.of; (first | exact S.len_sl rfl rfl rfl (by assumption))))
  refine Tr.unroll 4 ?_
  have hb0 := rdC_bd 0 [] (endK 0 t)
  repeat' (first | refine RT.nil ?_ | refine sq_n ?_ | refine Tr.seq ?_ | refine Tr.region ?_ | refine Tr.cond_d rfl (fun _ => ?_) (fun _ => ?_) | refine Tr.skip ?_ | refine Tr.exit ?_ | refine sq_x ?_ | refine Tr.block ?_ | refine blk_hit rfl ?_ | refine un_x ?_ | (refine RT.goK rfl rfl rfl rfl ?_; apply Nx.of; (first | exact S.move | exact S.assign | exact S.lss)))
  refine Tr.openK un75_5 (by kernel_rfl) (by kernel_rfl) noCall noCall_calm ?_
  repeat' (first | (refine RD.free rfl rfl rfl rfl rfl rfl ?_; apply Nx.of; (first | exact S.move | exact S.fieldAddr rfl rfl rfl | exact S.add_w | exact S.nilCheck | exact S.idx_arrI rfl rfl rfl (by decide) (by decide))) | (refine RD.load rfl rfl rfl rfl rfl rfl rfl rfl ?_; apply Nx.of; (first | exact S.load1c rfl rfl rfl rfl | exact S.loadNc rfl rfl rfl rfl)) | (refine RD.load rfl rfl rfl rfl rfl rfl rfl rfl ?_; (refine Nx.of (S.look0 (enc := roE) (encV := roW) (f := rdF 0 []) (L := rdK 0 []) (k := endK 0 t) roKeys rfl rfl rfl rfl (fun h => by unfold rdF; rw [rdC_0 h])) ?_)))
  refine RD.wide rfl rfl rfl rfl rfl rfl rfl rfl ?_
  refine Nx.of (S.entry (enc := roE) (encV := roW) (f := rdF 0 []) (L := rdK 0 []) (k := endK 0 t) roKeys roBits rfl rfl rfl rfl rfl (fun h => by unfold rdF; rw [rdC_0 h])) ⟨?_, ?_⟩
  · refine all_two ?_ ?_ <;> first | rfl | exact same_look (enc := roE) (encV := roW) (f := rdF 0 []) (L := insK (rdK 0 []) (endK 0 t)) (k := endK 0 t) (n := rdC 0 [] (endK 0 t)) roKeys rfl rfl rfl ins_mem rfl
  repeat' (first | (refine RD.free rfl rfl rfl rfl rfl rfl ?_; apply Nx.of; (first | exact S.extract rfl)))
  refine RD.wide0 rfl rfl rfl rfl rfl rfl rfl ?_
  refine Nx.of (S.entryStore (enc := roE) (f := rdF 0 []) (L := insK (rdK 0 []) (endK 0 t)) (k := endK 0 t) rfl rfl (ins_nodup (rdK_nodup _ _)) ins_mem (ix_ins _)) ⟨rfl, ?_⟩
  refine RD.nil ⟨Nat.le_of_ble_eq_true rfl, ?_⟩
  have hb1 := rdC_bd 1 [] (endK 1 t)
  repeat' (first | refine RT.nil ?_ | refine sq_n ?_ | refine Tr.seq ?_ | refine Tr.region ?_ | refine Tr.cond_d rfl (fun _ => ?_) (fun _ => ?_) | refine Tr.skip ?_ | refine Tr.exit ?_ | refine sq_x ?_ | refine Tr.block ?_ | refine blk_n ?_ | refine blk_hit rfl ?_ | refine un_n ?_ | refine un_x ?_ | (refine RT.goK rfl rfl rfl rfl ?_; apply Nx.of; (first | exact S.move | exact S.assign | exact S.lss | exact S.add (by unfold In64; omega))))
  refine Tr.openK un75_5 (by kernel_rfl) (by kernel_rfl) noCall noCall_calm ?_
  repeat' (first | (refine RD.free rfl rfl rfl rfl rfl rfl ?_; apply Nx.of; (first | exact S.move | exact S.fieldAddr rfl rfl rfl | exact S.add_w | exact S.nilCheck | exact S.idx_arrI rfl rfl rfl (by decide) (by decide))) | (refine RD.load rfl rfl rfl rfl rfl rfl rfl rfl ?_; apply Nx.of; (first | exact S.load1c rfl rfl rfl rfl | exact S.loadNc rfl rfl rfl rfl)) | (refine RD.load rfl rfl rfl rfl rfl rfl rfl rfl ?_; (refine Nx.of (S.look0 (enc := roE) (encV := roW) (f := rdF 1 []) (L := rdK 1 []) (k := endK 1 t) roKeys rfl rfl rfl rfl (fun h => by unfold rdF; rw [rdC_0 h])) ?_)))
  refine RD.wide rfl rfl rfl rfl rfl rfl rfl rfl ?_
  refine Nx.of (S.entry (enc := roE) (encV := roW) (f := rdF 1 []) (L := rdK 1 []) (k := endK 1 t) roKeys roBits rfl rfl rfl rfl rfl (fun h => by unfold rdF; rw [rdC_0 h])) ⟨?_, ?_⟩
  · refine all_two ?_ ?_ <;> first | rfl | exact same_look (enc := roE) (encV := roW) (f := rdF 1 []) (L := insK (rdK 1 []) (endK 1 t)) (k := endK 1 t) (n := rdC 1 [] (endK 1 t)) roKeys rfl rfl rfl ins_mem rfl
  repeat' (first | (refine RD.free rfl rfl rfl rfl rfl rfl ?_; apply Nx.of; (first | exact S.extract rfl)))
  refine RD.wide0 rfl rfl rfl rfl rfl rfl rfl ?_
  refine Nx.of (S.entryStore (enc := roE) (f := rdF 1 []) (L := insK (rdK 1 []) (endK 1 t)) (k := endK 1 t) rfl rfl (ins_nodup (rdK_nodup _ _)) ins_mem (ix_ins _)) ⟨rfl, ?_⟩
  refine RD.nil ⟨Nat.le_of_ble_eq_true rfl, ?_⟩
  have hb2 := rdC_bd 2 [] (endK 2 t)
  repeat' (first | refine RT.nil ?_ | refine sq_n ?_ | refine Tr.seq ?_ | refine Tr.region ?_ | refine Tr.cond_d rfl (fun _ => ?_) (fun _ => ?_) | refine Tr.skip ?_ | refine Tr.exit ?_ | refine sq_x ?_ | refine Tr.block ?_ | refine blk_n ?_ | refine blk_hit rfl ?_ | refine un_n ?_ | refine un_x ?_ | (refine RT.goK rfl rfl rfl rfl ?_; apply Nx.of; (first | exact S.move | exact S.assign | exact S.lss | exact S.add (by unfold In64; omega))))
  refine Tr.openK un75_5 (by kernel_rfl) (by kernel_rfl) noCall noCall_calm ?_
  repeat' (first | (refine RD.free rfl rfl rfl rfl rfl rfl ?_; apply Nx.of; (first | exact S.move | exact S.fieldAddr rfl rfl rfl | exact S.add_w | exact S.nilCheck | exact S.idx_arrI rfl rfl rfl (by decide) (by decide))) | (refine RD.load rfl rfl rfl rfl rfl rfl rfl rfl ?_; apply Nx.of; (first | exact S.load1c rfl rfl rfl rfl | exact S.loadNc rfl rfl rfl rfl)) | (refine RD.load rfl rfl rfl rfl rfl rfl rfl rfl ?_; (refine Nx.of (S.look0 (enc := roE) (encV := roW) (f := rdF 2 []) (L := rdK 2 []) (k := endK 2 t) roKeys rfl rfl rfl rfl (fun h => by unfold rdF; rw [rdC_0 h])) ?_)))
  refine RD.wide rfl rfl rfl rfl rfl rfl rfl rfl ?_
  refine Nx.of (S.entry (enc := roE) (encV := roW) (f := rdF 2 []) (L := rdK 2 []) (k := endK 2 t) roKeys roBits rfl rfl rfl rfl rfl (fun h => by unfold rdF; rw [rdC_0 h])) ⟨?_, ?_⟩
  · refine all_two ?_ ?_ <;> first | rfl | exact same_look (enc := roE) (encV := roW) (f := rdF 2 []) (L := insK (rdK 2 []) (endK 2 t)) (k := endK 2 t) (n := rdC 2 [] (endK 2 t)) roKeys rfl rfl rfl ins_mem rfl
  repeat' (first | (refine RD.free rfl rfl rfl rfl rfl rfl ?_; apply Nx.of; (first | exact S.extract rfl)))
  refine RD.wide0 rfl rfl rfl rfl rfl rfl rfl ?_
  refine Nx.of (S.entryStore (enc := roE) (f := rdF 2 []) (L := insK (rdK 2 []) (endK 2 t)) (k := endK 2 t) rfl rfl (ins_nodup (rdK_nodup _ _)) ins_mem (ix_ins _)) ⟨rfl, ?_⟩
  refine RD.nil ⟨Nat.le_of_ble_eq_true rfl, ?_⟩
  have hb3 := rdC_bd 3 [] (endK 3 t)
  repeat' (first | refine RT.nil ?_ | refine sq_n ?_ | refine Tr.seq ?_ | refine Tr.region ?_ | refine Tr.cond_d rfl (fun _ => ?_) (fun _ => ?_) | refine Tr.skip ?_ | refine Tr.exit ?_ | refine sq_x ?_ | refine Tr.block ?_ | refine blk_n ?_ | refine blk_hit rfl ?_ | refine un_n ?_ | refine un_x ?_ | (refine RT.goK rfl rfl rfl rfl ?_; apply Nx.of; (first | exact S.move | exact S.assign | exact S.lss | exact S.add (by unfold In64; omega))))
  refine Tr.openK un75_5 (by kernel_rfl) (by kernel_rfl) noCall noCall_calm ?_
  repeat' (first | (refine RD.free rfl rfl rfl rfl rfl rfl ?_; apply Nx.of; (first | exact S.move | exact S.fieldAddr rfl rfl rfl | exact S.add_w | exact S.nilCheck | exact S.idx_arrI rfl rfl rfl (by decide) (by decide))) | (refine RD.load rfl rfl rfl rfl rfl rfl rfl rfl ?_; apply Nx.of; (first | exact S.load1c rfl rfl rfl rfl | exact S.loadNc rfl rfl rfl rfl)) | (refine RD.load rfl rfl rfl rfl rfl rfl rfl rfl ?_; (refine Nx.of (S.look0 (enc := roE) (encV := roW) (f := rdF 3 []) (L := rdK 3 []) (k := endK 3 t) roKeys rfl rfl rfl rfl (fun h => by unfold rdF; rw [rdC_0 h])) ?_)))
  refine RD.wide rfl rfl rfl rfl rfl rfl rfl rfl ?_
  refine Nx.of (S.entry (enc := roE) (encV := roW) (f := rdF 3 []) (L := rdK 3 []) (k := endK 3 t) roKeys roBits rfl rfl rfl rfl rfl (fun h => by unfold rdF; rw [rdC_0 h])) ⟨?_, ?_⟩
  · refine all_two ?_ ?_ <;> first | rfl | exact same_look (enc := roE) (encV := roW) (f := rdF 3 []) (L := insK (rdK 3 []) (endK 3 t)) (k := endK 3 t) (n := rdC 3 [] (endK 3 t)) roKeys rfl rfl rfl ins_mem rfl
  repeat' (first | (refine RD.free rfl rfl rfl rfl rfl rfl ?_; apply Nx.of; (first | exact S.extract rfl)))
  refine RD.wide0 rfl rfl rfl rfl rfl rfl rfl ?_
  refine Nx.of (S.entryStore (enc := roE) (f := rdF 3 []) (L := insK (rdK 3 []) (endK 3 t)) (k := endK 3 t) rfl rfl (ins_nodup (rdK_nodup _ _)) ins_mem (ix_ins _)) ⟨rfl, ?_⟩
  refine RD.nil ⟨Nat.le_of_ble_eq_true rfl, ?_⟩
  repeat' (first | refine RT.nil ?_ | refine sq_n ?_ | refine Tr.seq ?_ | refine Tr.region ?_ | refine Tr.cond_d rfl (fun _ => ?_) (fun _ => ?_) | refine Tr.skip ?_ | refine Tr.exit ?_ | refine sq_x ?_ | refine Tr.block ?_ | refine blk_n ?_ | refine blk_hit rfl ?_ | refine un_n ?_ | refine un_x ?_ | (refine RT.goK rfl rfl rfl rfl ?_; apply Nx.of; (first | exact S.move | exact S.assign | exact S.lss | exact S.add (by unfold In64; omega))))
  · exfalso; omega
  refine rt_gon rfl ?_
  · exact ⟨getM rfl, by rw [← rdO_snoc]; exact getM rfl, by rw [← rdO_snoc]; exact getM rfl, by rw [← rdO_snoc]; exact getM rfl, by rw [← rdO_snoc]; exact getM rfl, getM rfl, rfl, rfl⟩
  all_goals (exfalso; omega)
set_option maxRecDepth 100000 in
set_option maxHeartbeats 8000000 in
theorem add_cons (B : RBook) (a1 a2 a3 : AV) (h1 : IsSl a1 B.nl 0) (h2 : IsSl a2 B.nd 1) (h3 : IsSl a3 B.nk 2) (t : Tru) (t0 : Tru) (ts : List Tru) (hr : ts.length ≤ 20000) (e : B.nd = 4) : CanS 0 Try.prog 75 7 [.ptr 7 0, trV t] [(12, some (.grown (flat truE (t0 :: ts)) 28)), (7, some (.cells [.ptr 6 0, .gs 12 (ts.length + 1), .map 8, .map 9, .map 10, .map 11, .nilm])), (8, some (rdO 0 (t0 :: ts))), (9, some (rdO 1 (t0 :: ts))), (10, some (rdO 2 (t0 :: ts))), (11, some (rdO 3 (t0 :: ts))), (6, some (.cells (pbC B a1 a2 a3))), (0, some (oLa B)), (1, some (oDa B)), (2, some (oLo B))] 13 fun v H1 c1 => H1.get 7 = some (.cells [.ptr 6 0, .gs 15 (((t0 :: ts) ++ [t]).length), .map 8, .map 9, .map 10, .map 11, .nilm]) ∧ H1.get 8 = some (rdO 0 ((t0 :: ts) ++ [t])) ∧ H1.get 9 = some (rdO 1 ((t0 :: ts) ++ [t])) ∧ H1.get 10 = some (rdO 2 ((t0 :: ts) ++ [t])) ∧ H1.get 11 = some (rdO 3 ((t0 :: ts) ++ [t])) ∧ H1.get 15 = some (.grown (flat truE ((t0 :: ts) ++ [t])) 28) ∧ c1 = 16 ∧ v = .tup [] := by
  refine CanS.mk Try.func75 rfl rfl rfl ?_
  have hcut : cut (flat truE (t0 :: ts)) 0 ((ts.length + 1) * 28) = some (flat truE (t0 :: ts)) := cut_all (flat_len (s := 28) (fun _ => rfl) _)
  have hlen : (t0 :: ts).length = ts.length + 1 := rfl
  repeat' (first | refine RT.nil ?_ | refine sq_n ?_ | refine Tr.seq ?_ | refine Tr.region ?_ | (refine RT.goK rfl rfl rfl rfl ?_; apply Nx.of; (first | exact S.box)))
  refine Tr.openK un75_1 (by kernel_rfl) (by kernel_rfl) noCall noCall_calm ?_
  repeat' (first | (refine RD.wide rfl rfl rfl rfl rfl rfl rfl rfl ?_; (first | refine Nx.of (S.append_gs rfl rfl rfl rfl rfl rfl rfl rfl rfl rfl rfl rfl rfl hcut (by omega) rfl) ⟨rfl, ?_⟩)) | (refine RD.free rfl rfl rfl rfl rfl rfl ?_; apply Nx.of; (first | exact S.move | exact S.fieldAddr rfl rfl rfl | exact S.nilCheck)) | (refine RD.new rfl rfl rfl rfl rfl rfl ?_; apply Nx.of; (first | exact S.buildSlice rfl rfl rfl rfl rfl rfl rfl)) | (refine RD.load rfl rfl rfl rfl rfl rfl rfl rfl ?_; apply Nx.of; (first | exact S.load1c rfl rfl rfl rfl | exact S.loadNc rfl rfl rfl rfl)) | (refine RD.store rfl rfl rfl rfl rfl rfl rfl ?_; apply Nx.of; (first | exact S.store rfl rfl rfl rfl rfl rfl)) | refine RD.nil ⟨Nat.le_of_ble_eq_true rfl, ?_⟩)
  repeat' (first | refine RT.nil ?_ | refine sq_n ?_ | refine Tr.seq ?_ | refine Tr.region ?_ | refine Tr.block ?_ | (refine RT.goK rfl rfl rfl rfl ?_; apply Nx.of; (first | exact S.move | exact S.load1c rfl rfl rfl rfl | exact S.fieldAddr rfl rfl rfl | exact S.nilCheck)) | (refine RT.goK rfl rfl rfl rfl ?_; apply Nx.of; (first | exact S.len_sl rfl rfl rfl (by assumption))))
  refine Tr.unroll 4 ?_
  have hb0 := rdC_bd 0 (t0 :: ts) (endK 0 t)
  repeat' (first | refine RT.nil ?_ | refine sq_n ?_ | refine Tr.seq ?_ | refine Tr.region ?_ | refine Tr.cond_d rfl (fun _ => ?_) (fun _ => ?_) | refine Tr.skip ?_ | refine Tr.exit ?_ | refine sq_x ?_ | refine Tr.block ?_ | refine blk_hit rfl ?_ | refine un_x ?_ | (refine RT.goK rfl rfl rfl rfl ?_; apply Nx.of; (first | exact S.move | exact S.assign | exact S.lss)))
  refine Tr.openK un75_5 (by kernel_rfl) (by kernel_rfl) noCall noCall_calm ?_
  repeat' (first | (refine RD.free rfl rfl rfl rfl rfl rfl ?_; apply Nx.of; (first | exact S.move | exact S.fieldAddr rfl rfl rfl | exact S.add (by unfold In64; omega) | exact S.nilCheck | exact S.idx_arrI rfl rfl rfl (by decide) (by decide))) | (refine RD.load rfl rfl rfl rfl rfl rfl rfl rfl ?_; apply Nx.of; (first | exact S.load1c rfl rfl rfl rfl | exact S.loadNc rfl rfl rfl rfl)) | (refine RD.load rfl rfl rfl rfl rfl rfl rfl rfl ?_; (refine Nx.of (S.look0 (enc := roE) (encV := roW) (f := rdF 0 (t0 :: ts)) (L := rdK 0 (t0 :: ts)) (k := endK 0 t) roKeys rfl rfl rfl rfl (fun h => by unfold rdF; rw [rdC_0 h])) ?_)))
  refine RD.wide rfl rfl rfl rfl rfl rfl rfl rfl ?_
  refine Nx.of (S.entry (enc := roE) (encV := roW) (f := rdF 0 (t0 :: ts)) (L := rdK 0 (t0 :: ts)) (k := endK 0 t) roKeys roBits rfl rfl rfl rfl rfl (fun h => by unfold rdF; rw [rdC_0 h])) ⟨?_, ?_⟩
  · refine all_two ?_ ?_ <;> first | rfl | exact same_look (enc := roE) (encV := roW) (f := rdF 0 (t0 :: ts)) (L := insK (rdK 0 (t0 :: ts)) (endK 0 t)) (k := endK 0 t) (n := rdC 0 (t0 :: ts) (endK 0 t)) roKeys rfl rfl rfl ins_mem rfl
  repeat' (first | (refine RD.free rfl rfl rfl rfl rfl rfl ?_; apply Nx.of; (first | exact S.extract rfl)))
  refine RD.wide0 rfl rfl rfl rfl rfl rfl rfl ?_
  refine Nx.of (S.entryStore (enc := roE) (f := rdF 0 (t0 :: ts)) (L := insK (rdK 0 (t0 :: ts)) (endK 0 t)) (k := endK 0 t) rfl rfl (ins_nodup (rdK_nodup _ _)) ins_mem (ix_ins _)) ⟨rfl, ?_⟩
  refine RD.nil ⟨Nat.le_of_ble_eq_true rfl, ?_⟩
  have hb1 := rdC_bd 1 (t0 :: ts) (endK 1 t)
  repeat' (first | refine RT.nil ?_ | refine sq_n ?_ | refine Tr.seq ?_ | refine Tr.region ?_ | refine Tr.cond_d rfl (fun _ => ?_) (fun _ => ?_) | refine Tr.skip ?_ | refine Tr.exit ?_ | refine sq_x ?_ | refine Tr.block ?_ | refine blk_n ?_ | refine blk_hit rfl ?_ | refine un_n ?_ | refine un_x ?_ | (refine RT.goK rfl rfl rfl rfl ?_; apply Nx.of; (first | exact S.move | exact S.assign | exact S.lss | exact S.add (by unfold In64; omega))))
  refine Tr.openK un75_5 (by kernel_rfl) (by kernel_rfl) noCall noCall_calm ?_
  repeat' (first | (refine RD.free rfl rfl rfl rfl rfl rfl ?_; apply Nx.of; (first | exact S.move | exact S.fieldAddr rfl rfl rfl | exact S.add (by unfold In64; omega) | exact S.nilCheck | exact S.idx_arrI rfl rfl rfl (by decide) (by decide))) | (refine RD.load rfl rfl rfl rfl rfl rfl rfl rfl ?_; apply Nx.of; (first | exact S.load1c rfl rfl rfl rfl | exact S.loadNc rfl rfl rfl rfl)) | (refine RD.load rfl rfl rfl rfl rfl rfl rfl rfl ?_; (refine Nx.of (S.look0 (enc := roE) (encV := roW) (f := rdF 1 (t0 :: ts)) (L := rdK 1 (t0 :: ts)) (k := endK 1 t) roKeys rfl rfl rfl rfl (fun h => by unfold rdF; rw [rdC_0 h])) ?_)))
  refine RD.wide rfl rfl rfl rfl rfl rfl rfl rfl ?_
  refine Nx.of (S.entry (enc := roE) (encV := roW) (f := rdF 1 (t0 :: ts)) (L := rdK 1 (t0 :: ts)) (k := endK 1 t) roKeys roBits rfl rfl rfl rfl rfl (fun h => by unfold rdF; rw [rdC_0 h])) ⟨?_, ?_⟩
  · refine all_two ?_ ?_ <;> first | rfl | exact same_look (enc := roE) (encV := roW) (f := rdF 1 (t0 :: ts)) (L := insK (rdK 1 (t0 :: ts)) (endK 1 t)) (k := endK 1 t) (n := rdC 1 (t0 :: ts) (endK 1 t)) roKeys rfl rfl rfl ins_mem rfl
  repeat' (first | (refine RD.free rfl rfl rfl rfl rfl rfl ?_; apply Nx.of; (first | exact S.extract rfl)))
  refine RD.wide0 rfl rfl rfl rfl rfl rfl rfl ?_
  refine Nx.of (S.entryStore (enc := roE) (f := rdF 1 (t0 :: ts)) (L := insK (rdK 1 (t0 :: ts)) (endK 1 t)) (k := endK 1 t) rfl rfl (ins_nodup (rdK_nodup _ _)) ins_mem (ix_ins _)) ⟨rfl, ?_⟩
  refine RD.nil ⟨Nat.le_of_ble_eq_true rfl, ?_⟩
  have hb2 := rdC_bd 2 (t0 :: ts) (endK 2 t)
  repeat' (first | refine RT.nil ?_ | refine sq_n ?_ | refine Tr.seq ?_ | refine Tr.region ?_ | refine Tr.cond_d rfl (fun _ => ?_) (fun _ => ?_) | refine Tr.skip ?_ | refine Tr.exit ?_ | refine sq_x ?_ | refine Tr.block ?_ | refine blk_n ?_ | refine blk_hit rfl ?_ | refine un_n ?_ | refine un_x ?_ | (refine RT.goK rfl rfl rfl rfl ?_; apply Nx.of; (first | exact S.move | exact S.assign | exact S.lss | exact S.add (by unfold In64; omega))))
  refine Tr.openK un75_5 (by kernel_rfl) (by kernel_rfl) noCall noCall_calm ?_
  repeat' (first | (refine RD.free rfl rfl rfl rfl rfl rfl ?_; apply Nx.of; (first | exact S.move | exact S.fieldAddr rfl rfl rfl | exact S.add (by unfold In64; omega) | exact S.nilCheck | exact S.idx_arrI rfl rfl rfl (by decide) (by decide))) | (refine RD.load rfl rfl rfl rfl rfl rfl rfl rfl ?_; apply Nx.of; (first | exact S.load1c rfl rfl rfl rfl | exact S.loadNc rfl rfl rfl rfl)) | (refine RD.load rfl rfl rfl rfl rfl rfl rfl rfl ?_; (refine Nx.of (S.look0 (enc := roE) (encV := roW) (f := rdF 2 (t0 :: ts)) (L := rdK 2 (t0 :: ts)) (k := endK 2 t) roKeys rfl rfl rfl rfl (fun h => by unfold rdF; rw [rdC_0 h])) ?_)))
  refine RD.wide rfl rfl rfl rfl rfl rfl rfl rfl ?_
  refine Nx.of (S.entry (enc := roE) (encV := roW) (f := rdF 2 (t0 :: ts)) (L := rdK 2 (t0 :: ts)) (k := endK 2 t) roKeys roBits rfl rfl rfl rfl rfl (fun h => by unfold rdF; rw [rdC_0 h])) ⟨?_, ?_⟩
  · refine all_two ?_ ?_ <;> first | rfl | exact same_look (enc := roE) (encV := roW) (f := rdF 2 (t0 :: ts)) (L := insK (rdK 2 (t0 :: ts)) (endK 2 t)) (k := endK 2 t) (n := rdC 2 (t0 :: ts) (endK 2 t)) roKeys rfl rfl rfl ins_mem rfl
  repeat' (first | (refine RD.free rfl rfl rfl rfl rfl rfl ?_; apply Nx.of; (first | exact S.extract rfl)))
  refine RD.wide0 rfl rfl rfl rfl rfl rfl rfl ?_
  refine Nx.of (S.entryStore (enc := roE) (f := rdF 2 (t0 :: ts)) (L := insK (rdK 2 (t0 :: ts)) (endK 2 t)) (k := endK 2 t) rfl rfl (ins_nodup (rdK_nodup _ _)) ins_mem (ix_ins _)) ⟨rfl, ?_⟩
  refine RD.nil ⟨Nat.le_of_ble_eq_true rfl, ?_⟩
  have hb3 := rdC_bd 3 (t0 :: ts) (endK 3 t)
  repeat' (first | refine RT.nil ?_ | refine sq_n ?_ | refine Tr.seq ?_ | refine Tr.region ?_ | refine Tr.cond_d rfl (fun _ => ?_) (fun _ => ?_) | refine Tr.skip ?_ | refine Tr.exit ?_ | refine sq_x ?_ | refine Tr.block ?_ | refine blk_n ?_ | refine blk_hit rfl ?_ | refine un_n ?_ | refine un_x ?_ | (refine RT.goK rfl rfl rfl rfl ?_; apply Nx.of; (first | exact S.move | exact S.assign | exact S.lss | exact S.add (by unfold In64; omega))))
  refine Tr.openK un75_5 (by kernel_rfl) (by kernel_rfl) noCall noCall_calm ?_
  repeat' (first | (refine RD.free rfl rfl rfl rfl rfl rfl ?_; apply Nx.of; (first | exact S.move | exact S.fieldAddr rfl rfl rfl | exact S.add (by unfold In64; omega) | exact S.nilCheck | exact S.idx_arrI rfl rfl rfl (by decide) (by decide))) | (refine RD.load rfl rfl rfl rfl rfl rfl rfl rfl ?_; apply Nx.of; (first | exact S.load1c rfl rfl rfl rfl | exact S.loadNc rfl rfl rfl rfl)) | (refine RD.load rfl rfl rfl rfl rfl rfl rfl rfl ?_; (refine Nx.of (S.look0 (enc := roE) (encV := roW) (f := rdF 3 (t0 :: ts)) (L := rdK 3 (t0 :: ts)) (k := endK 3 t) roKeys rfl rfl rfl rfl (fun h => by unfold rdF; rw [rdC_0 h])) ?_)))
  refine RD.wide rfl rfl rfl rfl rfl rfl rfl rfl ?_
  refine Nx.of (S.entry (enc := roE) (encV := roW) (f := rdF 3 (t0 :: ts)) (L := rdK 3 (t0 :: ts)) (k := endK 3 t) roKeys roBits rfl rfl rfl rfl rfl (fun h => by unfold rdF; rw [rdC_0 h])) ⟨?_, ?_⟩
  · refine all_two ?_ ?_ <;> first | rfl | exact same_look (enc := roE) (encV := roW) (f := rdF 3 (t0 :: ts)) (L := insK (rdK 3 (t0 :: ts)) (endK 3 t)) (k := endK 3 t) (n := rdC 3 (t0 :: ts) (endK 3 t)) roKeys rfl rfl rfl ins_mem rfl
  repeat' (first | (refine RD.free rfl rfl rfl rfl rfl rfl ?_; apply Nx.of; (first | exact S.extract rfl)))
  refine RD.wide0 rfl rfl rfl rfl rfl rfl rfl ?_
  refine Nx.of (S.entryStore (enc := roE) (f := rdF 3 (t0 :: ts)) (L := insK (rdK 3 (t0 :: ts)) (endK 3 t)) (k := endK 3 t) rfl rfl (ins_nodup (rdK_nodup _ _)) ins_mem (ix_ins _)) ⟨rfl, ?_⟩
  refine RD.nil ⟨Nat.le_of_ble_eq_true rfl, ?_⟩
  repeat' (first | refine RT.nil ?_ | refine sq_n ?_ | refine Tr.seq ?_ | refine Tr.region ?_ | refine Tr.cond_d rfl (fun _ => ?_) (fun _ => ?_) | refine Tr.skip ?_ | refine Tr.exit ?_ | refine sq_x ?_ | refine Tr.block ?_ | refine blk_n ?_ | refine blk_hit rfl ?_ | refine un_n ?_ | refine un_x ?_ | (refine RT.goK rfl rfl rfl rfl ?_; apply Nx.of; (first | exact S.move | exact S.assign | exact S.lss | exact S.add (by unfold In64; omega))))
  · exfalso; omega
  refine rt_gon rfl ?_
  · exact ⟨by rw [List.length_append]; exact getM rfl, by rw [← rdO_snoc]; exact getM rfl, by rw [← rdO_snoc]; exact getM rfl, by rw [← rdO_snoc]; exact getM rfl, by rw [← rdO_snoc]; exact getM rfl, by rw [flat_append]; exact getM rfl, rfl, rfl⟩
  all_goals (exfalso; omega)
end Days4
end Go.Proofs.Ytjnckbefajfgbaa

/- Package roll: add and learn, for a book of 4 days. -/
namespace Go.Proofs.Ytjnckbefajfgbaa
open Go Go.Ev
namespace Days4
def lsV : List Tru → AV
  | [] => .nils
  | _ :: ts => .gs 15 (ts.length + 1)
def lsM : List Tru → List (Nat × Option AObj)
  | [] => []
  | t :: ts => [(15, some (.grown (flat truE (t :: ts)) 28))]
theorem add_at {B : RBook} {a1 a2 a3 : AV} (h1 : IsSl a1 B.nl 0) (h2 : IsSl a2 B.nd 1) (h3 : IsSl a3 B.nk 2) (s : List Tru) (hs : s.length ≤ 20000) (t : Tru) (e : B.nd = 4) {m mr : List (Nat × Option AObj)} {c : Nat} (hc : 16 ≤ c) (g7 : lookM m 7 = some (.cells [.ptr 6 0, lsV s, .map 8, .map 9, .map 10, .map 11, .nilm])) (g8 : lookM m 8 = some (rdO 0 s)) (g9 : lookM m 9 = some (rdO 1 s)) (g10 : lookM m 10 = some (rdO 2 s)) (g11 : lookM m 11 = some (rdO 3 s)) (g6 : lookM m 6 = some (.cells (pbC B a1 a2 a3))) (k0 : lookM m 0 = some (oLa B)) (k1 : lookM m 1 = some (oDa B)) (k2 : lookM m 2 = some (oLo B)) (gl : s ≠ [] → lookM m 15 = some (.grown (flat truE s) 28))
    (hr : ∀ x o, lookM mr x = some o → (x < 7 ∨ 13 ≤ x) ∧ x < c ∧ x ≠ 15 ∧ lookM m x = some o) (fl : Nat) (hfl : fl ≤ 7) :
    OkAt 0 Try.prog fl 75 [.ptr 7 0, trV t] (ofM m) c (.tup []) (ofM ((7, some (.cells [.ptr 6 0, .gs (c + 2) (s ++ [t]).length, .map 8, .map 9, .map 10, .map 11, .nilm])) :: (8, some (rdO 0 (s ++ [t]))) :: (9, some (rdO 1 (s ++ [t]))) :: (10, some (rdO 2 (s ++ [t]))) :: (11, some (rdO 3 (s ++ [t]))) :: (c + 2, some (.grown (flat truE (s ++ [t])) 28)) :: mr)) (c + 3) := by
  cases s with
  | nil =>
    let τ : Nat → Nat := fun y => if y < 12 then y else c + (y - 12)
    have low : ∀ {z : Nat} {ob : AObj}, lookM [(7, some (.cells [.ptr 6 0, .nils, .map 8, .map 9, .map 10, .map 11, .nilm])), (8, some (rdO 0 [])), (9, some (rdO 1 [])), (10, some (rdO 2 [])), (11, some (rdO 3 [])), (6, some (.cells (pbC B a1 a2 a3))), (0, some (oLa B)), (1, some (oDa B)), (2, some (oLo B))] z = some ob → z = 7 ∨ z = 8 ∨ z = 9 ∨ z = 10 ∨ z = 11 ∨ z = 6 ∨ z = 0 ∨ z = 1 ∨ z = 2 := fun {z ob} hz => by
      have := lookM_mem hz
      simpa using this
    have ha : AV.rens τ [.ptr 7 0, trV t] = [.ptr 7 0, trV t] := rfl
    rw [← ha]
    refine CanS.inst (add_nil B a1 a2 a3 h1 h2 h3 t e) (Nat.zero_le _) (by decide) τ (fun g hg => by omega) (fun y hy => by simp only [τ]; (repeat' split) <;> omega) (fun y hy => by simp only [τ]; (repeat' split) <;> omega) (fun y o hy => ?_) (fun x y o o' hx hy hxy => .inl ?_) (fun y hy hy' => ?_) (fun v1 H1 c1 hq _ => ?_)
    · rcases low hy with rfl | rfl | rfl | rfl | rfl | rfl | rfl | rfl | rfl
      · cases hy; exact getM g7
      · cases hy; rw [rd_ren]; exact getM g8
      · cases hy; rw [rd_ren]; exact getM g9
      · cases hy; rw [rd_ren]; exact getM g10
      · cases hy; rw [rd_ren]; exact getM g11
      · cases hy; rw [pbc_ren h1 h2 h3 rfl rfl rfl]; exact getM g6
      · cases hy; rw [ren_ro]; exact getM k0
      · cases hy; rw [ren_ro]; exact getM k1
      · cases hy; rw [ren_ro]; exact getM k2
    · have q1 := low hx
      have q2 := low hy
      simp only [τ]
      (repeat' split) <;> omega
    · rcases (by omega : y = 7 ∨ y = 8 ∨ y = 9 ∨ y = 10 ∨ y = 11) with rfl | rfl | rfl | rfl | rfl
      all_goals exact ⟨by simp only [τ]; (repeat' split) <;> omega, _, rfl, rfl⟩
    · obtain ⟨p7, p8, p9, p10, p11, pl, pc, pv⟩ := hq
      refine ⟨by rw [pv]; rfl, by omega, fun x o hx => ?_⟩
      rw [ofM_get] at hx
      by_cases e7 : x = 7
      · subst e7
        rw [lookM_hd] at hx
        cases hx
        exact .inr ⟨7, _, by omega, p7, rfl, rfl⟩
      rw [lookM_tl e7] at hx
      by_cases e8 : x = 8
      · subst e8
        rw [lookM_hd] at hx
        cases hx
        exact .inr ⟨8, _, by omega, p8, rfl, (rd_ren _ _ _).symm⟩
      rw [lookM_tl e8] at hx
      by_cases e9 : x = 9
      · subst e9
        rw [lookM_hd] at hx
        cases hx
        exact .inr ⟨9, _, by omega, p9, rfl, (rd_ren _ _ _).symm⟩
      rw [lookM_tl e9] at hx
      by_cases e10 : x = 10
      · subst e10
        rw [lookM_hd] at hx
        cases hx
        exact .inr ⟨10, _, by omega, p10, rfl, (rd_ren _ _ _).symm⟩
      rw [lookM_tl e10] at hx
      by_cases e11 : x = 11
      · subst e11
        rw [lookM_hd] at hx
        cases hx
        exact .inr ⟨11, _, by omega, p11, rfl, (rd_ren _ _ _).symm⟩
      rw [lookM_tl e11] at hx
      by_cases ec : x = c + 2
      · subst ec
        rw [lookM_hd] at hx
        cases hx
        exact .inr ⟨14, _, by omega, pl, rfl, (ren_grown _ _ _ _).symm⟩
      rw [lookM_tl ec] at hx
      obtain ⟨r1, r2, r3, r4⟩ := hr x o hx
      exact .inl ⟨r2, fun y hy hy' => by simp only [τ]; (repeat' split) <;> omega, getM r4⟩
  | cons t0 ts =>
    let τ : Nat → Nat := fun y => if y < 12 then y else if y = 12 then 15 else c + (y - 13)
    have low : ∀ {z : Nat} {ob : AObj}, lookM [(12, some (.grown (flat truE (t0 :: ts)) 28)), (7, some (.cells [.ptr 6 0, .gs 12 (ts.length + 1), .map 8, .map 9, .map 10, .map 11, .nilm])), (8, some (rdO 0 (t0 :: ts))), (9, some (rdO 1 (t0 :: ts))), (10, some (rdO 2 (t0 :: ts))), (11, some (rdO 3 (t0 :: ts))), (6, some (.cells (pbC B a1 a2 a3))), (0, some (oLa B)), (1, some (oDa B)), (2, some (oLo B))] z = some ob → z = 12 ∨ z = 7 ∨ z = 8 ∨ z = 9 ∨ z = 10 ∨ z = 11 ∨ z = 6 ∨ z = 0 ∨ z = 1 ∨ z = 2 := fun {z ob} hz => by
      have := lookM_mem hz
      simpa using this
    have ha : AV.rens τ [.ptr 7 0, trV t] = [.ptr 7 0, trV t] := rfl
    rw [← ha]
    refine CanS.inst (add_cons B a1 a2 a3 h1 h2 h3 t t0 ts (by simp at hs; omega) e) (Nat.zero_le _) (by decide) τ (fun g hg => by omega) (fun y hy => by simp only [τ]; (repeat' split) <;> omega) (fun y hy => by simp only [τ]; (repeat' split) <;> omega) (fun y o hy => ?_) (fun x y o o' hx hy hxy => .inl ?_) (fun y hy hy' => ?_) (fun v1 H1 c1 hq _ => ?_)
    · rcases low hy with rfl | rfl | rfl | rfl | rfl | rfl | rfl | rfl | rfl | rfl
      · cases hy; rw [ren_grown]; exact getM (gl (by simp))
      · cases hy; exact getM g7
      · cases hy; rw [rd_ren]; exact getM g8
      · cases hy; rw [rd_ren]; exact getM g9
      · cases hy; rw [rd_ren]; exact getM g10
      · cases hy; rw [rd_ren]; exact getM g11
      · cases hy; rw [pbc_ren h1 h2 h3 rfl rfl rfl]; exact getM g6
      · cases hy; rw [ren_ro]; exact getM k0
      · cases hy; rw [ren_ro]; exact getM k1
      · cases hy; rw [ren_ro]; exact getM k2
    · have q1 := low hx
      have q2 := low hy
      simp only [τ]
      (repeat' split) <;> omega
    · rcases (by omega : y = 7 ∨ y = 8 ∨ y = 9 ∨ y = 10 ∨ y = 11 ∨ y = 12) with rfl | rfl | rfl | rfl | rfl | rfl
      all_goals exact ⟨by simp only [τ]; (repeat' split) <;> omega, _, rfl, rfl⟩
    · obtain ⟨p7, p8, p9, p10, p11, pl, pc, pv⟩ := hq
      refine ⟨by rw [pv]; rfl, by omega, fun x o hx => ?_⟩
      rw [ofM_get] at hx
      by_cases e7 : x = 7
      · subst e7
        rw [lookM_hd] at hx
        cases hx
        exact .inr ⟨7, _, by omega, p7, rfl, rfl⟩
      rw [lookM_tl e7] at hx
      by_cases e8 : x = 8
      · subst e8
        rw [lookM_hd] at hx
        cases hx
        exact .inr ⟨8, _, by omega, p8, rfl, (rd_ren _ _ _).symm⟩
      rw [lookM_tl e8] at hx
      by_cases e9 : x = 9
      · subst e9
        rw [lookM_hd] at hx
        cases hx
        exact .inr ⟨9, _, by omega, p9, rfl, (rd_ren _ _ _).symm⟩
      rw [lookM_tl e9] at hx
      by_cases e10 : x = 10
      · subst e10
        rw [lookM_hd] at hx
        cases hx
        exact .inr ⟨10, _, by omega, p10, rfl, (rd_ren _ _ _).symm⟩
      rw [lookM_tl e10] at hx
      by_cases e11 : x = 11
      · subst e11
        rw [lookM_hd] at hx
        cases hx
        exact .inr ⟨11, _, by omega, p11, rfl, (rd_ren _ _ _).symm⟩
      rw [lookM_tl e11] at hx
      by_cases ec : x = c + 2
      · subst ec
        rw [lookM_hd] at hx
        cases hx
        exact .inr ⟨15, _, by omega, pl, rfl, (ren_grown _ _ _ _).symm⟩
      rw [lookM_tl ec] at hx
      obtain ⟨r1, r2, r3, r4⟩ := hr x o hx
      exact .inl ⟨r2, fun y hy hy' => by simp only [τ]; (repeat' split) <;> omega, getM r4⟩
theorem add_rd {B : RBook} {a1 a2 a3 : AV} (h1 : IsSl a1 B.nl 0) (h2 : IsSl a2 B.nd 1) (h3 : IsSl a3 B.nk 2) (s : List Tru) (hs : s.length ≤ 20000) (t : Tru) (e : B.nd = 4) {m : List (Nat × Option AObj)} {LO : AObj} {c : Nat} (hc : 16 ≤ c) (g7 : lookM m 7 = some (.cells [.ptr 6 0, lsV s, .map 8, .map 9, .map 10, .map 11, .nilm])) (g8 : lookM m 8 = some (rdO 0 s)) (g9 : lookM m 9 = some (rdO 1 s)) (g10 : lookM m 10 = some (rdO 2 s)) (g11 : lookM m 11 = some (rdO 3 s)) (g6 : lookM m 6 = some (.cells (pbC B a1 a2 a3))) (k0 : lookM m 0 = some (oLa B)) (k1 : lookM m 1 = some (oDa B)) (k2 : lookM m 2 = some (oLo B)) (gl : s ≠ [] → lookM m 15 = some (.grown (flat truE s) 28)) (gL : lookM m 14 = some LO) (gd : lookM m 13 = some .dfr) (fl : Nat) (hfl : fl ≤ 7) :
    OkAt 0 Try.prog fl 75 [.ptr 7 0, trV t] (ofM m) c (.tup []) (ofM ((7, some (.cells [.ptr 6 0, .gs (c + 2) (s ++ [t]).length, .map 8, .map 9, .map 10, .map 11, .nilm])) :: (8, some (rdO 0 (s ++ [t]))) :: (9, some (rdO 1 (s ++ [t]))) :: (10, some (rdO 2 (s ++ [t]))) :: (11, some (rdO 3 (s ++ [t]))) :: (c + 2, some (.grown (flat truE (s ++ [t])) 28)) :: [(14, some LO), (6, some (.cells (pbC B a1 a2 a3))), (0, some (oLa B)), (1, some (oDa B)), (2, some (oLo B)), (13, some .dfr)])) (c + 3) :=
  add_at h1 h2 h3 s hs t e hc g7 g8 g9 g10 g11 g6 k0 k1 k2 gl (fun x o hx => by
    have h := lookM_mem hx
    have h : x = 14 ∨ x = 6 ∨ x = 0 ∨ x = 1 ∨ x = 2 ∨ x = 13 := by simpa using h
    rcases h with rfl | rfl | rfl | rfl | rfl | rfl
    all_goals (cases hx; exact ⟨by omega, by omega, by omega, by assumption⟩)) fl hfl
def lnM (B : RBook) (a1 a2 a3 : AV) (s : List Tru) : List (Nat × Option AObj) := [(7, some (.cells [.ptr 6 0, lsV s, .map 8, .map 9, .map 10, .map 11, .nilm])), (8, some (rdO 0 s)), (9, some (rdO 1 s)), (10, some (rdO 2 s)), (11, some (rdO 3 s)), (6, some (.cells (pbC B a1 a2 a3))), (0, some (oLa B)), (1, some (oDa B)), (2, some (oLo B)), (13, some .dfr)] ++ lsM s
set_option maxRecDepth 100000 in
set_option maxHeartbeats 8000000 in
theorem learn_yes (B : RBook) (a1 a2 a3 : AV) (h1 : IsSl a1 B.nl 0) (h2 : IsSl a2 B.nd 1) (h3 : IsSl a3 B.nk 2) (hn : B.nd ≤ 9223372036854775807) (hB : bkOk B) (e : B.nd = 4) : CanS 0 Try.prog 40 3 [bk B a1 a2 a3, .bool true] [(0, some (oLa B)), (1, some (oDa B)), (2, some (oLo B))] 3 fun v H1 c1 => (Wn B = [] ∧ v = .tup [.agg [.nilp, .nils, .nilm, .nilm, .nilm, .nilm, .nilm], .int .i64 72]) ∨
    (c1 = 16 ∧ Wn B ≠ [] ∧ v = .tup [.agg [.ptr 6 0, .gs 15 (Wn B).length, .map 8, .map 9, .map 10, .map 11, .nilm], .int .i64 0] ∧ H1.get 6 = some (.cells (pbC B a1 a2 a3)) ∧ H1.get 8 = some (rdO 0 (Wn B)) ∧ H1.get 9 = some (rdO 1 (Wn B)) ∧ H1.get 10 = some (rdO 2 (Wn B)) ∧ H1.get 11 = some (rdO 3 (Wn B)) ∧ H1.get 15 = some (.grown (flat truE (Wn B)) 28)) := by
  refine CanS.mk Try.func40 rfl rfl rfl ?_
  repeat' (first | refine RT.nil ?_ | refine sq_n ?_ | refine Tr.seq ?_ | refine Tr.region ?_ | refine Tr.cond_f rfl ?_ | refine Tr.skip ?_ | refine Tr.block ?_ | (refine RT.call rfl rfl rfl (Check_ok ⟨h1, h2, h3, rfl, rfl, rfl, by decide⟩ hn hB _) rfl rfl (Nat.le_refl _) ?_) | (refine RT.call rfl rfl rfl (prepare_at ⟨h1, h2, h3, rfl, rfl, rfl, by decide⟩ (fun x o hx => by have := lookM_mem hx; simp at this; omega) _) rfl rfl (by decide) ?_) | (refine RT.goK rfl rfl rfl rfl ?_; apply Nx.of; (first | exact S.neq_f (by decide))) | (refine RT.goK rfl rfl rfl rfl ?_; apply Nx.of; (first | exact S.move | exact S.assign | exact S.load1c rfl rfl rfl rfl | exact S.loadNc rfl rfl rfl rfl | exact S.fieldAddr rfl rfl rfl | exact S.not_t | exact S.box | exact S.alloc rfl | exact S.build rfl rfl rfl)) | (refine RT.goK0 rfl rfl rfl ?_; apply Nx.of; (first | exact S.store rfl rfl rfl rfl rfl rfl)) | (refine RT.goK rfl rfl rfl rfl ?_; apply Nx.of; (first | exact S.len_sl rfl rfl rfl (by assumption))))
  refine Tr.unroll 4 ?_
  repeat' (first | refine RT.nil ?_ | refine sq_n ?_ | refine Tr.seq ?_ | refine Tr.region ?_ | refine Tr.cond_d rfl (fun _ => ?_) (fun _ => ?_) | refine Tr.skip ?_ | refine Tr.exit ?_ | refine sq_x ?_ | refine Tr.block ?_ | refine blk_n ?_ | refine blk_hit rfl ?_ | refine un_n ?_ | refine un_x ?_ | (refine RT.goK rfl rfl rfl rfl ?_; apply Nx.of; (first | exact S.idx_arrI rfl rfl rfl (by decide) (by decide))) | (refine RT.goK rfl rfl rfl rfl ?_; apply Nx.of; (first | exact S.move | exact S.assign | exact S.load1c rfl rfl rfl rfl | exact S.fieldAddr rfl rfl rfl | exact S.lss | exact S.add_one (by omega) | exact S.add (by unfold In64; omega) | exact S.makeMap | exact S.makeFunc)) | (refine RT.goK0 rfl rfl rfl ?_; apply Nx.of; (first | exact S.store rfl rfl rfl rfl rfl rfl)))
  · exfalso; omega
  refine Tr.wk (Wk.by (l2 := [(4, .ptr 4 0), (5, .int .i64 0), (7, .ptr 7 0), (35, .fn 74 [.ptr 6 0] [])]) (m2 := [(7, some (.cells [.ptr 6 0, .nils, .map 8, .map 9, .map 10, .map 11, .nilm])), (8, some (rdO 0 [])), (9, some (rdO 1 [])), (10, some (rdO 2 [])), (11, some (rdO 3 [])), (4, some (.cells [.nilp, .nils, .nilm, .nilm, .nilm, .nilm, .nilm])), (6, some (.cells (pbC B a1 a2 a3))), (0, some (oLa B)), (1, some (oDa B)), (2, some (oLo B))]) (c2 := 13) (fun y => y) (by decide) (by decide) (by decide) ⟨rfl, rfl, rfl, rfl, trivial⟩ ⟨rfl, rfl, rfl, rfl, rfl, rfl, congrArg some (pbc_ren h1 h2 h3 rfl rfl rfl).symm, congrArg some (ren_ro _ _ _).symm, congrArg some (ren_ro _ _ _).symm, congrArg some (ren_ro _ _ _).symm, trivial⟩ rfl (fun x _ y _ hh => hh) (fun x hx => by omega) (fun x _ => rfl) (fun x hx => hx)) ?_
  refine Tr.rangeR (T := [0, 1, 2, 4, 6]) (NC := [7, 8, 9, 10, 11, 6, 0, 1, 2, 13]) (s0 := []) (M := lnM B a1 a2 a3) (ok := lnOk) (stp := lnS) (room := lnRoom) (hroom := lnRoom_ok) (lC := [(7, .ptr 7 0)]) (memT := [(0, some (oLa B)), (1, some (oDa B)), (2, some (oLo B)), (4, some (.cells [.nilp, .nils, .nilm, .nilm, .nilm, .nilm, .nilm])), (6, some (.cells (pbC B a1 a2 a3)))]) (flT := 7) (flC := 7) (cc := 16) (R := fun v m' s' => m' = [(0, some (oLa B)), (1, some (oDa B)), (2, some (oLo B)), (4, some (.cells [.nilp, .nils, .nilm, .nilm, .nilm, .nilm, .nilm])), (6, some (.cells (pbC B a1 a2 a3)))] ∧ s' = (Wn B, none)) rfl rfl (by decide) (by decide) (by decide) (by decide) (by decide) (by decide) ?_ ?_ rfl ?_ ?_ ?_ (by simp) ?_ ?_ ?_ ?_ ?_
  · exact ⟨⟨by decide, rfl, ren_ro _ _ _⟩, ⟨by decide, rfl, ren_ro _ _ _⟩, ⟨by decide, rfl, ren_ro _ _ _⟩, ⟨by decide, rfl, rfl⟩, ⟨by decide, rfl, pbc_ren h1 h2 h3 rfl rfl rfl⟩, trivial⟩
  · intro x hx
    simp only [List.mem_cons, List.not_mem_nil, or_false] at hx
    rcases hx with rfl | rfl | rfl | rfl | rfl
    all_goals exact ⟨by omega, _, rfl, fun h => by first | rfl | (exfalso; omega)⟩
  · exact ⟨⟨rfl, rfl⟩, trivial⟩
  · exact ⟨⟨by decide, .inr ⟨rfl, by decide⟩, rfl⟩, ⟨by decide, .inr ⟨rfl, by decide⟩, rd_ren _ _ _⟩, ⟨by decide, .inr ⟨rfl, by decide⟩, rd_ren _ _ _⟩, ⟨by decide, .inr ⟨rfl, by decide⟩, rd_ren _ _ _⟩, ⟨by decide, .inr ⟨rfl, by decide⟩, rd_ren _ _ _⟩, ⟨by decide, .inr ⟨rfl, by decide⟩, pbc_ren h1 h2 h3 rfl rfl rfl⟩, ⟨by decide, .inr ⟨rfl, by decide⟩, ren_ro _ _ _⟩, ⟨by decide, .inr ⟨rfl, by decide⟩, ren_ro _ _ _⟩, ⟨by decide, .inr ⟨rfl, by decide⟩, ren_ro _ _ _⟩, ⟨by decide, .inl ⟨rfl, rfl⟩, rfl⟩, trivial⟩
  · intro y hy
    simp only [List.mem_cons, List.not_mem_nil, or_false] at hy
    rcases hy with rfl | rfl | rfl | rfl | rfl | rfl | rfl | rfl | rfl | rfl
    · exact .inr (.inl ⟨by omega, by omega, by decide, _, rfl, rfl⟩)
    · exact .inr (.inl ⟨by omega, by omega, by decide, _, rfl, rfl⟩)
    · exact .inr (.inl ⟨by omega, by omega, by decide, _, rfl, rfl⟩)
    · exact .inr (.inl ⟨by omega, by omega, by decide, _, rfl, rfl⟩)
    · exact .inr (.inl ⟨by omega, by omega, by decide, _, rfl, rfl⟩)
    · exact .inr (.inr ⟨by omega, by omega, _, rfl⟩)
    · exact .inr (.inr ⟨by omega, by omega, _, rfl⟩)
    · exact .inr (.inr ⟨by omega, by omega, _, rfl⟩)
    · exact .inr (.inr ⟨by omega, by omega, _, rfl⟩)
    · exact .inl rfl
  · intro s y o h
    have := lookM_mem h
    cases s <;> simp [lnM, lsM] at this <;> omega
  · refine ⟨fun s args ⟨⟨t, h⟩, _⟩ => ⟨trV t, h, fun _ => rfl⟩, fun s v ⟨⟨t, h⟩, hr⟩ => ?_⟩
    cases h
    repeat' (first | refine RT.nil ?_ | refine Tr.region ?_ | (refine RT.goK rfl rfl rfl rfl ?_; apply Nx.of; (first | exact S.alloc rfl)) | (refine RT.goK0 rfl rfl rfl ?_; apply Nx.of; (first | exact S.store rfl rfl rfl rfl rfl rfl)))
    refine ⟨rfl, _, _, _, rfl, rfl, ?_⟩
    cases s with
    | nil =>
      repeat' (first | refine RT.nil ?_ | refine Tr.region ?_ | refine Tr.block ?_ | refine blk_n ?_ | (refine RT.call rfl rfl rfl (add_rd h1 h2 h3 _ (by unfold lnRoom at hr; omega) (norm t) e (by decide) rfl rfl rfl rfl rfl rfl rfl rfl rfl (fun hne => by first | exact absurd rfl hne) rfl rfl _ (by decide)) rfl rfl (by decide) ?_) | (refine RT.goK rfl rfl rfl rfl ?_; apply Nx.of; (first | exact S.loadNc rfl rfl rfl rfl)))
      refine ⟨rfl, Wk.by (fun y => if y = 15 then 19 else if y < 15 then y else 20 + y) (by decide) (by decide) (by decide) trivial ⟨congrArg some (lpO_ren (l := [(7, .ptr 7 0)]) ⟨rfl, trivial⟩ rfl).symm, rfl, congrArg some (rd_ren _ _ _).symm, congrArg some (rd_ren _ _ _).symm, congrArg some (rd_ren _ _ _).symm, congrArg some (rd_ren _ _ _).symm, congrArg some (pbc_ren h1 h2 h3 rfl rfl rfl).symm, congrArg some (ren_ro _ _ _).symm, congrArg some (ren_ro _ _ _).symm, congrArg some (ren_ro _ _ _).symm, rfl, congrArg some (ren_grown _ _ _ _).symm, trivial⟩ rfl (fun x hx y hy hxy e => ?_) (fun x hx => ?_) (fun x hx => ?_) (fun x hx => ?_)⟩
      · have hx' : x = 14 ∨ x = 7 ∨ x = 8 ∨ x = 9 ∨ x = 10 ∨ x = 11 ∨ x = 6 ∨ x = 0 ∨ x = 1 ∨ x = 2 ∨ x = 13 ∨ x = 15 := by simpa [lnM, lnS, lsM] using hx
        have hy' : y = 14 ∨ y = 7 ∨ y = 8 ∨ y = 9 ∨ y = 10 ∨ y = 11 ∨ y = 6 ∨ y = 0 ∨ y = 1 ∨ y = 2 ∨ y = 13 ∨ y = 15 := by simpa [lnM, lnS, lsM] using hy
        (repeat' split at e) <;> omega
      all_goals ((repeat' split) <;> omega)
    | cons t0 ts =>
      repeat' (first | refine RT.nil ?_ | refine Tr.region ?_ | refine Tr.block ?_ | refine blk_n ?_ | (refine RT.call rfl rfl rfl (add_rd h1 h2 h3 _ (by unfold lnRoom at hr; omega) (norm t) e (by decide) rfl rfl rfl rfl rfl rfl rfl rfl rfl (fun hne => by first | rfl) rfl rfl _ (by decide)) rfl rfl (by decide) ?_) | (refine RT.goK rfl rfl rfl rfl ?_; apply Nx.of; (first | exact S.loadNc rfl rfl rfl rfl)))
      refine ⟨rfl, Wk.by (fun y => if y = 15 then 19 else if y < 15 then y else 20 + y) (by decide) (by decide) (by decide) trivial ⟨congrArg some (lpO_ren (l := [(7, .ptr 7 0)]) ⟨rfl, trivial⟩ rfl).symm, rfl, congrArg some (rd_ren _ _ _).symm, congrArg some (rd_ren _ _ _).symm, congrArg some (rd_ren _ _ _).symm, congrArg some (rd_ren _ _ _).symm, congrArg some (pbc_ren h1 h2 h3 rfl rfl rfl).symm, congrArg some (ren_ro _ _ _).symm, congrArg some (ren_ro _ _ _).symm, congrArg some (ren_ro _ _ _).symm, rfl, congrArg some (ren_grown _ _ _ _).symm, trivial⟩ rfl (fun x hx y hy hxy e => ?_) (fun x hx => ?_) (fun x hx => ?_) (fun x hx => ?_)⟩
      · have hx' : x = 14 ∨ x = 7 ∨ x = 8 ∨ x = 9 ∨ x = 10 ∨ x = 11 ∨ x = 6 ∨ x = 0 ∨ x = 1 ∨ x = 2 ∨ x = 13 ∨ x = 15 := by simpa [lnM, lnS, lsM] using hx
        have hy' : y = 14 ∨ y = 7 ∨ y = 8 ∨ y = 9 ∨ y = 10 ∨ y = 11 ∨ y = 6 ∨ y = 0 ∨ y = 1 ∨ y = 2 ∨ y = 13 ∨ y = 15 := by simpa [lnM, lnS, lsM] using hy
        (repeat' split at e) <;> omega
      all_goals ((repeat' split) <;> omega)
  · intro ρ0 lb h hY
    refine OkJ.mono (truths_ok ⟨h1, h2, h3, rfl, rfl, rfl, rfl, by decide, by decide⟩ rfl hB hY (fun k s t hl => ⟨hl.1, ⟨t, rfl⟩, ?_⟩) ?_ 7) ?_
    · have := hl.2
      unfold lnRoom at this ⊢
      omega
    · refine ⟨rfl, ?_⟩
      have := allT_len hB.2.1
      show 0 + _ ≤ 20000
      omega
    rintro v m' s' ⟨⟨hv, hs⟩, hm⟩
    subst hm
    exact ⟨rfl, by rw [hs, foldC_rnd, foldS_ln]; rfl⟩
  · rintro v m' s' ⟨rfl, _⟩
    rfl
  · rintro v m' s' j ⟨rfl, hs⟩
    cases hs
    cases hq : Wn B with
    | nil =>
      have hs0 : IsSl .nils 0 15 := .nils _
      show blk _ _ _ _
      repeat' (first | refine RT.nil ?_ | refine sq_n ?_ | refine Tr.seq ?_ | refine Tr.region ?_ | refine Tr.cond_t rfl ?_ | refine Tr.ret ?_ | refine sq_r ?_ | refine blk_n ?_ | (refine RT.goK rfl rfl rfl rfl ?_; apply Nx.of; (first | exact S.assign | exact S.load1c rfl rfl rfl rfl | exact S.fieldAddr rfl rfl rfl | exact S.eql | exact S.build rfl rfl rfl)) | (refine RT.goK0 rfl rfl rfl ?_; apply Nx.of; (first | exact S.store rfl rfl rfl rfl rfl rfl)) | (refine RT.goK rfl rfl rfl rfl ?_; apply Nx.of; (first | exact S.len_sl rfl rfl rfl (by assumption))))
      · refine rt_goD rfl rfl rfl ?_
        exact .inl ⟨rfl, rfl⟩
    | cons t ts =>
      have hs0 : IsSl (.gs 15 (ts.length + 1)) (ts.length + 1) 15 := .gs _ _
      show blk _ _ _ _
      repeat' (first | refine RT.nil ?_ | refine sq_n ?_ | refine Tr.seq ?_ | refine Tr.region ?_ | refine Tr.cond_f rfl ?_ | refine Tr.skip ?_ | refine Tr.ret ?_ | refine blk_n ?_ | (refine RT.goK rfl rfl rfl rfl ?_; apply Nx.of; (first | exact S.assign | exact S.load1c rfl rfl rfl rfl | exact S.loadNc rfl rfl rfl rfl | exact S.fieldAddr rfl rfl rfl | exact S.eql)) | (refine RT.goK0 rfl rfl rfl ?_; apply Nx.of; (first | exact S.store rfl rfl rfl rfl rfl rfl)) | (refine RT.goK rfl rfl rfl rfl ?_; apply Nx.of; (first | exact S.len_sl rfl rfl rfl (by assumption))))
      · refine rt_goD rfl rfl rfl ?_
        exact .inr ⟨rfl, by simp, rfl, getM rfl, getM rfl, getM rfl, getM rfl, getM rfl, getM rfl⟩
  all_goals (exfalso; omega)
theorem learn_at {B : RBook} {a1 a2 a3 : AV} {m : List (Nat × Option AObj)} {c : Nat} (h : BkIn B a1 a2 a3 m c) (hm : ∀ x o, lookM m x = some o → x < c) (hn : B.nd ≤ 9223372036854775807) (hB : bkOk B) (e : B.nd = 4) (hW : Wn B ≠ []) (fl : Nat) : OkAt 0 Try.prog fl 40 [bk B a1 a2 a3, .bool true] (ofM m) c
    (.tup [.agg (.ptr (c + 3) 0 :: .gs (c + 12) (Wn B).length :: mpsV 4 (c + 5)), .int .i64 0]) (ofM ((c + 3, some (.cells (pbC B a1 a2 a3))) :: (c + 12, some (oWn (Wn B))) :: (m ++ rdsM (Wn B) (c + 5) 4))) (c + 13) := by
  let τ : Nat → Nat := fun y => if y < 3 then y else c + (y - 3)
  have hc := h.hc
  have t0 : τ 0 = 0 := rfl
  have t1 : τ 1 = 1 := rfl
  have t2 : τ 2 = 2 := rfl
  have low : ∀ {u : Nat} {ob : AObj}, lookM [(0, some (oLa B)), (1, some (oDa B)), (2, some (oLo B))] u = some ob → u = 0 ∨ u = 1 ∨ u = 2 := fun {u ob} hz => by
    have := lookM_mem hz
    simpa using this
  have ha : AV.rens τ [bk B a1 a2 a3, .bool true] = [bk B a1 a2 a3, .bool true] := by simp only [bk, AV.ren, AV.rens, h.h1.ren t0, h.h2.ren t1, h.h3.ren t2]
  rw [← ha]
  refine CanS.inst (learn_yes B a1 a2 a3 h.h1 h.h2 h.h3 hn hB e) (Nat.zero_le _) (Nat.le_refl _) τ (fun g hg => by omega) (fun y hy => by simp only [τ]; split <;> omega) (fun y hy => by simp only [τ]; split <;> omega) (fun y o hy => ?_) (fun x y o o' hx hy hxy => ?_) (fun y hy hy' => by omega) (fun v1 H1 c1 hq _ => ?_)
  · rcases low hy with rfl | rfl | rfl
    · cases hy; rw [t0, ren_ro]; exact getM h.m1
    · cases hy; rw [t1, ren_ro]; exact getM h.m2
    · cases hy; rw [t2, ren_ro]; exact getM h.m3
  · refine .inl ?_
    rcases low hx with rfl | rfl | rfl <;> rcases low hy with rfl | rfl | rfl <;> simp only [t0, t1, t2] <;> omega
  · rcases hq with ⟨hq, _⟩ | ⟨rfl, _, rfl, p6, p8, p9, p10, p11, pl⟩
    · exact absurd hq hW
    refine ⟨rfl, by omega, fun x o hx => ?_⟩
    rw [ofM_get] at hx
    replace hx : lookM ((c + 3, some (.cells (pbC B a1 a2 a3))) :: (c + 12, some (oWn (Wn B))) :: (m ++ [(c + 8, some (rdO 3 (Wn B))), (c + 7, some (rdO 2 (Wn B))), (c + 6, some (rdO 1 (Wn B))), (c + 5, some (rdO 0 (Wn B)))])) x = some o := hx
    by_cases e6 : x = c + 3
    · subst e6
      rw [lookM_hd] at hx
      cases hx
      exact .inr ⟨6, _, by omega, p6, rfl, by simp only [pbC, AObj.ren, AV.ren, AV.rens, h.h1.ren t0, h.h2.ren t1, h.h3.ren t2]⟩
    rw [lookM_tl e6] at hx
    by_cases e15 : x = c + 12
    · subst e15
      rw [lookM_hd] at hx
      cases hx
      exact .inr ⟨15, _, by omega, pl, rfl, (ren_grown _ _ _ _).symm⟩
    rw [lookM_tl e15] at hx
    rcases lookM_app hx with hx | hx
    · exact .inl ⟨hm x o hx, fun y hy hy' => by omega, getM hx⟩
    by_cases e11 : x = c + 8
    · subst e11
      rw [lookM_hd] at hx
      cases hx
      exact .inr ⟨11, _, by omega, p11, rfl, (rd_ren _ _ _).symm⟩
    rw [lookM_tl e11] at hx
    by_cases e10 : x = c + 7
    · subst e10
      rw [lookM_hd] at hx
      cases hx
      exact .inr ⟨10, _, by omega, p10, rfl, (rd_ren _ _ _).symm⟩
    rw [lookM_tl e10] at hx
    by_cases e9 : x = c + 6
    · subst e9
      rw [lookM_hd] at hx
      cases hx
      exact .inr ⟨9, _, by omega, p9, rfl, (rd_ren _ _ _).symm⟩
    rw [lookM_tl e9] at hx
    by_cases e8 : x = c + 5
    · subst e8
      rw [lookM_hd] at hx
      cases hx
      exact .inr ⟨8, _, by omega, p8, rfl, (rd_ren _ _ _).symm⟩
    rw [lookM_tl e8] at hx
    cases hx
end Days4
end Go.Proofs.Ytjnckbefajfgbaa

/- Package roll: add, for a book of 5 days. -/
namespace Go.Proofs.Ytjnckbefajfgbaa
open Go Go.Ev
namespace Days5
theorem all_two {α : Type} {p : α → Bool} {a b : α} (h : p a = true) (k : p b = true) : [a, b].all p = true := by simp [h, k]
set_option maxRecDepth 100000 in
set_option maxHeartbeats 8000000 in
theorem add_nil (B : RBook) (a1 a2 a3 : AV) (h1 : IsSl a1 B.nl 0) (h2 : IsSl a2 B.nd 1) (h3 : IsSl a3 B.nk 2) (t : Tru) (e : B.nd = 5) : CanS 0 Try.prog 75 7 [.ptr 7 0, trV t] [(7, some (.cells [.ptr 6 0, .nils, .map 8, .map 9, .map 10, .map 11, .map 12])), (8, some (rdO 0 [])), (9, some (rdO 1 [])), (10, some (rdO 2 [])), (11, some (rdO 3 [])), (12, some (rdO 4 [])), (6, some (.cells (pbC B a1 a2 a3))), (0, some (oLa B)), (1, some (oDa B)), (2, some (oLo B))] 13 fun v H1 c1 => H1.get 7 = some (.cells [.ptr 6 0, .gs 15 (([] ++ [t]).length), .map 8, .map 9, .map 10, .map 11, .map 12]) ∧ H1.get 8 = some (rdO 0 ([] ++ [t])) ∧ H1.get 9 = some (rdO 1 ([] ++ [t])) ∧ H1.get 10 = some (rdO 2 ([] ++ [t])) ∧ H1.get 11 = some (rdO 3 ([] ++ [t])) ∧ H1.get 12 = some (rdO 4 ([] ++ [t])) ∧ H1.get 15 = some (.grown (flat truE ([] ++ [t])) 28) ∧ c1 = 16 ∧ v = .tup [] := by
  refine CanS.mk Try.func75 rfl rfl rfl ?_
  repeat' (first | refine RT.nil ?_ | refine sq_n ?_ | refine Tr.seq ?_ | refine Tr.region ?_ | (refine RT.goK rfl rfl rfl rfl ?_; apply Nx.of; (first | exact S.box)))
  refine Tr.openK un75_1 (by kernel_rfl) (by kernel_rfl) noCall noCall_calm ?_
  repeat' (first | (refine RD.wide rfl rfl rfl rfl rfl rfl rfl rfl ?_; (first | refine Nx.of (S.append_nil rfl rfl rfl rfl rfl rfl rfl rfl rfl rfl rfl) ⟨rfl, ?_⟩)) | (refine RD.free rfl rfl rfl rfl rfl rfl ?_; apply Nx.of; (first | exact S.move | exact S.fieldAddr rfl rfl rfl | exact S.nilCheck)) | (refine RD.new rfl rfl rfl rfl rfl rfl ?_; apply Nx.of; (first | exact S.buildSlice rfl rfl rfl rfl rfl rfl rfl)) | (refine RD.load rfl rfl rfl rfl rfl rfl rfl rfl ?_; apply Nx.of; (first | exact S.load1c rfl rfl rfl rfl | exact S.loadNc rfl rfl rfl rfl)) | (refine RD.store rfl rfl rfl rfl rfl rfl rfl ?_; apply Nx.of; (first | exact S.store rfl rfl rfl rfl rfl rfl)) | refine RD.nil ⟨Nat.le_of_ble_eq_true rfl, ?_⟩)
  repeat' (first | refine RT.nil ?_ | refine sq_n ?_ | refine Tr.seq ?_ | refine Tr.region ?_ | refine Tr.block ?_ | (refine RT.goK rfl rfl rfl rfl ?_; apply Nx.of; (first | exact S.move | exact S.load1c rfl rfl rfl rfl | exact S.fieldAddr rfl rfl rfl | exact S.nilCheck)) | (refine RT.goK rfl rfl rfl rfl ?_; apply Nx.of; (first | exact S.len_sl rfl rfl rfl (by assumption))))
  refine Tr.unroll 5 ?_
  have hb0 := rdC_bd 0 [] (endK 0 t)
  repeat' (first | refine RT.nil ?_ | refine sq_n ?_ | refine Tr.seq ?_ | refine Tr.region ?_ | refine Tr.cond_d rfl (fun _ => ?_) (fun _ => ?_) | refine Tr.skip ?_ | refine Tr.exit ?_ | refine sq_x ?_ | refine Tr.block ?_ | refine blk_hit rfl ?_ | refine un_x ?_ | (refine RT.goK rfl rfl rfl rfl ?_; apply Nx.of; (first | exact S.move | exact S.assign | exact S.lss)))
  refine Tr.openK un75_5 (by kernel_rfl) (by kernel_rfl) noCall noCall_calm ?_
  repeat' (first | (refine RD.free rfl rfl rfl rfl rfl rfl ?_; apply Nx.of; (first | exact S.move | exact S.fieldAddr rfl rfl rfl | exact S.add_w | exact S.nilCheck | exact S.idx_arrI rfl rfl rfl (by decide) (by decide))) | (refine RD.load rfl rfl rfl rfl rfl rfl rfl rfl ?_; apply Nx.of; (first | exact S.load1c rfl rfl rfl rfl | exact S.loadNc rfl rfl rfl rfl)) | (refine RD.load rfl rfl rfl rfl rfl rfl rfl rfl ?_; (refine Nx.of (S.look0 (enc := roE) (encV := roW) (f := rdF 0 []) (L := rdK 0 []) (k := endK 0 t) roKeys rfl rfl rfl rfl (fun h => by unfold rdF; rw [rdC_0 h])) ?_)))
  refine RD.wide rfl rfl rfl rfl rfl rfl rfl rfl ?_
  refine Nx.of (S.entry (enc := roE) (encV := roW) (f := rdF 0 []) (L := rdK 0 []) (k := endK 0 t) roKeys roBits rfl rfl rfl rfl rfl (fun h => by unfold rdF; rw [rdC_0 h])) ⟨?_, ?_⟩
  · refine all_two ?_ ?_ <;> first | rfl | exact same_look (enc := roE) (encV := roW) (f := rdF 0 []) (L := insK (rdK 0 []) (endK 0 t)) (k := endK 0 t) (n := rdC 0 [] (endK 0 t)) roKeys rfl rfl rfl ins_mem rfl
  repeat' (first | (refine RD.free rfl rfl rfl rfl rfl rfl ?_; apply Nx.of; (first | exact S.extract rfl)))
  refine RD.wide0 rfl rfl rfl rfl rfl rfl rfl ?_
  refine Nx.of (S.entryStore (enc := roE) (f := rdF 0 []) (L := insK (rdK 0 []) (endK 0 t)) (k := endK 0 t) rfl rfl (ins_nodup (rdK_nodup _ _)) ins_mem (ix_ins _)) ⟨rfl, ?_⟩
  refine RD.nil ⟨Nat.le_of_ble_eq_true rfl, ?_⟩
  have hb1 := rdC_bd 1 [] (endK 1 t)
  repeat' (first | refine RT.nil ?_ | refine sq_n ?_ | refine Tr.seq ?_ | refine Tr.region ?_ | refine Tr.cond_d rfl (fun _ => ?_) (fun _ => ?_) | refine Tr.skip ?_ | refine Tr.exit ?_ | refine sq_x ?_ | refine Tr.block ?_ | refine blk_n ?_ | refine blk_hit rfl ?_ | refine un_n ?_ | refine un_x ?_ | (refine RT.goK rfl rfl rfl rfl ?_; apply Nx.of; (first | exact S.move | exact S.assign | exact S.lss | exact S.add (by unfold In64; omega))))
  refine Tr.openK un75_5 (by kernel_rfl) (by kernel_rfl) noCall noCall_calm ?_
  repeat' (first | (refine RD.free rfl rfl rfl rfl rfl rfl ?_; apply Nx.of; (first | exact S.move | exact S.fieldAddr rfl rfl rfl | exact S.add_w | exact S.nilCheck | exact S.idx_arrI rfl rfl rfl (by decide) (by decide))) | (refine RD.load rfl rfl rfl rfl rfl rfl rfl rfl ?_; apply Nx.of; (first | exact S.load1c rfl rfl rfl rfl | exact S.loadNc rfl rfl rfl rfl)) | (refine RD.load rfl rfl rfl rfl rfl rfl rfl rfl ?_; (refine Nx.of (S.look0 (enc := roE) (encV := roW) (f := rdF 1 []) (L := rdK 1 []) (k := endK 1 t) roKeys rfl rfl rfl rfl (fun h => by unfold rdF; rw [rdC_0 h])) ?_)))
  refine RD.wide rfl rfl rfl rfl rfl rfl rfl rfl ?_
  refine Nx.of (S.entry (enc := roE) (encV := roW) (f := rdF 1 []) (L := rdK 1 []) (k := endK 1 t) roKeys roBits rfl rfl rfl rfl rfl (fun h => by unfold rdF; rw [rdC_0 h])) ⟨?_, ?_⟩
  · refine all_two ?_ ?_ <;> first | rfl | exact same_look (enc := roE) (encV := roW) (f := rdF 1 []) (L := insK (rdK 1 []) (endK 1 t)) (k := endK 1 t) (n := rdC 1 [] (endK 1 t)) roKeys rfl rfl rfl ins_mem rfl
  repeat' (first | (refine RD.free rfl rfl rfl rfl rfl rfl ?_; apply Nx.of; (first | exact S.extract rfl)))
  refine RD.wide0 rfl rfl rfl rfl rfl rfl rfl ?_
  refine Nx.of (S.entryStore (enc := roE) (f := rdF 1 []) (L := insK (rdK 1 []) (endK 1 t)) (k := endK 1 t) rfl rfl (ins_nodup (rdK_nodup _ _)) ins_mem (ix_ins _)) ⟨rfl, ?_⟩
  refine RD.nil ⟨Nat.le_of_ble_eq_true rfl, ?_⟩
  have hb2 := rdC_bd 2 [] (endK 2 t)
  repeat' (first | refine RT.nil ?_ | refine sq_n ?_ | refine Tr.seq ?_ | refine Tr.region ?_ | refine Tr.cond_d rfl (fun _ => ?_) (fun _ => ?_) | refine Tr.skip ?_ | refine Tr.exit ?_ | refine sq_x ?_ | refine Tr.block ?_ | refine blk_n ?_ | refine blk_hit rfl ?_ | refine un_n ?_ | refine un_x ?_ | (refine RT.goK rfl rfl rfl rfl ?_; apply Nx.of; (first | exact S.move | exact S.assign | exact S.lss | exact S.add (by unfold In64; omega))))
  refine Tr.openK un75_5 (by kernel_rfl) (by kernel_rfl) noCall noCall_calm ?_
  repeat' (first | (refine RD.free rfl rfl rfl rfl rfl rfl ?_; apply Nx.of; (first | exact S.move | exact S.fieldAddr rfl rfl rfl | exact S.add_w | exact S.nilCheck | exact S.idx_arrI rfl rfl rfl (by decide) (by decide))) | (refine RD.load rfl rfl rfl rfl rfl rfl rfl rfl ?_; apply Nx.of; (first | exact S.load1c rfl rfl rfl rfl | exact S.loadNc rfl rfl rfl rfl)) | (refine RD.load rfl rfl rfl rfl rfl rfl rfl rfl ?_; (refine Nx.of (S.look0 (enc := roE) (encV := roW) (f := rdF 2 []) (L := rdK 2 []) (k := endK 2 t) roKeys rfl rfl rfl rfl (fun h => by unfold rdF; rw [rdC_0 h])) ?_)))
  refine RD.wide rfl rfl rfl rfl rfl rfl rfl rfl ?_
  refine Nx.of (S.entry (enc := roE) (encV := roW) (f := rdF 2 []) (L := rdK 2 []) (k := endK 2 t) roKeys roBits rfl rfl rfl rfl rfl (fun h => by unfold rdF; rw [rdC_0 h])) ⟨?_, ?_⟩
  · refine all_two ?_ ?_ <;> first | rfl | exact same_look (enc := roE) (encV := roW) (f := rdF 2 []) (L := insK (rdK 2 []) (endK 2 t)) (k := endK 2 t) (n := rdC 2 [] (endK 2 t)) roKeys rfl rfl rfl ins_mem rfl
  repeat' (first | (refine RD.free rfl rfl rfl rfl rfl rfl ?_; apply Nx.of; (first | exact S.extract rfl)))
  refine RD.wide0 rfl rfl rfl rfl rfl rfl rfl ?_
  refine Nx.of (S.entryStore (enc := roE) (f := rdF 2 []) (L := insK (rdK 2 []) (endK 2 t)) (k := endK 2 t) rfl rfl (ins_nodup (rdK_nodup _ _)) ins_mem (ix_ins _)) ⟨rfl, ?_⟩
  refine RD.nil ⟨Nat.le_of_ble_eq_true rfl, ?_⟩
  have hb3 := rdC_bd 3 [] (endK 3 t)
  repeat' (first | refine RT.nil ?_ | refine sq_n ?_ | refine Tr.seq ?_ | refine Tr.region ?_ | refine Tr.cond_d rfl (fun _ => ?_) (fun _ => ?_) | refine Tr.skip ?_ | refine Tr.exit ?_ | refine sq_x ?_ | refine Tr.block ?_ | refine blk_n ?_ | refine blk_hit rfl ?_ | refine un_n ?_ | refine un_x ?_ | (refine RT.goK rfl rfl rfl rfl ?_; apply Nx.of; (first | exact S.move | exact S.assign | exact S.lss | exact S.add (by unfold In64; omega))))
  refine Tr.openK un75_5 (by kernel_rfl) (by kernel_rfl) noCall noCall_calm ?_
  repeat' (first | (refine RD.free rfl rfl rfl rfl rfl rfl ?_; apply Nx.of; (first | exact S.move | exact S.fieldAddr rfl rfl rfl | exact S.add_w | exact S.nilCheck | exact S.idx_arrI rfl rfl rfl (by decide) (by decide))) | (refine RD.load rfl rfl rfl rfl rfl rfl rfl rfl ?_; apply Nx.of; (first | exact S.load1c rfl rfl rfl rfl | exact S.loadNc rfl rfl rfl rfl)) | (refine RD.load rfl rfl rfl rfl rfl rfl rfl rfl ?_; (refine Nx.of (S.look0 (enc := roE) (encV := roW) (f := rdF 3 []) (L := rdK 3 []) (k := endK 3 t) roKeys rfl rfl rfl rfl (fun h => by unfold rdF; rw [rdC_0 h])) ?_)))
  refine RD.wide rfl rfl rfl rfl rfl rfl rfl rfl ?_
  refine Nx.of (S.entry (enc := roE) (encV := roW) (f := rdF 3 []) (L := rdK 3 []) (k := endK 3 t) roKeys roBits rfl rfl rfl rfl rfl (fun h => by unfold rdF; rw [rdC_0 h])) ⟨?_, ?_⟩
  · refine all_two ?_ ?_ <;> first | rfl | exact same_look (enc := roE) (encV := roW) (f := rdF 3 []) (L := insK (rdK 3 []) (endK 3 t)) (k := endK 3 t) (n := rdC 3 [] (endK 3 t)) roKeys rfl rfl rfl ins_mem rfl
  repeat' (first | (refine RD.free rfl rfl rfl rfl rfl rfl ?_; apply Nx.of; (first | exact S.extract rfl)))
  refine RD.wide0 rfl rfl rfl rfl rfl rfl rfl ?_
  refine Nx.of (S.entryStore (enc := roE) (f := rdF 3 []) (L := insK (rdK 3 []) (endK 3 t)) (k := endK 3 t) rfl rfl (ins_nodup (rdK_nodup _ _)) ins_mem (ix_ins _)) ⟨rfl, ?_⟩
  refine RD.nil ⟨Nat.le_of_ble_eq_true rfl, ?_⟩
  have hb4 := rdC_bd 4 [] (endK 4 t)
  repeat' (first | refine RT.nil ?_ | refine sq_n ?_ | refine Tr.seq ?_ | refine Tr.region ?_ | refine Tr.cond_d rfl (fun _ => ?_) (fun _ => ?_) | refine Tr.skip ?_ | refine Tr.exit ?_ | refine sq_x ?_ | refine Tr.block ?_ | refine blk_n ?_ | refine blk_hit rfl ?_ | refine un_n ?_ | refine un_x ?_ | (refine RT.goK rfl rfl rfl rfl ?_; apply Nx.of; (first | exact S.move | exact S.assign | exact S.lss | exact S.add (by unfold In64; omega))))
  refine Tr.openK un75_5 (by kernel_rfl) (by kernel_rfl) noCall noCall_calm ?_
  repeat' (first | (refine RD.free rfl rfl rfl rfl rfl rfl ?_; apply Nx.of; (first | exact S.move | exact S.fieldAddr rfl rfl rfl | exact S.add_w | exact S.nilCheck | exact S.idx_arrI rfl rfl rfl (by decide) (by decide))) | (refine RD.load rfl rfl rfl rfl rfl rfl rfl rfl ?_; apply Nx.of; (first | exact S.load1c rfl rfl rfl rfl | exact S.loadNc rfl rfl rfl rfl)) | (refine RD.load rfl rfl rfl rfl rfl rfl rfl rfl ?_; (refine Nx.of (S.look0 (enc := roE) (encV := roW) (f := rdF 4 []) (L := rdK 4 []) (k := endK 4 t) roKeys rfl rfl rfl rfl (fun h => by unfold rdF; rw [rdC_0 h])) ?_)))
  refine RD.wide rfl rfl rfl rfl rfl rfl rfl rfl ?_
  refine Nx.of (S.entry (enc := roE) (encV := roW) (f := rdF 4 []) (L := rdK 4 []) (k := endK 4 t) roKeys roBits rfl rfl rfl rfl rfl (fun h => by unfold rdF; rw [rdC_0 h])) ⟨?_, ?_⟩
  · refine all_two ?_ ?_ <;> first | rfl | exact same_look (enc := roE) (encV := roW) (f := rdF 4 []) (L := insK (rdK 4 []) (endK 4 t)) (k := endK 4 t) (n := rdC 4 [] (endK 4 t)) roKeys rfl rfl rfl ins_mem rfl
  repeat' (first | (refine RD.free rfl rfl rfl rfl rfl rfl ?_; apply Nx.of; (first | exact S.extract rfl)))
  refine RD.wide0 rfl rfl rfl rfl rfl rfl rfl ?_
  refine Nx.of (S.entryStore (enc := roE) (f := rdF 4 []) (L := insK (rdK 4 []) (endK 4 t)) (k := endK 4 t) rfl rfl (ins_nodup (rdK_nodup _ _)) ins_mem (ix_ins _)) ⟨rfl, ?_⟩
  refine RD.nil ⟨Nat.le_of_ble_eq_true rfl, ?_⟩
  repeat' (first | refine RT.nil ?_ | refine sq_n ?_ | refine Tr.seq ?_ | refine Tr.region ?_ | refine Tr.cond_d rfl (fun _ => ?_) (fun _ => ?_) | refine Tr.skip ?_ | refine Tr.exit ?_ | refine sq_x ?_ | refine Tr.block ?_ | refine blk_n ?_ | refine blk_hit rfl ?_ | refine un_n ?_ | refine un_x ?_ | (refine RT.goK rfl rfl rfl rfl ?_; apply Nx.of; (first | exact S.move | exact S.assign | exact S.lss | exact S.add (by unfold In64; omega))))
  · exfalso; omega
  refine rt_gon rfl ?_
  · exact ⟨getM rfl, by rw [← rdO_snoc]; exact getM rfl, by rw [← rdO_snoc]; exact getM rfl, by rw [← rdO_snoc]; exact getM rfl, by rw [← rdO_snoc]; exact getM rfl, by rw [← rdO_snoc]; exact getM rfl, getM rfl, rfl, rfl⟩
  all_goals (exfalso; omega)
set_option maxRecDepth 100000 in
set_option maxHeartbeats 8000000 in
theorem add_cons (B : RBook) (a1 a2 a3 : AV) (h1 : IsSl a1 B.nl 0) (h2 : IsSl a2 B.nd 1) (h3 : IsSl a3 B.nk 2) (t : Tru) (t0 : Tru) (ts : List Tru) (hr : ts.length ≤ 20000) (e : B.nd = 5) : CanS 0 Try.prog 75 7 [.ptr 7 0, trV t] [(13, some (.grown (flat truE (t0 :: ts)) 28)), (7, some (.cells [.ptr 6 0, .gs 13 (ts.length + 1), .map 8, .map 9, .map 10, .map 11, .map 12])), (8, some (rdO 0 (t0 :: ts))), (9, some (rdO 1 (t0 :: ts))), (10, some (rdO 2 (t0 :: ts))), (11, some (rdO 3 (t0 :: ts))), (12, some (rdO 4 (t0 :: ts))), (6, some (.cells (pbC B a1 a2 a3))), (0, some (oLa B)), (1, some (oDa B)), (2, some (oLo B))] 14 fun v H1 c1 => H1.get 7 = some (.cells [.ptr 6 0, .gs 16 (((t0 :: ts) ++ [t]).length), .map 8, .map 9, .map 10, .map 11, .map 12]) ∧ H1.get 8 = some (rdO 0 ((t0 :: ts) ++ [t])) ∧ H1.get 9 = some (rdO 1 ((t0 :: ts) ++ [t])) ∧ H1.get 10 = some (rdO 2 ((t0 :: ts) ++ [t])) ∧ H1.get 11 = some (rdO 3 ((t0 :: ts) ++ [t])) ∧ H1.get 12 = some (rdO 4 ((t0 :: ts) ++ [t])) ∧ H1.get 16 = some (.grown (flat truE ((t0 :: ts) ++ [t])) 28) ∧ c1 = 17 ∧ v = .tup [] := by
  refine CanS.mk Try.func75 rfl rfl rfl ?_
  have hcut : cut (flat truE (t0 :: ts)) 0 ((ts.length + 1) * 28) = some (flat truE (t0 :: ts)) := cut_all (flat_len (s := 28) (fun _ => rfl) _)
  have hlen : (t0 :: ts).length = ts.length + 1 := rfl
  repeat' (first | refine RT.nil ?_ | refine sq_n ?_ | refine Tr.seq ?_ | refine Tr.region ?_ | (refine RT.goK rfl rfl rfl rfl ?_; apply Nx.of; (first | exact S.box)))
  refine Tr.openK un75_1 (by kernel_rfl) (by kernel_rfl) noCall noCall_calm ?_
  repeat' (first | (refine RD.wide rfl rfl rfl rfl rfl rfl rfl rfl ?_; (first | refine Nx.of (S.append_gs rfl rfl rfl rfl rfl rfl rfl rfl rfl rfl rfl rfl rfl hcut (by omega) rfl) ⟨rfl, ?_⟩)) | (refine RD.free rfl rfl rfl rfl rfl rfl ?_; apply Nx.of; (first | exact S.move | exact S.fieldAddr rfl rfl rfl | exact S.nilCheck)) | (refine RD.new rfl rfl rfl rfl rfl rfl ?_; apply Nx.of; (first | exact S.buildSlice rfl rfl rfl rfl rfl rfl rfl)) | (refine RD.load rfl rfl rfl rfl rfl rfl rfl rfl ?_; apply Nx.of; (first | exact S.load1c rfl rfl rfl rfl | exact S.loadNc rfl rfl rfl rfl)) | (refine RD.store rfl rfl rfl rfl rfl rfl rfl ?_; apply Nx.of; (first | exact S.store rfl rfl rfl rfl rfl rfl)) | refine RD.nil ⟨Nat.le_of_ble_eq_true rfl, ?_⟩)
  repeat' (first | refine RT.nil ?_ | refine sq_n ?_ | refine Tr.seq ?_ | refine Tr.region ?_ | refine Tr.block ?_ | (refine RT.goK rfl rfl rfl rfl ?_; apply Nx.of; (first | exact S.move | exact S.load1c rfl rfl rfl rfl | exact S.fieldAddr rfl rfl rfl | exact S.nilCheck)) | (refine RT.goK rfl rfl rfl rfl ?_; apply Nx.of; (first | exact S.len_sl rfl rfl rfl (by assumption))))
  refine Tr.unroll 5 ?_
  have hb0 := rdC_bd 0 (t0 :: ts) (endK 0 t)
  repeat' (first | refine RT.nil ?_ | refine sq_n ?_ | refine Tr.seq ?_ | refine Tr.region ?_ | refine Tr.cond_d rfl (fun _ => ?_) (fun _ => ?_) | refine Tr.skip ?_ | refine Tr.exit ?_ | refine sq_x ?_ | refine Tr.block ?_ | refine blk_hit rfl ?_ | refine un_x ?_ | (refine RT.goK rfl rfl rfl rfl ?_; apply Nx.of; (first | exact S.move | exact S.assign | exact S.lss)))
  refine Tr.openK un75_5 (by kernel_rfl) (by kernel_rfl) noCall noCall_calm ?_
  repeat' (first | (refine RD.free rfl rfl rfl rfl rfl rfl ?_; apply Nx.of; (first | exact S.move | exact S.fieldAddr rfl rfl rfl | exact S.add (by unfold In64; omega) | exact S.nilCheck | exact S.idx_arrI rfl rfl rfl (by decide) (by decide))) | (refine RD.load rfl rfl rfl rfl rfl rfl rfl rfl ?_; apply Nx.of; (first | exact S.load1c rfl rfl rfl rfl | exact S.loadNc rfl rfl rfl rfl)) | (refine RD.load rfl rfl rfl rfl rfl rfl rfl rfl ?_; (refine Nx.of (S.look0 (enc := roE) (encV := roW) (f := rdF 0 (t0 :: ts)) (L := rdK 0 (t0 :: ts)) (k := endK 0 t) roKeys rfl rfl rfl rfl (fun h => by unfold rdF; rw [rdC_0 h])) ?_)))
  refine RD.wide rfl rfl rfl rfl rfl rfl rfl rfl ?_
  refine Nx.of (S.entry (enc := roE) (encV := roW) (f := rdF 0 (t0 :: ts)) (L := rdK 0 (t0 :: ts)) (k := endK 0 t) roKeys roBits rfl rfl rfl rfl rfl (fun h => by unfold rdF; rw [rdC_0 h])) ⟨?_, ?_⟩
  · refine all_two ?_ ?_ <;> first | rfl | exact same_look (enc := roE) (encV := roW) (f := rdF 0 (t0 :: ts)) (L := insK (rdK 0 (t0 :: ts)) (endK 0 t)) (k := endK 0 t) (n := rdC 0 (t0 :: ts) (endK 0 t)) roKeys rfl rfl rfl ins_mem rfl
  repeat' (first | (refine RD.free rfl rfl rfl rfl rfl rfl ?_; apply Nx.of; (first | exact S.extract rfl)))
  refine RD.wide0 rfl rfl rfl rfl rfl rfl rfl ?_
  refine Nx.of (S.entryStore (enc := roE) (f := rdF 0 (t0 :: ts)) (L := insK (rdK 0 (t0 :: ts)) (endK 0 t)) (k := endK 0 t) rfl rfl (ins_nodup (rdK_nodup _ _)) ins_mem (ix_ins _)) ⟨rfl, ?_⟩
  refine RD.nil ⟨Nat.le_of_ble_eq_true rfl, ?_⟩
  have hb1 := rdC_bd 1 (t0 :: ts) (endK 1 t)
  repeat' (first | refine RT.nil ?_ | refine sq_n ?_ | refine Tr.seq ?_ | refine Tr.region ?_ | refine Tr.cond_d rfl (fun _ => ?_) (fun _ => ?_) | refine Tr.skip ?_ | refine Tr.exit ?_ | refine sq_x ?_ | refine Tr.block ?_ | refine blk_n ?_ | refine blk_hit rfl ?_ | refine un_n ?_ | refine un_x ?_ | (refine RT.goK rfl rfl rfl rfl ?_; apply Nx.of; (first | exact S.move | exact S.assign | exact S.lss | exact S.add (by unfold In64; omega))))
  refine Tr.openK un75_5 (by kernel_rfl) (by kernel_rfl) noCall noCall_calm ?_
  repeat' (first | (refine RD.free rfl rfl rfl rfl rfl rfl ?_; apply Nx.of; (first | exact S.move | exact S.fieldAddr rfl rfl rfl | exact S.add (by unfold In64; omega) | exact S.nilCheck | exact S.idx_arrI rfl rfl rfl (by decide) (by decide))) | (refine RD.load rfl rfl rfl rfl rfl rfl rfl rfl ?_; apply Nx.of; (first | exact S.load1c rfl rfl rfl rfl | exact S.loadNc rfl rfl rfl rfl)) | (refine RD.load rfl rfl rfl rfl rfl rfl rfl rfl ?_; (refine Nx.of (S.look0 (enc := roE) (encV := roW) (f := rdF 1 (t0 :: ts)) (L := rdK 1 (t0 :: ts)) (k := endK 1 t) roKeys rfl rfl rfl rfl (fun h => by unfold rdF; rw [rdC_0 h])) ?_)))
  refine RD.wide rfl rfl rfl rfl rfl rfl rfl rfl ?_
  refine Nx.of (S.entry (enc := roE) (encV := roW) (f := rdF 1 (t0 :: ts)) (L := rdK 1 (t0 :: ts)) (k := endK 1 t) roKeys roBits rfl rfl rfl rfl rfl (fun h => by unfold rdF; rw [rdC_0 h])) ⟨?_, ?_⟩
  · refine all_two ?_ ?_ <;> first | rfl | exact same_look (enc := roE) (encV := roW) (f := rdF 1 (t0 :: ts)) (L := insK (rdK 1 (t0 :: ts)) (endK 1 t)) (k := endK 1 t) (n := rdC 1 (t0 :: ts) (endK 1 t)) roKeys rfl rfl rfl ins_mem rfl
  repeat' (first | (refine RD.free rfl rfl rfl rfl rfl rfl ?_; apply Nx.of; (first | exact S.extract rfl)))
  refine RD.wide0 rfl rfl rfl rfl rfl rfl rfl ?_
  refine Nx.of (S.entryStore (enc := roE) (f := rdF 1 (t0 :: ts)) (L := insK (rdK 1 (t0 :: ts)) (endK 1 t)) (k := endK 1 t) rfl rfl (ins_nodup (rdK_nodup _ _)) ins_mem (ix_ins _)) ⟨rfl, ?_⟩
  refine RD.nil ⟨Nat.le_of_ble_eq_true rfl, ?_⟩
  have hb2 := rdC_bd 2 (t0 :: ts) (endK 2 t)
  repeat' (first | refine RT.nil ?_ | refine sq_n ?_ | refine Tr.seq ?_ | refine Tr.region ?_ | refine Tr.cond_d rfl (fun _ => ?_) (fun _ => ?_) | refine Tr.skip ?_ | refine Tr.exit ?_ | refine sq_x ?_ | refine Tr.block ?_ | refine blk_n ?_ | refine blk_hit rfl ?_ | refine un_n ?_ | refine un_x ?_ | (refine RT.goK rfl rfl rfl rfl ?_; apply Nx.of; (first | exact S.move | exact S.assign | exact S.lss | exact S.add (by unfold In64; omega))))
  refine Tr.openK un75_5 (by kernel_rfl) (by kernel_rfl) noCall noCall_calm ?_
  repeat' (first | (refine RD.free rfl rfl rfl rfl rfl rfl ?_; apply Nx.of; (first | exact S.move | exact S.fieldAddr rfl rfl rfl | exact S.add (by unfold In64; omega) | exact S.nilCheck | exact S.idx_arrI rfl rfl rfl (by decide) (by decide))) | (refine RD.load rfl rfl rfl rfl rfl rfl rfl rfl ?_; apply Nx.of; (first | exact S.load1c rfl rfl rfl rfl | exact S.loadNc rfl rfl rfl rfl)) | (refine RD.load rfl rfl rfl rfl rfl rfl rfl rfl ?_; (refine Nx.of (S.look0 (enc := roE) (encV := roW) (f := rdF 2 (t0 :: ts)) (L := rdK 2 (t0 :: ts)) (k := endK 2 t) roKeys rfl rfl rfl rfl (fun h => by unfold rdF; rw [rdC_0 h])) ?_)))
  refine RD.wide rfl rfl rfl rfl rfl rfl rfl rfl ?_
  refine Nx.of (S.entry (enc := roE) (encV := roW) (f := rdF 2 (t0 :: ts)) (L := rdK 2 (t0 :: ts)) (k := endK 2 t) roKeys roBits rfl rfl rfl rfl rfl (fun h => by unfold rdF; rw [rdC_0 h])) ⟨?_, ?_⟩
  · refine all_two ?_ ?_ <;> first | rfl | exact same_look (enc := roE) (encV := roW) (f := rdF 2 (t0 :: ts)) (L := insK (rdK 2 (t0 :: ts)) (endK 2 t)) (k := endK 2 t) (n := rdC 2 (t0 :: ts) (endK 2 t)) roKeys rfl rfl rfl ins_mem rfl
  repeat' (first | (refine RD.free rfl rfl rfl rfl rfl rfl ?_; apply Nx.of; (first | exact S.extract rfl)))
  refine RD.wide0 rfl rfl rfl rfl rfl rfl rfl ?_
  refine Nx.of (S.entryStore (enc := roE) (f := rdF 2 (t0 :: ts)) (L := insK (rdK 2 (t0 :: ts)) (endK 2 t)) (k := endK 2 t) rfl rfl (ins_nodup (rdK_nodup _ _)) ins_mem (ix_ins _)) ⟨rfl, ?_⟩
  refine RD.nil ⟨Nat.le_of_ble_eq_true rfl, ?_⟩
  have hb3 := rdC_bd 3 (t0 :: ts) (endK 3 t)
  repeat' (first | refine RT.nil ?_ | refine sq_n ?_ | refine Tr.seq ?_ | refine Tr.region ?_ | refine Tr.cond_d rfl (fun _ => ?_) (fun _ => ?_) | refine Tr.skip ?_ | refine Tr.exit ?_ | refine sq_x ?_ | refine Tr.block ?_ | refine blk_n ?_ | refine blk_hit rfl ?_ | refine un_n ?_ | refine un_x ?_ | (refine RT.goK rfl rfl rfl rfl ?_; apply Nx.of; (first | exact S.move | exact S.assign | exact S.lss | exact S.add (by unfold In64; omega))))
  refine Tr.openK un75_5 (by kernel_rfl) (by kernel_rfl) noCall noCall_calm ?_
  repeat' (first | (refine RD.free rfl rfl rfl rfl rfl rfl ?_; apply Nx.of; (first | exact S.move | exact S.fieldAddr rfl rfl rfl | exact S.add (by unfold In64; omega) | exact S.nilCheck | exact S.idx_arrI rfl rfl rfl (by decide) (by decide))) | (refine RD.load rfl rfl rfl rfl rfl rfl rfl rfl ?_; apply Nx.of; (first | exact S.load1c rfl rfl rfl rfl | exact S.loadNc rfl rfl rfl rfl)) | (refine RD.load rfl rfl rfl rfl rfl rfl rfl rfl ?_; (refine Nx.of (S.look0 (enc := roE) (encV := roW) (f := rdF 3 (t0 :: ts)) (L := rdK 3 (t0 :: ts)) (k := endK 3 t) roKeys rfl rfl rfl rfl (fun h => by unfold rdF; rw [rdC_0 h])) ?_)))
  refine RD.wide rfl rfl rfl rfl rfl rfl rfl rfl ?_
  refine Nx.of (S.entry (enc := roE) (encV := roW) (f := rdF 3 (t0 :: ts)) (L := rdK 3 (t0 :: ts)) (k := endK 3 t) roKeys roBits rfl rfl rfl rfl rfl (fun h => by unfold rdF; rw [rdC_0 h])) ⟨?_, ?_⟩
  · refine all_two ?_ ?_ <;> first | rfl | exact same_look (enc := roE) (encV := roW) (f := rdF 3 (t0 :: ts)) (L := insK (rdK 3 (t0 :: ts)) (endK 3 t)) (k := endK 3 t) (n := rdC 3 (t0 :: ts) (endK 3 t)) roKeys rfl rfl rfl ins_mem rfl
  repeat' (first | (refine RD.free rfl rfl rfl rfl rfl rfl ?_; apply Nx.of; (first | exact S.extract rfl)))
  refine RD.wide0 rfl rfl rfl rfl rfl rfl rfl ?_
  refine Nx.of (S.entryStore (enc := roE) (f := rdF 3 (t0 :: ts)) (L := insK (rdK 3 (t0 :: ts)) (endK 3 t)) (k := endK 3 t) rfl rfl (ins_nodup (rdK_nodup _ _)) ins_mem (ix_ins _)) ⟨rfl, ?_⟩
  refine RD.nil ⟨Nat.le_of_ble_eq_true rfl, ?_⟩
  have hb4 := rdC_bd 4 (t0 :: ts) (endK 4 t)
  repeat' (first | refine RT.nil ?_ | refine sq_n ?_ | refine Tr.seq ?_ | refine Tr.region ?_ | refine Tr.cond_d rfl (fun _ => ?_) (fun _ => ?_) | refine Tr.skip ?_ | refine Tr.exit ?_ | refine sq_x ?_ | refine Tr.block ?_ | refine blk_n ?_ | refine blk_hit rfl ?_ | refine un_n ?_ | refine un_x ?_ | (refine RT.goK rfl rfl rfl rfl ?_; apply Nx.of; (first | exact S.move | exact S.assign | exact S.lss | exact S.add (by unfold In64; omega))))
  refine Tr.openK un75_5 (by kernel_rfl) (by kernel_rfl) noCall noCall_calm ?_
  repeat' (first | (refine RD.free rfl rfl rfl rfl rfl rfl ?_; apply Nx.of; (first | exact S.move | exact S.fieldAddr rfl rfl rfl | exact S.add (by unfold In64; omega) | exact S.nilCheck | exact S.idx_arrI rfl rfl rfl (by decide) (by decide))) | (refine RD.load rfl rfl rfl rfl rfl rfl rfl rfl ?_; apply Nx.of; (first | exact S.load1c rfl rfl rfl rfl | exact S.loadNc rfl rfl rfl rfl)) | (refine RD.load rfl rfl rfl rfl rfl rfl rfl rfl ?_; (refine Nx.of (S.look0 (enc := roE) (encV := roW) (f := rdF 4 (t0 :: ts)) (L := rdK 4 (t0 :: ts)) (k := endK 4 t) roKeys rfl rfl rfl rfl (fun h => by unfold rdF; rw [rdC_0 h])) ?_)))
  refine RD.wide rfl rfl rfl rfl rfl rfl rfl rfl ?_
  refine Nx.of (S.entry (enc := roE) (encV := roW) (f := rdF 4 (t0 :: ts)) (L := rdK 4 (t0 :: ts)) (k := endK 4 t) roKeys roBits rfl rfl rfl rfl rfl (fun h => by unfold rdF; rw [rdC_0 h])) ⟨?_, ?_⟩
  · refine all_two ?_ ?_ <;> first | rfl | exact same_look (enc := roE) (encV := roW) (f := rdF 4 (t0 :: ts)) (L := insK (rdK 4 (t0 :: ts)) (endK 4 t)) (k := endK 4 t) (n := rdC 4 (t0 :: ts) (endK 4 t)) roKeys rfl rfl rfl ins_mem rfl
  repeat' (first | (refine RD.free rfl rfl rfl rfl rfl rfl ?_; apply Nx.of; (first | exact S.extract rfl)))
  refine RD.wide0 rfl rfl rfl rfl rfl rfl rfl ?_
  refine Nx.of (S.entryStore (enc := roE) (f := rdF 4 (t0 :: ts)) (L := insK (rdK 4 (t0 :: ts)) (endK 4 t)) (k := endK 4 t) rfl rfl (ins_nodup (rdK_nodup _ _)) ins_mem (ix_ins _)) ⟨rfl, ?_⟩
  refine RD.nil ⟨Nat.le_of_ble_eq_true rfl, ?_⟩
  repeat' (first | refine RT.nil ?_ | refine sq_n ?_ | refine Tr.seq ?_ | refine Tr.region ?_ | refine Tr.cond_d rfl (fun _ => ?_) (fun _ => ?_) | refine Tr.skip ?_ | refine Tr.exit ?_ | refine sq_x ?_ | refine Tr.block ?_ | refine blk_n ?_ | refine blk_hit rfl ?_ | refine un_n ?_ | refine un_x ?_ | (refine RT.goK rfl rfl rfl rfl ?_; apply Nx.of; (first | exact S.move | exact S.assign | exact S.lss | exact S.add (by unfold In64; omega))))
  · exfalso; omega
  refine rt_gon rfl ?_
  · exact ⟨by rw [List.length_append]; exact getM rfl, by rw [← rdO_snoc]; exact getM rfl, by rw [← rdO_snoc]; exact getM rfl, by rw [← rdO_snoc]; exact getM rfl, by rw [← rdO_snoc]; exact getM rfl, by rw [← rdO_snoc]; exact getM rfl, by rw [flat_append]; exact getM rfl, rfl, rfl⟩
  all_goals (exfalso; omega)
end Days5
end Go.Proofs.Ytjnckbefajfgbaa
