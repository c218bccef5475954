/- Texts of one kind, one behind the other: Cl, SyU, Cm, Cn, Co, Cp, SyV, Cq, Cr, Cs. -/
import Derived.Test.YtcoklgmdifggbaaSM4
set_option linter.unusedVariables false
set_option linter.unusedSimpArgs false
/- Package claim: what is known of a book, as its callers see it; spans. -/
namespace Go.Proofs.Ytcoklgmdifggbaa
open Go Go.Ev

noncomputable abbrev Ws (B : CBook) : List Tru := wths B 0
noncomputable abbrev oWs (B : CBook) : AObj := .grown (flat truE (Ws B)) 7
theorem m2_low {B : CBook} {u : Nat} {ob : AObj} (hz : lookM [(0, some (oSt B)), (1, some (oCk B))] u = some ob) : u = 0 ∨ u = 1 := by
  have := lookM_mem hz
  simpa using this

theorem learn_no_at {B : CBook} {a1 a2 : AV} {m : List (Nat × Option AObj)} {c : Nat} (h : BkIn B a1 a2 m c) (hn : B.ns ≤ 9223372036854775807) (hB : ¬ bkOk B) (q : Bool) (fl : Nat) : OkAt 0 Try.prog fl 78 [bk B a1 a2, .bool q] (ofM m) c (.tup [.agg [.nilp, .nils], .int .i64 60]) (ofM m) c :=
  (learn_no B a1 a2 h.h1 h.h2 hn hB q).pure (fun _ => rfl) (h.entry _ fun _ => rfl) fl
theorem learn_ask_at {B : CBook} {a1 a2 : AV} {m : List (Nat × Option AObj)} {c : Nat} (h : BkIn B a1 a2 m c) (hn : B.ns ≤ 9223372036854775807) (hB : bkOk B) (fl : Nat) : OkAt 0 Try.prog fl 78 [bk B a1 a2, .bool false] (ofM m) c (.tup [.agg [.nilp, .nils], .int .i64 61]) (ofM m) c :=
  (learn_ask B a1 a2 h.h1 h.h2 hn hB).pure (fun _ => rfl) (h.entry _ fun _ => rfl) fl
theorem learn_false_at {B : CBook} {a1 a2 : AV} {m : List (Nat × Option AObj)} {c : Nat} (h : BkIn B a1 a2 m c) (hn : B.ns ≤ 9223372036854775807) (hB : bkOk B) (hW : Ws B = []) (fl : Nat) : OkAt 0 Try.prog fl 78 [bk B a1 a2, .bool true] (ofM m) c (.tup [.agg [.nilp, .nils], .int .i64 62]) (ofM m) c :=
  ((learn_yes B a1 a2 h.h1 h.h2 hn hB).mono (Qf' := fun v _ _ => v = .tup [.agg [.nilp, .nils], .int .i64 62]) fun v H1 c1 hq => by
    rcases hq with ⟨_, hq⟩ | ⟨L, _, hq, _⟩
    · exact hq
    · exact absurd hW hq).pure (fun _ => rfl) (h.entry _ fun _ => rfl) fl

/-- What learn returns where a book can be true, and what it leaves behind. -/
noncomputable abbrev knV (B : CBook) (c : Nat) : AV := .agg [.ptr (c + 3) 0, .gs (c + 8) (wths B 0).length]
theorem learn_at {B : CBook} {a1 a2 : AV} {m : List (Nat × Option AObj)} {c : Nat} (h : BkIn B a1 a2 m c) (hm : ∀ x o, lookM m x = some o → x < c) (hn : B.ns ≤ 9223372036854775807) (hB : bkOk B) (hW : Ws B ≠ []) (fl : Nat) : OkAt 0 Try.prog fl 78 [bk B a1 a2, .bool true] (ofM m) c
    (.tup [knV B c, .int .i64 0]) (ofM ((c + 3, some (.cells (pbC B a1 a2 (c + 4)))) :: (c + 8, some (oWs B)) :: m)) (c + 9) := by
  let τ : Nat → Nat := fun y => if y < 2 then y else c + (y - 2)
  have hc := h.hc
  have t0 : τ 0 = 0 := rfl
  have t1 : τ 1 = 1 := rfl
  have t5 : τ 5 = c + 3 := rfl
  have t6 : τ 6 = c + 4 := rfl
  have t10 : τ 10 = c + 8 := rfl
  have ha : AV.rens τ [bk B a1 a2, .bool true] = [bk B a1 a2, .bool true] := by simp only [bk, AV.ren, AV.rens, h.h1.ren t0, h.h2.ren t1]
  rw [← ha]
  refine CanS.inst (learn_yes B a1 a2 h.h1 h.h2 hn hB) (Nat.zero_le _) (Nat.le_refl _) τ (fun g hg => by omega) (fun y hy => by show (if y < 2 then y else _) < c; rw [if_pos hy]; omega) (fun y hy => by show (if y < 2 then y else _) = _; rw [if_neg (by omega)]) (fun y o hy => ?_) (fun x y o o' hx hy hxy => ?_) (fun y hy hy' => by omega) (fun v1 H1 c1 hq _ => ?_)
  · rcases m2_low hy with rfl | rfl
    · cases hy; rw [t0, ren_ro]; exact getM h.m1
    · cases hy; rw [t1, ren_ro]; exact getM h.m2
  · refine .inl ?_
    rcases m2_low hx with rfl | rfl <;> rcases m2_low hy with rfl | rfl <;> simp only [t0, t1] <;> omega
  · rcases hq with ⟨hq, _⟩ | ⟨L, rfl, _, rfl, g1, g2, g3⟩
    · exact absurd hq hW
    refine ⟨by simp only [AV.ren, AV.rens, t5, t10, knV], rfl, fun x o hx => ?_⟩
    rw [ofM_get] at hx
    by_cases e1 : x = c + 3
    · subst e1
      rw [lookM_hd] at hx
      cases hx
      refine .inr ⟨5, _, by omega, g1, t5.symm, ?_⟩
      simp only [pbC, AObj.ren, AV.ren, AV.rens, h.h1.ren t0, h.h2.ren t1, t6]
    · rw [lookM_tl e1] at hx
      by_cases e2 : x = c + 8
      · subst e2
        rw [lookM_hd] at hx
        cases hx
        exact .inr ⟨10, _, by omega, g3, t10.symm, (ren_grown _ _ _ _).symm⟩
      · rw [lookM_tl e2] at hx
        exact .inl ⟨hm x o hx, fun y hy hy' => by omega, getM hx⟩
end Go.Proofs.Ytcoklgmdifggbaa

/- Spans that grow along a list. -/
namespace Go.Ev
open Go
variable {τ : Type}
def loK (f : τ → Int) (L : List τ) (a : Int) (k : Nat) : Int := loF f a (L.take k)
def hiK (f : τ → Int) (L : List τ) (a : Int) (k : Nat) : Int := hiF f a (L.take k)
theorem take_snoc {L : List τ} {k : Nat} {t : τ} (h : L[k]? = some t) : L.take (k + 1) = L.take k ++ [t] := by
  rw [List.take_add_one, h]; rfl
theorem loK_succ {f : τ → Int} {L : List τ} {a : Int} {k : Nat} {t : τ} (h : L[k]? = some t) : min (loK f L a k) (f t) = loK f L a (k + 1) := by
  unfold loK; rw [take_snoc h, loF_snoc]
theorem hiK_succ {f : τ → Int} {L : List τ} {a : Int} {k : Nat} {t : τ} (h : L[k]? = some t) : max (hiK f L a k) (f t) = hiK f L a (k + 1) := by
  unfold hiK; rw [take_snoc h, hiF_snoc]
theorem loK_end {f : τ → Int} {L : List τ} {t : τ} (h : L[0]? = some t) : loK f L (f t) L.length = spL f L := by
  cases L with
  | nil => simp at h
  | cons a L => simp only [List.getElem?_cons_zero, Option.some.injEq] at h; subst h; unfold loK spL; rw [List.take_length]
theorem hiK_end {f : τ → Int} {L : List τ} {t : τ} (h : L[0]? = some t) : hiK f L (f t) L.length = spH f L := by
  cases L with
  | nil => simp at h
  | cons a L => simp only [List.getElem?_cons_zero, Option.some.injEq] at h; subst h; unfold hiK spH; rw [List.take_length]
theorem at_some {L : List τ} {k : Nat} (h : k < L.length) : ∃ t, L[k]? = some t ∧ t ∈ L := ⟨_, List.getElem?_eq_getElem h, List.getElem_mem h⟩

theorem fst_eq {p : Nat → Prop} {n k : Nat} (hk : k < n) (h1 : ∀ i, i < k → ¬ p i) (h2 : p k) : fstN p n n = k := by
  have h := fstN_spec p n n (Nat.le_refl _)
  rcases Nat.lt_trichotomy (fstN p n n) k with h3 | h3 | h3
  · exact absurd (h.2.2 (by omega)) (h1 _ h3)
  · exact h3
  · exact absurd h2 (h.2.1 k (by omega) h3)
theorem fst_none {p : Nat → Prop} {n : Nat} (h1 : ∀ i, i < n → ¬ p i) : fstN p n n = n := by
  have h := fstN_spec p n n (Nat.le_refl _)
  rcases Nat.lt_or_ge (fstN p n n) n with h3 | h3
  · exact absurd (h.2.2 h3) (h1 _ h3)
  · have := h.1.2; omega
theorem fst_at {p : Nat → Prop} {n : Nat} (h : fstN p n n < n) : p (fstN p n n) := (fstN_spec p n n (Nat.le_refl _)).2.2 h
theorem fst_lt {p : Nat → Prop} {n i : Nat} (h : i < fstN p n n) : ¬ p i := (fstN_spec p n n (Nat.le_refl _)).2.1 i (by omega) h

/-- Where the first element of a list is that is so; the list's length, if none is. -/
noncomputable def fxN (pr : τ → Prop) (L : List τ) : Nat := fstN (fun i => ∃ t, L[i]? = some t ∧ pr t) L.length L.length
noncomputable def ixV (pr : τ → Prop) (L : List τ) : Int := if fxN pr L < L.length then (fxN pr L : Int) else -1
theorem ixV_at {pr : τ → Prop} {L : List τ} {k : Nat} {t : τ} (h1 : ∀ i u, i < k → L[i]? = some u → ¬ pr u) (ht : L[k]? = some t) (hp : pr t) : ixV pr L = k := by
  have hk : k < L.length := (List.getElem?_eq_some_iff.1 ht).1
  have : fxN pr L = k := fst_eq hk (fun i hi ⟨u, hu, hpu⟩ => h1 i u hi hu hpu) ⟨t, ht, hp⟩
  unfold ixV; rw [this, if_pos hk]
theorem ixV_none {pr : τ → Prop} {L : List τ} (h1 : ∀ i u, i < L.length → L[i]? = some u → ¬ pr u) : ixV pr L = -1 := by
  have : fxN pr L = L.length := fst_none fun i hi ⟨u, hu, hpu⟩ => h1 i u hi hu hpu
  unfold ixV; rw [this, if_neg (by omega)]
theorem ixV_nn {pr : τ → Prop} {L : List τ} : 0 ≤ ixV pr L ↔ ∃ t ∈ L, pr t := by
  by_cases h : fxN pr L < L.length
  · obtain ⟨t, ht, hp⟩ := fst_at (p := fun i => ∃ t, L[i]? = some t ∧ pr t) h
    exact ⟨fun _ => ⟨t, List.mem_of_getElem? ht, hp⟩, fun _ => by unfold ixV; rw [if_pos h]; omega⟩
  · refine ⟨fun h2 => by unfold ixV at h2; rw [if_neg h] at h2; omega, fun ⟨t, ht, hp⟩ => ?_⟩
    obtain ⟨i, hi, rfl⟩ := List.getElem_of_mem ht
    exact absurd ⟨_, List.getElem?_eq_getElem hi, hp⟩ (fst_lt (p := fun i => ∃ t, L[i]? = some t ∧ pr t) (n := L.length) (by unfold fxN at h; omega))

section
variable {G : Nat} {P : Program} {fl cb c c' : Nat} {m m' : List (Nat × Option AObj)} {y z : Ty} {t : Nat} {x1 x2 : Operand}
/-- An element of an array at hand that is no single cell. -/
theorem S.indexN [Tab P] {i : Int} {cs vs : List AV} (hy : ty P t = some y) (hk : y.kind = 4) (hz : ty P y.elem = some z) (hg : z.agg = true) (h0 : 0 ≤ i) (hi : i < y.len) (hv : cut cs (i.toNat * z.size) z.size = some vs) : OpE P fl (.index t x1 x2) [.agg cs, .int .i64 i] m c (.agg vs) m c := by
  obtain ⟨j, rfl⟩ : ∃ j : Nat, i = j := ⟨i.toNat, by omega⟩
  refine ⟨rfl, Nat.le_refl _, ?_⟩
  have h1 : Nat.blt j y.len = true := by simpa using (by omega : j < y.len)
  have h2 : aggB P y.elem = some true := by rw [ty_agg hz, hg]
  rw [Int.toNat_natCast] at hv
  simp only [opA, oIndex, indexA, natOf_nat, ty_array hy hk, ty_size hz, h1, cond_true, Option.bind_some, partA, h2, hv, Option.map_some, opt1]
end
end Go.Ev

/- Package claim: span, answer. -/
namespace Go.Proofs.Ytcoklgmdifggbaa
open Go Go.Ev

/-- A function's call that answers with a number of a truth. -/
def NumOK (B : CBook) (a1 a2 : AV) (f : Nat) (cap : List AV) (xs : List AV) (num : Tru → Int) : Prop := ∀ t ∈ Ws B, ∀ m c, PbIn B a1 a2 2 3 m c → 6 ≤ c → lookM m 5 = some (.cells xs) → ∀ fl, OkAt 0 Try.prog fl f ([.ptr 2 0, trV t] ++ cap) (ofM m) c (.int .i64 (num t)) (ofM m) c

set_option maxRecDepth 100000 in
set_option maxHeartbeats 4000000 in
theorem span_can (B : CBook) (a1 a2 : AV) (h1 : IsSl a1 B.ns 0) (h2 : IsSl a2 B.nc 1) (hW : Ws B ≠ []) (hlen : (Ws B).length ≤ 5184) (b : Bool) (f : Nat) (cap xs : List AV) (hx : ∀ σ : Nat → Nat, (∀ y, y < 5 → σ y = y) → AV.rens σ xs = xs) (hr : rfVs xs = true) (hc : ∀ σ : Nat → Nat, (∀ y, y < 6 → σ y = y) → AV.rens σ cap = cap) (hrc : rfVs cap = true)
    (num : Tru → Int) (hnum : NumOK B a1 a2 f cap xs num) : CanS 0 Try.prog 101 6 [.agg [.ptr 2 0, .gs 4 (wths B 0).length], .agg [.bool b, .fn f [] cap]] [(0, some (oSt B)), (1, some (oCk B)), (2, some (.cells (pbC B a1 a2 3))), (4, some (oWs B)), (5, some (.cells xs))] 6 fun v _ _ => v = .agg [.int .i64 (spL num (Ws B)), .int .i64 (spH num (Ws B))] := by
  have hpos : 0 < (Ws B).length := List.length_pos_iff.2 hW
  obtain ⟨t0, ht0, hm0⟩ := at_some hpos
  have htk := ht0
  have hs := IsSl.gs 4 (wths B 0).length
  refine CanS.mk Try.func101 rfl rfl rfl ?_
  repeat' (first | refine RT.nil ?_ | refine sq_n ?_ | refine Tr.seq ?_ | refine Tr.region ?_ | refine Tr.cond_t rfl ?_ | refine Tr.cond_f rfl ?_ | refine Tr.cond_d rfl (fun _ => ?_) (fun _ => ?_) | refine Tr.skip ?_ | refine Tr.ret ?_ | refine sq_r ?_ | refine Tr.exit ?_ | refine sq_x ?_ | refine Tr.block ?_ | refine blk_n ?_ | refine blk_r ?_ | refine blk_hit rfl ?_ | refine blk_pass rfl ?_ | refine Tr.label ?_ | refine Tr.scope ?_ | refine scp_n ?_ | refine scp_r ?_ | refine scp_x ?_ | refine lp_r ?_ | refine lp_x ?_ | (refine RT.goK rfl rfl rfl rfl ?_; apply Nx.of; (first | exact S.move | exact S.assign | exact S.load1c rfl rfl rfl rfl | exact S.loadNc rfl rfl rfl rfl | exact S.fieldAddr rfl rfl rfl | exact S.leq | exact S.lss | exact S.eql | exact S.neq | exact S.geq | exact S.gtr | exact S.not_t | exact S.not_f | exact S.not_d | exact S.pick_tt | exact S.pick_ff | exact S.pick_td (by assumption) | exact S.pick_fd (by assumption) | exact S.pick_b | exact S.box | exact S.alloc rfl | exact S.add_one (by omega) | exact S.sub_one (by omega) (by omega) | exact S.add (by unfold In64; omega) | exact S.sub (by unfold In64; omega) | exact S.mul (by unfold In64; omega) | exact S.add_w | exact S.sub_w | exact S.mul_w | exact S.min2 | exact S.max2 | exact S.build rfl rfl rfl | exact S.buildA rfl rfl rfl rfl | exact S.nilCheck | exact S.extract rfl | exact S.makeFunc | exact S.nilCheck_fn | exact S.rowG rfl rfl rfl (fun _ => rfl) ht0 rfl rfl | exact S.rowG rfl rfl rfl (fun _ => rfl) htk rfl rfl)) | (refine RT.goK0 rfl rfl rfl ?_; apply Nx.of; (first | exact S.store rfl rfl rfl rfl rfl rfl | exact S.makeFunc | exact S.nilCheck_fn | exact S.rowG rfl rfl rfl (fun _ => rfl) ht0 rfl rfl | exact S.rowG rfl rfl rfl (fun _ => rfl) htk rfl rfl)))
  refine Tr.openK un101_1 (by kernel_rfl) (by kernel_rfl) (one1 f ([.ptr 2 0, trV t0] ++ cap) (.int .i64 (num t0)) fun H c => ∃ m, H = ofM m ∧ PbIn B a1 a2 2 3 m c ∧ 6 ≤ c ∧ lookM m 5 = some (.cells xs)) (one1_calm fun fl H c ⟨m, hm, h, h6, hx⟩ => by subst hm; exact hnum t0 hm0 m c h h6 hx fl) ?_
  repeat' (first | (refine RD.free rfl rfl rfl rfl rfl rfl ?_; apply Nx.of; (first | exact S.move | exact S.assign | exact S.fieldAddr rfl rfl rfl | exact S.leq | exact S.lss | exact S.eql | exact S.neq | exact S.geq | exact S.gtr | exact S.not_t | exact S.not_f | exact S.not_d | exact S.pick_tt | exact S.pick_ff | exact S.pick_td (by assumption) | exact S.pick_fd (by assumption) | exact S.pick_b | exact S.add_one (by omega) | exact S.sub_one (by omega) (by omega) | exact S.add (by unfold In64; omega) | exact S.sub (by unfold In64; omega) | exact S.mul (by unfold In64; omega) | exact S.add_w | exact S.sub_w | exact S.mul_w | exact S.min2 | exact S.max2 | exact S.build rfl rfl rfl | exact S.buildA rfl rfl rfl rfl | exact S.nilCheck | exact S.extract rfl | exact S.makeFunc | exact S.nilCheck_fn | exact S.rowG rfl rfl rfl (fun _ => rfl) ht0 rfl rfl | exact S.rowG rfl rfl rfl (fun _ => rfl) htk rfl rfl | exact S.idx_sl rfl rfl rfl (by assumption) (by omega) | exact S.idx_slI rfl rfl rfl (by assumption) (by omega) (by omega) | exact S.rowN0 rfl rfl rfl (fun _ => rfl) (range_at (by omega)) rfl | exact S.rowN rfl rfl rfl (fun _ => rfl) (range_at (by omega)) rfl | exact S.row0 rfl rfl rfl (fun _ => rfl) (range_at (by omega)) rfl | exact S.row rfl rfl rfl (fun _ => rfl) (range_at (by omega)) rfl | exact S.row2 rfl rfl rfl (fun _ => rfl) (range_at (by omega)) rfl | exact S.len_sl rfl rfl rfl (by assumption) | exact S.index_arrI rfl rfl rfl rfl (by decide) (by decide) rfl | exact S.idx_arrI rfl rfl rfl (by decide) (by decide))) | (refine RD.new rfl rfl rfl rfl rfl rfl ?_; apply Nx.of; (first | exact S.box | exact S.alloc rfl | exact S.makeFunc | exact S.nilCheck_fn | exact S.rowG rfl rfl rfl (fun _ => rfl) ht0 rfl rfl | exact S.rowG rfl rfl rfl (fun _ => rfl) htk rfl rfl)) | (refine RD.load rfl rfl rfl rfl rfl rfl rfl rfl ?_; apply Nx.of; (first | exact S.load1c rfl rfl rfl rfl | exact S.loadNc rfl rfl rfl rfl | exact S.makeFunc | exact S.nilCheck_fn | exact S.rowG rfl rfl rfl (fun _ => rfl) ht0 rfl rfl | exact S.rowG rfl rfl rfl (fun _ => rfl) htk rfl rfl | exact S.idx_sl rfl rfl rfl (by assumption) (by omega) | exact S.idx_slI rfl rfl rfl (by assumption) (by omega) (by omega) | exact S.rowN0 rfl rfl rfl (fun _ => rfl) (range_at (by omega)) rfl | exact S.rowN rfl rfl rfl (fun _ => rfl) (range_at (by omega)) rfl | exact S.row0 rfl rfl rfl (fun _ => rfl) (range_at (by omega)) rfl | exact S.row rfl rfl rfl (fun _ => rfl) (range_at (by omega)) rfl | exact S.row2 rfl rfl rfl (fun _ => rfl) (range_at (by omega)) rfl | exact S.len_sl rfl rfl rfl (by assumption))) | (refine RD.store rfl rfl rfl rfl rfl rfl rfl ?_; apply Nx.of; (first | exact S.store rfl rfl rfl rfl rfl rfl | exact S.makeFunc | exact S.nilCheck_fn | exact S.rowG rfl rfl rfl (fun _ => rfl) ht0 rfl rfl | exact S.rowG rfl rfl rfl (fun _ => rfl) htk rfl rfl)) | (refine RD.no rfl rfl rfl rfl ?_) | (refine RD.load rfl rfl rfl rfl rfl rfl rfl (by refine us_all ?_; simp only [usOk, cond_true, cond_false]; (repeat' (first | exact trivial | refine And.intro ?_ ?_)); all_goals (first | rfl | exact .inl trivial | exact .inl rfl | (refine Or.inr (was_same rfl ?_); (first | (exact ⟨_, rfl, rfl⟩) | (exact ⟨_, rfl, by simp [rfO, rfVs, rfV, rfVs_flat]⟩))))) ?_; apply Nx.of; (first | exact S.load1c rfl rfl rfl rfl | exact S.loadNc rfl rfl rfl rfl | exact S.makeFunc | exact S.nilCheck_fn | exact S.rowG rfl rfl rfl (fun _ => rfl) ht0 rfl rfl | exact S.rowG rfl rfl rfl (fun _ => rfl) htk rfl rfl | exact S.idx_sl rfl rfl rfl (by assumption) (by omega) | exact S.idx_slI rfl rfl rfl (by assumption) (by omega) (by omega) | exact S.rowN0 rfl rfl rfl (fun _ => rfl) (range_at (by omega)) rfl | exact S.rowN rfl rfl rfl (fun _ => rfl) (range_at (by omega)) rfl | exact S.row0 rfl rfl rfl (fun _ => rfl) (range_at (by omega)) rfl | exact S.row rfl rfl rfl (fun _ => rfl) (range_at (by omega)) rfl | exact S.row2 rfl rfl rfl (fun _ => rfl) (range_at (by omega)) rfl | exact S.len_sl rfl rfl rfl (by assumption))) | (refine RD.callN rfl rfl rfl rfl rfl rfl rfl rfl rfl (one1_at ⟨_, rfl, ⟨h1, h2, rfl, rfl, rfl, by decide, by decide, by decide⟩, by decide, rfl⟩) (fun _ => by refine srOk_all ?_; simp only [srOk]; (repeat' (first | exact trivial | refine And.intro ?_ ?_)); all_goals (first | exact trivial | (refine ⟨_, rfl, ?_⟩; (first | rfl | (simp [rfO, rfVs, rfV, rfVs_flat]; done) | (simp [pbC, rfO, rfVs, rfV, h1.rf, h2.rf, hr, hrc]; done))))) ?_) | refine RD.nil ⟨Nat.le_of_ble_eq_true rfl, ?_⟩)
  repeat' (first | refine RT.nil ?_ | refine sq_n ?_ | refine Tr.seq ?_ | refine Tr.region ?_ | refine Tr.cond_t rfl ?_ | refine Tr.cond_f rfl ?_ | refine Tr.cond_d rfl (fun _ => ?_) (fun _ => ?_) | refine Tr.skip ?_ | refine Tr.ret ?_ | refine sq_r ?_ | refine Tr.exit ?_ | refine sq_x ?_ | refine Tr.block ?_ | refine blk_n ?_ | refine blk_r ?_ | refine blk_hit rfl ?_ | refine blk_pass rfl ?_ | refine Tr.label ?_ | refine Tr.scope ?_ | refine scp_n ?_ | refine scp_r ?_ | refine scp_x ?_ | refine lp_r ?_ | refine lp_x ?_ | (refine RT.goK rfl rfl rfl rfl ?_; apply Nx.of; (first | exact S.move | exact S.assign | exact S.load1c rfl rfl rfl rfl | exact S.loadNc rfl rfl rfl rfl | exact S.fieldAddr rfl rfl rfl | exact S.leq | exact S.lss | exact S.eql | exact S.neq | exact S.geq | exact S.gtr | exact S.not_t | exact S.not_f | exact S.not_d | exact S.pick_tt | exact S.pick_ff | exact S.pick_td (by assumption) | exact S.pick_fd (by assumption) | exact S.pick_b | exact S.box | exact S.alloc rfl | exact S.add_one (by omega) | exact S.sub_one (by omega) (by omega) | exact S.add (by unfold In64; omega) | exact S.sub (by unfold In64; omega) | exact S.mul (by unfold In64; omega) | exact S.add_w | exact S.sub_w | exact S.mul_w | exact S.min2 | exact S.max2 | exact S.build rfl rfl rfl | exact S.buildA rfl rfl rfl rfl | exact S.nilCheck | exact S.extract rfl | exact S.makeFunc | exact S.nilCheck_fn | exact S.rowG rfl rfl rfl (fun _ => rfl) ht0 rfl rfl | exact S.rowG rfl rfl rfl (fun _ => rfl) htk rfl rfl)) | (refine RT.goK0 rfl rfl rfl ?_; apply Nx.of; (first | exact S.store rfl rfl rfl rfl rfl rfl | exact S.makeFunc | exact S.nilCheck_fn | exact S.rowG rfl rfl rfl (fun _ => rfl) ht0 rfl rfl | exact S.rowG rfl rfl rfl (fun _ => rfl) htk rfl rfl)) | (refine RT.goK rfl rfl rfl rfl ?_; apply Nx.of; (first | exact S.idx_sl rfl rfl rfl (by assumption) (by omega) | exact S.idx_slI rfl rfl rfl (by assumption) (by omega) (by omega) | exact S.rowN0 rfl rfl rfl (fun _ => rfl) (range_at (by omega)) rfl | exact S.rowN rfl rfl rfl (fun _ => rfl) (range_at (by omega)) rfl | exact S.row0 rfl rfl rfl (fun _ => rfl) (range_at (by omega)) rfl | exact S.row rfl rfl rfl (fun _ => rfl) (range_at (by omega)) rfl | exact S.row2 rfl rfl rfl (fun _ => rfl) (range_at (by omega)) rfl | exact S.len_sl rfl rfl rfl (by assumption))))
  refine Tr.loop (fun k : Nat => stL Try.f101.ntmps [] [(2, .ptr 6 0), (3, .ptr 7 0), (4, .ptr 8 0), (6, .ptr 9 0), (23, .gs 4 (wths B 0).length), (24, .int .i64 (wths B 0).length), (25, .int .i64 k)] ([(9, some (.cells [.int .i64 (loK num (Ws B) (num t0) k), .int .i64 (hiK num (Ws B) (num t0) k)])), (8, some (.cells [.int .i64 0, .int .i64 0])), (7, some (.cells [.bool b, .fn f [] cap])), (6, some (.cells [.ptr 2 0, .gs 4 (wths B 0).length]))] ++ [(0, some (oSt B)), (1, some (oCk B)), (2, some (.cells (pbC B a1 a2 3))), (4, some (oWs B)), (5, some (.cells xs))]) 10) (fun k => k ≤ (Ws B).length) (fun k => (Ws B).length - k) 0 (Nat.zero_le _) (by (refine Wk.same (by decide) (by decide) (by decide) (by decide) ?_ ?_ rfl; all_goals ((try simp only [allL, allM]); (repeat' (first | exact trivial | refine And.intro ?_ ?_)); all_goals (first | rfl | exact congrArg some (congrArg (AV.int .i64) (by omega)) | exact IsSl.ren (by assumption) (nm_lt (by decide)) | exact ren_ro _ _ _ | exact ren_grown _ _ _ _ | exact pbc_ren h1 h2 (nm_lt (by decide)) (nm_lt (by decide)) (nm_lt (by decide)) | (rw [← e1, ← e2]; rfl) | exact congrArg AObj.cells (hx _ (fun y hy => nm_lt (by omega))) | (simp only [AObj.ren, AV.rens, AV.ren, hc _ (fun y hy => nm_lt (show y < 10 by omega))]; done) | decide)))) (fun k hk => ?_)
  by_cases hlt : k < (Ws B).length
  · obtain ⟨tk, htk, hmk⟩ := at_some hlt
    have e1 := loK_succ (f := num) (a := num t0) htk
    have e2 := hiK_succ (f := num) (a := num t0) htk
    have hlt' : (k : Int) < (wths B 0).length := by have := hlt; have hw : (Ws B).length = (wths B 0).length := rfl; omega
    repeat' (first | refine RT.nil ?_ | refine sq_n ?_ | refine Tr.seq ?_ | refine Tr.region ?_ | refine Tr.cond_t rfl ?_ | refine Tr.cond_f rfl ?_ | refine Tr.cond_d rfl (fun _ => ?_) (fun _ => ?_) | refine Tr.skip ?_ | refine Tr.ret ?_ | refine sq_r ?_ | refine Tr.exit ?_ | refine sq_x ?_ | refine Tr.block ?_ | refine blk_n ?_ | refine blk_r ?_ | refine blk_hit rfl ?_ | refine blk_pass rfl ?_ | refine Tr.label ?_ | refine Tr.scope ?_ | refine scp_n ?_ | refine scp_r ?_ | refine scp_x ?_ | refine lp_r ?_ | refine lp_x ?_ | (refine RT.call rfl rfl rfl (hnum tk hmk _ _ ⟨h1, h2, rfl, rfl, rfl, by decide, by decide, by decide⟩ (by decide) rfl _) rfl rfl (Nat.le_refl _) ?_) | (refine RT.goK rfl rfl rfl rfl ?_; (refine Nx.of (S.lss_t hlt') ?_)) | (refine RT.goK rfl rfl rfl rfl ?_; apply Nx.of; (first | exact S.move | exact S.assign | exact S.load1c rfl rfl rfl rfl | exact S.loadNc rfl rfl rfl rfl | exact S.fieldAddr rfl rfl rfl | exact S.leq | exact S.lss | exact S.eql | exact S.neq | exact S.geq | exact S.gtr | exact S.not_t | exact S.not_f | exact S.not_d | exact S.pick_tt | exact S.pick_ff | exact S.pick_td (by assumption) | exact S.pick_fd (by assumption) | exact S.pick_b | exact S.box | exact S.alloc rfl | exact S.add_one (by omega) | exact S.sub_one (by omega) (by omega) | exact S.add (by unfold In64; omega) | exact S.sub (by unfold In64; omega) | exact S.mul (by unfold In64; omega) | exact S.add_w | exact S.sub_w | exact S.mul_w | exact S.min2 | exact S.max2 | exact S.build rfl rfl rfl | exact S.buildA rfl rfl rfl rfl | exact S.nilCheck | exact S.extract rfl | exact S.makeFunc | exact S.nilCheck_fn | exact S.rowG rfl rfl rfl (fun _ => rfl) ht0 rfl rfl | exact S.rowG rfl rfl rfl (fun _ => rfl) htk rfl rfl)) | (refine RT.goK0 rfl rfl rfl ?_; apply Nx.of; (first | exact S.store rfl rfl rfl rfl rfl rfl | exact S.makeFunc | exact S.nilCheck_fn | exact S.rowG rfl rfl rfl (fun _ => rfl) ht0 rfl rfl | exact S.rowG rfl rfl rfl (fun _ => rfl) htk rfl rfl)) | (refine RT.goK rfl rfl rfl rfl ?_; apply Nx.of; (first | exact S.idx_sl rfl rfl rfl (by assumption) (by omega) | exact S.idx_slI rfl rfl rfl (by assumption) (by omega) (by omega) | exact S.rowN0 rfl rfl rfl (fun _ => rfl) (range_at (by omega)) rfl | exact S.rowN rfl rfl rfl (fun _ => rfl) (range_at (by omega)) rfl | exact S.row0 rfl rfl rfl (fun _ => rfl) (range_at (by omega)) rfl | exact S.row rfl rfl rfl (fun _ => rfl) (range_at (by omega)) rfl | exact S.row2 rfl rfl rfl (fun _ => rfl) (range_at (by omega)) rfl | exact S.len_sl rfl rfl rfl (by assumption))))
    refine lp_n (k + 1) hlt (by omega) (by (refine Wk.same (by decide) (by decide) (by decide) (by decide) ?_ ?_ rfl; all_goals ((try simp only [allL, allM]); (repeat' (first | exact trivial | refine And.intro ?_ ?_)); all_goals (first | rfl | exact congrArg some (congrArg (AV.int .i64) (by omega)) | exact IsSl.ren (by assumption) (nm_lt (by decide)) | exact ren_ro _ _ _ | exact ren_grown _ _ _ _ | exact pbc_ren h1 h2 (nm_lt (by decide)) (nm_lt (by decide)) (nm_lt (by decide)) | (rw [← e1, ← e2]; rfl) | exact congrArg AObj.cells (hx _ (fun y hy => nm_lt (by omega))) | (simp only [AObj.ren, AV.rens, AV.ren, hc _ (fun y hy => nm_lt (show y < 10 by omega))]; done) | decide))))
  · have hlt' : ¬ (k : Int) < (wths B 0).length := by have := hlt; have hw : (Ws B).length = (wths B 0).length := rfl; omega
    have hke : k = (Ws B).length := by omega
    have e3 := loK_end (f := num) ht0
    have e4 := hiK_end (f := num) ht0
    rw [← hke] at e3 e4
    repeat' (first | refine RT.nil ?_ | refine sq_n ?_ | refine Tr.seq ?_ | refine Tr.region ?_ | refine Tr.cond_t rfl ?_ | refine Tr.cond_f rfl ?_ | refine Tr.cond_d rfl (fun _ => ?_) (fun _ => ?_) | refine Tr.skip ?_ | refine Tr.ret ?_ | refine sq_r ?_ | refine Tr.exit ?_ | refine sq_x ?_ | refine Tr.block ?_ | refine blk_n ?_ | refine blk_r ?_ | refine blk_hit rfl ?_ | refine blk_pass rfl ?_ | refine Tr.label ?_ | refine Tr.scope ?_ | refine scp_n ?_ | refine scp_r ?_ | refine scp_x ?_ | refine lp_r ?_ | refine lp_x ?_ | (refine RT.goK rfl rfl rfl rfl ?_; (refine Nx.of (S.lss_f hlt') ?_)) | (refine RT.goK rfl rfl rfl rfl ?_; apply Nx.of; (first | exact S.move | exact S.assign | exact S.load1c rfl rfl rfl rfl | exact S.loadNc rfl rfl rfl rfl | exact S.fieldAddr rfl rfl rfl | exact S.leq | exact S.lss | exact S.eql | exact S.neq | exact S.geq | exact S.gtr | exact S.not_t | exact S.not_f | exact S.not_d | exact S.pick_tt | exact S.pick_ff | exact S.pick_td (by assumption) | exact S.pick_fd (by assumption) | exact S.pick_b | exact S.box | exact S.alloc rfl | exact S.add_one (by omega) | exact S.sub_one (by omega) (by omega) | exact S.add (by unfold In64; omega) | exact S.sub (by unfold In64; omega) | exact S.mul (by unfold In64; omega) | exact S.add_w | exact S.sub_w | exact S.mul_w | exact S.min2 | exact S.max2 | exact S.build rfl rfl rfl | exact S.buildA rfl rfl rfl rfl | exact S.nilCheck | exact S.extract rfl | exact S.makeFunc | exact S.nilCheck_fn | exact S.rowG rfl rfl rfl (fun _ => rfl) ht0 rfl rfl | exact S.rowG rfl rfl rfl (fun _ => rfl) htk rfl rfl)) | (refine RT.goK0 rfl rfl rfl ?_; apply Nx.of; (first | exact S.store rfl rfl rfl rfl rfl rfl | exact S.makeFunc | exact S.nilCheck_fn | exact S.rowG rfl rfl rfl (fun _ => rfl) ht0 rfl rfl | exact S.rowG rfl rfl rfl (fun _ => rfl) htk rfl rfl)))
    (first | refine rt_go rfl ?_ | refine rt_go (by exact rfl) ?_)
    rw [← e3, ← e4]
    rfl

/-- What is known of a book, in memory, with one object more. -/
structure KnIn (B : CBook) (a1 a2 : AV) (p q x z : Nat) (ys : List AV) (m : List (Nat × Option AObj)) (c : Nat) : Prop where
  pb : PbIn B a1 a2 p q m c
  mx : lookM m x = some (oWs B)
  hx : x < c
  mz : lookM m z = some (.cells ys)
  hz : z < c
  pz : p ≠ z

theorem KnIn.entry {B : CBook} {a1 a2 : AV} {p q x z : Nat} {ys : List AV} {m : List (Nat × Option AObj)} {c : Nat} (h : KnIn B a1 a2 p q x z ys m c) (xs vs vs' : List AV) (hxs : AV.rens (tau [0, 1, p, q, x, z] c) xs = ys) (hvs : AV.rens (tau [0, 1, p, q, x, z] c) vs = vs') : Entry 0 (ofM m) c vs' [(0, some (oSt B)), (1, some (oCk B)), (2, some (.cells (pbC B a1 a2 3))), (4, some (oWs B)), (5, some (.cells xs))] 6 vs := by
  have e0 : tau [0, 1, p, q, x, z] c 0 = 0 := rfl
  have e1 : tau [0, 1, p, q, x, z] c 1 = 1 := rfl
  have e2 : tau [0, 1, p, q, x, z] c 2 = p := rfl
  have e3 : tau [0, 1, p, q, x, z] c 3 = q := rfl
  have e4 : tau [0, 1, p, q, x, z] c 4 = x := rfl
  have e5 : tau [0, 1, p, q, x, z] c 5 = z := rfl
  have hb := h.pb
  have low : ∀ {u : Nat} {ob : AObj}, lookM [(0, some (oSt B)), (1, some (oCk B)), (2, some (.cells (pbC B a1 a2 3))), (4, some (oWs B)), (5, some (.cells xs))] u = some ob → u = 0 ∨ u = 1 ∨ u = 2 ∨ u = 4 ∨ u = 5 := fun {u ob} hz => by
    have := lookM_mem hz
    simpa using this
  have hobj : ∀ u o, lookM [(0, some (oSt B)), (1, some (oCk B)), (2, some (.cells (pbC B a1 a2 3))), (4, some (oWs B)), (5, some (.cells xs))] u = some o → lookM m (tau [0, 1, p, q, x, z] c u) = some (o.ren (tau [0, 1, p, q, x, z] c)) := fun u o hu => by
    rcases low hu with rfl | rfl | rfl | rfl | rfl
    · cases hu; rw [e0, ren_ro]; exact hb.m1
    · cases hu; rw [e1, ren_ro]; exact hb.m2
    · cases hu
      have : (AObj.cells (pbC B a1 a2 3)).ren (tau [0, 1, p, q, x, z] c) = .cells (pbC B a1 a2 q) := by simp only [pbC, AObj.ren, AV.ren, AV.rens, hb.h1.ren e0, hb.h2.ren e1, e3]
      rw [e2, this]; exact hb.m3
    · cases hu; rw [e4, ren_grown]; exact h.mx
    · cases hu; rw [e5, AObj.ren, hxs]; exact h.mz
  rw [← hvs]
  refine Entry.ren _ (fun g hg => by omega) (fun y hy => by rw [tau_ge hy]; omega) ⟨getM (hobj 0 _ rfl), getM (hobj 1 _ rfl), getM (hobj 2 _ rfl), getM (hobj 4 _ rfl), getM (hobj 5 _ rfl), trivial⟩ (fun u u' o o' hu hu' hne => .inl fun e => ?_)
  have g1 := hobj u o hu
  have g2 := hobj u' o' hu'
  rw [e] at g1
  rw [g1] at g2
  have hpz := h.pz
  rcases low hu with rfl | rfl | rfl | rfl | rfl <;> rcases low hu' with rfl | rfl | rfl | rfl | rfl <;> first | exact absurd rfl hne | exact absurd (show (0 : Nat) = 1 from e) (by decide) | exact absurd (show (1 : Nat) = 0 from e) (by decide) | exact absurd (show p = z from e) hpz | exact absurd (show z = p from e) hpz.symm | (cases hu; cases hu'; simp [AObj.ren, AV.rens, AV.ren, pbC, oSt, oCk] at g2)

theorem span_at {B : CBook} {a1 a2 : AV} {p q x z : Nat} {ys : List AV} {m : List (Nat × Option AObj)} {c : Nat} (h : KnIn B a1 a2 p q x z ys m c) (hW : Ws B ≠ []) (hlen : (Ws B).length ≤ 5184) (b : Bool) (f : Nat) (cap xs cap' : List AV) (hxs : AV.rens (tau [0, 1, p, q, x, z] c) xs = ys) (hcap : AV.rens (tau [0, 1, p, q, x, z] c) cap = cap')
    (hx : ∀ σ : Nat → Nat, (∀ y, y < 5 → σ y = y) → AV.rens σ xs = xs) (hr : rfVs xs = true) (hc : ∀ σ : Nat → Nat, (∀ y, y < 6 → σ y = y) → AV.rens σ cap = cap) (hrc : rfVs cap = true) (num : Tru → Int) (hnum : NumOK B a1 a2 f cap xs num) (fl : Nat) :
    OkAt 0 Try.prog fl 101 [.agg [.ptr p 0, .gs x (wths B 0).length], .agg [.bool b, .fn f [] cap']] (ofM m) c (.agg [.int .i64 (spL num (Ws B)), .int .i64 (spH num (Ws B))]) (ofM m) c :=
  (span_can B a1 a2 h.pb.h1 h.pb.h2 hW hlen b f cap xs hx hr hc hrc num hnum).pure (fun _ => rfl) (h.entry xs _ _ hxs (by
    show [AV.agg [.ptr p 0, .gs x _], AV.agg [.bool b, .fn f [] (AV.rens _ cap)]] = _
    rw [hcap])) fl

end Go.Proofs.Ytcoklgmdifggbaa

/- Package claim: what a truth is. -/
namespace Go.Proofs.Ytcoklgmdifggbaa
open Go Go.Ev

theorem ints_iff {a b x : Int} : x ∈ ints a b ↔ a ≤ x ∧ x ≤ b := by
  refine ⟨ints_mem, fun h => ?_⟩
  unfold ints
  exact List.mem_map.2 ⟨(x - a).toNat, List.mem_range.2 (by omega), by omega⟩
theorem tru2_rj {t : Tru} {i j : Nat} {a b : Int} (hi : i < 3) (hj : j < 3) : (tru2 t i a b).r j = if j = i then a else t.r j := by
  obtain rfl | rfl | rfl : i = 0 ∨ i = 1 ∨ i = 2 := by omega
  all_goals (obtain rfl | rfl | rfl : j = 0 ∨ j = 1 ∨ j = 2 := by omega)
  all_goals rfl
theorem tru2_cj {t : Tru} {i j : Nat} {a b : Int} (hi : i < 3) (hj : j < 3) : (tru2 t i a b).c j = if j = i then b else t.c j := by
  obtain rfl | rfl | rfl : i = 0 ∨ i = 1 ∨ i = 2 := by omega
  all_goals (obtain rfl | rfl | rfl : j = 0 ∨ j = 1 ∨ j = 2 := by omega)
  all_goals rfl
theorem Tru.ext3 {t u : Tru} (hw : t.w = u.w) (h : ∀ j, j < 3 → t.r j = u.r j ∧ t.c j = u.c j) : t = u := by
  have h0 := h 0 (by omega)
  have h1 := h 1 (by omega)
  have h2 := h 2 (by omega)
  obtain ⟨w, r0, r1, r2, c0, c1, c2⟩ := t
  obtain ⟨w', r0', r1', r2', c0', c1', c2'⟩ := u
  simp only [Tru.r, Tru.c] at h0 h1 h2
  simp at h0 h1 h2 hw
  simp [hw, h0, h1, h2]

/-- When a stage that is smooth ends, in a truth, at least and at most. -/
def dlo (B : CBook) (t : Tru) (i : Nat) : Int := (if i = 0 then 0 else t.c (i - 1) + B.sl (i - 1)) + B.dl i + B.cost t.w.toNat
def dhi (B : CBook) (t : Tru) (i : Nat) : Int := (if i = 0 then 0 else t.c (i - 1) + B.sh (i - 1)) + B.dh i + B.cost t.w.toNat
def StT (B : CBook) (t : Tru) (i : Nat) : Prop := (B.rl i ≤ t.r i ∧ t.r i ≤ B.rh i) ∧ (dlo B t i + t.r i ≤ t.c i ∧ t.c i ≤ dhi B t i + t.r i) ∧ wrV B (i, t.c i) = 0
structure IsT (B : CBook) (t : Tru) : Prop where
  w : 0 ≤ t.w ∧ t.w < 3 ∧ hasP B.wea t.w.toNat
  st : ∀ i, i < B.ns → StT B t i
  z : ∀ i, B.ns ≤ i → i < 3 → t.r i = 0 ∧ t.c i = 0

theorem sm_dlo {B : CBook} {t0 t : Tru} {i : Nat} (hi : i < 3) (hd : drvOk t0 i) (hw : t.w = t0.w) (hc : ∀ j, j < i → t.c j = t0.c j) : smL B t0 i = dlo B t i ∧ smH B t0 i = dhi B t i := by
  unfold smL smH dlo dhi depL depH
  unfold drvOk at hd
  rw [hw]
  rcases hd with ⟨rfl, h1, h2, h3⟩ | ⟨h1, h2, h3⟩
  · simp [h1, h2, h3]
  · have hne : ¬ (t0.c0 = 0 ∧ t0.c1 = 0 ∧ t0.c2 = 0) := fun ⟨e0, e1, e2⟩ => by
      have : t0.c (i - 1) = 0 := by unfold Tru.c; split <;> (try split) <;> assumption
      omega
    rw [if_neg hne, if_neg hne, if_neg (by omega), if_neg (by omega), hc (i - 1) (by omega)]
    exact ⟨rfl, rfl⟩

theorem mem_trs {B : CBook} (hok : stsOk B) (hw : weaOk B) {t : Tru} : ∀ (k i : Nat) (t0 : Tru), i + k = B.ns → drvOk t0 i → 0 ≤ t0.w ∧ t0.w < 3 → (∀ j, i ≤ j → j < 3 → t0.r j = 0 ∧ t0.c j = 0) →
    (t ∈ trs B k i t0 ↔ t.w = t0.w ∧ (∀ j, j < i → t.r j = t0.r j ∧ t.c j = t0.c j) ∧ (∀ j, i ≤ j → j < B.ns → StT B t j) ∧ ∀ j, B.ns ≤ j → j < 3 → t.r j = 0 ∧ t.c j = 0)
  | 0, i, t0, e, hd, hwt, hz => by
    have hi : i = B.ns := by omega
    show t ∈ [t0] ↔ _
    rw [List.mem_singleton]
    refine ⟨fun h => by subst h; exact ⟨rfl, fun j _ => ⟨rfl, rfl⟩, fun j h1 h2 => by omega, fun j h1 h2 => hz j (by omega) h2⟩, fun ⟨h1, h2, _, h4⟩ => Tru.ext3 h1 fun j hj => ?_⟩
    by_cases hji : j < i
    · exact h2 j hji
    · rw [(h4 j (by omega) hj).1, (h4 j (by omega) hj).2, (hz j (by omega) hj).1, (hz j (by omega) hj).2]; exact ⟨rfl, rfl⟩
  | k + 1, i, t0, e, hd, hwt, hz => by
    have hn := hok.1
    have hi : i < B.ns := by omega
    have hi3 : i < 3 := by omega
    have hst := hok.2 i hi
    unfold stOk at hst
    have hb := sm_bd hok hw hi hd hwt
    have step : ∀ r mi, B.rl i ≤ r → r ≤ B.rh i → smL B t0 i + r ≤ mi → mi ≤ smH B t0 i + r → (t ∈ trs B k (i + 1) (tru2 t0 i r mi) ↔ t.w = t0.w ∧ (∀ j, j < i + 1 → t.r j = (tru2 t0 i r mi).r j ∧ t.c j = (tru2 t0 i r mi).c j) ∧ (∀ j, i + 1 ≤ j → j < B.ns → StT B t j) ∧ ∀ j, B.ns ≤ j → j < 3 → t.r j = 0 ∧ t.c j = 0) := fun r mi h1 h2 h3 h4 => by
      have := mem_trs hok hw (t := t) k (i + 1) (tru2 t0 i r mi) (by omega) (.inr ⟨by omega, by rw [Nat.add_sub_cancel, tru2_cj hi3 hi3, if_pos rfl]; omega, by rw [Nat.add_sub_cancel, tru2_cj hi3 hi3, if_pos rfl]; omega⟩) (by rw [tru2_w hi3]; exact hwt) (fun j h5 h6 => by
        rw [tru2_rj hi3 h6, tru2_cj hi3 h6, if_neg (by omega), if_neg (by omega)]; exact hz j (by omega) h6)
      rw [tru2_w hi3] at this
      exact this
    show t ∈ (ints (B.rl i) (B.rh i)).flatMap _ ↔ _
    simp only [List.mem_flatMap, ints_iff]
    constructor
    · rintro ⟨r, ⟨h1, h2⟩, mi, ⟨h3, h4⟩, h5⟩
      split at h5
      · rename_i h6
        obtain ⟨g1, g2, g3, g4⟩ := (step r mi h1 h2 h3 h4).1 h5
        have gi := g2 i (by omega)
        rw [tru2_rj hi3 hi3, tru2_cj hi3 hi3, if_pos rfl, if_pos rfl] at gi
        have gl : ∀ j, j < i → t.r j = t0.r j ∧ t.c j = t0.c j := fun j hj => by
          have := g2 j (by omega)
          rw [tru2_rj hi3 (by omega), tru2_cj hi3 (by omega), if_neg (by omega), if_neg (by omega)] at this
          exact this
        have gd := sm_dlo (B := B) hi3 hd g1 fun j hj => (gl j hj).2
        refine ⟨g1, gl, fun j hj hjn => ?_, g4⟩
        by_cases hji : j = i
        · subst hji
          refine ⟨by omega, by omega, by rw [gi.2]; exact h6⟩
        · exact g3 j (by omega) hjn
      · cases h5
    · rintro ⟨g1, g2, g3, g4⟩
      have gi := g3 i (Nat.le_refl _) hi
      have gd := sm_dlo (B := B) hi3 hd g1 fun j hj => (g2 j hj).2
      refine ⟨t.r i, gi.1, t.c i, by have := gi.2.1; omega, ?_⟩
      rw [if_pos gi.2.2]
      refine (step (t.r i) (t.c i) gi.1.1 gi.1.2 (by have := gi.2.1; omega) (by have := gi.2.1; omega)).2 ⟨g1, fun j hj => ?_, fun j h1 h2 => g3 j (by omega) h2, g4⟩
      rw [tru2_rj hi3 (by omega), tru2_cj hi3 (by omega)]
      by_cases hji : j = i
      · subst hji; rw [if_pos rfl, if_pos rfl]; exact ⟨rfl, rfl⟩
      · rw [if_neg hji, if_neg hji]; exact g2 j (by omega)

theorem mem_Ws {B : CBook} (hok : stsOk B) (hw : weaOk B) {t : Tru} : t ∈ Ws B ↔ IsT B t := by
  have key : ∀ k, k < 3 → (t ∈ wth B k ↔ hasP B.wea k ∧ t.w = k ∧ (∀ j, j < B.ns → StT B t j) ∧ ∀ j, B.ns ≤ j → j < 3 → t.r j = 0 ∧ t.c j = 0) := fun k hk => by
    have hm := mem_trs hok hw (t := t) B.ns 0 (tru0 k) (by omega) (.inl ⟨rfl, rfl, rfl, rfl⟩) (by show 0 ≤ (k : Int) ∧ (k : Int) < 3; omega) (fun j _ hj => by
      obtain rfl | rfl | rfl : j = 0 ∨ j = 1 ∨ j = 2 := by omega
      all_goals exact ⟨rfl, rfl⟩)
    unfold wth
    by_cases h : hasP B.wea k
    · rw [dB_tt h]
      show t ∈ trs B B.ns 0 (tru0 k) ↔ _
      rw [hm]
      exact ⟨fun ⟨a, _, b, d⟩ => ⟨h, a, fun j hj => b j (Nat.zero_le _) hj, d⟩, fun ⟨_, a, b, d⟩ => ⟨a, fun j hj => by omega, fun j _ hj => b j hj, d⟩⟩
    · rw [dB_ff h]
      exact ⟨fun hh => (by cases hh), fun hh => absurd hh.1 h⟩
  have hall : t ∈ wths B 0 ↔ t ∈ wth B 0 ∨ t ∈ wth B 1 ∨ t ∈ wth B 2 := by
    rw [wths_cons (by omega), wths_cons (by omega), wths_cons (by omega), List.mem_append, List.mem_append, List.mem_append]
    have : wths B 3 = [] := rfl
    rw [show 0 + 1 + 1 + 1 = 3 from rfl, this]
    simp
  show t ∈ wths B 0 ↔ _
  rw [hall, key 0 (by omega), key 1 (by omega), key 2 (by omega)]
  constructor
  · rintro (⟨a, b, d, e⟩ | ⟨a, b, d, e⟩ | ⟨a, b, d, e⟩)
    all_goals exact ⟨⟨by omega, by omega, by rw [b]; exact a⟩, d, e⟩
  · rintro ⟨⟨a, b, d⟩, e, f⟩
    obtain h | h | h : t.w = 0 ∨ t.w = 1 ∨ t.w = 2 := by omega
    · rw [h] at d; exact .inl ⟨d, h, e, f⟩
    · rw [h] at d; exact .inr (.inl ⟨d, h, e, f⟩)
    · rw [h] at d; exact .inr (.inr ⟨d, h, e, f⟩)

/-- Within limits. -/
theorem IsT.bd {B : CBook} (hok : stsOk B) (hw : weaOk B) {t : Tru} (h : IsT B t) : ∀ i, i < B.ns → (1 ≤ t.c i ∧ t.c i ≤ 200 * (i + 1)) ∧ 0 ≤ t.r i ∧ t.r i ≤ 30
  | 0, hi => by
    have hs := hok.2 0 hi
    have ht := h.st 0 hi
    unfold stOk at hs
    unfold StT dlo dhi at ht
    unfold weaOk at hw
    have hc : 0 ≤ B.cost t.w.toNat ∧ B.cost t.w.toNat ≤ 30 := by
      have := h.w
      obtain h | h | h : t.w.toNat = 0 ∨ t.w.toNat = 1 ∨ t.w.toNat = 2 := by omega
      all_goals (rw [h]; omega)
    rw [if_pos rfl, if_pos rfl] at ht
    omega
  | i + 1, hi => by
    have ih := IsT.bd hok hw h i (by omega)
    have hs := hok.2 (i + 1) hi
    have hs' := hok.2 i (by omega)
    have ht := h.st (i + 1) hi
    unfold stOk at hs hs'
    unfold StT dlo dhi at ht
    unfold weaOk at hw
    have hc : 0 ≤ B.cost t.w.toNat ∧ B.cost t.w.toNat ≤ 30 := by
      have := h.w
      obtain h | h | h : t.w.toNat = 0 ∨ t.w.toNat = 1 ∨ t.w.toNat = 2 := by omega
      all_goals (rw [h]; omega)
    rw [if_neg (by omega), if_neg (by omega), Nat.add_sub_cancel] at ht
    omega
theorem IsT.bd0 {B : CBook} (hok : stsOk B) (hw : weaOk B) {t : Tru} (h : IsT B t) {i : Nat} (hi : i < 3) : (0 ≤ t.c i ∧ t.c i ≤ 600) ∧ 0 ≤ t.r i ∧ t.r i ≤ 30 := by
  by_cases hn : i < B.ns
  · have := h.bd hok hw i hn
    omega
  · have := h.z i (by omega) hi
    omega
theorem TruB.of {B : CBook} (hok : stsOk B) (hw : weaOk B) {t : Tru} (h : t ∈ Ws B) : TruB t := by
  have h' := (mem_Ws hok hw).1 h
  have h0 := h'.bd0 hok hw (i := 0) (by omega)
  have h1 := h'.bd0 hok hw (i := 1) (by omega)
  have h2 := h'.bd0 hok hw (i := 2) (by omega)
  simp only [Tru.r, Tru.c] at h0 h1 h2
  simp at h0 h1 h2
  refine ⟨fun i => ?_, fun i => ?_, h'.w.1, h'.w.2.1⟩
  · unfold Tru.c; split <;> (try split) <;> omega
  · unfold Tru.r; split <;> (try split) <;> omega
end Go.Proofs.Ytcoklgmdifggbaa

/- Package claim: what is answered of stages, and what the road owes. -/
namespace Go.Proofs.Ytcoklgmdifggbaa
open Go Go.Ev

theorem NumOK.of {B : CBook} {a1 a2 : AV} {f : Nat} {cap xs : List AV} {num : Tru → Int} (hxs : ∀ σ : Nat → Nat, (∀ y, y < 5 → σ y = y) → AV.rens σ xs = xs) (hc : ∀ σ : Nat → Nat, (∀ y, y < 6 → σ y = y) → AV.rens σ cap = cap) (h : IsSl a1 B.ns 0 → IsSl a2 B.nc 1 → ∀ t ∈ Ws B, CanS 0 Try.prog f 6 ([.ptr 2 0, trV t] ++ cap) [(0, some (oSt B)), (1, some (oCk B)), (2, some (.cells (pbC B a1 a2 3))), (5, some (.cells xs))] 6 fun v _ _ => v = .int .i64 (num t)) : NumOK B a1 a2 f cap xs num := fun t ht m c hp h6 hx fl => by
  have hs : ∀ y, y < 6 → nm 6 c y = y := fun y hy => nm_lt hy
  refine (h hp.h1 hp.h2 t ht).pure (.int _ _) (.nm h6 (by omega) ⟨⟨hp.m1, ren_ro _ _ _, by omega⟩, ⟨hp.m2, ren_ro _ _ _, by omega⟩, ⟨hp.m3, pbc_ren hp.h1 hp.h2 (hs 0 (by omega)) (hs 1 (by omega)) (hs 3 (by omega)), by omega⟩, ⟨hx, congrArg AObj.cells (hxs _ fun y hy => hs y (by omega)), by omega⟩, trivial⟩ ?_) fl
  rw [rens_append, hc _ hs]
  simp only [AV.rens, AV.ren, hs 2 (by omega)]

set_option maxRecDepth 100000 in
set_option maxHeartbeats 4000000 in
theorem comes1_num (B : CBook) (a1 a2 : AV) (i : Nat) (hi : i < 3) : NumOK B a1 a2 66 [.ptr 5 0] [.int .i64 (i : Int)] (fun t => t.c i) := .of (fun _ _ => rfl) (fun σ hσ => by simp only [AV.rens, AV.ren, hσ 5 (by omega)]) fun h1 h2 t ht => by
  refine CanS.mk Try.func66 rfl rfl rfl ?_
  repeat' (first | refine RT.nil ?_ | refine sq_n ?_ | refine Tr.seq ?_ | refine Tr.region ?_ | refine Tr.cond_t rfl ?_ | refine Tr.cond_f rfl ?_ | refine Tr.cond_d rfl (fun _ => ?_) (fun _ => ?_) | refine Tr.skip ?_ | refine Tr.ret ?_ | refine sq_r ?_ | refine Tr.exit ?_ | refine sq_x ?_ | refine Tr.block ?_ | refine blk_n ?_ | refine blk_r ?_ | refine blk_hit rfl ?_ | refine blk_pass rfl ?_ | refine Tr.label ?_ | refine Tr.scope ?_ | refine scp_n ?_ | refine scp_r ?_ | refine scp_x ?_ | refine lp_r ?_ | refine lp_x ?_ | (refine RT.goK rfl rfl rfl rfl ?_; apply Nx.of; (first | exact S.move | exact S.assign | exact S.load1c rfl rfl rfl rfl | exact S.loadNc rfl rfl rfl rfl | exact S.fieldAddr rfl rfl rfl | exact S.leq | exact S.lss | exact S.eql | exact S.neq | exact S.geq | exact S.gtr | exact S.not_t | exact S.not_f | exact S.not_d | exact S.pick_tt | exact S.pick_ff | exact S.pick_td (by assumption) | exact S.pick_fd (by assumption) | exact S.pick_b | exact S.box | exact S.alloc rfl | exact S.add_one (by omega) | exact S.sub_one (by omega) (by omega) | exact S.add (by unfold In64; omega) | exact S.sub (by unfold In64; omega) | exact S.mul (by unfold In64; omega) | exact S.add_w | exact S.sub_w | exact S.mul_w | exact S.min2 | exact S.max2 | exact S.build rfl rfl rfl | exact S.buildA rfl rfl rfl rfl | exact S.nilCheck | exact S.extract rfl | exact S.makeFunc | exact S.nilCheck_fn)) | (refine RT.goK0 rfl rfl rfl ?_; apply Nx.of; (first | exact S.store rfl rfl rfl rfl rfl rfl | exact S.makeFunc | exact S.nilCheck_fn)) | (refine RT.goK rfl rfl rfl rfl ?_; apply Nx.of; (first | exact S.load1c rfl rfl rfl (trV_c hi) | exact S.load1c rfl rfl rfl (trV_r hi) | exact S.idx_arr rfl rfl rfl (show _ < 3 by omega))))
  (first | refine rt_go rfl ?_ | refine rt_go (by exact rfl) ?_)
  rfl
theorem owes_num (B : CBook) (a1 a2 : AV) (hok : stsOk B) (hw : weaOk B) (hr : 0 ≤ B.rate ∧ B.rate ≤ 99) (xs : List AV) : NumOK B a1 a2 83 [] xs (owV B) := fun t ht m c hp _ _ fl => owes_at hp hok hr t (TruB.of hok hw ht) fl

/-- What is answered: an error, and both ends. -/
noncomputable def ansE (B : CBook) (q : Prop) : Int := if dB (bkOk B) = false then 60 else if dB q = false then 61 else if dB (Ws B = []) = true then 62 else 0
noncomputable def ansL (B : CBook) (q : Prop) (num : Tru → Int) : Int := if ansE B q = 0 then spL num (Ws B) else 0
noncomputable def ansH (B : CBook) (q : Prop) (num : Tru → Int) : Int := if ansE B q = 0 then spH num (Ws B) else 0
noncomputable def ansV (B : CBook) (q : Prop) (num : Tru → Int) : AV := .tup [.agg [.int .i64 (ansL B q num), .int .i64 (ansH B q num)], .int .i64 (ansE B q)]
theorem ansE_no {B : CBook} {q : Prop} (h : ¬ bkOk B) : ansE B q = 60 := by unfold ansE; rw [dB_ff h, if_pos rfl]
theorem ansE_ask {B : CBook} {q : Prop} (h : bkOk B) (hq : ¬ q) : ansE B q = 61 := by unfold ansE; rw [dB_tt h, if_neg (by decide), dB_ff hq, if_pos rfl]
theorem ansE_false {B : CBook} {q : Prop} (h : bkOk B) (hq : q) (hW : Ws B = []) : ansE B q = 62 := by unfold ansE; rw [dB_tt h, if_neg (by decide), dB_tt hq, if_neg (by decide), dB_tt hW, if_pos rfl]
theorem ansE_ok {B : CBook} {q : Prop} (h : bkOk B) (hq : q) (hW : Ws B ≠ []) : ansE B q = 0 := by unfold ansE; rw [dB_tt h, if_neg (by decide), dB_tt hq, if_neg (by decide), dB_ff hW, if_neg (by decide)]
theorem ansV_err {B : CBook} {q : Prop} {num : Tru → Int} {e : Int} (h : ansE B q = e) (he : e ≠ 0) : ansV B q num = .tup [.agg [.int .i64 0, .int .i64 0], .int .i64 e] := by unfold ansV ansL ansH; rw [h, if_neg he, if_neg he]
theorem ansV_ok {B : CBook} {q : Prop} {num : Tru → Int} (h : ansE B q = 0) : ansV B q num = .tup [.agg [.int .i64 (spL num (Ws B)), .int .i64 (spH num (Ws B))], .int .i64 0] := by unfold ansV ansL ansH; rw [h, if_pos rfl, if_pos rfl]

set_option maxRecDepth 100000 in
set_option maxHeartbeats 4000000 in
theorem answer_can (B : CBook) (a1 a2 : AV) (h1 : IsSl a1 B.ns 0) (h2 : IsSl a2 B.nc 1) (hn : B.ns ≤ 9223372036854775807) (q : Bool) (f : Nat) (x : Int) (num : Tru → Int) (hnum : bkOk B → q = true → NumOK B a1 a2 f [.ptr 5 0] [.int .i64 x] num) : CanS 0 Try.prog 64 3 [bk B a1 a2, .agg [.bool q, .fn f [] [.ptr 2 0]]] ([(0, some (oSt B)), (1, some (oCk B))] ++ [(2, some (.cells [.int .i64 x]))]) 3 fun v _ _ => v = ansV B (q = true) num := by
  by_cases hB : bkOk B
  · cases q with
    | false =>
      rw [ansV_err (ansE_ask hB (by simp)) (by decide)]
      refine CanS.mk Try.func64 rfl rfl rfl ?_
      repeat' (first | refine RT.nil ?_ | refine sq_n ?_ | refine Tr.seq ?_ | refine Tr.region ?_ | refine Tr.cond_t rfl ?_ | refine Tr.cond_f rfl ?_ | refine Tr.cond_d rfl (fun _ => ?_) (fun _ => ?_) | refine Tr.skip ?_ | refine Tr.ret ?_ | refine sq_r ?_ | refine Tr.exit ?_ | refine sq_x ?_ | refine Tr.block ?_ | refine blk_n ?_ | refine blk_r ?_ | refine blk_hit rfl ?_ | refine blk_pass rfl ?_ | refine Tr.label ?_ | refine Tr.scope ?_ | refine scp_n ?_ | refine scp_r ?_ | refine scp_x ?_ | refine lp_r ?_ | refine lp_x ?_ | (refine RT.call rfl rfl rfl (learn_ask_at ⟨h1, h2, rfl, rfl, by decide⟩ hn hB _) rfl rfl (Nat.le_refl _) ?_) | (refine RT.goK rfl rfl rfl rfl ?_; apply Nx.of; (first | exact S.move | exact S.assign | exact S.load1c rfl rfl rfl rfl | exact S.loadNc rfl rfl rfl rfl | exact S.fieldAddr rfl rfl rfl | exact S.leq | exact S.lss | exact S.eql | exact S.neq | exact S.geq | exact S.gtr | exact S.not_t | exact S.not_f | exact S.not_d | exact S.pick_tt | exact S.pick_ff | exact S.pick_td (by assumption) | exact S.pick_fd (by assumption) | exact S.pick_b | exact S.box | exact S.alloc rfl | exact S.add_one (by omega) | exact S.sub_one (by omega) (by omega) | exact S.add (by unfold In64; omega) | exact S.sub (by unfold In64; omega) | exact S.mul (by unfold In64; omega) | exact S.add_w | exact S.sub_w | exact S.mul_w | exact S.min2 | exact S.max2 | exact S.build rfl rfl rfl | exact S.buildA rfl rfl rfl rfl | exact S.nilCheck | exact S.extract rfl | exact S.makeFunc | exact S.nilCheck_fn)) | (refine RT.goK0 rfl rfl rfl ?_; apply Nx.of; (first | exact S.store rfl rfl rfl rfl rfl rfl | exact S.makeFunc | exact S.nilCheck_fn)) | (refine RT.goK rfl rfl rfl rfl ?_; apply Nx.of; (first | exact S.lss_t (by decide) | exact S.lss_f (by decide) | exact S.leq_t (by decide) | exact S.leq_f (by decide) | exact S.eql_t (by decide) | exact S.eql_f (by decide) | exact S.neq_t (by decide) | exact S.neq_f (by decide) | exact S.index_arrI rfl rfl rfl rfl (by decide) (by decide) rfl | exact S.idx_arrI rfl rfl rfl (by decide) (by decide))))
      (first | refine rt_go rfl ?_ | refine rt_go (by exact rfl) ?_)
      rfl
    | true =>
      by_cases hW : Ws B = []
      · rw [ansV_err (ansE_false hB rfl hW) (by decide)]
        refine CanS.mk Try.func64 rfl rfl rfl ?_
        repeat' (first | refine RT.nil ?_ | refine sq_n ?_ | refine Tr.seq ?_ | refine Tr.region ?_ | refine Tr.cond_t rfl ?_ | refine Tr.cond_f rfl ?_ | refine Tr.cond_d rfl (fun _ => ?_) (fun _ => ?_) | refine Tr.skip ?_ | refine Tr.ret ?_ | refine sq_r ?_ | refine Tr.exit ?_ | refine sq_x ?_ | refine Tr.block ?_ | refine blk_n ?_ | refine blk_r ?_ | refine blk_hit rfl ?_ | refine blk_pass rfl ?_ | refine Tr.label ?_ | refine Tr.scope ?_ | refine scp_n ?_ | refine scp_r ?_ | refine scp_x ?_ | refine lp_r ?_ | refine lp_x ?_ | (refine RT.call rfl rfl rfl (learn_false_at ⟨h1, h2, rfl, rfl, by decide⟩ hn hB hW _) rfl rfl (Nat.le_refl _) ?_) | (refine RT.goK rfl rfl rfl rfl ?_; apply Nx.of; (first | exact S.move | exact S.assign | exact S.load1c rfl rfl rfl rfl | exact S.loadNc rfl rfl rfl rfl | exact S.fieldAddr rfl rfl rfl | exact S.leq | exact S.lss | exact S.eql | exact S.neq | exact S.geq | exact S.gtr | exact S.not_t | exact S.not_f | exact S.not_d | exact S.pick_tt | exact S.pick_ff | exact S.pick_td (by assumption) | exact S.pick_fd (by assumption) | exact S.pick_b | exact S.box | exact S.alloc rfl | exact S.add_one (by omega) | exact S.sub_one (by omega) (by omega) | exact S.add (by unfold In64; omega) | exact S.sub (by unfold In64; omega) | exact S.mul (by unfold In64; omega) | exact S.add_w | exact S.sub_w | exact S.mul_w | exact S.min2 | exact S.max2 | exact S.build rfl rfl rfl | exact S.buildA rfl rfl rfl rfl | exact S.nilCheck | exact S.extract rfl | exact S.makeFunc | exact S.nilCheck_fn)) | (refine RT.goK0 rfl rfl rfl ?_; apply Nx.of; (first | exact S.store rfl rfl rfl rfl rfl rfl | exact S.makeFunc | exact S.nilCheck_fn)) | (refine RT.goK rfl rfl rfl rfl ?_; apply Nx.of; (first | exact S.lss_t (by decide) | exact S.lss_f (by decide) | exact S.leq_t (by decide) | exact S.leq_f (by decide) | exact S.eql_t (by decide) | exact S.eql_f (by decide) | exact S.neq_t (by decide) | exact S.neq_f (by decide) | exact S.index_arrI rfl rfl rfl rfl (by decide) (by decide) rfl | exact S.idx_arrI rfl rfl rfl (by decide) (by decide))))
        (first | refine rt_go rfl ?_ | refine rt_go (by exact rfl) ?_)
        rfl
      · rw [ansV_ok (ansE_ok hB rfl hW)]
        refine CanS.mk Try.func64 rfl rfl rfl ?_
        repeat' (first | refine RT.nil ?_ | refine sq_n ?_ | refine Tr.seq ?_ | refine Tr.region ?_ | refine Tr.cond_t rfl ?_ | refine Tr.cond_f rfl ?_ | refine Tr.cond_d rfl (fun _ => ?_) (fun _ => ?_) | refine Tr.skip ?_ | refine Tr.ret ?_ | refine sq_r ?_ | refine Tr.exit ?_ | refine sq_x ?_ | refine Tr.block ?_ | refine blk_n ?_ | refine blk_r ?_ | refine blk_hit rfl ?_ | refine blk_pass rfl ?_ | refine Tr.label ?_ | refine Tr.scope ?_ | refine scp_n ?_ | refine scp_r ?_ | refine scp_x ?_ | refine lp_r ?_ | refine lp_x ?_ | (refine RT.call rfl rfl rfl (learn_at ⟨h1, h2, rfl, rfl, by decide⟩ (fun x o hx => by have := lookM_mem hx; simp at this; omega) hn hB hW _) rfl rfl (by decide) ?_) | (refine RT.call rfl rfl rfl (span_at (p := 9) (q := 10) (x := 14) (z := 2) (ys := [.int .i64 x]) ⟨⟨h1, h2, rfl, rfl, rfl, by decide, by decide, by decide⟩, rfl, by decide, rfl, by decide, by decide⟩ hW (wths_len hB.1) true f [.ptr 5 0] [.int .i64 x] [.ptr 2 0] rfl rfl (fun _ _ => rfl) rfl (fun σ hσ => by simp only [AV.rens, AV.ren, hσ 5 (by omega)]) rfl num (hnum hB rfl) _) rfl rfl (Nat.le_refl _) ?_) | (refine RT.goK rfl rfl rfl rfl ?_; apply Nx.of; (first | exact S.move | exact S.assign | exact S.load1c rfl rfl rfl rfl | exact S.loadNc rfl rfl rfl rfl | exact S.fieldAddr rfl rfl rfl | exact S.leq | exact S.lss | exact S.eql | exact S.neq | exact S.geq | exact S.gtr | exact S.not_t | exact S.not_f | exact S.not_d | exact S.pick_tt | exact S.pick_ff | exact S.pick_td (by assumption) | exact S.pick_fd (by assumption) | exact S.pick_b | exact S.box | exact S.alloc rfl | exact S.add_one (by omega) | exact S.sub_one (by omega) (by omega) | exact S.add (by unfold In64; omega) | exact S.sub (by unfold In64; omega) | exact S.mul (by unfold In64; omega) | exact S.add_w | exact S.sub_w | exact S.mul_w | exact S.min2 | exact S.max2 | exact S.build rfl rfl rfl | exact S.buildA rfl rfl rfl rfl | exact S.nilCheck | exact S.extract rfl | exact S.makeFunc | exact S.nilCheck_fn)) | (refine RT.goK0 rfl rfl rfl ?_; apply Nx.of; (first | exact S.store rfl rfl rfl rfl rfl rfl | exact S.makeFunc | exact S.nilCheck_fn)) | (refine RT.goK rfl rfl rfl rfl ?_; apply Nx.of; (first | exact S.lss_t (by decide) | exact S.lss_f (by decide) | exact S.leq_t (by decide) | exact S.leq_f (by decide) | exact S.eql_t (by decide) | exact S.eql_f (by decide) | exact S.neq_t (by decide) | exact S.neq_f (by decide) | exact S.index_arrI rfl rfl rfl rfl (by decide) (by decide) rfl | exact S.idx_arrI rfl rfl rfl (by decide) (by decide))))
        (first | refine rt_go rfl ?_ | refine rt_go (by exact rfl) ?_)
        rfl
  · rw [ansV_err (ansE_no hB) (by decide)]
    refine CanS.mk Try.func64 rfl rfl rfl ?_
    repeat' (first | refine RT.nil ?_ | refine sq_n ?_ | refine Tr.seq ?_ | refine Tr.region ?_ | refine Tr.cond_t rfl ?_ | refine Tr.cond_f rfl ?_ | refine Tr.cond_d rfl (fun _ => ?_) (fun _ => ?_) | refine Tr.skip ?_ | refine Tr.ret ?_ | refine sq_r ?_ | refine Tr.exit ?_ | refine sq_x ?_ | refine Tr.block ?_ | refine blk_n ?_ | refine blk_r ?_ | refine blk_hit rfl ?_ | refine blk_pass rfl ?_ | refine Tr.label ?_ | refine Tr.scope ?_ | refine scp_n ?_ | refine scp_r ?_ | refine scp_x ?_ | refine lp_r ?_ | refine lp_x ?_ | (refine RT.call rfl rfl rfl (learn_no_at ⟨h1, h2, rfl, rfl, by decide⟩ hn hB _ _) rfl rfl (Nat.le_refl _) ?_) | (refine RT.goK rfl rfl rfl rfl ?_; apply Nx.of; (first | exact S.move | exact S.assign | exact S.load1c rfl rfl rfl rfl | exact S.loadNc rfl rfl rfl rfl | exact S.fieldAddr rfl rfl rfl | exact S.leq | exact S.lss | exact S.eql | exact S.neq | exact S.geq | exact S.gtr | exact S.not_t | exact S.not_f | exact S.not_d | exact S.pick_tt | exact S.pick_ff | exact S.pick_td (by assumption) | exact S.pick_fd (by assumption) | exact S.pick_b | exact S.box | exact S.alloc rfl | exact S.add_one (by omega) | exact S.sub_one (by omega) (by omega) | exact S.add (by unfold In64; omega) | exact S.sub (by unfold In64; omega) | exact S.mul (by unfold In64; omega) | exact S.add_w | exact S.sub_w | exact S.mul_w | exact S.min2 | exact S.max2 | exact S.build rfl rfl rfl | exact S.buildA rfl rfl rfl rfl | exact S.nilCheck | exact S.extract rfl | exact S.makeFunc | exact S.nilCheck_fn)) | (refine RT.goK0 rfl rfl rfl ?_; apply Nx.of; (first | exact S.store rfl rfl rfl rfl rfl rfl | exact S.makeFunc | exact S.nilCheck_fn)) | (refine RT.goK rfl rfl rfl rfl ?_; apply Nx.of; (first | exact S.lss_t (by decide) | exact S.lss_f (by decide) | exact S.leq_t (by decide) | exact S.leq_f (by decide) | exact S.eql_t (by decide) | exact S.eql_f (by decide) | exact S.neq_t (by decide) | exact S.neq_f (by decide) | exact S.index_arrI rfl rfl rfl rfl (by decide) (by decide) rfl | exact S.idx_arrI rfl rfl rfl (by decide) (by decide))))
    (first | refine rt_go rfl ?_ | refine rt_go (by exact rfl) ?_)
    rfl
set_option maxRecDepth 100000 in
set_option maxHeartbeats 4000000 in
theorem answer0_can (B : CBook) (a1 a2 : AV) (h1 : IsSl a1 B.ns 0) (h2 : IsSl a2 B.nc 1) (hn : B.ns ≤ 9223372036854775807) (f : Nat) (num : Tru → Int) (hnum : bkOk B → ∀ xs, NumOK B a1 a2 f [] xs num) : CanS 0 Try.prog 64 2 [bk B a1 a2, .agg [.bool true, .fn f [] []]] [(0, some (oSt B)), (1, some (oCk B))] 2 fun v _ _ => v = ansV B True num := by
  by_cases hB : bkOk B
  · by_cases hW : Ws B = []
    · rw [ansV_err (ansE_false hB trivial hW) (by decide)]
      refine CanS.mk Try.func64 rfl rfl rfl ?_
      repeat' (first | refine RT.nil ?_ | refine sq_n ?_ | refine Tr.seq ?_ | refine Tr.region ?_ | refine Tr.cond_t rfl ?_ | refine Tr.cond_f rfl ?_ | refine Tr.cond_d rfl (fun _ => ?_) (fun _ => ?_) | refine Tr.skip ?_ | refine Tr.ret ?_ | refine sq_r ?_ | refine Tr.exit ?_ | refine sq_x ?_ | refine Tr.block ?_ | refine blk_n ?_ | refine blk_r ?_ | refine blk_hit rfl ?_ | refine blk_pass rfl ?_ | refine Tr.label ?_ | refine Tr.scope ?_ | refine scp_n ?_ | refine scp_r ?_ | refine scp_x ?_ | refine lp_r ?_ | refine lp_x ?_ | (refine RT.call rfl rfl rfl (learn_false_at ⟨h1, h2, rfl, rfl, by decide⟩ hn hB hW _) rfl rfl (Nat.le_refl _) ?_) | (refine RT.goK rfl rfl rfl rfl ?_; apply Nx.of; (first | exact S.move | exact S.assign | exact S.load1c rfl rfl rfl rfl | exact S.loadNc rfl rfl rfl rfl | exact S.fieldAddr rfl rfl rfl | exact S.leq | exact S.lss | exact S.eql | exact S.neq | exact S.geq | exact S.gtr | exact S.not_t | exact S.not_f | exact S.not_d | exact S.pick_tt | exact S.pick_ff | exact S.pick_td (by assumption) | exact S.pick_fd (by assumption) | exact S.pick_b | exact S.box | exact S.alloc rfl | exact S.add_one (by omega) | exact S.sub_one (by omega) (by omega) | exact S.add (by unfold In64; omega) | exact S.sub (by unfold In64; omega) | exact S.mul (by unfold In64; omega) | exact S.add_w | exact S.sub_w | exact S.mul_w | exact S.min2 | exact S.max2 | exact S.build rfl rfl rfl | exact S.buildA rfl rfl rfl rfl | exact S.nilCheck | exact S.extract rfl | exact S.makeFunc | exact S.nilCheck_fn)) | (refine RT.goK0 rfl rfl rfl ?_; apply Nx.of; (first | exact S.store rfl rfl rfl rfl rfl rfl | exact S.makeFunc | exact S.nilCheck_fn)) | (refine RT.goK rfl rfl rfl rfl ?_; apply Nx.of; (first | exact S.lss_t (by decide) | exact S.lss_f (by decide) | exact S.leq_t (by decide) | exact S.leq_f (by decide) | exact S.eql_t (by decide) | exact S.eql_f (by decide) | exact S.neq_t (by decide) | exact S.neq_f (by decide) | exact S.index_arrI rfl rfl rfl rfl (by decide) (by decide) rfl | exact S.idx_arrI rfl rfl rfl (by decide) (by decide))))
      (first | refine rt_go rfl ?_ | refine rt_go (by exact rfl) ?_)
      rfl
    · rw [ansV_ok (ansE_ok hB trivial hW)]
      refine CanS.mk Try.func64 rfl rfl rfl ?_
      repeat' (first | refine RT.nil ?_ | refine sq_n ?_ | refine Tr.seq ?_ | refine Tr.region ?_ | refine Tr.cond_t rfl ?_ | refine Tr.cond_f rfl ?_ | refine Tr.cond_d rfl (fun _ => ?_) (fun _ => ?_) | refine Tr.skip ?_ | refine Tr.ret ?_ | refine sq_r ?_ | refine Tr.exit ?_ | refine sq_x ?_ | refine Tr.block ?_ | refine blk_n ?_ | refine blk_r ?_ | refine blk_hit rfl ?_ | refine blk_pass rfl ?_ | refine Tr.label ?_ | refine Tr.scope ?_ | refine scp_n ?_ | refine scp_r ?_ | refine scp_x ?_ | refine lp_r ?_ | refine lp_x ?_ | (refine RT.call rfl rfl rfl (learn_at ⟨h1, h2, rfl, rfl, by decide⟩ (fun x o hx => by have := lookM_mem hx; simp at this; omega) hn hB hW _) rfl rfl (by decide) ?_) | (refine RT.call rfl rfl rfl (span_at (p := 8) (q := 9) (x := 13) (z := 4) (ys := [.int .i64 0, .int .i64 0]) ⟨⟨h1, h2, rfl, rfl, rfl, by decide, by decide, by decide⟩, rfl, by decide, rfl, by decide, by decide⟩ hW (wths_len hB.1) true f [] [.int .i64 0, .int .i64 0] [] rfl rfl (fun _ _ => rfl) rfl (fun σ hσ => rfl) rfl num (hnum hB _) _) rfl rfl (Nat.le_refl _) ?_) | (refine RT.goK rfl rfl rfl rfl ?_; apply Nx.of; (first | exact S.move | exact S.assign | exact S.load1c rfl rfl rfl rfl | exact S.loadNc rfl rfl rfl rfl | exact S.fieldAddr rfl rfl rfl | exact S.leq | exact S.lss | exact S.eql | exact S.neq | exact S.geq | exact S.gtr | exact S.not_t | exact S.not_f | exact S.not_d | exact S.pick_tt | exact S.pick_ff | exact S.pick_td (by assumption) | exact S.pick_fd (by assumption) | exact S.pick_b | exact S.box | exact S.alloc rfl | exact S.add_one (by omega) | exact S.sub_one (by omega) (by omega) | exact S.add (by unfold In64; omega) | exact S.sub (by unfold In64; omega) | exact S.mul (by unfold In64; omega) | exact S.add_w | exact S.sub_w | exact S.mul_w | exact S.min2 | exact S.max2 | exact S.build rfl rfl rfl | exact S.buildA rfl rfl rfl rfl | exact S.nilCheck | exact S.extract rfl | exact S.makeFunc | exact S.nilCheck_fn)) | (refine RT.goK0 rfl rfl rfl ?_; apply Nx.of; (first | exact S.store rfl rfl rfl rfl rfl rfl | exact S.makeFunc | exact S.nilCheck_fn)) | (refine RT.goK rfl rfl rfl rfl ?_; apply Nx.of; (first | exact S.lss_t (by decide) | exact S.lss_f (by decide) | exact S.leq_t (by decide) | exact S.leq_f (by decide) | exact S.eql_t (by decide) | exact S.eql_f (by decide) | exact S.neq_t (by decide) | exact S.neq_f (by decide) | exact S.index_arrI rfl rfl rfl rfl (by decide) (by decide) rfl | exact S.idx_arrI rfl rfl rfl (by decide) (by decide))))
      (first | refine rt_go rfl ?_ | refine rt_go (by exact rfl) ?_)
      rfl
  · rw [ansV_err (ansE_no hB) (by decide)]
    refine CanS.mk Try.func64 rfl rfl rfl ?_
    repeat' (first | refine RT.nil ?_ | refine sq_n ?_ | refine Tr.seq ?_ | refine Tr.region ?_ | refine Tr.cond_t rfl ?_ | refine Tr.cond_f rfl ?_ | refine Tr.cond_d rfl (fun _ => ?_) (fun _ => ?_) | refine Tr.skip ?_ | refine Tr.ret ?_ | refine sq_r ?_ | refine Tr.exit ?_ | refine sq_x ?_ | refine Tr.block ?_ | refine blk_n ?_ | refine blk_r ?_ | refine blk_hit rfl ?_ | refine blk_pass rfl ?_ | refine Tr.label ?_ | refine Tr.scope ?_ | refine scp_n ?_ | refine scp_r ?_ | refine scp_x ?_ | refine lp_r ?_ | refine lp_x ?_ | (refine RT.call rfl rfl rfl (learn_no_at ⟨h1, h2, rfl, rfl, by decide⟩ hn hB _ _) rfl rfl (Nat.le_refl _) ?_) | (refine RT.goK rfl rfl rfl rfl ?_; apply Nx.of; (first | exact S.move | exact S.assign | exact S.load1c rfl rfl rfl rfl | exact S.loadNc rfl rfl rfl rfl | exact S.fieldAddr rfl rfl rfl | exact S.leq | exact S.lss | exact S.eql | exact S.neq | exact S.geq | exact S.gtr | exact S.not_t | exact S.not_f | exact S.not_d | exact S.pick_tt | exact S.pick_ff | exact S.pick_td (by assumption) | exact S.pick_fd (by assumption) | exact S.pick_b | exact S.box | exact S.alloc rfl | exact S.add_one (by omega) | exact S.sub_one (by omega) (by omega) | exact S.add (by unfold In64; omega) | exact S.sub (by unfold In64; omega) | exact S.mul (by unfold In64; omega) | exact S.add_w | exact S.sub_w | exact S.mul_w | exact S.min2 | exact S.max2 | exact S.build rfl rfl rfl | exact S.buildA rfl rfl rfl rfl | exact S.nilCheck | exact S.extract rfl | exact S.makeFunc | exact S.nilCheck_fn)) | (refine RT.goK0 rfl rfl rfl ?_; apply Nx.of; (first | exact S.store rfl rfl rfl rfl rfl rfl | exact S.makeFunc | exact S.nilCheck_fn)) | (refine RT.goK rfl rfl rfl rfl ?_; apply Nx.of; (first | exact S.lss_t (by decide) | exact S.lss_f (by decide) | exact S.leq_t (by decide) | exact S.leq_f (by decide) | exact S.eql_t (by decide) | exact S.eql_f (by decide) | exact S.neq_t (by decide) | exact S.neq_f (by decide) | exact S.index_arrI rfl rfl rfl rfl (by decide) (by decide) rfl | exact S.idx_arrI rfl rfl rfl (by decide) (by decide))))
    (first | refine rt_go rfl ?_ | refine rt_go (by exact rfl) ?_)
    rfl
end Go.Proofs.Ytcoklgmdifggbaa

/- Package claim: Right, Comes, Late, Rough, Owes. -/
namespace Go.Proofs.Ytcoklgmdifggbaa
open Go Go.Ev

theorem answer_at {B : CBook} {a1 a2 : AV} {m : List (Nat × Option AObj)} {c z : Nat} (h : BkIn B a1 a2 m c) (hn : B.ns ≤ 9223372036854775807) (q : Bool) (f : Nat) (x : Int) (num : Tru → Int) (hnum : bkOk B → q = true → NumOK B a1 a2 f [.ptr 5 0] [.int .i64 x] num) (hz : lookM m z = some (.cells [.int .i64 x])) (hzc : z < c) (fl : Nat) :
    OkAt 0 Try.prog fl 64 [bk B a1 a2, .agg [.bool q, .fn f [] [.ptr z 0]]] (ofM m) c (ansV B (q = true) num) (ofM m) c := by
  have e0 : tau [0, 1, z] c 0 = 0 := rfl
  have e1 : tau [0, 1, z] c 1 = 1 := rfl
  have e2 : tau [0, 1, z] c 2 = z := rfl
  refine (answer_can B a1 a2 h.h1 h.h2 hn q f x num hnum).pure (fun _ => rfl) ?_ fl
  have ha : AV.rens (tau [0, 1, z] c) [bk B a1 a2, .agg [.bool q, .fn f [] [.ptr 2 0]]] = [bk B a1 a2, .agg [.bool q, .fn f [] [.ptr z 0]]] := by simp only [bk, AV.ren, AV.rens, h.h1.ren e0, h.h2.ren e1, e2]
  rw [← ha]
  have hc := h.hc
  refine Entry.ren _ (fun g hg => by omega) (fun y hy => by rw [tau_ge hy]; omega) ⟨?_, ?_, getM hz, trivial⟩ (fun u u' o o' hu hu' hne => .inl fun e => ?_)
  · show (ofM m).get 0 = _
    rw [ren_ro]; exact getM h.m1
  · show (ofM m).get 1 = _
    rw [ren_ro]; exact getM h.m2
  · have low : ∀ {u : Nat} {ob : AObj}, lookM ([(0, some (oSt B)), (1, some (oCk B))] ++ [(2, some (.cells [.int .i64 x]))]) u = some ob → u = 0 ∨ u = 1 ∨ u = 2 := fun {u ob} hz => by
      have := lookM_mem hz
      simpa using this
    have hz0 : z ≠ 0 := fun e => by rw [e, h.m1] at hz; cases hz
    have hz1 : z ≠ 1 := fun e => by rw [e, h.m2] at hz; cases hz
    rcases low hu with rfl | rfl | rfl <;> rcases low hu' with rfl | rfl | rfl <;> simp only [e0, e1, e2] at e <;> omega
theorem answer0_at {B : CBook} {a1 a2 : AV} {m : List (Nat × Option AObj)} {c : Nat} (h : BkIn B a1 a2 m c) (hn : B.ns ≤ 9223372036854775807) (f : Nat) (num : Tru → Int) (hnum : bkOk B → ∀ xs, NumOK B a1 a2 f [] xs num) (fl : Nat) :
    OkAt 0 Try.prog fl 64 [bk B a1 a2, .agg [.bool true, .fn f [] []]] (ofM m) c (ansV B True num) (ofM m) c :=
  (answer0_can B a1 a2 h.h1 h.h2 hn f num hnum).pure (fun _ => rfl) (h.entry _ fun _ => rfl) fl

/-- A stage's number. -/
def stQ (B : CBook) (n : Int) : Prop := 0 ≤ n ∧ n ≤ (B.ns : Int) - 1
theorem ansV_congr {B : CBook} {q q' : Prop} {num : Tru → Int} (h : q ↔ q') : ansV B q num = ansV B q' num := by rw [propext h]
noncomputable def stF (B : CBook) (a1 a2 : AV) (n : Int) : CallFn := one1 65 [bk B a1 a2, .int .i64 n] (.bool (decide (0 ≤ n ∧ n ≤ (B.ns : Int) - 1))) fun H c => ∃ m, H = ofM m ∧ BkIn B a1 a2 m c
noncomputable def anF (B : CBook) (a1 a2 : AV) (f : Nat) (n : Int) (num : Tru → Int) : CallFn := one1 64 [bk B a1 a2, .agg [.bool (decide (0 ≤ n ∧ n ≤ (B.ns : Int) - 1)), .fn f [] [.ptr 3 0]]] (ansV B (stQ B n) num) fun H c => ∃ m, H = ofM m ∧ BkIn B a1 a2 m c ∧ lookM m 3 = some (.cells [.int .i64 n]) ∧ 3 < c
theorem anF_calm {B : CBook} {a1 a2 : AV} (hn : B.ns ≤ 9223372036854775807) (f : Nat) (n : Int) (num : Tru → Int) (hnum : bkOk B → stQ B n → NumOK B a1 a2 f [.ptr 5 0] [.int .i64 n] num) : CalmC 0 Try.prog (alts [stF B a1 a2 n, anF B a1 a2 f n num]) := alts_calm fun g hg => by
  simp only [List.mem_cons, List.not_mem_nil, or_false] at hg
  rcases hg with rfl | rfl
  · exact one1_calm fun fl H c ⟨m, hm, h⟩ => by subst hm; exact isStage_at h hn fl n
  · exact one1_calm fun fl H c ⟨m, hm, h, hz, hzc⟩ => by
      subst hm
      have := answer_at h hn (decide (0 ≤ n ∧ n ≤ (B.ns : Int) - 1)) f n num (fun hB hq => hnum hB (of_decide_eq_true (p := 0 ≤ n ∧ n ≤ (B.ns : Int) - 1) hq)) hz hzc fl
      rwa [ansV_congr (q' := stQ B n) (decide_eq_true_iff (p := 0 ≤ n ∧ n ≤ (B.ns : Int) - 1))] at this
theorem stQ_nat {B : CBook} {n : Int} (h : stQ B n) : n = (n.toNat : Int) ∧ n.toNat < B.ns := by unfold stQ at h; omega
set_option maxRecDepth 100000 in
set_option maxHeartbeats 4000000 in
theorem Comes_can (B : CBook) (a1 a2 : AV) (h1 : IsSl a1 B.ns 0) (h2 : IsSl a2 B.nc 1) (hn : B.ns ≤ 9223372036854775807) (n : Int) : CanS 0 Try.prog 18 2 [bk B a1 a2, .int .i64 n] [(0, some (oSt B)), (1, some (oCk B))] 2 fun v _ _ => v = ansV B (stQ B n) (fun t => t.c n.toNat) := by
  refine CanS.mk Try.func18 rfl rfl rfl ?_
  repeat' (first | refine RT.nil ?_ | refine sq_n ?_ | refine Tr.seq ?_ | refine Tr.region ?_ | refine Tr.cond_t rfl ?_ | refine Tr.cond_f rfl ?_ | refine Tr.cond_d rfl (fun _ => ?_) (fun _ => ?_) | refine Tr.skip ?_ | refine Tr.ret ?_ | refine sq_r ?_ | refine Tr.exit ?_ | refine sq_x ?_ | refine Tr.block ?_ | refine blk_n ?_ | refine blk_r ?_ | refine blk_hit rfl ?_ | refine blk_pass rfl ?_ | refine Tr.label ?_ | refine Tr.scope ?_ | refine scp_n ?_ | refine scp_r ?_ | refine scp_x ?_ | refine lp_r ?_ | refine lp_x ?_ | (refine RT.goK rfl rfl rfl rfl ?_; apply Nx.of; (first | exact S.move | exact S.assign | exact S.load1c rfl rfl rfl rfl | exact S.loadNc rfl rfl rfl rfl | exact S.fieldAddr rfl rfl rfl | exact S.leq | exact S.lss | exact S.eql | exact S.neq | exact S.geq | exact S.gtr | exact S.not_t | exact S.not_f | exact S.not_d | exact S.pick_tt | exact S.pick_ff | exact S.pick_td (by assumption) | exact S.pick_fd (by assumption) | exact S.pick_b | exact S.box | exact S.alloc rfl | exact S.add_one (by omega) | exact S.sub_one (by omega) (by omega) | exact S.add (by unfold In64; omega) | exact S.sub (by unfold In64; omega) | exact S.mul (by unfold In64; omega) | exact S.add_w | exact S.sub_w | exact S.mul_w | exact S.min2 | exact S.max2 | exact S.build rfl rfl rfl | exact S.buildA rfl rfl rfl rfl | exact S.nilCheck | exact S.extract rfl | exact S.makeFunc | exact S.nilCheck_fn)) | (refine RT.goK0 rfl rfl rfl ?_; apply Nx.of; (first | exact S.store rfl rfl rfl rfl rfl rfl | exact S.makeFunc | exact S.nilCheck_fn)))
  refine Tr.openK un18_1 (by kernel_rfl) (by kernel_rfl) (alts [stF B a1 a2 n, anF B a1 a2 66 n (fun t => t.c n.toNat)]) (anF_calm hn _ n _ fun hB hq => by
    have h3 := hB.1.1
    obtain ⟨e, hi⟩ := stQ_nat hq
    have := comes1_num B a1 a2 n.toNat (by omega)
    rwa [← e] at this) ?_
  repeat' (first | (refine RD.free rfl rfl rfl rfl rfl rfl ?_; apply Nx.of; (first | exact S.move | exact S.assign | exact S.fieldAddr rfl rfl rfl | exact S.leq | exact S.lss | exact S.eql | exact S.neq | exact S.geq | exact S.gtr | exact S.not_t | exact S.not_f | exact S.not_d | exact S.pick_tt | exact S.pick_ff | exact S.pick_td (by assumption) | exact S.pick_fd (by assumption) | exact S.pick_b | exact S.add_one (by omega) | exact S.sub_one (by omega) (by omega) | exact S.add (by unfold In64; omega) | exact S.sub (by unfold In64; omega) | exact S.mul (by unfold In64; omega) | exact S.add_w | exact S.sub_w | exact S.mul_w | exact S.min2 | exact S.max2 | exact S.build rfl rfl rfl | exact S.buildA rfl rfl rfl rfl | exact S.nilCheck | exact S.extract rfl | exact S.makeFunc | exact S.nilCheck_fn | exact S.idx_sl rfl rfl rfl (by assumption) (by omega) | exact S.idx_slI rfl rfl rfl (by assumption) (by omega) (by omega) | exact S.rowN0 rfl rfl rfl (fun _ => rfl) (range_at (by omega)) rfl | exact S.rowN rfl rfl rfl (fun _ => rfl) (range_at (by omega)) rfl | exact S.row0 rfl rfl rfl (fun _ => rfl) (range_at (by omega)) rfl | exact S.row rfl rfl rfl (fun _ => rfl) (range_at (by omega)) rfl | exact S.row2 rfl rfl rfl (fun _ => rfl) (range_at (by omega)) rfl | exact S.len_sl rfl rfl rfl (by assumption) | exact S.index_arrI rfl rfl rfl rfl (by decide) (by decide) rfl | exact S.idx_arrI rfl rfl rfl (by decide) (by decide))) | (refine RD.new rfl rfl rfl rfl rfl rfl ?_; apply Nx.of; (first | exact S.box | exact S.alloc rfl | exact S.makeFunc | exact S.nilCheck_fn)) | (refine RD.load rfl rfl rfl rfl rfl rfl rfl rfl ?_; apply Nx.of; (first | exact S.load1c rfl rfl rfl rfl | exact S.loadNc rfl rfl rfl rfl | exact S.makeFunc | exact S.nilCheck_fn | exact S.idx_sl rfl rfl rfl (by assumption) (by omega) | exact S.idx_slI rfl rfl rfl (by assumption) (by omega) (by omega) | exact S.rowN0 rfl rfl rfl (fun _ => rfl) (range_at (by omega)) rfl | exact S.rowN rfl rfl rfl (fun _ => rfl) (range_at (by omega)) rfl | exact S.row0 rfl rfl rfl (fun _ => rfl) (range_at (by omega)) rfl | exact S.row rfl rfl rfl (fun _ => rfl) (range_at (by omega)) rfl | exact S.row2 rfl rfl rfl (fun _ => rfl) (range_at (by omega)) rfl | exact S.len_sl rfl rfl rfl (by assumption))) | (refine RD.store rfl rfl rfl rfl rfl rfl rfl ?_; apply Nx.of; (first | exact S.store rfl rfl rfl rfl rfl rfl | exact S.makeFunc | exact S.nilCheck_fn)) | (refine RD.no rfl rfl rfl rfl ?_) | (refine RD.load rfl rfl rfl rfl rfl rfl rfl (by refine us_all ?_; simp only [usOk, cond_true, cond_false]; (repeat' (first | exact trivial | refine And.intro ?_ ?_)); all_goals (first | rfl | exact .inl trivial | exact .inl rfl | (refine Or.inr (was_same rfl ?_); (first | (exact ⟨_, rfl, rfl⟩) | (exact ⟨_, rfl, by simp [rfO, rfVs, rfV, rfVs_flat]⟩))))) ?_; apply Nx.of; (first | exact S.load1c rfl rfl rfl rfl | exact S.loadNc rfl rfl rfl rfl | exact S.makeFunc | exact S.nilCheck_fn | exact S.idx_sl rfl rfl rfl (by assumption) (by omega) | exact S.idx_slI rfl rfl rfl (by assumption) (by omega) (by omega) | exact S.rowN0 rfl rfl rfl (fun _ => rfl) (range_at (by omega)) rfl | exact S.rowN rfl rfl rfl (fun _ => rfl) (range_at (by omega)) rfl | exact S.row0 rfl rfl rfl (fun _ => rfl) (range_at (by omega)) rfl | exact S.row rfl rfl rfl (fun _ => rfl) (range_at (by omega)) rfl | exact S.row2 rfl rfl rfl (fun _ => rfl) (range_at (by omega)) rfl | exact S.len_sl rfl rfl rfl (by assumption))) | (refine RD.callN rfl rfl rfl rfl rfl rfl rfl rfl rfl (fun fl' => alts_hd (one1_at ⟨_, rfl, ⟨h1, h2, rfl, rfl, by decide⟩⟩ fl')) (fun _ => by refine srOk_all ?_; simp only [srOk]; (repeat' (first | exact trivial | refine And.intro ?_ ?_)); all_goals (first | exact trivial | (refine ⟨_, rfl, ?_⟩; (first | rfl | (simp [rfO, rfVs, rfV, rfVs_flat]; done) | (simp [pbC, bk, AV.cells, rfO, rfVs, rfV, h1.rf, h2.rf]; done))))) ?_) | (refine RD.callN rfl rfl rfl rfl rfl rfl rfl rfl rfl (fun fl' => (alts_tl (famA_ne _ (by decide))).trans (alts_hd (one1_at ⟨_, rfl, ⟨h1, h2, rfl, rfl, by decide⟩, rfl, by decide⟩ fl'))) (fun _ => by refine srOk_all ?_; simp only [srOk]; (repeat' (first | exact trivial | refine And.intro ?_ ?_)); all_goals (first | exact trivial | (refine ⟨_, rfl, ?_⟩; (first | rfl | (simp [rfO, rfVs, rfV, rfVs_flat]; done) | (simp [pbC, bk, AV.cells, rfO, rfVs, rfV, h1.rf, h2.rf]; done))))) ?_) | refine RD.nil ⟨Nat.le_of_ble_eq_true rfl, ?_⟩)
  repeat' (first | refine RT.nil ?_ | refine sq_n ?_ | refine Tr.seq ?_ | refine Tr.region ?_ | refine Tr.cond_t rfl ?_ | refine Tr.cond_f rfl ?_ | refine Tr.cond_d rfl (fun _ => ?_) (fun _ => ?_) | refine Tr.skip ?_ | refine Tr.ret ?_ | refine sq_r ?_ | refine Tr.exit ?_ | refine sq_x ?_ | refine Tr.block ?_ | refine blk_n ?_ | refine blk_r ?_ | refine blk_hit rfl ?_ | refine blk_pass rfl ?_ | refine Tr.label ?_ | refine Tr.scope ?_ | refine scp_n ?_ | refine scp_r ?_ | refine scp_x ?_ | refine lp_r ?_ | refine lp_x ?_ | (refine RT.goK rfl rfl rfl rfl ?_; apply Nx.of; (first | exact S.move | exact S.assign | exact S.load1c rfl rfl rfl rfl | exact S.loadNc rfl rfl rfl rfl | exact S.fieldAddr rfl rfl rfl | exact S.leq | exact S.lss | exact S.eql | exact S.neq | exact S.geq | exact S.gtr | exact S.not_t | exact S.not_f | exact S.not_d | exact S.pick_tt | exact S.pick_ff | exact S.pick_td (by assumption) | exact S.pick_fd (by assumption) | exact S.pick_b | exact S.box | exact S.alloc rfl | exact S.add_one (by omega) | exact S.sub_one (by omega) (by omega) | exact S.add (by unfold In64; omega) | exact S.sub (by unfold In64; omega) | exact S.mul (by unfold In64; omega) | exact S.add_w | exact S.sub_w | exact S.mul_w | exact S.min2 | exact S.max2 | exact S.build rfl rfl rfl | exact S.buildA rfl rfl rfl rfl | exact S.nilCheck | exact S.extract rfl | exact S.makeFunc | exact S.nilCheck_fn)) | (refine RT.goK0 rfl rfl rfl ?_; apply Nx.of; (first | exact S.store rfl rfl rfl rfl rfl rfl | exact S.makeFunc | exact S.nilCheck_fn)))
  (first | refine rt_go rfl ?_ | refine rt_go (by exact rfl) ?_)
  rfl
set_option maxRecDepth 100000 in
set_option maxHeartbeats 4000000 in
theorem Owes_can (B : CBook) (a1 a2 : AV) (h1 : IsSl a1 B.ns 0) (h2 : IsSl a2 B.nc 1) (hn : B.ns ≤ 9223372036854775807) : CanS 0 Try.prog 29 2 [bk B a1 a2] [(0, some (oSt B)), (1, some (oCk B))] 2 fun v _ _ => v = ansV B True (owV B) := by
  refine CanS.mk Try.func29 rfl rfl rfl ?_
  repeat' (first | refine RT.nil ?_ | refine sq_n ?_ | refine Tr.seq ?_ | refine Tr.region ?_ | refine Tr.cond_t rfl ?_ | refine Tr.cond_f rfl ?_ | refine Tr.cond_d rfl (fun _ => ?_) (fun _ => ?_) | refine Tr.skip ?_ | refine Tr.ret ?_ | refine sq_r ?_ | refine Tr.exit ?_ | refine sq_x ?_ | refine Tr.block ?_ | refine blk_n ?_ | refine blk_r ?_ | refine blk_hit rfl ?_ | refine blk_pass rfl ?_ | refine Tr.label ?_ | refine Tr.scope ?_ | refine scp_n ?_ | refine scp_r ?_ | refine scp_x ?_ | refine lp_r ?_ | refine lp_x ?_ | (refine RT.call rfl rfl rfl (answer0_at ⟨h1, h2, rfl, rfl, by decide⟩ hn _ (owV B) (fun hB xs => owes_num B a1 a2 hB.1 hB.2.1 hB.2.2.2 xs) _) rfl rfl (Nat.le_refl _) ?_) | (refine RT.goK rfl rfl rfl rfl ?_; apply Nx.of; (first | exact S.move | exact S.assign | exact S.load1c rfl rfl rfl rfl | exact S.loadNc rfl rfl rfl rfl | exact S.fieldAddr rfl rfl rfl | exact S.leq | exact S.lss | exact S.eql | exact S.neq | exact S.geq | exact S.gtr | exact S.not_t | exact S.not_f | exact S.not_d | exact S.pick_tt | exact S.pick_ff | exact S.pick_td (by assumption) | exact S.pick_fd (by assumption) | exact S.pick_b | exact S.box | exact S.alloc rfl | exact S.add_one (by omega) | exact S.sub_one (by omega) (by omega) | exact S.add (by unfold In64; omega) | exact S.sub (by unfold In64; omega) | exact S.mul (by unfold In64; omega) | exact S.add_w | exact S.sub_w | exact S.mul_w | exact S.min2 | exact S.max2 | exact S.build rfl rfl rfl | exact S.buildA rfl rfl rfl rfl | exact S.nilCheck | exact S.extract rfl | exact S.makeFunc | exact S.nilCheck_fn)) | (refine RT.goK0 rfl rfl rfl ?_; apply Nx.of; (first | exact S.store rfl rfl rfl rfl rfl rfl | exact S.makeFunc | exact S.nilCheck_fn)))
  (first | refine rt_go rfl ?_ | refine rt_go (by exact rfl) ?_)
  rfl

end Go.Proofs.Ytcoklgmdifggbaa

/- Loads and stores near the top of a memory whose names are not literal. -/
namespace Go.Ev
open Go
section
variable {P : Program} {fl c t x off : Nat} {m : List (Nat × Option AObj)} {y : Ty} {cs cs' vs : List AV} {v : AV} {a b : Operand}
theorem S.l1_0 [Tab P] (ht : ty P t = some y) (hg : y.agg = false) (hv : cs[off]? = some v) : OpE P fl (.load t a) [.ptr x off] ((x, some (.cells cs)) :: m) c v ((x, some (.cells cs)) :: m) c := S.load1c ht hg lookM_hd hv
theorem S.lN_0 [Tab P] (ht : ty P t = some y) (hg : y.agg = true) (hv : cut cs off y.size = some vs) : OpE P fl (.load t a) [.ptr x off] ((x, some (.cells cs)) :: m) c (.agg vs) ((x, some (.cells cs)) :: m) c := S.loadNc ht hg lookM_hd hv
theorem S.st_0 [Tab P] (ht : ty P t = some y) (h1 : (v.cells.all AV.one) = true) (hl : Nat.beq v.cells.length y.size = true) (hs : splice cs off v.cells = some cs') (hf : fl ≤ x) : OpE P fl (.store t a b) [.ptr x off, v] ((x, some (.cells cs)) :: m) c undefA ((x, some (.cells cs')) :: (x, some (.cells cs)) :: m) c := S.store ht (Nat.ble_eq_true_of_le hf) h1 hl lookM_hd hs
theorem S.lN_1 [Tab P] {d0 : Nat} {o0 : Option AObj} (ht : ty P t = some y) (hg : y.agg = true) (hv : cut cs off y.size = some vs) (n0 : x ≠ d0) : OpE P fl (.load t a) [.ptr x off] ((d0, o0) :: (x, some (.cells cs)) :: m) c (.agg vs) ((d0, o0) :: (x, some (.cells cs)) :: m) c := S.loadNc ht hg ((lookM_tl n0).trans lookM_hd) hv
theorem S.lN_2 [Tab P] {d0 d1 : Nat} {o0 o1 : Option AObj} (ht : ty P t = some y) (hg : y.agg = true) (hv : cut cs off y.size = some vs) (n0 : x ≠ d0) (n1 : x ≠ d1) : OpE P fl (.load t a) [.ptr x off] ((d0, o0) :: (d1, o1) :: (x, some (.cells cs)) :: m) c (.agg vs) ((d0, o0) :: (d1, o1) :: (x, some (.cells cs)) :: m) c := S.loadNc ht hg ((lookM_tl n0).trans ((lookM_tl n1).trans lookM_hd)) hv
theorem S.lN_4 [Tab P] {d0 d1 d2 d3 : Nat} {o0 o1 o2 o3 : Option AObj} (ht : ty P t = some y) (hg : y.agg = true) (hv : cut cs off y.size = some vs) (n0 : x ≠ d0) (n1 : x ≠ d1) (n2 : x ≠ d2) (n3 : x ≠ d3) : OpE P fl (.load t a) [.ptr x off] ((d0, o0) :: (d1, o1) :: (d2, o2) :: (d3, o3) :: (x, some (.cells cs)) :: m) c (.agg vs) ((d0, o0) :: (d1, o1) :: (d2, o2) :: (d3, o3) :: (x, some (.cells cs)) :: m) c := S.loadNc ht hg ((lookM_tl n0).trans ((lookM_tl n1).trans ((lookM_tl n2).trans ((lookM_tl n3).trans lookM_hd)))) hv
theorem S.lN_6 [Tab P] {d0 d1 d2 d3 d4 d5 : Nat} {o0 o1 o2 o3 o4 o5 : Option AObj} (ht : ty P t = some y) (hg : y.agg = true) (hv : cut cs off y.size = some vs) (n0 : x ≠ d0) (n1 : x ≠ d1) (n2 : x ≠ d2) (n3 : x ≠ d3) (n4 : x ≠ d4) (n5 : x ≠ d5) : OpE P fl (.load t a) [.ptr x off] ((d0, o0) :: (d1, o1) :: (d2, o2) :: (d3, o3) :: (d4, o4) :: (d5, o5) :: (x, some (.cells cs)) :: m) c (.agg vs) ((d0, o0) :: (d1, o1) :: (d2, o2) :: (d3, o3) :: (d4, o4) :: (d5, o5) :: (x, some (.cells cs)) :: m) c := S.loadNc ht hg ((lookM_tl n0).trans ((lookM_tl n1).trans ((lookM_tl n2).trans ((lookM_tl n3).trans ((lookM_tl n4).trans ((lookM_tl n5).trans lookM_hd)))))) hv
/-- A field of a struct that is at hand: a single cell; several. -/
theorem S.field1 [Tab P] {x1 : Operand} {f fo fs ft : Nat} {z : Ty} (ht : ty P t = some y) (hk : y.kind = 3) (hp : y.places[f]? = some (fo, fs)) (hf : y.ftys[f]? = some ft) (hz : ty P ft = some z) (hg : z.agg = false) (hv : cs[fo]? = some v) : OpE P fl (.field t x1 f) [.agg cs] m c v m c := by
  obtain ⟨fields, h1, h2, h3⟩ := ty_struct ht hk
  obtain ⟨fd, h4, h5⟩ := mapM_get h2 f _ hp
  simp only [Option.map_eq_some_iff, Prod.mk.injEq] at h5
  obtain ⟨i, h6, h7, h8⟩ := h5
  have h9 : fields[f]? = some fd := by simpa using h4
  have h10 : fd.type = ft := by
    rw [← h3, List.getElem?_map, h4] at hf
    simpa using hf
  refine ⟨rfl, Nat.le_refl _, ?_⟩
  have h11 : aggB P fd.type = some false := by rw [h10, ty_agg hz, hg]
  simp only [opA, oField, fieldA, h1, h9, partA, h11, h7, hv, opt1, Option.map_some]
end
end Go.Ev

/- Package claim: in which truths something is so. -/
namespace Go.Proofs.Ytcoklgmdifggbaa
open Go Go.Ev

/-- A function's call that tells whether something is so in a truth, in all memory that holds another one's. -/
def PrOK (B : CBook) (g : Nat) (first cap : List AV) (m : List (Nat × Option AObj)) (c : Nat) (pr : Tru → Prop) : Prop := ∀ t ∈ Ws B, ∀ m' c', Sub m c m' c' → ∀ fl, OkAt 0 Try.prog fl g (first ++ [trV t] ++ cap) (ofM m') c' (.bool (dB (pr t))) (ofM m') c'
theorem PrOK.sub {B : CBook} {g : Nat} {first cap : List AV} {m m2 : List (Nat × Option AObj)} {c c2 : Nat} {pr : Tru → Prop} (h : PrOK B g first cap m c pr) (k : Sub m c m2 c2) : PrOK B g first cap m2 c2 pr := fun t ht m' c' hs fl => h t ht m' c' (k.trans hs) fl

section
variable {B : CBook} {g x : Nat} {first cap : List AV} {m : List (Nat × Option AObj)} {c : Nat} {pr : Tru → Prop}

set_option maxRecDepth 100000 in
set_option maxHeartbeats 4000000 in
theorem index_at (hx : lookM m x = some (oWs B)) (hlen : (Ws B).length ≤ 5184) (hp : PrOK B g first cap m c pr) (fl : Nat) : OkAt 0 Try.prog fl 133 [.gs x (wths B 0).length, .fn g first cap] (ofM m) c (.int .i64 (ixV pr (Ws B))) (ofM m) c := by
  refine CanS.here (CanS.mk Try.func133 rfl rfl rfl ?_) (.int _ _) fl
  have hs := IsSl.gs x (wths B 0).length
  repeat' (first | refine RT.nil ?_ | refine sq_n ?_ | refine Tr.seq ?_ | refine Tr.region ?_ | refine Tr.cond_t rfl ?_ | refine Tr.cond_f rfl ?_ | refine Tr.cond_d rfl (fun _ => ?_) (fun _ => ?_) | refine Tr.skip ?_ | refine Tr.ret ?_ | refine sq_r ?_ | refine Tr.exit ?_ | refine sq_x ?_ | refine Tr.block ?_ | refine blk_n ?_ | refine blk_r ?_ | refine blk_hit rfl ?_ | refine blk_pass rfl ?_ | refine Tr.label ?_ | refine Tr.scope ?_ | refine scp_n ?_ | refine scp_r ?_ | refine scp_x ?_ | refine lp_r ?_ | refine lp_x ?_ | (refine RT.goK rfl rfl rfl rfl ?_; apply Nx.of; (first | exact S.move | exact S.assign | exact S.load1c rfl rfl rfl rfl | exact S.loadNc rfl rfl rfl rfl | exact S.fieldAddr rfl rfl rfl | exact S.leq | exact S.lss | exact S.eql | exact S.neq | exact S.geq | exact S.gtr | exact S.not_t | exact S.not_f | exact S.not_d | exact S.pick_tt | exact S.pick_ff | exact S.pick_td (by assumption) | exact S.pick_fd (by assumption) | exact S.pick_b | exact S.box | exact S.alloc rfl | exact S.add_one (by omega) | exact S.sub_one (by omega) (by omega) | exact S.add (by unfold In64; omega) | exact S.sub (by unfold In64; omega) | exact S.mul (by unfold In64; omega) | exact S.add_w | exact S.sub_w | exact S.mul_w | exact S.min2 | exact S.max2 | exact S.build rfl rfl rfl | exact S.buildA rfl rfl rfl rfl | exact S.nilCheck | exact S.extract rfl | exact S.makeFunc | exact S.nilCheck_fn)) | (refine RT.goK0 rfl rfl rfl ?_; apply Nx.of; (first | exact S.store rfl rfl rfl rfl rfl rfl | exact S.makeFunc | exact S.nilCheck_fn)) | (refine RT.goK rfl rfl rfl rfl ?_; apply Nx.of; (first | exact S.idx_sl rfl rfl rfl (by assumption) (by omega) | exact S.idx_slI rfl rfl rfl (by assumption) (by omega) (by omega) | exact S.rowN0 rfl rfl rfl (fun _ => rfl) (range_at (by omega)) rfl | exact S.rowN rfl rfl rfl (fun _ => rfl) (range_at (by omega)) rfl | exact S.row0 rfl rfl rfl (fun _ => rfl) (range_at (by omega)) rfl | exact S.row rfl rfl rfl (fun _ => rfl) (range_at (by omega)) rfl | exact S.row2 rfl rfl rfl (fun _ => rfl) (range_at (by omega)) rfl | exact S.len_sl rfl rfl rfl (by assumption))))
  refine Tr.loop (fun k : Nat => stL Try.f133.ntmps [] [(0, .gs x (wths B 0).length), (1, .fn g first cap), (7, .int .i64 (wths B 0).length), (8, .int .i64 k)] m c) (fun k => k ≤ (Ws B).length ∧ ∀ i u, i < k → (Ws B)[i]? = some u → ¬ pr u) (fun k => (Ws B).length - k) 0 ⟨Nat.zero_le _, fun i u hi => by omega⟩ (Wk.temps (Nat.le_refl _) (Nat.zero_le _) (Nat.le_refl _) ⟨rfl, rfl, rfl, rfl, trivial⟩) (fun k hk => ?_)
  obtain ⟨hk, hno⟩ := hk
  by_cases hlt : k < (Ws B).length
  · obtain ⟨tk, htk, hmk⟩ := at_some hlt
    have hlt' : (k : Int) < (wths B 0).length := by have := hlt; have hw : (Ws B).length = (wths B 0).length := rfl; omega
    repeat' (first | refine RT.nil ?_ | refine sq_n ?_ | refine Tr.seq ?_ | refine Tr.region ?_ | refine Tr.cond_t rfl ?_ | refine Tr.cond_f rfl ?_ | refine Tr.cond_d rfl (fun _ => ?_) (fun _ => ?_) | refine Tr.skip ?_ | refine Tr.ret ?_ | refine sq_r ?_ | refine Tr.exit ?_ | refine sq_x ?_ | refine Tr.block ?_ | refine blk_n ?_ | refine blk_r ?_ | refine blk_hit rfl ?_ | refine blk_pass rfl ?_ | refine Tr.label ?_ | refine Tr.scope ?_ | refine scp_n ?_ | refine scp_r ?_ | refine scp_x ?_ | refine lp_r ?_ | refine lp_x ?_ | (refine RT.goK rfl rfl rfl rfl ?_; (refine Nx.of (S.lss_t hlt') ?_)) | (refine RT.call rfl rfl rfl (hp tk hmk _ _ .refl _) rfl rfl (Nat.le_refl _) ?_) | (refine RT.goK rfl rfl rfl rfl ?_; refine Nx.of (S.rowG rfl rfl hx (fun _ => rfl) htk rfl rfl) ?_) | (refine RT.goK rfl rfl rfl rfl ?_; apply Nx.of; (first | exact S.move | exact S.assign | exact S.load1c rfl rfl rfl rfl | exact S.loadNc rfl rfl rfl rfl | exact S.fieldAddr rfl rfl rfl | exact S.leq | exact S.lss | exact S.eql | exact S.neq | exact S.geq | exact S.gtr | exact S.not_t | exact S.not_f | exact S.not_d | exact S.pick_tt | exact S.pick_ff | exact S.pick_td (by assumption) | exact S.pick_fd (by assumption) | exact S.pick_b | exact S.box | exact S.alloc rfl | exact S.add_one (by omega) | exact S.sub_one (by omega) (by omega) | exact S.add (by unfold In64; omega) | exact S.sub (by unfold In64; omega) | exact S.mul (by unfold In64; omega) | exact S.add_w | exact S.sub_w | exact S.mul_w | exact S.min2 | exact S.max2 | exact S.build rfl rfl rfl | exact S.buildA rfl rfl rfl rfl | exact S.nilCheck | exact S.extract rfl | exact S.makeFunc | exact S.nilCheck_fn)) | (refine RT.goK0 rfl rfl rfl ?_; apply Nx.of; (first | exact S.store rfl rfl rfl rfl rfl rfl | exact S.makeFunc | exact S.nilCheck_fn)) | (refine RT.goK rfl rfl rfl rfl ?_; apply Nx.of; (first | exact S.idx_sl rfl rfl rfl (by assumption) (by omega) | exact S.idx_slI rfl rfl rfl (by assumption) (by omega) (by omega) | exact S.rowN0 rfl rfl rfl (fun _ => rfl) (range_at (by omega)) rfl | exact S.rowN rfl rfl rfl (fun _ => rfl) (range_at (by omega)) rfl | exact S.row0 rfl rfl rfl (fun _ => rfl) (range_at (by omega)) rfl | exact S.row rfl rfl rfl (fun _ => rfl) (range_at (by omega)) rfl | exact S.row2 rfl rfl rfl (fun _ => rfl) (range_at (by omega)) rfl | exact S.len_sl rfl rfl rfl (by assumption))))
    · (first | refine rt_go rfl ?_ | refine rt_go (by exact rfl) ?_)
      exact congrArg (AV.int .i64) (ixV_at hno htk (by assumption)).symm
    · refine lp_n (k + 1) ⟨hlt, fun i u hi hu => ?_⟩ (by omega) (Wk.temps (Nat.le_refl _) (Nat.zero_le _) (Nat.le_refl _) ⟨rfl, rfl, rfl, rfl, trivial⟩)
      rcases Nat.lt_succ_iff_lt_or_eq.1 hi with h | rfl
      · exact hno i u h hu
      · rw [htk] at hu; cases hu; assumption
  · have hlt' : ¬ (k : Int) < (wths B 0).length := by have := hlt; have hw : (Ws B).length = (wths B 0).length := rfl; omega
    repeat' (first | refine RT.nil ?_ | refine sq_n ?_ | refine Tr.seq ?_ | refine Tr.region ?_ | refine Tr.cond_t rfl ?_ | refine Tr.cond_f rfl ?_ | refine Tr.cond_d rfl (fun _ => ?_) (fun _ => ?_) | refine Tr.skip ?_ | refine Tr.ret ?_ | refine sq_r ?_ | refine Tr.exit ?_ | refine sq_x ?_ | refine Tr.block ?_ | refine blk_n ?_ | refine blk_r ?_ | refine blk_hit rfl ?_ | refine blk_pass rfl ?_ | refine Tr.label ?_ | refine Tr.scope ?_ | refine scp_n ?_ | refine scp_r ?_ | refine scp_x ?_ | refine lp_r ?_ | refine lp_x ?_ | (refine RT.goK rfl rfl rfl rfl ?_; (refine Nx.of (S.lss_f hlt') ?_)) | (refine RT.goK rfl rfl rfl rfl ?_; apply Nx.of; (first | exact S.move | exact S.assign | exact S.load1c rfl rfl rfl rfl | exact S.loadNc rfl rfl rfl rfl | exact S.fieldAddr rfl rfl rfl | exact S.leq | exact S.lss | exact S.eql | exact S.neq | exact S.geq | exact S.gtr | exact S.not_t | exact S.not_f | exact S.not_d | exact S.pick_tt | exact S.pick_ff | exact S.pick_td (by assumption) | exact S.pick_fd (by assumption) | exact S.pick_b | exact S.box | exact S.alloc rfl | exact S.add_one (by omega) | exact S.sub_one (by omega) (by omega) | exact S.add (by unfold In64; omega) | exact S.sub (by unfold In64; omega) | exact S.mul (by unfold In64; omega) | exact S.add_w | exact S.sub_w | exact S.mul_w | exact S.min2 | exact S.max2 | exact S.build rfl rfl rfl | exact S.buildA rfl rfl rfl rfl | exact S.nilCheck | exact S.extract rfl | exact S.makeFunc | exact S.nilCheck_fn)) | (refine RT.goK0 rfl rfl rfl ?_; apply Nx.of; (first | exact S.store rfl rfl rfl rfl rfl rfl | exact S.makeFunc | exact S.nilCheck_fn)))
    (first | refine rt_go rfl ?_ | refine rt_go (by exact rfl) ?_)
    exact congrArg (AV.int .i64) (ixV_none fun i u hi hu => hno i u (by omega) hu).symm

set_option maxRecDepth 100000 in
set_option maxHeartbeats 4000000 in
theorem contains_at (hx : lookM m x = some (oWs B)) (hlen : (Ws B).length ≤ 5184) (hp : PrOK B g first cap m c pr) (fl : Nat) : OkAt 0 Try.prog fl 131 [.gs x (wths B 0).length, .fn g first cap] (ofM m) c (.bool (dB (∃ t ∈ Ws B, pr t))) (ofM m) c := by
  refine CanS.here (CanS.mk Try.func131 rfl rfl rfl ?_) (.bool _) fl
  repeat' (first | refine RT.nil ?_ | refine sq_n ?_ | refine Tr.seq ?_ | refine Tr.region ?_ | refine Tr.cond_t rfl ?_ | refine Tr.cond_f rfl ?_ | refine Tr.cond_d rfl (fun _ => ?_) (fun _ => ?_) | refine Tr.skip ?_ | refine Tr.ret ?_ | refine sq_r ?_ | refine Tr.exit ?_ | refine sq_x ?_ | refine Tr.block ?_ | refine blk_n ?_ | refine blk_r ?_ | refine blk_hit rfl ?_ | refine blk_pass rfl ?_ | refine Tr.label ?_ | refine Tr.scope ?_ | refine scp_n ?_ | refine scp_r ?_ | refine scp_x ?_ | refine lp_r ?_ | refine lp_x ?_ | (refine RT.call rfl rfl rfl (index_at hx hlen hp _) rfl rfl (Nat.le_refl _) ?_) | (refine RT.goK rfl rfl rfl rfl ?_; apply Nx.of; (first | exact S.move | exact S.assign | exact S.load1c rfl rfl rfl rfl | exact S.loadNc rfl rfl rfl rfl | exact S.fieldAddr rfl rfl rfl | exact S.leq | exact S.lss | exact S.eql | exact S.neq | exact S.geq | exact S.gtr | exact S.not_t | exact S.not_f | exact S.not_d | exact S.pick_tt | exact S.pick_ff | exact S.pick_td (by assumption) | exact S.pick_fd (by assumption) | exact S.pick_b | exact S.box | exact S.alloc rfl | exact S.add_one (by omega) | exact S.sub_one (by omega) (by omega) | exact S.add (by unfold In64; omega) | exact S.sub (by unfold In64; omega) | exact S.mul (by unfold In64; omega) | exact S.add_w | exact S.sub_w | exact S.mul_w | exact S.min2 | exact S.max2 | exact S.build rfl rfl rfl | exact S.buildA rfl rfl rfl rfl | exact S.nilCheck | exact S.extract rfl | exact S.makeFunc | exact S.nilCheck_fn)) | (refine RT.goK0 rfl rfl rfl ?_; apply Nx.of; (first | exact S.store rfl rfl rfl rfl rfl rfl | exact S.makeFunc | exact S.nilCheck_fn)))
  (first | refine rt_go rfl ?_ | refine rt_go (by exact rfl) ?_)
  exact dB_iff ixV_nn

set_option maxRecDepth 100000 in
set_option maxHeartbeats 4000000 in
theorem some_at {p : Nat} (hx : lookM m x = some (oWs B)) (hxc : x < c) (hlen : (Ws B).length ≤ 5184) (hp : PrOK B g first cap m c pr) (fl : Nat) : OkAt 0 Try.prog fl 123 [.agg [.ptr p 0, .gs x (wths B 0).length], .fn g first cap] (ofM m) c (.bool (dB (∃ t ∈ Ws B, pr t))) (ofM m) c := by
  refine CanS.here (CanS.mk Try.func123 rfl rfl rfl ?_) (.bool _) fl
  repeat' (first | refine RT.nil ?_ | refine sq_n ?_ | refine Tr.seq ?_ | refine Tr.region ?_ | refine Tr.cond_t rfl ?_ | refine Tr.cond_f rfl ?_ | refine Tr.cond_d rfl (fun _ => ?_) (fun _ => ?_) | refine Tr.skip ?_ | refine Tr.ret ?_ | refine sq_r ?_ | refine Tr.exit ?_ | refine sq_x ?_ | refine Tr.block ?_ | refine blk_n ?_ | refine blk_r ?_ | refine blk_hit rfl ?_ | refine blk_pass rfl ?_ | refine Tr.label ?_ | refine Tr.scope ?_ | refine scp_n ?_ | refine scp_r ?_ | refine scp_x ?_ | refine lp_r ?_ | refine lp_x ?_ | (refine RT.goK rfl rfl rfl rfl ?_; apply Nx.of; (first | exact S.l1_0 rfl rfl rfl | exact S.lN_0 rfl rfl rfl | exact S.l1_1 rfl rfl rfl (by omega) | exact S.lN_1 rfl rfl rfl (by omega) | exact S.l1_2 rfl rfl rfl (by omega) (by omega) | exact S.lN_2 rfl rfl rfl (by omega) (by omega) | exact S.l1_3 rfl rfl rfl (by omega) (by omega) (by omega) | exact S.lN_3 rfl rfl rfl (by omega) (by omega) (by omega) | exact S.l1_4 rfl rfl rfl (by omega) (by omega) (by omega) (by omega) | exact S.lN_4 rfl rfl rfl (by omega) (by omega) (by omega) (by omega) | exact S.l1_5 rfl rfl rfl (by omega) (by omega) (by omega) (by omega) (by omega) | exact S.lN_5 rfl rfl rfl (by omega) (by omega) (by omega) (by omega) (by omega) | exact S.l1_6 rfl rfl rfl (by omega) (by omega) (by omega) (by omega) (by omega) (by omega) | exact S.lN_6 rfl rfl rfl (by omega) (by omega) (by omega) (by omega) (by omega) (by omega))) | (refine RT.goK0 rfl rfl rfl ?_; apply Nx.of; (first | exact S.st_0 rfl rfl rfl rfl (by omega) | exact S.st_1 rfl rfl rfl rfl (by omega) (by omega) | exact S.st_2 rfl rfl rfl rfl (by omega) (by omega) (by omega) | exact S.st_3 rfl rfl rfl rfl (by omega) (by omega) (by omega) (by omega) | exact S.st_4 rfl rfl rfl rfl (by omega) (by omega) (by omega) (by omega) (by omega) | exact S.st_5 rfl rfl rfl rfl (by omega) (by omega) (by omega) (by omega) (by omega) (by omega) | exact S.st_6 rfl rfl rfl rfl (by omega) (by omega) (by omega) (by omega) (by omega) (by omega) (by omega))) | (refine RT.call rfl rfl rfl (contains_at ((lookM_tl (by omega)).trans hx) hlen (hp.sub (Sub.refl.cons (Nat.le_refl _) (by omega))) _) rfl rfl (Nat.le_refl _) ?_) | (refine RT.goK rfl rfl rfl rfl ?_; apply Nx.of; (first | exact S.move | exact S.assign | exact S.load1c rfl rfl rfl rfl | exact S.loadNc rfl rfl rfl rfl | exact S.fieldAddr rfl rfl rfl | exact S.leq | exact S.lss | exact S.eql | exact S.neq | exact S.geq | exact S.gtr | exact S.not_t | exact S.not_f | exact S.not_d | exact S.pick_tt | exact S.pick_ff | exact S.pick_td (by assumption) | exact S.pick_fd (by assumption) | exact S.pick_b | exact S.box | exact S.alloc rfl | exact S.add_one (by omega) | exact S.sub_one (by omega) (by omega) | exact S.add (by unfold In64; omega) | exact S.sub (by unfold In64; omega) | exact S.mul (by unfold In64; omega) | exact S.add_w | exact S.sub_w | exact S.mul_w | exact S.min2 | exact S.max2 | exact S.build rfl rfl rfl | exact S.buildA rfl rfl rfl rfl | exact S.nilCheck | exact S.extract rfl | exact S.makeFunc | exact S.nilCheck_fn)) | (refine RT.goK0 rfl rfl rfl ?_; apply Nx.of; (first | exact S.store rfl rfl rfl rfl rfl rfl | exact S.makeFunc | exact S.nilCheck_fn)))
  (first | refine rt_go rfl ?_ | refine rt_go (by exact rfl) ?_)
  rfl
set_option maxRecDepth 100000 in
set_option maxHeartbeats 4000000 in
theorem none_at {p : Nat} (hx : lookM m x = some (oWs B)) (hxc : x < c) (hlen : (Ws B).length ≤ 5184) (hp : PrOK B g first cap m c pr) (fl : Nat) : OkAt 0 Try.prog fl 124 [.agg [.ptr p 0, .gs x (wths B 0).length], .fn g first cap] (ofM m) c (.bool (dB (¬ ∃ t ∈ Ws B, pr t))) (ofM m) c := by
  refine CanS.here (CanS.mk Try.func124 rfl rfl rfl ?_) (.bool _) fl
  repeat' (first | refine RT.nil ?_ | refine sq_n ?_ | refine Tr.seq ?_ | refine Tr.region ?_ | refine Tr.cond_t rfl ?_ | refine Tr.cond_f rfl ?_ | refine Tr.cond_d rfl (fun _ => ?_) (fun _ => ?_) | refine Tr.skip ?_ | refine Tr.ret ?_ | refine sq_r ?_ | refine Tr.exit ?_ | refine sq_x ?_ | refine Tr.block ?_ | refine blk_n ?_ | refine blk_r ?_ | refine blk_hit rfl ?_ | refine blk_pass rfl ?_ | refine Tr.label ?_ | refine Tr.scope ?_ | refine scp_n ?_ | refine scp_r ?_ | refine scp_x ?_ | refine lp_r ?_ | refine lp_x ?_ | (refine RT.goK rfl rfl rfl rfl ?_; apply Nx.of; (first | exact S.l1_0 rfl rfl rfl | exact S.lN_0 rfl rfl rfl | exact S.l1_1 rfl rfl rfl (by omega) | exact S.lN_1 rfl rfl rfl (by omega) | exact S.l1_2 rfl rfl rfl (by omega) (by omega) | exact S.lN_2 rfl rfl rfl (by omega) (by omega) | exact S.l1_3 rfl rfl rfl (by omega) (by omega) (by omega) | exact S.lN_3 rfl rfl rfl (by omega) (by omega) (by omega) | exact S.l1_4 rfl rfl rfl (by omega) (by omega) (by omega) (by omega) | exact S.lN_4 rfl rfl rfl (by omega) (by omega) (by omega) (by omega) | exact S.l1_5 rfl rfl rfl (by omega) (by omega) (by omega) (by omega) (by omega) | exact S.lN_5 rfl rfl rfl (by omega) (by omega) (by omega) (by omega) (by omega) | exact S.l1_6 rfl rfl rfl (by omega) (by omega) (by omega) (by omega) (by omega) (by omega) | exact S.lN_6 rfl rfl rfl (by omega) (by omega) (by omega) (by omega) (by omega) (by omega))) | (refine RT.goK0 rfl rfl rfl ?_; apply Nx.of; (first | exact S.st_0 rfl rfl rfl rfl (by omega) | exact S.st_1 rfl rfl rfl rfl (by omega) (by omega) | exact S.st_2 rfl rfl rfl rfl (by omega) (by omega) (by omega) | exact S.st_3 rfl rfl rfl rfl (by omega) (by omega) (by omega) (by omega) | exact S.st_4 rfl rfl rfl rfl (by omega) (by omega) (by omega) (by omega) (by omega) | exact S.st_5 rfl rfl rfl rfl (by omega) (by omega) (by omega) (by omega) (by omega) (by omega) | exact S.st_6 rfl rfl rfl rfl (by omega) (by omega) (by omega) (by omega) (by omega) (by omega) (by omega))) | (refine RT.call rfl rfl rfl (some_at ((lookM_tl (by omega)).trans hx) (by omega) hlen (hp.sub (Sub.refl.cons (Nat.le_refl _) (by omega))) _) rfl rfl (Nat.le_refl _) ?_) | (refine RT.goK rfl rfl rfl rfl ?_; apply Nx.of; (first | exact S.move | exact S.assign | exact S.load1c rfl rfl rfl rfl | exact S.loadNc rfl rfl rfl rfl | exact S.fieldAddr rfl rfl rfl | exact S.leq | exact S.lss | exact S.eql | exact S.neq | exact S.geq | exact S.gtr | exact S.not_t | exact S.not_f | exact S.not_d | exact S.pick_tt | exact S.pick_ff | exact S.pick_td (by assumption) | exact S.pick_fd (by assumption) | exact S.pick_b | exact S.box | exact S.alloc rfl | exact S.add_one (by omega) | exact S.sub_one (by omega) (by omega) | exact S.add (by unfold In64; omega) | exact S.sub (by unfold In64; omega) | exact S.mul (by unfold In64; omega) | exact S.add_w | exact S.sub_w | exact S.mul_w | exact S.min2 | exact S.max2 | exact S.build rfl rfl rfl | exact S.buildA rfl rfl rfl rfl | exact S.nilCheck | exact S.extract rfl | exact S.makeFunc | exact S.nilCheck_fn)) | (refine RT.goK0 rfl rfl rfl ?_; apply Nx.of; (first | exact S.store rfl rfl rfl rfl rfl rfl | exact S.makeFunc | exact S.nilCheck_fn)))
  (first | refine rt_go rfl ?_ | refine rt_go (by exact rfl) ?_)
  first | exact dB_iff Iff.rfl | (simp [dB, retV])
set_option maxRecDepth 100000 in
set_option maxHeartbeats 4000000 in
theorem each1_ok {y : Nat} (hy : lookM m y = some (.cells [.fn g first cap])) (hyc : y < c) (hp : PrOK B g first cap m c pr) : PrOK B 130 [] [.ptr y 0] m c (fun t => ¬ pr t) := fun t ht m' c' hs fl => by
  have hy' : lookM m' y = some (.cells [.fn g first cap]) := (hs.eq y hyc).trans hy
  have hle := hs.le
  refine CanS.here (CanS.mk Try.func130 rfl rfl rfl ?_) (.bool _) fl
  repeat' (first | refine RT.nil ?_ | refine sq_n ?_ | refine Tr.seq ?_ | refine Tr.region ?_ | refine Tr.cond_t rfl ?_ | refine Tr.cond_f rfl ?_ | refine Tr.cond_d rfl (fun _ => ?_) (fun _ => ?_) | refine Tr.skip ?_ | refine Tr.ret ?_ | refine sq_r ?_ | refine Tr.exit ?_ | refine sq_x ?_ | refine Tr.block ?_ | refine blk_n ?_ | refine blk_r ?_ | refine blk_hit rfl ?_ | refine blk_pass rfl ?_ | refine Tr.label ?_ | refine Tr.scope ?_ | refine scp_n ?_ | refine scp_r ?_ | refine scp_x ?_ | refine lp_r ?_ | refine lp_x ?_ | (refine RT.goK rfl rfl rfl rfl ?_; apply Nx.of; (first | exact S.l1_0 rfl rfl rfl | exact S.lN_0 rfl rfl rfl | exact S.l1_1 rfl rfl rfl (by omega) | exact S.lN_1 rfl rfl rfl (by omega) | exact S.l1_2 rfl rfl rfl (by omega) (by omega) | exact S.lN_2 rfl rfl rfl (by omega) (by omega) | exact S.l1_3 rfl rfl rfl (by omega) (by omega) (by omega) | exact S.lN_3 rfl rfl rfl (by omega) (by omega) (by omega) | exact S.l1_4 rfl rfl rfl (by omega) (by omega) (by omega) (by omega) | exact S.lN_4 rfl rfl rfl (by omega) (by omega) (by omega) (by omega) | exact S.l1_5 rfl rfl rfl (by omega) (by omega) (by omega) (by omega) (by omega) | exact S.lN_5 rfl rfl rfl (by omega) (by omega) (by omega) (by omega) (by omega) | exact S.l1_6 rfl rfl rfl (by omega) (by omega) (by omega) (by omega) (by omega) (by omega) | exact S.lN_6 rfl rfl rfl (by omega) (by omega) (by omega) (by omega) (by omega) (by omega))) | (refine RT.goK0 rfl rfl rfl ?_; apply Nx.of; (first | exact S.st_0 rfl rfl rfl rfl (by omega) | exact S.st_1 rfl rfl rfl rfl (by omega) (by omega) | exact S.st_2 rfl rfl rfl rfl (by omega) (by omega) (by omega) | exact S.st_3 rfl rfl rfl rfl (by omega) (by omega) (by omega) (by omega) | exact S.st_4 rfl rfl rfl rfl (by omega) (by omega) (by omega) (by omega) (by omega) | exact S.st_5 rfl rfl rfl rfl (by omega) (by omega) (by omega) (by omega) (by omega) (by omega) | exact S.st_6 rfl rfl rfl rfl (by omega) (by omega) (by omega) (by omega) (by omega) (by omega) (by omega))) | (refine RT.goK rfl rfl rfl rfl ?_; refine Nx.of (S.load1c rfl rfl ((lookM_tl (by omega)).trans hy') rfl) ?_) | (refine RT.call rfl rfl rfl (hp t ht _ _ (hs.cons (by omega) (by omega)) _) rfl rfl (Nat.le_refl _) ?_) | (refine RT.goK rfl rfl rfl rfl ?_; apply Nx.of; (first | exact S.move | exact S.assign | exact S.load1c rfl rfl rfl rfl | exact S.loadNc rfl rfl rfl rfl | exact S.fieldAddr rfl rfl rfl | exact S.leq | exact S.lss | exact S.eql | exact S.neq | exact S.geq | exact S.gtr | exact S.not_t | exact S.not_f | exact S.not_d | exact S.pick_tt | exact S.pick_ff | exact S.pick_td (by assumption) | exact S.pick_fd (by assumption) | exact S.pick_b | exact S.box | exact S.alloc rfl | exact S.add_one (by omega) | exact S.sub_one (by omega) (by omega) | exact S.add (by unfold In64; omega) | exact S.sub (by unfold In64; omega) | exact S.mul (by unfold In64; omega) | exact S.add_w | exact S.sub_w | exact S.mul_w | exact S.min2 | exact S.max2 | exact S.build rfl rfl rfl | exact S.buildA rfl rfl rfl rfl | exact S.nilCheck | exact S.extract rfl | exact S.makeFunc | exact S.nilCheck_fn)) | (refine RT.goK0 rfl rfl rfl ?_; apply Nx.of; (first | exact S.store rfl rfl rfl rfl rfl rfl | exact S.makeFunc | exact S.nilCheck_fn)))
  (first | refine rt_go rfl ?_ | refine rt_go (by exact rfl) ?_)
  first | exact dB_iff Iff.rfl | (simp [dB, retV])
set_option maxRecDepth 100000 in
set_option maxHeartbeats 4000000 in
theorem each_at {p : Nat} (hx : lookM m x = some (oWs B)) (hxc : x < c) (hlen : (Ws B).length ≤ 5184) (hp : PrOK B g first cap m c pr) (fl : Nat) : OkAt 0 Try.prog fl 122 [.agg [.ptr p 0, .gs x (wths B 0).length], .fn g first cap] (ofM m) c (.bool (dB (∀ t ∈ Ws B, pr t))) (ofM m) c := by
  refine CanS.here (CanS.mk Try.func122 rfl rfl rfl ?_) (.bool _) fl
  repeat' (first | refine RT.nil ?_ | refine sq_n ?_ | refine Tr.seq ?_ | refine Tr.region ?_ | refine Tr.cond_t rfl ?_ | refine Tr.cond_f rfl ?_ | refine Tr.cond_d rfl (fun _ => ?_) (fun _ => ?_) | refine Tr.skip ?_ | refine Tr.ret ?_ | refine sq_r ?_ | refine Tr.exit ?_ | refine sq_x ?_ | refine Tr.block ?_ | refine blk_n ?_ | refine blk_r ?_ | refine blk_hit rfl ?_ | refine blk_pass rfl ?_ | refine Tr.label ?_ | refine Tr.scope ?_ | refine scp_n ?_ | refine scp_r ?_ | refine scp_x ?_ | refine lp_r ?_ | refine lp_x ?_ | (refine RT.goK rfl rfl rfl rfl ?_; apply Nx.of; (first | exact S.l1_0 rfl rfl rfl | exact S.lN_0 rfl rfl rfl | exact S.l1_1 rfl rfl rfl (by omega) | exact S.lN_1 rfl rfl rfl (by omega) | exact S.l1_2 rfl rfl rfl (by omega) (by omega) | exact S.lN_2 rfl rfl rfl (by omega) (by omega) | exact S.l1_3 rfl rfl rfl (by omega) (by omega) (by omega) | exact S.lN_3 rfl rfl rfl (by omega) (by omega) (by omega) | exact S.l1_4 rfl rfl rfl (by omega) (by omega) (by omega) (by omega) | exact S.lN_4 rfl rfl rfl (by omega) (by omega) (by omega) (by omega) | exact S.l1_5 rfl rfl rfl (by omega) (by omega) (by omega) (by omega) (by omega) | exact S.lN_5 rfl rfl rfl (by omega) (by omega) (by omega) (by omega) (by omega) | exact S.l1_6 rfl rfl rfl (by omega) (by omega) (by omega) (by omega) (by omega) (by omega) | exact S.lN_6 rfl rfl rfl (by omega) (by omega) (by omega) (by omega) (by omega) (by omega))) | (refine RT.goK0 rfl rfl rfl ?_; apply Nx.of; (first | exact S.st_0 rfl rfl rfl rfl (by omega) | exact S.st_1 rfl rfl rfl rfl (by omega) (by omega) | exact S.st_2 rfl rfl rfl rfl (by omega) (by omega) (by omega) | exact S.st_3 rfl rfl rfl rfl (by omega) (by omega) (by omega) (by omega) | exact S.st_4 rfl rfl rfl rfl (by omega) (by omega) (by omega) (by omega) (by omega) | exact S.st_5 rfl rfl rfl rfl (by omega) (by omega) (by omega) (by omega) (by omega) (by omega) | exact S.st_6 rfl rfl rfl rfl (by omega) (by omega) (by omega) (by omega) (by omega) (by omega) (by omega))) | (refine RT.call rfl rfl rfl (some_at (pr := fun t => ¬ pr t) ((lookM_tl (by omega)).trans ((lookM_tl (by omega)).trans hx)) (by omega) hlen (each1_ok lookM_hd (by omega) (hp.sub ((Sub.refl.cons (c2 := c + 1) (Nat.le_refl _) (by omega)).cons (by omega) (by omega)))) _) rfl rfl (Nat.le_refl _) ?_) | (refine RT.goK rfl rfl rfl rfl ?_; apply Nx.of; (first | exact S.move | exact S.assign | exact S.load1c rfl rfl rfl rfl | exact S.loadNc rfl rfl rfl rfl | exact S.fieldAddr rfl rfl rfl | exact S.leq | exact S.lss | exact S.eql | exact S.neq | exact S.geq | exact S.gtr | exact S.not_t | exact S.not_f | exact S.not_d | exact S.pick_tt | exact S.pick_ff | exact S.pick_td (by assumption) | exact S.pick_fd (by assumption) | exact S.pick_b | exact S.box | exact S.alloc rfl | exact S.add_one (by omega) | exact S.sub_one (by omega) (by omega) | exact S.add (by unfold In64; omega) | exact S.sub (by unfold In64; omega) | exact S.mul (by unfold In64; omega) | exact S.add_w | exact S.sub_w | exact S.mul_w | exact S.min2 | exact S.max2 | exact S.build rfl rfl rfl | exact S.buildA rfl rfl rfl rfl | exact S.nilCheck | exact S.extract rfl | exact S.makeFunc | exact S.nilCheck_fn)) | (refine RT.goK0 rfl rfl rfl ?_; apply Nx.of; (first | exact S.store rfl rfl rfl rfl rfl rfl | exact S.makeFunc | exact S.nilCheck_fn)))
  (first | refine rt_go rfl ?_ | refine rt_go (by exact rfl) ?_)
  refine dB_iff ?_
  simp
end
end Go.Proofs.Ytcoklgmdifggbaa

/- Package claim: where; the weathers, the blame, what is paid, the first stage. -/
namespace Go.Proofs.Ytcoklgmdifggbaa
open Go Go.Ev

abbrev exV : AV := .agg [.int .i64 2, .fn 122 [] [], .int .i64 1, .fn 123 [] [], .int .i64 0, .fn 124 [] []]
set_option maxRecDepth 100000 in
set_option maxHeartbeats 4000000 in
theorem extents_can : CanS 0 Try.prog 105 0 [] [] 0 fun v _ _ => v = exV := by
  refine CanS.mk Try.func105 rfl rfl rfl ?_
  repeat' (first | refine RT.nil ?_ | refine sq_n ?_ | refine Tr.seq ?_ | refine Tr.region ?_ | refine Tr.cond_t rfl ?_ | refine Tr.cond_f rfl ?_ | refine Tr.cond_d rfl (fun _ => ?_) (fun _ => ?_) | refine Tr.skip ?_ | refine Tr.ret ?_ | refine sq_r ?_ | refine Tr.exit ?_ | refine sq_x ?_ | refine Tr.block ?_ | refine blk_n ?_ | refine blk_r ?_ | refine blk_hit rfl ?_ | refine blk_pass rfl ?_ | refine Tr.label ?_ | refine Tr.scope ?_ | refine scp_n ?_ | refine scp_r ?_ | refine scp_x ?_ | refine lp_r ?_ | refine lp_x ?_ | (refine RT.goK rfl rfl rfl rfl ?_; apply Nx.of; (first | exact S.move | exact S.assign | exact S.load1c rfl rfl rfl rfl | exact S.loadNc rfl rfl rfl rfl | exact S.fieldAddr rfl rfl rfl | exact S.leq | exact S.lss | exact S.eql | exact S.neq | exact S.geq | exact S.gtr | exact S.not_t | exact S.not_f | exact S.not_d | exact S.pick_tt | exact S.pick_ff | exact S.pick_td (by assumption) | exact S.pick_fd (by assumption) | exact S.pick_b | exact S.box | exact S.alloc rfl | exact S.add_one (by omega) | exact S.sub_one (by omega) (by omega) | exact S.add (by unfold In64; omega) | exact S.sub (by unfold In64; omega) | exact S.mul (by unfold In64; omega) | exact S.add_w | exact S.sub_w | exact S.mul_w | exact S.min2 | exact S.max2 | exact S.build rfl rfl rfl | exact S.buildA rfl rfl rfl rfl | exact S.nilCheck | exact S.extract rfl | exact S.makeFunc | exact S.nilCheck_fn | exact S.indexN rfl rfl rfl rfl (by decide) (by decide) rfl)) | (refine RT.goK0 rfl rfl rfl ?_; apply Nx.of; (first | exact S.store rfl rfl rfl rfl rfl rfl | exact S.makeFunc | exact S.nilCheck_fn | exact S.indexN rfl rfl rfl rfl (by decide) (by decide) rfl)))
  (first | refine rt_go rfl ?_ | refine rt_go (by exact rfl) ?_)
  rfl
theorem extents_at (H : T AObj) (c fl : Nat) : OkAt 0 Try.prog fl 105 [] H c exV H c := extents_can.pure (fun _ => rfl) (.plain fun _ => rfl) fl

/-- In which truths something is so. -/
noncomputable def whV (B : CBook) (pr : Tru → Prop) : Int := bif dB (∀ t ∈ Ws B, pr t) then 2 else bif dB (∃ t ∈ Ws B, pr t) then 1 else 0
theorem whV_2 {B : CBook} {pr : Tru → Prop} (h : ∀ t ∈ Ws B, pr t) : whV B pr = 2 := by unfold whV; rw [dB_tt h]; rfl
theorem whV_1 {B : CBook} {pr : Tru → Prop} (h : ¬ ∀ t ∈ Ws B, pr t) (h' : ∃ t ∈ Ws B, pr t) : whV B pr = 1 := by unfold whV; rw [dB_ff h, dB_tt h']; rfl
theorem whV_0 {B : CBook} {pr : Tru → Prop} (h : ¬ ∀ t ∈ Ws B, pr t) (h' : ¬ ∃ t ∈ Ws B, pr t) : whV B pr = 0 := by unfold whV; rw [dB_ff h, dB_ff h']; rfl

section
variable {B : CBook} {g x p : Nat} {first cap : List AV} {m : List (Nat × Option AObj)} {c : Nat} {pr : Tru → Prop}
/-- The list, behind what was laid on top. -/
theorem sub_hx {m' : List (Nat × Option AObj)} {c' : Nat} (h : Sub m c m' c') (hxc : x < c) (hx : lookM m x = some (oWs B)) : lookM m' x = some (oWs B) ∧ x < c' := ⟨(h.eq x hxc).trans hx, Nat.lt_of_lt_of_le hxc h.le⟩
theorem each_at' {m' : List (Nat × Option AObj)} {c' : Nat} (h : Sub m c m' c') (hx : lookM m x = some (oWs B)) (hxc : x < c) (hlen : (Ws B).length ≤ 5184) (hp : PrOK B g first cap m c pr) (fl : Nat) : OkAt 0 Try.prog fl 122 [.agg [.ptr p 0, .gs x (wths B 0).length], .fn g first cap] (ofM m') c' (.bool (dB (∀ t ∈ Ws B, pr t))) (ofM m') c' := each_at (sub_hx h hxc hx).1 (sub_hx h hxc hx).2 hlen (hp.sub h) fl
theorem some_at' {m' : List (Nat × Option AObj)} {c' : Nat} (h : Sub m c m' c') (hx : lookM m x = some (oWs B)) (hxc : x < c) (hlen : (Ws B).length ≤ 5184) (hp : PrOK B g first cap m c pr) (fl : Nat) : OkAt 0 Try.prog fl 123 [.agg [.ptr p 0, .gs x (wths B 0).length], .fn g first cap] (ofM m') c' (.bool (dB (∃ t ∈ Ws B, pr t))) (ofM m') c' := some_at (sub_hx h hxc hx).1 (sub_hx h hxc hx).2 hlen (hp.sub h) fl
theorem none_at' {m' : List (Nat × Option AObj)} {c' : Nat} (h : Sub m c m' c') (hx : lookM m x = some (oWs B)) (hxc : x < c) (hlen : (Ws B).length ≤ 5184) (hp : PrOK B g first cap m c pr) (fl : Nat) : OkAt 0 Try.prog fl 124 [.agg [.ptr p 0, .gs x (wths B 0).length], .fn g first cap] (ofM m') c' (.bool (dB (¬ ∃ t ∈ Ws B, pr t))) (ofM m') c' := none_at (sub_hx h hxc hx).1 (sub_hx h hxc hx).2 hlen (hp.sub h) fl

set_option maxRecDepth 100000 in
set_option maxHeartbeats 4000000 in
theorem where_at (hx : lookM m x = some (oWs B)) (hxc : x < c) (hlen : (Ws B).length ≤ 5184) (hp : PrOK B g first cap m c pr) (fl : Nat) : OkAt 0 Try.prog fl 80 [.agg [.ptr p 0, .gs x (wths B 0).length], .fn g first cap] (ofM m) c (.int .i64 (whV B pr)) (ofM m) c := by
  refine CanS.here (CanS.mk Try.func80 rfl rfl rfl ?_) (.int _ _) fl
  repeat' (first | refine RT.nil ?_ | refine sq_n ?_ | refine Tr.seq ?_ | refine Tr.region ?_ | refine Tr.cond_t rfl ?_ | refine Tr.cond_f rfl ?_ | refine Tr.cond_d rfl (fun _ => ?_) (fun _ => ?_) | refine Tr.skip ?_ | refine Tr.ret ?_ | refine sq_r ?_ | refine Tr.exit ?_ | refine sq_x ?_ | refine Tr.block ?_ | refine blk_n ?_ | refine blk_r ?_ | refine blk_hit rfl ?_ | refine blk_pass rfl ?_ | refine Tr.label ?_ | refine Tr.scope ?_ | refine scp_n ?_ | refine scp_r ?_ | refine scp_x ?_ | refine lp_r ?_ | refine lp_x ?_ | (refine RT.call rfl rfl rfl (extents_at _ _ _) rfl rfl (Nat.le_refl _) ?_) | (refine RT.goK rfl rfl rfl rfl ?_; apply Nx.of; (first | exact S.l1_0 rfl rfl rfl | exact S.lN_0 rfl rfl rfl | exact S.l1_1 rfl rfl rfl (by omega) | exact S.lN_1 rfl rfl rfl (by omega) | exact S.l1_2 rfl rfl rfl (by omega) (by omega) | exact S.lN_2 rfl rfl rfl (by omega) (by omega) | exact S.l1_3 rfl rfl rfl (by omega) (by omega) (by omega) | exact S.lN_3 rfl rfl rfl (by omega) (by omega) (by omega) | exact S.l1_4 rfl rfl rfl (by omega) (by omega) (by omega) (by omega) | exact S.lN_4 rfl rfl rfl (by omega) (by omega) (by omega) (by omega) | exact S.l1_5 rfl rfl rfl (by omega) (by omega) (by omega) (by omega) (by omega) | exact S.lN_5 rfl rfl rfl (by omega) (by omega) (by omega) (by omega) (by omega) | exact S.l1_6 rfl rfl rfl (by omega) (by omega) (by omega) (by omega) (by omega) (by omega) | exact S.lN_6 rfl rfl rfl (by omega) (by omega) (by omega) (by omega) (by omega) (by omega))) | (refine RT.goK0 rfl rfl rfl ?_; apply Nx.of; (first | exact S.st_0 rfl rfl rfl rfl (by omega) | exact S.st_1 rfl rfl rfl rfl (by omega) (by omega) | exact S.st_2 rfl rfl rfl rfl (by omega) (by omega) (by omega) | exact S.st_3 rfl rfl rfl rfl (by omega) (by omega) (by omega) (by omega) | exact S.st_4 rfl rfl rfl rfl (by omega) (by omega) (by omega) (by omega) (by omega) | exact S.st_5 rfl rfl rfl rfl (by omega) (by omega) (by omega) (by omega) (by omega) (by omega) | exact S.st_6 rfl rfl rfl rfl (by omega) (by omega) (by omega) (by omega) (by omega) (by omega) (by omega))) | (refine RT.goK rfl rfl rfl rfl ?_; apply Nx.of; (first | exact S.move | exact S.assign | exact S.load1c rfl rfl rfl rfl | exact S.loadNc rfl rfl rfl rfl | exact S.fieldAddr rfl rfl rfl | exact S.leq | exact S.lss | exact S.eql | exact S.neq | exact S.geq | exact S.gtr | exact S.not_t | exact S.not_f | exact S.not_d | exact S.pick_tt | exact S.pick_ff | exact S.pick_td (by assumption) | exact S.pick_fd (by assumption) | exact S.pick_b | exact S.box | exact S.alloc rfl | exact S.add_one (by omega) | exact S.sub_one (by omega) (by omega) | exact S.add (by unfold In64; omega) | exact S.sub (by unfold In64; omega) | exact S.mul (by unfold In64; omega) | exact S.add_w | exact S.sub_w | exact S.mul_w | exact S.min2 | exact S.max2 | exact S.build rfl rfl rfl | exact S.buildA rfl rfl rfl rfl | exact S.nilCheck | exact S.extract rfl | exact S.makeFunc | exact S.nilCheck_fn | exact S.indexN rfl rfl rfl rfl (by decide) (by decide) rfl)) | (refine RT.goK0 rfl rfl rfl ?_; apply Nx.of; (first | exact S.store rfl rfl rfl rfl rfl rfl | exact S.makeFunc | exact S.nilCheck_fn | exact S.indexN rfl rfl rfl rfl (by decide) (by decide) rfl)))
  refine Tr.unroll 4 ?_
  repeat' (first | refine RT.nil ?_ | refine sq_n ?_ | refine Tr.seq ?_ | refine Tr.region ?_ | refine Tr.cond_t rfl ?_ | refine Tr.cond_f rfl ?_ | refine Tr.cond_d rfl (fun _ => ?_) (fun _ => ?_) | refine Tr.skip ?_ | refine Tr.ret ?_ | refine sq_r ?_ | refine Tr.exit ?_ | refine sq_x ?_ | refine Tr.block ?_ | refine blk_n ?_ | refine blk_r ?_ | refine blk_hit rfl ?_ | refine blk_pass rfl ?_ | refine Tr.label ?_ | refine Tr.scope ?_ | refine scp_n ?_ | refine scp_r ?_ | refine scp_x ?_ | refine lp_r ?_ | refine lp_x ?_ | refine un_n ?_ | refine un_r ?_ | refine un_x ?_ | (refine RT.call rfl rfl rfl (each_at' (by repeat' (first | exact Sub.refl | refine Sub.cons ?_ (by omega) (Nat.le_succ _) | refine Sub.cons ?_ (by omega) (Nat.le_refl _))) hx hxc hlen hp _) rfl rfl (Nat.le_refl _) ?_) | (refine RT.call rfl rfl rfl (some_at' (by repeat' (first | exact Sub.refl | refine Sub.cons ?_ (by omega) (Nat.le_succ _) | refine Sub.cons ?_ (by omega) (Nat.le_refl _))) hx hxc hlen hp _) rfl rfl (Nat.le_refl _) ?_) | (refine RT.call rfl rfl rfl (none_at' (by repeat' (first | exact Sub.refl | refine Sub.cons ?_ (by omega) (Nat.le_succ _) | refine Sub.cons ?_ (by omega) (Nat.le_refl _))) hx hxc hlen hp _) rfl rfl (Nat.le_refl _) ?_) | (refine RT.goK rfl rfl rfl rfl ?_; apply Nx.of; (first | exact S.l1_0 rfl rfl rfl | exact S.lN_0 rfl rfl rfl | exact S.l1_1 rfl rfl rfl (by omega) | exact S.lN_1 rfl rfl rfl (by omega) | exact S.l1_2 rfl rfl rfl (by omega) (by omega) | exact S.lN_2 rfl rfl rfl (by omega) (by omega) | exact S.l1_3 rfl rfl rfl (by omega) (by omega) (by omega) | exact S.lN_3 rfl rfl rfl (by omega) (by omega) (by omega) | exact S.l1_4 rfl rfl rfl (by omega) (by omega) (by omega) (by omega) | exact S.lN_4 rfl rfl rfl (by omega) (by omega) (by omega) (by omega) | exact S.l1_5 rfl rfl rfl (by omega) (by omega) (by omega) (by omega) (by omega) | exact S.lN_5 rfl rfl rfl (by omega) (by omega) (by omega) (by omega) (by omega) | exact S.l1_6 rfl rfl rfl (by omega) (by omega) (by omega) (by omega) (by omega) (by omega) | exact S.lN_6 rfl rfl rfl (by omega) (by omega) (by omega) (by omega) (by omega) (by omega))) | (refine RT.goK0 rfl rfl rfl ?_; apply Nx.of; (first | exact S.st_0 rfl rfl rfl rfl (by omega) | exact S.st_1 rfl rfl rfl rfl (by omega) (by omega) | exact S.st_2 rfl rfl rfl rfl (by omega) (by omega) (by omega) | exact S.st_3 rfl rfl rfl rfl (by omega) (by omega) (by omega) (by omega) | exact S.st_4 rfl rfl rfl rfl (by omega) (by omega) (by omega) (by omega) (by omega) | exact S.st_5 rfl rfl rfl rfl (by omega) (by omega) (by omega) (by omega) (by omega) (by omega) | exact S.st_6 rfl rfl rfl rfl (by omega) (by omega) (by omega) (by omega) (by omega) (by omega) (by omega))) | (refine RT.goK rfl rfl rfl rfl ?_; apply Nx.of; (first | exact S.lss_t (by decide) | exact S.lss_f (by decide) | exact S.leq_t (by decide) | exact S.leq_f (by decide) | exact S.eql_t (by decide) | exact S.eql_f (by decide) | exact S.neq_t (by decide) | exact S.neq_f (by decide) | exact S.index_arrI rfl rfl rfl rfl (by decide) (by decide) rfl | exact S.idx_arrI rfl rfl rfl (by decide) (by decide))) | (refine RT.goK rfl rfl rfl rfl ?_; apply Nx.of; (first | exact S.move | exact S.assign | exact S.load1c rfl rfl rfl rfl | exact S.loadNc rfl rfl rfl rfl | exact S.fieldAddr rfl rfl rfl | exact S.leq | exact S.lss | exact S.eql | exact S.neq | exact S.geq | exact S.gtr | exact S.not_t | exact S.not_f | exact S.not_d | exact S.pick_tt | exact S.pick_ff | exact S.pick_td (by assumption) | exact S.pick_fd (by assumption) | exact S.pick_b | exact S.box | exact S.alloc rfl | exact S.add_one (by omega) | exact S.sub_one (by omega) (by omega) | exact S.add (by unfold In64; omega) | exact S.sub (by unfold In64; omega) | exact S.mul (by unfold In64; omega) | exact S.add_w | exact S.sub_w | exact S.mul_w | exact S.min2 | exact S.max2 | exact S.build rfl rfl rfl | exact S.buildA rfl rfl rfl rfl | exact S.nilCheck | exact S.extract rfl | exact S.makeFunc | exact S.nilCheck_fn | exact S.indexN rfl rfl rfl rfl (by decide) (by decide) rfl)) | (refine RT.goK0 rfl rfl rfl ?_; apply Nx.of; (first | exact S.store rfl rfl rfl rfl rfl rfl | exact S.makeFunc | exact S.nilCheck_fn | exact S.indexN rfl rfl rfl rfl (by decide) (by decide) rfl)))
  all_goals (first | refine rt_go rfl ?_ | refine rt_go (by exact rfl) ?_)
  · exact congrArg (AV.int .i64) (whV_2 (by assumption)).symm
  · exact congrArg (AV.int .i64) (whV_1 (by assumption) (by assumption)).symm
  · exact congrArg (AV.int .i64) (whV_0 (by assumption) (by assumption)).symm
  · exact congrArg (AV.int .i64) (whV_0 (by assumption) (by assumption)).symm
end
end Go.Proofs.Ytcoklgmdifggbaa

/- Package claim: the weathers, what is paid, the first stage: what is known answers. -/
namespace Go.Proofs.Ytcoklgmdifggbaa
open Go Go.Ev

theorem PbIn.sub {B : CBook} {a1 a2 : AV} {p q : Nat} {m m' : List (Nat × Option AObj)} {c c' : Nat} (h : PbIn B a1 a2 p q m c) (k : Sub m c m' c') : PbIn B a1 a2 p q m' c' := by
  have := h.hc
  have := k.le
  exact ⟨h.h1, h.h2, (k.eq 0 (by omega)).trans h.m1, (k.eq 1 (by omega)).trans h.m2, (k.eq p h.hp).trans h.m3, by omega, by have := h.hp; omega, by have := h.hq; omega⟩

section
variable {B : CBook} {a1 a2 : AV} {p q : Nat} {m : List (Nat × Option AObj)} {c : Nat}
set_option maxRecDepth 100000 in
set_option maxHeartbeats 4000000 in
theorem weathers1_ok {y : Nat} {k : Int} (hy : lookM m y = some (.cells [.int .i64 k])) (hyc : y < c) : PrOK B 104 [] [.ptr y 0] m c (fun t => t.w = k) := fun t ht m' c' hs fl => by
  have hy' : lookM m' y = some (.cells [.int .i64 k]) := (hs.eq y hyc).trans hy
  have hle := hs.le
  refine CanS.here (CanS.mk Try.func104 rfl rfl rfl ?_) (.bool _) fl
  repeat' (first | refine RT.nil ?_ | refine sq_n ?_ | refine Tr.seq ?_ | refine Tr.region ?_ | refine Tr.cond_t rfl ?_ | refine Tr.cond_f rfl ?_ | refine Tr.cond_d rfl (fun _ => ?_) (fun _ => ?_) | refine Tr.skip ?_ | refine Tr.ret ?_ | refine sq_r ?_ | refine Tr.exit ?_ | refine sq_x ?_ | refine Tr.block ?_ | refine blk_n ?_ | refine blk_r ?_ | refine blk_hit rfl ?_ | refine blk_pass rfl ?_ | refine Tr.label ?_ | refine Tr.scope ?_ | refine scp_n ?_ | refine scp_r ?_ | refine scp_x ?_ | refine lp_r ?_ | refine lp_x ?_ | (refine RT.goK rfl rfl rfl rfl ?_; apply Nx.of; (first | exact S.l1_0 rfl rfl rfl | exact S.lN_0 rfl rfl rfl | exact S.l1_1 rfl rfl rfl (by omega) | exact S.lN_1 rfl rfl rfl (by omega) | exact S.l1_2 rfl rfl rfl (by omega) (by omega) | exact S.lN_2 rfl rfl rfl (by omega) (by omega) | exact S.l1_3 rfl rfl rfl (by omega) (by omega) (by omega) | exact S.lN_3 rfl rfl rfl (by omega) (by omega) (by omega) | exact S.l1_4 rfl rfl rfl (by omega) (by omega) (by omega) (by omega) | exact S.lN_4 rfl rfl rfl (by omega) (by omega) (by omega) (by omega) | exact S.l1_5 rfl rfl rfl (by omega) (by omega) (by omega) (by omega) (by omega) | exact S.lN_5 rfl rfl rfl (by omega) (by omega) (by omega) (by omega) (by omega) | exact S.l1_6 rfl rfl rfl (by omega) (by omega) (by omega) (by omega) (by omega) (by omega) | exact S.lN_6 rfl rfl rfl (by omega) (by omega) (by omega) (by omega) (by omega) (by omega))) | (refine RT.goK0 rfl rfl rfl ?_; apply Nx.of; (first | exact S.st_0 rfl rfl rfl rfl (by omega) | exact S.st_1 rfl rfl rfl rfl (by omega) (by omega) | exact S.st_2 rfl rfl rfl rfl (by omega) (by omega) (by omega) | exact S.st_3 rfl rfl rfl rfl (by omega) (by omega) (by omega) (by omega) | exact S.st_4 rfl rfl rfl rfl (by omega) (by omega) (by omega) (by omega) (by omega) | exact S.st_5 rfl rfl rfl rfl (by omega) (by omega) (by omega) (by omega) (by omega) (by omega) | exact S.st_6 rfl rfl rfl rfl (by omega) (by omega) (by omega) (by omega) (by omega) (by omega) (by omega))) | (refine RT.goK rfl rfl rfl rfl ?_; refine Nx.of (S.load1c rfl rfl ((lookM_tl (by omega)).trans hy') rfl) ?_) | (refine RT.goK rfl rfl rfl rfl ?_; apply Nx.of; (first | exact S.move | exact S.assign | exact S.load1c rfl rfl rfl rfl | exact S.loadNc rfl rfl rfl rfl | exact S.fieldAddr rfl rfl rfl | exact S.leq | exact S.lss | exact S.eql | exact S.neq | exact S.geq | exact S.gtr | exact S.not_t | exact S.not_f | exact S.not_d | exact S.pick_tt | exact S.pick_ff | exact S.pick_td (by assumption) | exact S.pick_fd (by assumption) | exact S.pick_b | exact S.box | exact S.alloc rfl | exact S.add_one (by omega) | exact S.sub_one (by omega) (by omega) | exact S.add (by unfold In64; omega) | exact S.sub (by unfold In64; omega) | exact S.mul (by unfold In64; omega) | exact S.add_w | exact S.sub_w | exact S.mul_w | exact S.min2 | exact S.max2 | exact S.build rfl rfl rfl | exact S.buildA rfl rfl rfl rfl | exact S.nilCheck | exact S.extract rfl | exact S.makeFunc | exact S.field1 rfl rfl rfl rfl rfl rfl rfl)) | (refine RT.goK0 rfl rfl rfl ?_; apply Nx.of; (first | exact S.store rfl rfl rfl rfl rfl rfl | exact S.makeFunc | exact S.nilCheck | exact S.field1 rfl rfl rfl rfl rfl rfl rfl)))
  (first | refine rt_go rfl ?_ | refine rt_go (by exact rfl) ?_)
  exact dB_iff Iff.rfl
theorem blame_ok (h : PbIn B a1 a2 p q m c) (hok : stsOk B) (hw : weaOk B) : PrOK B 81 [.ptr p 0] [] m c (blP B) := fun t ht m' c' hs fl => blame_at (h.sub hs) hok t (TruB.of hok hw ht) fl
end

theorem whV_ne {B : CBook} {pr : Tru → Prop} (hW : Ws B ≠ []) : whV B pr ≠ 0 ↔ ∃ t ∈ Ws B, pr t := by
  by_cases h : ∀ t ∈ Ws B, pr t
  · rw [whV_2 h]
    obtain ⟨t, ht⟩ := List.exists_mem_of_ne_nil _ hW
    exact ⟨fun _ => ⟨t, ht, h t ht⟩, fun _ => by decide⟩
  · by_cases h' : ∃ t ∈ Ws B, pr t
    · rw [whV_1 h h']; exact ⟨fun _ => h', fun _ => by decide⟩
    · rw [whV_0 h h']; exact ⟨fun k => absurd rfl k, fun k => absurd k h'⟩
/-- A set, number by number. -/
noncomputable def setV (p : Nat → Prop) : Nat → Int
  | 0 => 0
  | k + 1 => bif dB (p k) then orI (setV p k) (1 * 2 ^ k) else setV p k
theorem setV_t {p : Nat → Prop} {k : Nat} (h : p k) : orI (setV p k) (1 * 2 ^ k) = setV p (k + 1) := by rw [setV, dB_tt h]; rfl
theorem setV_f {p : Nat → Prop} {k : Nat} (h : ¬ p k) : setV p k = setV p (k + 1) := by rw [setV, dB_ff h]; rfl
def weaP (B : CBook) (k : Nat) : Prop := ∃ t ∈ Ws B, t.w = k

set_option maxRecDepth 100000 in
set_option maxHeartbeats 4000000 in
theorem weathers_can (B : CBook) (a1 a2 : AV) (h1 : IsSl a1 B.ns 0) (h2 : IsSl a2 B.nc 1) (hW : Ws B ≠ []) (hlen : (Ws B).length ≤ 5184) : CanS 0 Try.prog 79 6 [.agg [.ptr 2 0, .gs 4 (wths B 0).length]] [(0, some (oSt B)), (1, some (oCk B)), (2, some (.cells (pbC B a1 a2 3))), (4, some (oWs B)), (5, some (.cells [.ptr 2 0, .gs 4 (wths B 0).length]))] 6 fun v _ _ => v = .int .i64 (setV (weaP B) 3) := by
  refine CanS.mk Try.func79 rfl rfl rfl ?_
  repeat' (first | refine RT.nil ?_ | refine sq_n ?_ | refine Tr.seq ?_ | refine Tr.region ?_ | refine Tr.cond_t rfl ?_ | refine Tr.cond_f rfl ?_ | refine Tr.cond_d rfl (fun _ => ?_) (fun _ => ?_) | refine Tr.skip ?_ | refine Tr.ret ?_ | refine sq_r ?_ | refine Tr.exit ?_ | refine sq_x ?_ | refine Tr.block ?_ | refine blk_n ?_ | refine blk_r ?_ | refine blk_hit rfl ?_ | refine blk_pass rfl ?_ | refine Tr.label ?_ | refine Tr.scope ?_ | refine scp_n ?_ | refine scp_r ?_ | refine scp_x ?_ | refine lp_r ?_ | refine lp_x ?_ | (refine RT.goK rfl rfl rfl rfl ?_; apply Nx.of; (first | exact S.move | exact S.assign | exact S.load1c rfl rfl rfl rfl | exact S.loadNc rfl rfl rfl rfl | exact S.fieldAddr rfl rfl rfl | exact S.leq | exact S.lss | exact S.eql | exact S.neq | exact S.geq | exact S.gtr | exact S.not_t | exact S.not_f | exact S.not_d | exact S.pick_tt | exact S.pick_ff | exact S.pick_td (by assumption) | exact S.pick_fd (by assumption) | exact S.pick_b | exact S.box | exact S.alloc rfl | exact S.add_one (by omega) | exact S.sub_one (by omega) (by omega) | exact S.add (by unfold In64; omega) | exact S.sub (by unfold In64; omega) | exact S.mul (by unfold In64; omega) | exact S.add_w | exact S.sub_w | exact S.mul_w | exact S.min2 | exact S.max2 | exact S.build rfl rfl rfl | exact S.buildA rfl rfl rfl rfl | exact S.nilCheck | exact S.extract rfl | exact S.makeFunc | exact S.field1 rfl rfl rfl rfl rfl rfl rfl)) | (refine RT.goK0 rfl rfl rfl ?_; apply Nx.of; (first | exact S.store rfl rfl rfl rfl rfl rfl | exact S.makeFunc | exact S.nilCheck | exact S.field1 rfl rfl rfl rfl rfl rfl rfl)))
  refine Tr.loop (fun k : Nat => stL Try.f79.ntmps [] [(1, .ptr 6 0), (3, .int .i64 (setV (weaP B) k)), (5, .int .i64 k)] ((6, some (.cells [.ptr 2 0, .gs 4 (wths B 0).length])) :: [(0, some (oSt B)), (1, some (oCk B)), (2, some (.cells (pbC B a1 a2 3))), (4, some (oWs B)), (5, some (.cells [.ptr 2 0, .gs 4 (wths B 0).length]))]) 7) (fun k => k ≤ 3) (fun k => 3 - k) 0 (Nat.zero_le _) (by (refine Wk.same (by decide) (by decide) (by decide) (by decide) ?_ ?_ rfl; all_goals ((try simp only [allL, allM]); (repeat' (first | exact trivial | refine And.intro ?_ ?_)); all_goals (first | rfl | exact congrArg some (congrArg (AV.int .i64) (by omega)) | exact IsSl.ren (by assumption) (nm_lt (by decide)) | exact ren_ro _ _ _ | exact ren_grown _ _ _ _ | exact pbc_ren h1 h2 (nm_lt (by decide)) (nm_lt (by decide)) (nm_lt (by decide)) | (rw [← e1]; rfl) | decide)))) (fun k hk => ?_)
  by_cases hlt : k < 3
  · have hlt' : (k : Int) < 3 := by omega
    have hs64 : In64 (1 * 2 ^ k) := by
      obtain rfl | rfl | rfl : k = 0 ∨ k = 1 ∨ k = 2 := by omega
      all_goals (unfold In64; decide)
    repeat' (first | refine RT.nil ?_ | refine sq_n ?_ | refine Tr.seq ?_ | refine Tr.region ?_ | refine Tr.cond_t rfl ?_ | refine Tr.cond_f rfl ?_ | refine Tr.cond_d rfl (fun _ => ?_) (fun _ => ?_) | refine Tr.skip ?_ | refine Tr.ret ?_ | refine sq_r ?_ | refine Tr.exit ?_ | refine sq_x ?_ | refine Tr.block ?_ | refine blk_n ?_ | refine blk_r ?_ | refine blk_hit rfl ?_ | refine blk_pass rfl ?_ | refine Tr.label ?_ | refine Tr.scope ?_ | refine scp_n ?_ | refine scp_r ?_ | refine scp_x ?_ | refine lp_r ?_ | refine lp_x ?_ | (refine RT.goK rfl rfl rfl rfl ?_; apply Nx.of; (first | exact S.lss_t hlt' | exact S.shl (by omega) hs64 | exact S.or)) | (refine RT.call rfl rfl rfl (where_at (p := 2) (x := 4) rfl (by decide) hlen (weathers1_ok (y := 7) (k := (k : Int)) rfl (by decide)) _) rfl rfl (Nat.le_refl _) ?_) | (refine RT.goK rfl rfl rfl rfl ?_; apply Nx.of; (first | exact S.move | exact S.assign | exact S.load1c rfl rfl rfl rfl | exact S.loadNc rfl rfl rfl rfl | exact S.fieldAddr rfl rfl rfl | exact S.leq | exact S.lss | exact S.eql | exact S.neq | exact S.geq | exact S.gtr | exact S.not_t | exact S.not_f | exact S.not_d | exact S.pick_tt | exact S.pick_ff | exact S.pick_td (by assumption) | exact S.pick_fd (by assumption) | exact S.pick_b | exact S.box | exact S.alloc rfl | exact S.add_one (by omega) | exact S.sub_one (by omega) (by omega) | exact S.add (by unfold In64; omega) | exact S.sub (by unfold In64; omega) | exact S.mul (by unfold In64; omega) | exact S.add_w | exact S.sub_w | exact S.mul_w | exact S.min2 | exact S.max2 | exact S.build rfl rfl rfl | exact S.buildA rfl rfl rfl rfl | exact S.nilCheck | exact S.extract rfl | exact S.makeFunc | exact S.field1 rfl rfl rfl rfl rfl rfl rfl)) | (refine RT.goK0 rfl rfl rfl ?_; apply Nx.of; (first | exact S.store rfl rfl rfl rfl rfl rfl | exact S.makeFunc | exact S.nilCheck | exact S.field1 rfl rfl rfl rfl rfl rfl rfl)))
    · have e1 := setV_t (p := weaP B) (k := k) ((whV_ne hW).1 (by assumption))
      refine lp_n (k + 1) hlt (by omega) (by (refine Wk.same (by decide) (by decide) (by decide) (by decide) ?_ ?_ rfl; all_goals ((try simp only [allL, allM]); (repeat' (first | exact trivial | refine And.intro ?_ ?_)); all_goals (first | rfl | exact congrArg some (congrArg (AV.int .i64) (by omega)) | exact IsSl.ren (by assumption) (nm_lt (by decide)) | exact ren_ro _ _ _ | exact ren_grown _ _ _ _ | exact pbc_ren h1 h2 (nm_lt (by decide)) (nm_lt (by decide)) (nm_lt (by decide)) | (rw [← e1]; rfl) | decide))))
    · have e1 := setV_f (p := weaP B) (k := k) (fun hp => absurd ((whV_ne hW).2 hp) (by assumption))
      refine lp_n (k + 1) hlt (by omega) (by (refine Wk.same (by decide) (by decide) (by decide) (by decide) ?_ ?_ rfl; all_goals ((try simp only [allL, allM]); (repeat' (first | exact trivial | refine And.intro ?_ ?_)); all_goals (first | rfl | exact congrArg some (congrArg (AV.int .i64) (by omega)) | exact IsSl.ren (by assumption) (nm_lt (by decide)) | exact ren_ro _ _ _ | exact ren_grown _ _ _ _ | exact pbc_ren h1 h2 (nm_lt (by decide)) (nm_lt (by decide)) (nm_lt (by decide)) | (rw [← e1]; rfl) | decide))))
  · have hlt' : ¬ (k : Int) < 3 := by omega
    obtain rfl : k = 3 := by omega
    repeat' (first | refine RT.nil ?_ | refine sq_n ?_ | refine Tr.seq ?_ | refine Tr.region ?_ | refine Tr.cond_t rfl ?_ | refine Tr.cond_f rfl ?_ | refine Tr.cond_d rfl (fun _ => ?_) (fun _ => ?_) | refine Tr.skip ?_ | refine Tr.ret ?_ | refine sq_r ?_ | refine Tr.exit ?_ | refine sq_x ?_ | refine Tr.block ?_ | refine blk_n ?_ | refine blk_r ?_ | refine blk_hit rfl ?_ | refine blk_pass rfl ?_ | refine Tr.label ?_ | refine Tr.scope ?_ | refine scp_n ?_ | refine scp_r ?_ | refine scp_x ?_ | refine lp_r ?_ | refine lp_x ?_ | (refine RT.goK rfl rfl rfl rfl ?_; (refine Nx.of (S.lss_f hlt') ?_)) | (refine RT.goK rfl rfl rfl rfl ?_; apply Nx.of; (first | exact S.move | exact S.assign | exact S.load1c rfl rfl rfl rfl | exact S.loadNc rfl rfl rfl rfl | exact S.fieldAddr rfl rfl rfl | exact S.leq | exact S.lss | exact S.eql | exact S.neq | exact S.geq | exact S.gtr | exact S.not_t | exact S.not_f | exact S.not_d | exact S.pick_tt | exact S.pick_ff | exact S.pick_td (by assumption) | exact S.pick_fd (by assumption) | exact S.pick_b | exact S.box | exact S.alloc rfl | exact S.add_one (by omega) | exact S.sub_one (by omega) (by omega) | exact S.add (by unfold In64; omega) | exact S.sub (by unfold In64; omega) | exact S.mul (by unfold In64; omega) | exact S.add_w | exact S.sub_w | exact S.mul_w | exact S.min2 | exact S.max2 | exact S.build rfl rfl rfl | exact S.buildA rfl rfl rfl rfl | exact S.nilCheck | exact S.extract rfl | exact S.makeFunc | exact S.field1 rfl rfl rfl rfl rfl rfl rfl)) | (refine RT.goK0 rfl rfl rfl ?_; apply Nx.of; (first | exact S.store rfl rfl rfl rfl rfl rfl | exact S.makeFunc | exact S.nilCheck | exact S.field1 rfl rfl rfl rfl rfl rfl rfl)))
    (first | refine rt_go rfl ?_ | refine rt_go (by exact rfl) ?_)
    rfl
end Go.Proofs.Ytcoklgmdifggbaa
