/- Texts of one kind, one behind the other: Dq, Dr, Ds, Dt, Dv, Lh. -/
import Derived.Test.YtjncfddnphhofaaT5
set_option linter.unusedVariables false
set_option linter.unusedSimpArgs false
/- Numbers chosen by numbers: Wrap, Pick, From; Total, Holds. -/
namespace Go.Proofs.Ytjncfddnphhofaa
open Go Go.Ev

/-- A list of numbers, element by element. -/
abbrev fE (f : Nat → Int) (n : Nat) : List AV := flat (fun i => [f i]) (List.range n)
theorem fE_len (f : Nat → Int) (n : Nat) : (fE f n).length = n := by rw [flat_len (s := 1) (fun _ => rfl), List.length_range, Nat.mul_one]
theorem fE_succ (f : Nat → Int) (n : Nat) : fE f (n + 1) = fE f n ++ [.int .i64 (f n)] := by
  show flat _ (List.range (n + 1)) = _
  rw [List.range_succ, flat_append, flat_one]; rfl
theorem fE_at (f : Nat → Int) {n k : Nat} (h : k < n) : (fE f n)[k * 1]? = some (.int .i64 (f k)) := by
  rw [Nat.mul_one]
  unfold fE flat
  rw [show (List.map (fun e => List.map (AV.int IntKind.i64) ((fun i => [f i]) e)) (List.range n)) = (List.range n).map fun e => [AV.int .i64 (f e)] from rfl]
  rw [show ((List.range n).map fun e => [AV.int .i64 (f e)]).flatten = (List.range n).map fun e => AV.int .i64 (f e) from by
    induction List.range n with
    | nil => rfl
    | cons a r ih => simp [ih]]
  simp [h]
theorem natV_fE (L : List Nat) : natV L = fE (fun i => ((L[i]?.getD 0 : Nat) : Int)) L.length := by
  refine List.ext_getElem? fun i => ?_
  by_cases h : i < L.length
  · have h1 := natV_at (l := L) h
    have h2 := fE_at (fun i => ((L[i]?.getD 0 : Nat) : Int)) h
    rw [Nat.mul_one] at h1 h2
    rw [h1, h2, List.getElem?_eq_getElem h]
    rfl
  · rw [List.getElem?_eq_none (by rw [natV_len]; omega), List.getElem?_eq_none (by rw [fE_len]; omega)]
theorem fE_pls (f : Nat → Int) (n : Nat) : Pls (fE f n) := fun σ => rens_flat _ σ _

set_option maxRecDepth 100000 in
theorem Wrap2_can (n k : Int) (hk : k ≤ 9223372036854775807) : CanS 0 Try.prog 43 0 [.int .i64 n, .int .i64 k] [] 0 fun v _ _ => v = .int .i64 (wrapV n k) := by
  refine CanS.mk Try.func43 rfl rfl rfl ?_
  by_cases h : k ≤ 0
  · repeat' (first | refine RT.nil ?_ | refine sq_n ?_ | refine Tr.seq ?_ | refine Tr.region ?_ | refine Tr.cond_t rfl ?_ | refine Tr.ret ?_ | refine sq_r ?_ | (refine RT.goK rfl rfl rfl rfl ?_; refine Nx.of (S.leq_t h) ?_) | (refine RT.goK rfl rfl rfl rfl ?_; apply Nx.of; (first | exact S.move | exact S.assign)))
    (first | refine rt_go rfl ?_)
    unfold wrapV
    rw [if_pos h]
    rfl
  · have := tmod_bd (n := n) (show 0 < k by omega)
    repeat' (first | refine RT.nil ?_ | refine sq_n ?_ | refine Tr.seq ?_ | refine Tr.region ?_ | refine Tr.cond_f rfl ?_ | refine Tr.cond_d rfl (fun _ => ?_) (fun _ => ?_) | refine Tr.skip ?_ | refine Tr.ret ?_ | (refine RT.goK rfl rfl rfl rfl ?_; refine Nx.of (S.leq_f h) ?_) | (refine RT.goK rfl rfl rfl rfl ?_; apply Nx.of; (first | exact S.move | exact S.assign | exact S.lss | exact S.add (by unfold In64; omega) | exact S.rem (by omega))))
    all_goals
      (first | refine rt_go rfl ?_)
      unfold wrapV
      rw [if_neg h]
    · rw [if_pos (by assumption)]; rfl
    · rw [if_neg (by assumption)]; rfl
theorem Wrap2_at (n k : Int) (hk : k ≤ 9223372036854775807) (H : T AObj) (c fl : Nat) : OkAt 0 Try.prog fl 43 [.int .i64 n, .int .i64 k] H c (.int .i64 (wrapV n k)) H c :=
  (Wrap2_can n k hk).pure (.int _ _) (.plain fun _ => rfl) fl

/-- The element that a number chooses. -/
def pkV (f : Nat → Int) (n : Nat) (p : Int) : Int := if n = 0 then 0 else f (wrapV p n).toNat
set_option maxRecDepth 100000 in
set_option maxHeartbeats 4000000 in
theorem Pick_can (f : Nat → Int) (n : Nat) (a : AV) (h1 : IsSl a n 0) (hn : n ≤ 9223372036854775807) (p : Int) : CanS 0 Try.prog 84 1 [a, .int .i64 p] [(0, some (.ro (fE f n)))] 1 fun v _ _ => v = .int .i64 (pkV f n p) := by
  refine CanS.mk Try.func84 rfl rfl rfl ?_
  by_cases h0 : (n : Int) = 0
  · repeat' (first | refine RT.nil ?_ | refine sq_n ?_ | refine Tr.seq ?_ | refine Tr.region ?_ | refine Tr.cond_t rfl ?_ | refine Tr.ret ?_ | refine sq_r ?_ | (refine RT.goK rfl rfl rfl rfl ?_; refine Nx.of (S.eql_t h0) ?_) | (refine RT.goK rfl rfl rfl rfl ?_; apply Nx.of; (first | exact S.move | exact S.assign)) | (refine RT.goK rfl rfl rfl rfl ?_; apply Nx.of; (first | exact S.len_sl rfl rfl rfl (by assumption))))
    (first | refine rt_go rfl ?_)
    unfold pkV
    rw [if_pos (by omega)]
    rfl
  · have hb := wrapV_bd (n := p) (k := n) (by omega)
    have e : wrapV p n = ((wrapV p n).toNat : Int) := by omega
    have hlt : (wrapV p n).toNat < n := by omega
    have x1 := fE_at f hlt
    have hv : wrapV p n < n := hb.2
    have hv0 : 0 ≤ wrapV p n := hb.1
    repeat' (first | refine RT.nil ?_ | refine sq_n ?_ | refine Tr.seq ?_ | refine Tr.region ?_ | refine Tr.cond_f rfl ?_ | refine Tr.skip ?_ | refine Tr.ret ?_ | (refine RT.goK rfl rfl rfl rfl ?_; first | refine Nx.of (S.eql_f h0) ?_ | refine Nx.of (S.load1r rfl rfl rfl x1) ?_ | refine Nx.of (S.idx_slI rfl rfl rfl h1 hv0 hv) ?_) | (refine RT.call rfl rfl rfl (Wrap2_at _ _ (by omega) _ _ _) rfl rfl (Nat.le_refl _) ?_) | (refine RT.goK rfl rfl rfl rfl ?_; apply Nx.of; (first | exact S.move | exact S.assign)) | (refine RT.goK rfl rfl rfl rfl ?_; apply Nx.of; (first | exact S.len_sl rfl rfl rfl (by assumption))))
    (first | refine rt_go rfl ?_)
    unfold pkV
    rw [if_neg (by omega)]
    rfl
/-- A window on a list of numbers, and its value seen through it. -/
structure Li (m : List (Nat × Option AObj)) (v : AV) (f : Nat → Int) (n : Nat) : Prop where
  ex : ∃ w : Wnd, (∃ o, (ofM m).get w.1 = some o ∧ (fE f n = [] ∨ ∃ ca, cellsOf o = some ca ∧ cut ca w.2.1 (fE f n).length = some (fE f n))) ∧ ∀ (W : List Wnd) (i : Nat), W[i]? = some w → ∃ a, ArgW W v a ∧ IsSl a n i
theorem Li.sl {m : List (Nat × Option AObj)} {v : AV} {f : Nat → Int} {n x : Nat} {o : AObj} (h : IsSl v n x) (hx : lookM m x = some o) (hc : cellsOf o = some (fE f n)) : Li m v f n := by
  rcases h with rfl | ⟨rfl, rfl⟩
  · exact ⟨(x, 0, none), ⟨o, getM hx, .inr ⟨_, hc, cut_all rfl⟩⟩, fun W i h => ⟨.gs i n, ArgW.gs h, IsSl.gs i n⟩⟩
  · exact ⟨(x, 0, none), ⟨o, getM hx, .inl rfl⟩, fun W i h => ⟨.nils, .pl Pl.nils, IsSl.nils i⟩⟩
theorem Li.al {m : List (Nat × Option AObj)} {x : Nat} {L : List Nat} (hx : lookM m x = some (alO L)) : Li m (alV x L) (fun i => ((L[i]?.getD 0 : Nat) : Int)) L.length := by
  obtain ⟨w, h1, h2⟩ := (Lw.al hx).ex
  rw [natV_fE] at h1
  exact ⟨w, h1, h2⟩
theorem Pick_at {m : List (Nat × Option AObj)} {c : Nat} {v : AV} {f : Nat → Int} {n : Nat} (h : Li m v f n) (hn : n ≤ 9223372036854775807) (p : Int) (fl : Nat) : OkAt 0 Try.prog fl 84 [v, .int .i64 p] (ofM m) c (.int .i64 (pkV f n p)) (ofM m) c := by
  obtain ⟨w, hw, ha⟩ := h.ex
  obtain ⟨a, h1, h2⟩ := ha [w] 0 rfl
  exact (Pick_can f n a h2 hn p).pure (.int _ _) (Entry.win (W := [w]) (CS := [fE f n]) rfl ⟨hw, fE_pls f n, trivial⟩ (show ArgsW [w] [v, .int .i64 p] [a, .int .i64 p] from ⟨h1, .pl (.int _ _), trivial⟩)) fl
noncomputable def pickF (v : AV) (f : Nat → Int) (n : Nat) : CallFn := famA (α := Int) 84 (fun p => [v, .int .i64 p]) (fun p => .int .i64 (pkV f n p)) fun _ H _ => ∃ m, H = ofM m ∧ Li m v f n
theorem pickF_calm {v : AV} {f : Nat → Int} {n : Nat} (hn : n ≤ 9223372036854775807) : CalmC 0 Try.prog (pickF v f n) := famA_calm fun p fl H c ⟨m, hm, h⟩ => by subst hm; exact Pick_at h hn p fl
theorem pickF_at {v : AV} {f : Nat → Int} {n : Nat} {m : List (Nat × Option AObj)} (h : Li m v f n) (p : Int) (fl0 c : Nat) : pickF v f n fl0 84 [v, .int .i64 p] (ofM m) c = some (.int .i64 (pkV f n p), ofM m, c) :=
  famA_at (α := Int) fl0 p ⟨m, rfl, h⟩ fun x h => by
    simp only [List.cons.injEq, AV.int.injEq, true_and, and_true] at h
    subst h
    rfl

/-- The number of a span that a number chooses. -/
def frV (lo hi p : Int) : Int := lo + wrapV p (hi - lo + 1)
theorem frV_bd {lo hi p : Int} (h : lo ≤ hi) : lo ≤ frV lo hi p ∧ frV lo hi p ≤ hi := by
  have := wrapV_bd (n := p) (k := hi - lo + 1) (by omega)
  unfold frV
  omega
set_option maxRecDepth 100000 in
set_option maxHeartbeats 4000000 in
theorem From_can (lo hi p : Int) (h : -100000 ≤ lo ∧ hi ≤ 100000 ∧ lo ≤ hi) : CanS 0 Try.prog 85 0 [.agg [.int .i64 lo, .int .i64 hi], .int .i64 p] [] 0 fun v _ _ => v = .int .i64 (frV lo hi p) := by
  have hb := frV_bd (p := p) h.2.2
  have hw := wrapV_bd (n := p) (k := hi - lo + 1) (by omega)
  refine CanS.mk Try.func85 rfl rfl rfl ?_
  repeat' (first | refine RT.nil ?_ | refine sq_n ?_ | refine Tr.seq ?_ | refine Tr.region ?_ | (refine RT.goK rfl rfl rfl rfl ?_; apply Nx.of; (first | exact S.assign | exact S.box)))
  refine Tr.openK un85_1 (by kernel_rfl) (by kernel_rfl) wrapF wrapF_calm ?_
  repeat' (first | (refine RD.free rfl rfl rfl rfl rfl rfl ?_; apply Nx.of; (first | exact S.move | exact S.assign | exact S.fieldAddr rfl rfl rfl | exact S.add (by unfold In64; omega) | exact S.sub (by unfold In64; omega))) | (refine RD.load rfl rfl rfl rfl rfl rfl rfl rfl ?_; apply Nx.of; (first | exact S.load1c rfl rfl rfl rfl)) | (refine RD.callN rfl rfl rfl rfl rfl rfl rfl rfl rfl (fun fl' => wrapF_at _ _ (by omega) fl' _ _) (fun _ => by refine srOk_all ?_; simp only [srOk]; (repeat' (first | exact trivial | refine And.intro ?_ ?_)); all_goals (first | (refine ⟨_, rfl, ?_⟩; (first | rfl)))) ?_) | refine RD.nil ⟨Nat.le_of_ble_eq_true rfl, ?_⟩)
  repeat' (first | refine sq_n ?_ | refine Tr.ret ?_)
  (first | refine rt_go rfl ?_)
  rfl
theorem From_at (lo hi p : Int) (h : -100000 ≤ lo ∧ hi ≤ 100000 ∧ lo ≤ hi) (H : T AObj) (c fl : Nat) : OkAt 0 Try.prog fl 85 [.agg [.int .i64 lo, .int .i64 hi], .int .i64 p] H c (.int .i64 (frV lo hi p)) H c :=
  (From_can lo hi p h).pure (.int _ _) (.plain fun _ => rfl) fl
noncomputable def fromF : CallFn := famA (α := Int × Int × Int) 85 (fun a => [.agg [.int .i64 a.1, .int .i64 a.2.1], .int .i64 a.2.2]) (fun a => .int .i64 (frV a.1 a.2.1 a.2.2)) fun a _ _ => -100000 ≤ a.1 ∧ a.2.1 ≤ 100000 ∧ a.1 ≤ a.2.1
theorem fromF_calm : CalmC 0 Try.prog fromF := famA_calm fun a fl H c h => From_at a.1 a.2.1 a.2.2 h H c fl
theorem fromF_at (a b p : Int) (h : -100000 ≤ a ∧ b ≤ 100000 ∧ a ≤ b) (fl0 : Nat) (H : T AObj) (c : Nat) : fromF fl0 85 [.agg [.int .i64 a, .int .i64 b], .int .i64 p] H c = some (.int .i64 (frV a b p), H, c) :=
  famA_at (α := Int × Int × Int) fl0 (a, b, p) h fun x h => by
    obtain ⟨x1, x2, x3⟩ := x
    simp only [List.cons.injEq, AV.int.injEq, AV.agg.injEq, true_and, and_true] at h
    obtain ⟨⟨rfl, rfl⟩, rfl⟩ := h
    rfl

def totV (f : Nat → Int) : Nat → Int
  | 0 => 0
  | k + 1 => totV f k + f k
set_option maxRecDepth 100000 in
set_option maxHeartbeats 4000000 in
theorem Total_can (f : Nat → Int) (n : Nat) (a : AV) (h1 : IsSl a n 0) (hn : n ≤ 1000) (hf : ∀ k, k ≤ n → -1000000 ≤ totV f k ∧ totV f k ≤ 1000000) : CanS 0 Try.prog 41 1 [a] [(0, some (.ro (fE f n)))] 1 fun v _ _ => v = .int .i64 (totV f n) := by
  refine CanS.mk Try.func41 rfl rfl rfl ?_
  repeat' (first | refine RT.nil ?_ | refine sq_n ?_ | refine Tr.seq ?_ | refine Tr.region ?_ | refine Tr.block ?_ | (refine RT.goK rfl rfl rfl rfl ?_; apply Nx.of; (first | exact S.assign)))
  refine Tr.loop (fun k : Nat => stL Try.f41.ntmps [] [(0, a), (3, .int .i64 (totV f k)), (4, .int .i64 k)] [(0, some (.ro (fE f n)))] 1) (fun k => k ≤ n) (fun k => n - k) 0 (Nat.zero_le _) (by (refine Wk.same (by decide) (by decide) (by decide) (by decide) ?_ ?_ rfl; all_goals ((try simp only [allL, allM]); (repeat' (first | exact trivial | refine And.intro ?_ ?_)); all_goals (first | rfl | exact IsSl.ren (by assumption) (nm_lt (by decide)) | exact ren_ro _ _ _ | decide)))) (fun k hk => ?_)
  by_cases hlt : k < n
  · have hlt' : (k : Int) < n := by omega
    have x1 := fE_at f hlt
    have b1 := hf k (by omega)
    have b2 := hf (k + 1) hlt
    have e1 : totV f (k + 1) = totV f k + f k := rfl
    rw [e1] at b2
    repeat' (first | refine RT.nil ?_ | refine sq_n ?_ | refine Tr.seq ?_ | refine Tr.region ?_ | refine Tr.cond_t rfl ?_ | refine Tr.skip ?_ | refine Tr.block ?_ | refine blk_n ?_ | (refine RT.goK rfl rfl rfl rfl ?_; first | refine Nx.of (S.lss_t hlt') ?_ | refine Nx.of (S.load1r rfl rfl rfl x1) ?_) | (refine RT.goK rfl rfl rfl rfl ?_; apply Nx.of; (first | exact S.move | exact S.assign | exact S.add_one (by omega) | exact S.add (by unfold In64; omega))) | (refine RT.goK rfl rfl rfl rfl ?_; apply Nx.of; (first | exact S.idx_sl rfl rfl rfl (by assumption) (by omega) | exact S.len_sl rfl rfl rfl (by assumption))))
    refine lp_n (k + 1) hlt (by omega) (by (refine Wk.same (by decide) (by decide) (by decide) (by decide) ?_ ?_ rfl; all_goals ((try simp only [allL, allM]); (repeat' (first | exact trivial | refine And.intro ?_ ?_)); all_goals (first | rfl | exact IsSl.ren (by assumption) (nm_lt (by decide)) | exact ren_ro _ _ _ | decide))))
  · obtain rfl : k = n := by omega
    have hlt' : ¬ (k : Int) < k := by omega
    repeat' (first | refine RT.nil ?_ | refine sq_n ?_ | refine Tr.seq ?_ | refine Tr.region ?_ | refine Tr.cond_f rfl ?_ | refine Tr.ret ?_ | refine Tr.exit ?_ | refine sq_x ?_ | refine blk_hit rfl ?_ | refine lp_x ?_ | (refine RT.goK rfl rfl rfl rfl ?_; first | refine Nx.of (S.lss_f hlt') ?_) | (refine RT.goK rfl rfl rfl rfl ?_; apply Nx.of; (first | exact S.move | exact S.assign)) | (refine RT.goK rfl rfl rfl rfl ?_; apply Nx.of; (first | exact S.len_sl rfl rfl rfl (by assumption))))
    (first | refine rt_go rfl ?_)
    rfl
theorem Total_at {m : List (Nat × Option AObj)} {c : Nat} {v : AV} {f : Nat → Int} {n : Nat} (h : Li m v f n) (hn : n ≤ 1000) (hf : ∀ k, k ≤ n → -1000000 ≤ totV f k ∧ totV f k ≤ 1000000) (fl : Nat) : OkAt 0 Try.prog fl 41 [v] (ofM m) c (.int .i64 (totV f n)) (ofM m) c := by
  obtain ⟨w, hw, ha⟩ := h.ex
  obtain ⟨a, h1, h2⟩ := ha [w] 0 rfl
  exact (Total_can f n a h2 hn hf).pure (.int _ _) (Entry.win (W := [w]) (CS := [fE f n]) rfl ⟨hw, fE_pls f n, trivial⟩ (show ArgsW [w] [v] [a] from ⟨h1, trivial⟩)) fl
set_option maxRecDepth 100000 in
theorem Holds_can (lo hi n : Int) : CanS 0 Try.prog 40 0 [.agg [.int .i64 lo, .int .i64 hi], .int .i64 n] [] 0 fun v _ _ => v = .bool (decide (lo ≤ n ∧ n ≤ hi)) := by
  refine CanS.mk Try.func40 rfl rfl rfl ?_
  repeat' (first | refine RT.nil ?_ | refine sq_n ?_ | refine Tr.seq ?_ | refine Tr.region ?_ | refine Tr.ret ?_ | (refine RT.call rfl rfl rfl (Amid_at _ _ _ _ _ _) rfl rfl (Nat.le_refl _) ?_) | (refine RT.goK rfl rfl rfl rfl ?_; apply Nx.of; (first | exact S.move | exact S.assign | exact S.load1c rfl rfl rfl rfl | exact S.fieldAddr rfl rfl rfl | exact S.box)))
  (first | refine rt_go rfl ?_)
  rfl
theorem Holds_t {lo hi n : Int} (h : lo ≤ n ∧ n ≤ hi) (H : T AObj) (c fl : Nat) : OkAt 0 Try.prog fl 40 [.agg [.int .i64 lo, .int .i64 hi], .int .i64 n] H c (.bool true) H c := by
  have := (Holds_can lo hi n).pure (.bool _) (.plain fun _ => rfl) (H := H) (c := c) fl
  rwa [decide_eq_true h] at this
end Go.Proofs.Ytjncfddnphhofaa

/- truly: what is so, as numbers choose it. -/
namespace Go.Proofs.Ytjncfddnphhofaa
open Go Go.Ev

theorem cost_at {B : CBook} {a1 a2 : AV} {w : Nat} (h : w < 3) : (bk B a1 a2).cells[2 + w * 1]? = some (.int .i64 (B.cost w)) := by
  obtain rfl | rfl | rfl : w = 0 ∨ w = 1 ∨ w = 2 := by omega
  all_goals rfl
section
variable (B : CBook) (bv : Nat → Int) (nb w : Nat)
def rT (i : Nat) : Int := frV (B.rl i) (B.rh i) (pkV bv nb ((i + 1 : Nat) : Int))
def dT (i : Nat) : Int := frV (B.dl i) (B.dh i) (pkV bv nb ((i : Int) + 2))
def sT (i : Nat) : Int := frV (B.sl i) (B.sh i) (pkV bv nb ((i : Int) + 3))
/-- When the coach departs, and when it comes. -/
def nowT : Nat → Int
  | 0 => 0
  | k + 1 => nowT k + (dT B bv nb k + rT B bv nb k + B.cost w) + sT B bv nb k
def coT (k : Nat) : Int := nowT B bv nb w k + (dT B bv nb k + rT B bv nb k + B.cost w)
end
def grI (x k : Nat) : AV := match k with | 0 => .nils | j + 1 => .gs x (j + 1)
def glM (r c : Nat → Int) (k : Nat) : List (Nat × Option AObj) := match k with | 0 => [] | j + 1 => [(7, some (.grown (fE r (j + 1)) 1)), (8, some (.grown (fE c (j + 1)) 1))]
theorem grI_ren (σ : Nat → Nat) {x y : Nat} (h : σ x = y) (k : Nat) : (grI x k).ren σ = grI y k := by
  cases k with
  | zero => rfl
  | succ j => show AV.gs (σ x) _ = _; rw [h]; rfl
theorem grI_ones (w : Int) (x y n : Nat) : ([.int .i64 w, grI x n, grI y n] : List AV).all AV.one = true := by cases n <;> rfl
/-- The weather that is chosen. -/
theorem pick_wea {B : CBook} (hw : weaOk B) (p : Int) : ∃ w : Nat, w < 3 ∧ hasP B.wea w ∧ pkV (fun i => (((numsL B.wea 3)[i]?.getD 0 : Nat) : Int)) (numsL B.wea 3).length p = w := by
  have hne : (numsL B.wea 3) ≠ [] := by
    obtain ⟨w, h1, h2⟩ := some_wea hw
    rw [numsL_filter]
    exact List.ne_nil_of_mem (List.mem_filter.2 ⟨List.mem_range.2 h1, dB_eq.2 h2⟩)
  have hlen : (numsL B.wea 3).length ≠ 0 := fun h => hne (List.length_eq_zero_iff.1 h)
  have hb := wrapV_bd (n := p) (k := (numsL B.wea 3).length) (by omega)
  have hlt : (wrapV p (numsL B.wea 3).length).toNat < (numsL B.wea 3).length := by omega
  refine ⟨(numsL B.wea 3)[(wrapV p (numsL B.wea 3).length).toNat], ?_, ?_, ?_⟩
  · have := List.getElem_mem hlt
    have h2 : ∀ x ∈ numsL B.wea 3, x < 3 := fun x hx => by
      rw [numsL_filter] at hx
      exact List.mem_range.1 (List.mem_filter.1 hx).1
    exact h2 _ this
  · have := List.getElem_mem hlt
    have h2 : ∀ x ∈ numsL B.wea 3, hasP B.wea x := fun x hx => by
      rw [numsL_filter] at hx
      exact dB_eq.1 (List.mem_filter.1 hx).2
    exact h2 _ this
  · unfold pkV
    rw [if_neg hlen]
    show (((numsL B.wea 3)[(wrapV p (numsL B.wea 3).length).toNat]?.getD 0 : Nat) : Int) = _
    rw [List.getElem?_eq_getElem hlt]
    rfl
section
variable {B : CBook} {bv : Nat → Int} {nb w : Nat}
theorem truly_bd (hB : bkOk B) (hw : w < 3) {i : Nat} (hi : i < B.ns) : (B.rl i ≤ rT B bv nb i ∧ rT B bv nb i ≤ B.rh i) ∧ (B.dl i ≤ dT B bv nb i ∧ dT B bv nb i ≤ B.dh i) ∧ (B.sl i ≤ sT B bv nb i ∧ sT B bv nb i ≤ B.sh i) ∧
    (1 ≤ B.dl i ∧ B.dh i ≤ 90 ∧ 0 ≤ B.rl i ∧ B.rh i ≤ 30 ∧ 0 ≤ B.sl i ∧ B.sh i ≤ 20 ∧ B.dl i ≤ B.dh i ∧ B.rl i ≤ B.rh i ∧ B.sl i ≤ B.sh i) := by
  have hs := hB.1.2 i hi
  unfold stOk at hs
  exact ⟨frV_bd (by omega), frV_bd (by omega), frV_bd (by omega), by omega⟩
theorem cost_bd (hB : bkOk B) (hw : w < 3) : 0 ≤ B.cost w ∧ B.cost w ≤ 30 := by
  obtain ⟨c0, c1, c2⟩ := hB.2.1.2
  obtain rfl | rfl | rfl : w = 0 ∨ w = 1 ∨ w = 2 := by omega
  · exact c0
  · exact c1
  · exact c2
theorem now_bd (hB : bkOk B) (hw : w < 3) : ∀ k, k ≤ B.ns → 0 ≤ nowT B bv nb w k ∧ nowT B bv nb w k ≤ 170 * k
  | 0, _ => by simp [nowT]
  | k + 1, h => by
    have h1 := now_bd hB hw k (by omega)
    have h2 := truly_bd (bv := bv) (nb := nb) hB hw (show k < B.ns by omega)
    have h3 := cost_bd hB hw
    rw [nowT]
    omega
end
theorem tr_wk {B : CBook} {a1 a2 a3 : AV} {bv : Nat → Int} {nb w k : Nat} {r e : Nat → Int} {nw : Int} (h1 : IsSl a1 B.ns 0) (h2 : IsSl a2 B.nc 1) (h3 : IsSl a3 nb 2) {n c x y : Nat} {l : List (Nat × AV)} {m : List (Nat × Option AObj)} (hx : 7 ≤ x) (hy : 7 ≤ y) (hxy : x ≠ y) (hxc : x < c + 9) (hyc : y < c + 9) (hc : 7 ≤ c)
    (t1 : Go.Ev.look l 1 = some a3) (t2 : Go.Ev.look l 2 = some (.ptr 3 0)) (t4 : Go.Ev.look l 4 = some (.ptr 4 0)) (t5 : Go.Ev.look l 5 = some (.ptr 6 0)) (t6 : Go.Ev.look l 6 = some (.int .i64 nw)) (t7 : Go.Ev.look l 7 = some (.int .i64 (k : Int)))
    (g6 : lookM m 6 = some (.cells [.int .i64 (w : Int), grI x k, grI y k])) (g4 : lookM m 4 = some (.cells [.int .i64 0, .nils, .nils])) (g3 : lookM m 3 = some (.cells (bk B a1 a2).cells)) (g0 : lookM m 0 = some (oSt B)) (g1 : lookM m 1 = some (oCk B)) (g2 : lookM m 2 = some (.ro (fE bv nb)))
    (gr : k ≠ 0 → lookM m x = some (.grown (fE r k) 1)) (ge : k ≠ 0 → lookM m y = some (.grown (fE e k) 1)) :
    Wk 0 3 3 (stL n [] l m c) (stL n [] [(1, a3), (2, .ptr 3 0), (4, .ptr 4 0), (5, .ptr 6 0), (6, .int .i64 nw), (7, .int .i64 (k : Int))] ([(6, some (.cells [.int .i64 (w : Int), grI 7 k, grI 8 k])), (4, some (.cells [.int .i64 0, .nils, .nils])), (3, some (.cells (bk B a1 a2).cells)), (0, some (oSt B)), (1, some (oCk B)), (2, some (.ro (fE bv nb)))] ++ glM r e k) 9) := by
  let σ : Nat → Nat := fun z => if z < 7 then z else if z = 7 then x else if z = 8 then y else c + z
  have s7 : σ 7 = x := rfl
  have s8 : σ 8 = y := rfl
  have hm : allM (fun z o => lookM m (σ z) = some (o.ren σ)) ([(6, some (.cells [.int .i64 (w : Int), grI 7 k, grI 8 k])), (4, some (.cells [.int .i64 0, .nils, .nils])), (3, some (.cells (bk B a1 a2).cells)), (0, some (oSt B)), (1, some (oCk B)), (2, some (.ro (fE bv nb)))] ++ glM r e k) := by
    have hk : allM (fun z o => lookM m (σ z) = some (o.ren σ)) (glM r e k) := by
      cases k with
      | zero => trivial
      | succ j => exact ⟨(gr (by omega)).trans (congrArg some (ren_grown _ σ _ _).symm), (ge (by omega)).trans (congrArg some (ren_grown _ σ _ _).symm), trivial⟩
    have e6 : (AObj.cells [.int .i64 (w : Int), grI 7 k, grI 8 k]).ren σ = .cells [.int .i64 (w : Int), grI x k, grI y k] := by
      simp only [AObj.ren, AV.ren, AV.rens, grI_ren σ s7, grI_ren σ s8]
    exact ⟨g6.trans (congrArg some e6.symm), g4.trans rfl, g3.trans (congrArg some (bkc_ren (σ := σ) h1 h2 rfl rfl).symm), g0.trans (congrArg some (ren_ro _ σ _).symm), g1.trans (congrArg some (ren_ro _ σ _).symm), g2.trans (congrArg some (ren_ro _ σ _).symm), hk⟩
  refine Wk.by σ (by decide) (by decide) (by decide) ⟨t1.trans (congrArg some (h3.ren (σ := σ) rfl).symm), t2, t4, t5, t6, t7, trivial⟩ hm rfl (fun u hu v hv huv ee => ?_) (fun u hu => ?_) (fun u hu => ?_) (fun u hu => ?_)
  · have low : ∀ u, u ∈ ([(6, some (.cells [.int .i64 (w : Int), grI 7 k, grI 8 k])), (4, some (.cells [.int .i64 0, .nils, .nils])), (3, some (.cells (bk B a1 a2).cells)), (0, some (oSt B)), (1, some (oCk B)), (2, some (.ro (fE bv nb)))] ++ glM r e k : List (Nat × Option AObj)).map (fun e => e.1) → u < 9 := fun u hu => by
      cases k <;> simp [glM] at hu <;> omega
    have q1 := low u hu
    have q2 := low v hv
    simp only [σ] at ee
    (repeat' split at ee) <;> omega
  all_goals (simp only [σ]; (repeat' split) <;> omega)
set_option maxRecDepth 100000 in
set_option maxHeartbeats 4000000 in
theorem truly_can (B : CBook) (a1 a2 a3 : AV) (bv : Nat → Int) (nb w : Nat) (h1 : IsSl a1 B.ns 0) (h2 : IsSl a2 B.nc 1) (h3 : IsSl a3 nb 2) (hnb : nb ≤ 9223372036854775807) (hB : bkOk B) (hw3 : w < 3) (hwe : pkV (fun i => (((numsL B.wea 3)[i]?.getD 0 : Nat) : Int)) (numsL B.wea 3).length (pkV bv nb 0) = w) : CanS 0 Try.prog 36 3 [bk B a1 a2, a3] [(0, some (oSt B)), (1, some (oCk B)), (2, some (.ro (fE bv nb)))] 3 fun v H1 c1 => v = .agg [.int .i64 (w : Int), grI 7 B.ns, grI 8 B.ns] ∧ c1 = 9 ∧ H1.get 7 = some (.grown (fE (rT B bv nb) B.ns) 1) ∧ H1.get 8 = some (.grown (fE (coT B bv nb w) B.ns) 1) := by
  have hlen := numsL_len B.wea 3
  have hns := hB.1.1
  have pfC : CalmC 0 Try.prog (alts [pickF a3 bv nb, fromF]) := alts_calm fun g hg => by
    simp only [List.mem_cons, List.not_mem_nil, or_false] at hg
    rcases hg with rfl | rfl
    · exact pickF_calm hnb
    · exact fromF_calm
  refine CanS.mk Try.func36 rfl rfl rfl ?_
  repeat' (first | refine RT.nil ?_ | refine sq_n ?_ | refine Tr.seq ?_ | refine Tr.region ?_ | refine Tr.block ?_ | (refine RT.call rfl rfl rfl (All_at B.wea 3 (by decide) (fun x o hx => by have := lookM_mem hx; simp at this; omega) _) rfl rfl (by decide) ?_) | (refine RT.call rfl rfl rfl (Pick_at (Li.sl h3 (x := 2) rfl rfl) hnb _ _) rfl rfl (Nat.le_refl _) ?_) | (refine RT.call rfl rfl rfl (val_is (congrArg (AV.int .i64) hwe) (Pick_at (Li.al rfl) (by omega) _ _)) rfl rfl (Nat.le_refl _) ?_) | (refine RT.goK rfl rfl rfl rfl ?_; apply Nx.of; (first | exact S.move | exact S.assign | exact S.load1c rfl rfl rfl rfl | exact S.fieldAddr rfl rfl rfl | exact S.box | exact S.alloc rfl | exact S.build rfl rfl rfl)) | (refine RT.goK0 rfl rfl rfl ?_; apply Nx.of; (first | exact S.store rfl rfl rfl rfl rfl rfl)))
  refine Tr.loop (fun k : Nat => stL Try.f36.ntmps [] [(1, a3), (2, .ptr 3 0), (4, .ptr 4 0), (5, .ptr 6 0), (6, .int .i64 (nowT B bv nb w k)), (7, .int .i64 (k : Int))] ([(6, some (.cells [.int .i64 (w : Int), grI 7 k, grI 8 k])), (4, some (.cells [.int .i64 0, .nils, .nils])), (3, some (.cells (bk B a1 a2).cells)), (0, some (oSt B)), (1, some (oCk B)), (2, some (.ro (fE bv nb)))] ++ glM (rT B bv nb) (coT B bv nb w) k) 9) (fun k => k ≤ B.ns) (fun k => B.ns - k) 0 (Nat.zero_le _) ?_ (fun k hk => ?_)
  · exact tr_wk h1 h2 h3 (x := 7) (y := 8) (by decide) (by decide) (by decide) (by decide) (by decide) (by decide) rfl rfl rfl rfl rfl rfl rfl rfl rfl rfl rfl rfl (fun h => absurd rfl h) (fun h => absurd rfl h)
  by_cases hlt : k < B.ns
  · have hlt' : (k : Int) < B.ns := by omega
    have hb := truly_bd (bv := bv) (nb := nb) hB hw3 hlt
    have hcb := cost_bd hB hw3
    have hnw := now_bd (bv := bv) (nb := nb) hB hw3 k hk
    have hr1 : B.rl k ≤ frV (B.rl k) (B.rh k) (pkV bv nb ((k + 1 : Nat) : Int)) ∧ frV (B.rl k) (B.rh k) (pkV bv nb ((k + 1 : Nat) : Int)) ≤ B.rh k := hb.1
    have hd1 : B.dl k ≤ frV (B.dl k) (B.dh k) (pkV bv nb ((k : Int) + 2)) ∧ frV (B.dl k) (B.dh k) (pkV bv nb ((k : Int) + 2)) ≤ B.dh k := hb.2.1
    have hs1 : B.sl k ≤ frV (B.sl k) (B.sh k) (pkV bv nb ((k : Int) + 3)) ∧ frV (B.sl k) (B.sh k) (pkV bv nb ((k : Int) + 3)) ≤ B.sh k := hb.2.2.1
    have hall := hb.2.2.2
    clear hb
    cases k with
    | zero =>
      repeat' (first | refine RT.nil ?_ | refine sq_n ?_ | refine Tr.seq ?_ | refine Tr.region ?_ | refine Tr.cond_t rfl ?_ | refine Tr.skip ?_ | refine Tr.block ?_ | (refine RT.goK rfl rfl rfl rfl ?_; refine Nx.of (S.lss_t hlt') ?_) | (refine RT.goK rfl rfl rfl rfl ?_; apply Nx.of; (first | exact S.move | exact S.load1c rfl rfl rfl rfl | exact S.fieldAddr rfl rfl rfl | exact S.alloc rfl)) | (refine RT.goK0 rfl rfl rfl ?_; apply Nx.of; (first | exact S.store rfl rfl rfl rfl rfl rfl)) | (refine RT.goK rfl rfl rfl rfl ?_; apply Nx.of; (first | exact S.idx_sl rfl rfl rfl (by assumption) (by omega) | exact S.rowN0 rfl rfl rfl (fun _ => rfl) (range_at (by omega)) rfl | exact S.len_sl rfl rfl rfl (by assumption))))
      refine Tr.openK un36_6 (by kernel_rfl) (by kernel_rfl) (alts [pickF a3 bv nb, fromF]) pfC ?_
      repeat' (first | (refine RD.free rfl rfl rfl rfl rfl rfl ?_; apply Nx.of; (first | exact S.move | exact S.assign | exact S.fieldAddr rfl rfl rfl | exact S.add_one (by omega))) | (refine RD.load rfl rfl rfl rfl rfl rfl rfl rfl ?_; apply Nx.of; (first | exact S.loadNc rfl rfl rfl rfl)) | (refine RD.callN rfl rfl rfl rfl rfl rfl rfl rfl rfl (fun fl' => alts_hd (pickF_at (Li.sl h3 (x := 2) rfl rfl) _ _ _)) (fun _ => by refine srOk_all ?_; simp only [srOk]; (repeat' (first | exact trivial | refine And.intro ?_ ?_)); all_goals (first | (refine ⟨_, rfl, ?_⟩; (first | rfl)))) ?_) | (refine RD.callN rfl rfl rfl rfl rfl rfl rfl rfl rfl (fun fl' => (alts_tl (famA_ne _ (by decide))).trans (alts_hd (fromF_at _ _ _ (by omega) _ _ _))) (fun _ => by refine srOk_all ?_; simp only [srOk]; (repeat' (first | exact trivial | refine And.intro ?_ ?_)); all_goals (first | exact trivial | (refine ⟨_, rfl, ?_⟩; (first | rfl | (simp [rfO, rfVs, rfV, rfVs_flat]; done) | (simp [bk, AV.cells, pbC, rfO, rfVs, rfV, h1.rf, h2.rf, grI, fE, rfVs_flat]; done))))) ?_) | refine RD.nil ⟨Nat.le_of_ble_eq_true rfl, ?_⟩)
      repeat' (first | refine sq_n ?_ | refine Tr.seq ?_)
      refine Tr.openK un36_7 (by kernel_rfl) (by kernel_rfl) (alts [pickF a3 bv nb, fromF]) pfC ?_
      repeat' (first | (refine RD.free rfl rfl rfl rfl rfl rfl ?_; apply Nx.of; (first | exact S.move | exact S.assign | exact S.fieldAddr rfl rfl rfl | exact S.add (by unfold In64; omega) | exact S.idx_arr rfl rfl rfl (show _ < 3 by omega))) | (refine RD.load rfl rfl rfl rfl rfl rfl rfl rfl ?_; apply Nx.of; (first | exact S.loadNc rfl rfl rfl rfl)) | (refine RD.load rfl rfl rfl rfl rfl rfl rfl (by refine us_all ?_; simp only [usOk, cond_true, cond_false]; (repeat' (first | exact trivial | refine And.intro ?_ ?_)); all_goals (first | rfl | exact .inl trivial | (refine Or.inr ⟨_, _, _, rfl, getM rfl, getM rfl, ?_⟩; (first | rfl | (simp [bk, AV.cells, pbC, rfO, rfVs, rfV, h1.rf, h2.rf, grI, fE, rfVs_flat]; done))))) ?_; apply Nx.of; (first | exact S.load1c rfl rfl rfl rfl | exact S.load1c rfl rfl rfl (cost_at hw3))) | (refine RD.callN rfl rfl rfl rfl rfl rfl rfl rfl rfl (fun fl' => alts_hd (pickF_at (Li.sl h3 (x := 2) rfl rfl) _ _ _)) (fun _ => by refine srOk_all ?_; simp only [srOk]; (repeat' (first | exact trivial | refine And.intro ?_ ?_)); all_goals (first | (refine ⟨_, rfl, ?_⟩; (first | rfl)))) ?_) | (refine RD.callN rfl rfl rfl rfl rfl rfl rfl rfl rfl (fun fl' => (alts_tl (famA_ne _ (by decide))).trans (alts_hd (fromF_at _ _ _ (by omega) _ _ _))) (fun _ => by refine srOk_all ?_; simp only [srOk]; (repeat' (first | exact trivial | refine And.intro ?_ ?_)); all_goals (first | exact trivial | (refine ⟨_, rfl, ?_⟩; (first | rfl | (simp [rfO, rfVs, rfV, rfVs_flat]; done) | (simp [bk, AV.cells, pbC, rfO, rfVs, rfV, h1.rf, h2.rf, grI, fE, rfVs_flat]; done))))) ?_) | refine RD.nil ⟨Nat.le_of_ble_eq_true rfl, ?_⟩)
      repeat' (first | refine sq_n ?_ | refine Tr.seq ?_)
      refine Tr.openK un36_8 (by kernel_rfl) (by kernel_rfl) noCall noCall_calm ?_
      repeat' (first | (refine RD.wide rfl rfl rfl rfl rfl rfl rfl rfl ?_; (first | refine Nx.of (S.append_nilI rfl rfl rfl rfl rfl rfl rfl rfl rfl rfl rfl) ⟨rfl, ?_⟩)) | (refine RD.free rfl rfl rfl rfl rfl rfl ?_; apply Nx.of; (first | exact S.move | exact S.fieldAddr rfl rfl rfl)) | (refine RD.new rfl rfl rfl rfl rfl rfl ?_; apply Nx.of; (first | exact S.buildSlice rfl rfl rfl rfl rfl rfl rfl)) | (refine RD.load rfl rfl rfl rfl rfl rfl rfl rfl ?_; apply Nx.of; (first | exact S.load1c rfl rfl rfl rfl)) | (refine RD.store rfl rfl rfl rfl rfl rfl rfl ?_; apply Nx.of; (first | exact S.store rfl rfl rfl rfl rfl rfl)) | (refine RD.load rfl rfl rfl rfl rfl rfl rfl (by refine us_all ?_; simp only [usOk, cond_true, cond_false]; (repeat' (first | exact trivial | refine And.intro ?_ ?_)); all_goals (first | rfl | exact .inl trivial | (refine Or.inr ⟨_, _, _, rfl, getM rfl, getM rfl, ?_⟩; (first | rfl)))) ?_; apply Nx.of; (first | exact S.load1c rfl rfl rfl rfl)) | refine RD.nil ⟨Nat.le_of_ble_eq_true rfl, ?_⟩)
      repeat' (first | refine sq_n ?_)
      refine Tr.openK un36_9 (by kernel_rfl) (by kernel_rfl) (alts [pickF a3 bv nb, fromF]) pfC ?_
      repeat' (first | (refine RD.free rfl rfl rfl rfl rfl rfl ?_; apply Nx.of; (first | exact S.move | exact S.assign | exact S.fieldAddr rfl rfl rfl | exact S.add (by unfold In64; omega))) | (refine RD.load rfl rfl rfl rfl rfl rfl rfl rfl ?_; apply Nx.of; (first | exact S.loadNc rfl rfl rfl rfl)) | (refine RD.callN rfl rfl rfl rfl rfl rfl rfl rfl rfl (fun fl' => alts_hd (pickF_at (Li.sl h3 (x := 2) rfl rfl) _ _ _)) (fun _ => by refine srOk_all ?_; simp only [srOk]; (repeat' (first | exact trivial | refine And.intro ?_ ?_)); all_goals (first | (refine ⟨_, rfl, ?_⟩; (first | rfl)))) ?_) | (refine RD.callN rfl rfl rfl rfl rfl rfl rfl rfl rfl (fun fl' => (alts_tl (famA_ne _ (by decide))).trans (alts_hd (fromF_at _ _ _ (by omega) _ _ _))) (fun _ => by refine srOk_all ?_; simp only [srOk]; (repeat' (first | exact trivial | refine And.intro ?_ ?_)); all_goals (first | exact trivial | (refine ⟨_, rfl, ?_⟩; (first | rfl | (simp [rfO, rfVs, rfV, rfVs_flat]; done) | (simp [bk, AV.cells, pbC, rfO, rfVs, rfV, h1.rf, h2.rf, grI, fE, rfVs_flat]; done))))) ?_) | refine RD.nil ⟨Nat.le_of_ble_eq_true rfl, ?_⟩)
      repeat' (first | refine RT.nil ?_ | refine sq_n ?_ | refine Tr.region ?_ | refine blk_n ?_ | (refine RT.goK rfl rfl rfl rfl ?_; apply Nx.of; (first | exact S.move | exact S.assign | exact S.add_one (by omega))))
      refine lp_n 1 (by omega) (by omega) ?_
      exact tr_wk (nw := nowT B bv nb w 1) h1 h2 h3 (x := 11) (y := 13) (by decide) (by decide) (by decide) (by decide) (by decide) (by decide) rfl rfl rfl rfl rfl rfl rfl rfl rfl rfl rfl rfl (fun _ => by rw [fE_succ]; rfl) (fun _ => by rw [fE_succ]; rfl)
    | succ j =>
      repeat' (first | refine RT.nil ?_ | refine sq_n ?_ | refine Tr.seq ?_ | refine Tr.region ?_ | refine Tr.cond_t rfl ?_ | refine Tr.skip ?_ | refine Tr.block ?_ | (refine RT.goK rfl rfl rfl rfl ?_; refine Nx.of (S.lss_t hlt') ?_) | (refine RT.goK rfl rfl rfl rfl ?_; apply Nx.of; (first | exact S.move | exact S.load1c rfl rfl rfl rfl | exact S.fieldAddr rfl rfl rfl | exact S.alloc rfl)) | (refine RT.goK0 rfl rfl rfl ?_; apply Nx.of; (first | exact S.store rfl rfl rfl rfl rfl rfl)) | (refine RT.goK rfl rfl rfl rfl ?_; apply Nx.of; (first | exact S.idx_sl rfl rfl rfl (by assumption) (by omega) | exact S.rowN0 rfl rfl rfl (fun _ => rfl) (range_at (by omega)) rfl | exact S.len_sl rfl rfl rfl (by assumption))))
      refine Tr.openK un36_6 (by kernel_rfl) (by kernel_rfl) (alts [pickF a3 bv nb, fromF]) pfC ?_
      repeat' (first | (refine RD.free rfl rfl rfl rfl rfl rfl ?_; apply Nx.of; (first | exact S.move | exact S.assign | exact S.fieldAddr rfl rfl rfl | exact S.add_one (by omega))) | (refine RD.load rfl rfl rfl rfl rfl rfl rfl rfl ?_; apply Nx.of; (first | exact S.loadNc rfl rfl rfl rfl)) | (refine RD.callN rfl rfl rfl rfl rfl rfl rfl rfl rfl (fun fl' => alts_hd (pickF_at (Li.sl h3 (x := 2) rfl rfl) _ _ _)) (fun _ => by refine srOk_all ?_; simp only [srOk]; (repeat' (first | exact trivial | refine And.intro ?_ ?_)); all_goals (first | (refine ⟨_, rfl, ?_⟩; (first | rfl)))) ?_) | (refine RD.callN rfl rfl rfl rfl rfl rfl rfl rfl rfl (fun fl' => (alts_tl (famA_ne _ (by decide))).trans (alts_hd (fromF_at _ _ _ (by omega) _ _ _))) (fun _ => by refine srOk_all ?_; simp only [srOk]; (repeat' (first | exact trivial | refine And.intro ?_ ?_)); all_goals (first | exact trivial | (refine ⟨_, rfl, ?_⟩; (first | rfl | (simp [rfO, rfVs, rfV, rfVs_flat]; done) | (simp [bk, AV.cells, pbC, rfO, rfVs, rfV, h1.rf, h2.rf, grI, fE, rfVs_flat]; done))))) ?_) | refine RD.nil ⟨Nat.le_of_ble_eq_true rfl, ?_⟩)
      repeat' (first | refine sq_n ?_ | refine Tr.seq ?_)
      refine Tr.openK un36_7 (by kernel_rfl) (by kernel_rfl) (alts [pickF a3 bv nb, fromF]) pfC ?_
      repeat' (first | (refine RD.free rfl rfl rfl rfl rfl rfl ?_; apply Nx.of; (first | exact S.move | exact S.assign | exact S.fieldAddr rfl rfl rfl | exact S.add (by unfold In64; omega) | exact S.idx_arr rfl rfl rfl (show _ < 3 by omega))) | (refine RD.load rfl rfl rfl rfl rfl rfl rfl rfl ?_; apply Nx.of; (first | exact S.loadNc rfl rfl rfl rfl)) | (refine RD.load rfl rfl rfl rfl rfl rfl rfl (by refine us_all ?_; simp only [usOk, cond_true, cond_false]; (repeat' (first | exact trivial | refine And.intro ?_ ?_)); all_goals (first | rfl | exact .inl trivial | (refine Or.inr ⟨_, _, _, rfl, getM rfl, getM rfl, ?_⟩; (first | rfl | (simp [bk, AV.cells, pbC, rfO, rfVs, rfV, h1.rf, h2.rf, grI, fE, rfVs_flat]; done))))) ?_; apply Nx.of; (first | exact S.load1c rfl rfl rfl rfl | exact S.load1c rfl rfl rfl (cost_at hw3))) | (refine RD.callN rfl rfl rfl rfl rfl rfl rfl rfl rfl (fun fl' => alts_hd (pickF_at (Li.sl h3 (x := 2) rfl rfl) _ _ _)) (fun _ => by refine srOk_all ?_; simp only [srOk]; (repeat' (first | exact trivial | refine And.intro ?_ ?_)); all_goals (first | (refine ⟨_, rfl, ?_⟩; (first | rfl)))) ?_) | (refine RD.callN rfl rfl rfl rfl rfl rfl rfl rfl rfl (fun fl' => (alts_tl (famA_ne _ (by decide))).trans (alts_hd (fromF_at _ _ _ (by omega) _ _ _))) (fun _ => by refine srOk_all ?_; simp only [srOk]; (repeat' (first | exact trivial | refine And.intro ?_ ?_)); all_goals (first | exact trivial | (refine ⟨_, rfl, ?_⟩; (first | rfl | (simp [rfO, rfVs, rfV, rfVs_flat]; done) | (simp [bk, AV.cells, pbC, rfO, rfVs, rfV, h1.rf, h2.rf, grI, fE, rfVs_flat]; done))))) ?_) | refine RD.nil ⟨Nat.le_of_ble_eq_true rfl, ?_⟩)
      repeat' (first | refine sq_n ?_ | refine Tr.seq ?_)
      refine Tr.openK un36_8 (by kernel_rfl) (by kernel_rfl) noCall noCall_calm ?_
      repeat' (first | (refine RD.wide rfl rfl rfl rfl rfl rfl rfl rfl ?_; (first | refine Nx.of (S.append_gsI rfl rfl rfl rfl rfl rfl rfl rfl rfl rfl rfl rfl rfl (cut_all (by rw [fE_len, Nat.mul_one])) (by omega) rfl) ⟨rfl, ?_⟩)) | (refine RD.free rfl rfl rfl rfl rfl rfl ?_; apply Nx.of; (first | exact S.move | exact S.fieldAddr rfl rfl rfl)) | (refine RD.new rfl rfl rfl rfl rfl rfl ?_; apply Nx.of; (first | exact S.buildSlice rfl rfl rfl rfl rfl rfl rfl)) | (refine RD.load rfl rfl rfl rfl rfl rfl rfl rfl ?_; apply Nx.of; (first | exact S.load1c rfl rfl rfl rfl)) | (refine RD.store rfl rfl rfl rfl rfl rfl rfl ?_; apply Nx.of; (first | exact S.store rfl rfl rfl rfl rfl rfl)) | (refine RD.load rfl rfl rfl rfl rfl rfl rfl (by refine us_all ?_; simp only [usOk, cond_true, cond_false]; (repeat' (first | exact trivial | refine And.intro ?_ ?_)); all_goals (first | rfl | exact .inl trivial | (refine Or.inr ⟨_, _, _, rfl, getM rfl, getM rfl, ?_⟩; (first | rfl)))) ?_; apply Nx.of; (first | exact S.load1c rfl rfl rfl rfl)) | refine RD.nil ⟨Nat.le_of_ble_eq_true rfl, ?_⟩)
      repeat' (first | refine sq_n ?_)
      refine Tr.openK un36_9 (by kernel_rfl) (by kernel_rfl) (alts [pickF a3 bv nb, fromF]) pfC ?_
      repeat' (first | (refine RD.free rfl rfl rfl rfl rfl rfl ?_; apply Nx.of; (first | exact S.move | exact S.assign | exact S.fieldAddr rfl rfl rfl | exact S.add (by unfold In64; omega))) | (refine RD.load rfl rfl rfl rfl rfl rfl rfl rfl ?_; apply Nx.of; (first | exact S.loadNc rfl rfl rfl rfl)) | (refine RD.callN rfl rfl rfl rfl rfl rfl rfl rfl rfl (fun fl' => alts_hd (pickF_at (Li.sl h3 (x := 2) rfl rfl) _ _ _)) (fun _ => by refine srOk_all ?_; simp only [srOk]; (repeat' (first | exact trivial | refine And.intro ?_ ?_)); all_goals (first | (refine ⟨_, rfl, ?_⟩; (first | rfl)))) ?_) | (refine RD.callN rfl rfl rfl rfl rfl rfl rfl rfl rfl (fun fl' => (alts_tl (famA_ne _ (by decide))).trans (alts_hd (fromF_at _ _ _ (by omega) _ _ _))) (fun _ => by refine srOk_all ?_; simp only [srOk]; (repeat' (first | exact trivial | refine And.intro ?_ ?_)); all_goals (first | exact trivial | (refine ⟨_, rfl, ?_⟩; (first | rfl | (simp [rfO, rfVs, rfV, rfVs_flat]; done) | (simp [bk, AV.cells, pbC, rfO, rfVs, rfV, h1.rf, h2.rf, grI, fE, rfVs_flat]; done))))) ?_) | refine RD.nil ⟨Nat.le_of_ble_eq_true rfl, ?_⟩)
      repeat' (first | refine RT.nil ?_ | refine sq_n ?_ | refine Tr.region ?_ | refine blk_n ?_ | (refine RT.goK rfl rfl rfl rfl ?_; apply Nx.of; (first | exact S.move | exact S.assign | exact S.add_one (by omega))))
      refine lp_n (j + 2) (by omega) (by omega) ?_
      exact tr_wk (nw := nowT B bv nb w (j + 2)) h1 h2 h3 (x := 11) (y := 13) (by decide) (by decide) (by decide) (by decide) (by decide) (by decide) rfl rfl rfl rfl rfl rfl rfl rfl rfl rfl rfl rfl (fun _ => by show _ = some (AObj.grown (fE (rT B bv nb) (j + 1 + 1)) 1); rw [fE_succ (rT B bv nb) (j + 1)]; rfl) (fun _ => by show _ = some (AObj.grown (fE (coT B bv nb w) (j + 1 + 1)) 1); rw [fE_succ (coT B bv nb w) (j + 1)]; rfl)
  · obtain rfl : k = B.ns := by omega
    have hlt' : ¬ (B.ns : Int) < B.ns := by omega
    obtain ⟨j, hj⟩ : ∃ j, B.ns = j + 1 := ⟨B.ns - 1, by omega⟩
    repeat' (first | refine RT.nil ?_ | refine sq_n ?_ | refine Tr.seq ?_ | refine Tr.region ?_ | refine Tr.cond_f rfl ?_ | refine Tr.ret ?_ | refine Tr.exit ?_ | refine sq_x ?_ | refine blk_hit rfl ?_ | refine lp_x ?_ | (refine RT.goK rfl rfl rfl rfl ?_; refine Nx.of (S.lss_f hlt') ?_) | (refine RT.goK rfl rfl rfl rfl ?_; apply Nx.of; (first | exact S.move | exact S.load1c rfl rfl rfl rfl | exact S.loadNc rfl rfl rfl rfl | exact S.fieldAddr rfl rfl rfl)) | (refine RT.goK0 rfl rfl rfl ?_; apply Nx.of; (first | exact S.store rfl rfl (grI_ones _ _ _ _) rfl rfl rfl)) | (refine RT.goK rfl rfl rfl rfl ?_; apply Nx.of; (first | exact S.len_sl rfl rfl rfl (by assumption))))
    (first | refine rt_go rfl ?_)
    refine ⟨rfl, rfl, ?_, ?_⟩
    · rw [hj]; exact getM rfl
    · rw [hj]; exact getM rfl
end Go.Proofs.Ytjncfddnphhofaa

/- rightly: a book whose clocks are right, as a number lets them be. -/
namespace Go.Proofs.Ytjncfddnphhofaa
open Go Go.Ev

/-- What a clock reads. -/
def rdV (B : CBook) (e : Nat → Int) (n : Int) (k : Nat) : Int := e (B.ck k).toNat + frV (-(B.er k)) (B.er k) (IntKind.i64.wrap (n + (k : Int)))
def riE (B : CBook) (rv : Nat → Int) (k : Nat) : List Int := [B.ck k, rv k, B.er k]
noncomputable def riL (rv : Nat → Int) (k : Nat) : List Nat := (List.range k).filter fun i => dB (0 ≤ rv i ∧ rv i ≤ 600)
theorem riL_t {rv : Nat → Int} {k : Nat} (h : 0 ≤ rv k ∧ rv k ≤ 600) : riL rv (k + 1) = riL rv k ++ [k] := by
  unfold riL
  rw [List.range_succ, List.filter_append, List.filter_cons_of_pos (by exact dB_tt h)]; rfl
theorem riL_f {rv : Nat → Int} {k : Nat} (h : ¬ (0 ≤ rv k ∧ rv k ≤ 600)) : riL rv (k + 1) = riL rv k := by
  unfold riL
  rw [List.range_succ, List.filter_append, List.filter_cons_of_neg (by rw [dB_ff h]; decide)]; simp
theorem riL_len (rv : Nat → Int) (k : Nat) : (riL rv k).length ≤ k := by
  have := List.length_filter_le (fun i => dB (0 ≤ rv i ∧ rv i ≤ 600)) (List.range k)
  rwa [List.length_range] at this
theorem riL_mem {rv : Nat → Int} {n k : Nat} : k ∈ riL rv n ↔ k < n ∧ (0 ≤ rv k ∧ rv k ≤ 600) := by
  unfold riL
  rw [List.mem_filter, List.mem_range]
  exact and_congr Iff.rfl dB_eq
def rwM (enc : Nat → List Int) (x : Nat) (K : List Nat) : List (Nat × Option AObj) := match K with | [] => [] | _ :: _ => [(x, some (.grown (flat enc K) 3))]
theorem ri_wk {B : CBook} {a1 a2 a3 a4 : AV} {r e rv : Nat → Int} {w k : Nat} {n : Int} {K : List Nat} (h1 : IsSl a1 B.ns 0) (h2 : IsSl a2 B.nc 1) (h3 : IsSl a3 B.ns 2) (h4 : IsSl a4 B.ns 3) {nt c x : Nat} {l : List (Nat × AV)} {m : List (Nat × Option AObj)} (hx : 8 ≤ x) (hc : 8 ≤ c)
    (t2 : Go.Ev.look l 2 = some (.int .i64 n)) (t3 : Go.Ev.look l 3 = some (.ptr 4 0)) (t4 : Go.Ev.look l 4 = some (.ptr 5 0)) (t6 : Go.Ev.look l 6 = some (.ptr 6 0)) (t7 : Go.Ev.look l 7 = some (.ptr 7 0)) (t8 : Go.Ev.look l 8 = some (.int .i64 (k : Int)))
    (g7 : lookM m 7 = some (.cells (bk B a1 (grV x K)).cells)) (g6 : lookM m 6 = some (.cells (bk zbk .nils .nils).cells)) (g5 : lookM m 5 = some (.cells [.int .i64 (w : Int), a3, a4])) (g4 : lookM m 4 = some (.cells (bk B a1 a2).cells)) (g0 : lookM m 0 = some (oSt B)) (g1 : lookM m 1 = some (oCk B)) (g2 : lookM m 2 = some (.ro (fE r B.ns))) (g3 : lookM m 3 = some (.ro (fE e B.ns)))
    (gK : K ≠ [] → lookM m x = some (.grown (flat (riE B rv) K) 3)) : Wk 0 4 4 (stL nt [] l m c) (stL nt [] [(2, .int .i64 n), (3, .ptr 4 0), (4, .ptr 5 0), (6, .ptr 6 0), (7, .ptr 7 0), (8, .int .i64 (k : Int))] ([(7, some (.cells (bk B a1 (grV 8 K)).cells)), (6, some (.cells (bk zbk .nils .nils).cells)), (5, some (.cells [.int .i64 (w : Int), a3, a4])), (4, some (.cells (bk B a1 a2).cells)), (0, some (oSt B)), (1, some (oCk B)), (2, some (.ro (fE r B.ns))), (3, some (.ro (fE e B.ns)))] ++ rwM (riE B rv) 8 K) 9) := by
  let σ : Nat → Nat := fun y => if y < 8 then y else if y = 8 then x else c + y
  have s8 : σ 8 = x := rfl
  have hm : allM (fun y o => lookM m (σ y) = some (o.ren σ)) ([(7, some (.cells (bk B a1 (grV 8 K)).cells)), (6, some (.cells (bk zbk .nils .nils).cells)), (5, some (.cells [.int .i64 (w : Int), a3, a4])), (4, some (.cells (bk B a1 a2).cells)), (0, some (oSt B)), (1, some (oCk B)), (2, some (.ro (fE r B.ns))), (3, some (.ro (fE e B.ns)))] ++ rwM (riE B rv) 8 K) := by
    have hk : allM (fun y o => lookM m (σ y) = some (o.ren σ)) (rwM (riE B rv) 8 K) := by
      cases K with
      | nil => trivial
      | cons a q => exact ⟨(gK (by simp)).trans (congrArg some (ren_grown _ σ _ _).symm), trivial⟩
    have e5 : (AObj.cells [.int .i64 (w : Int), a3, a4]).ren σ = .cells [.int .i64 (w : Int), a3, a4] := by
      simp only [AObj.ren, AV.ren, AV.rens, h3.ren (σ := σ) rfl, h4.ren (σ := σ) rfl]
    exact ⟨g7.trans (congrArg some (bkr_ren (σ := σ) h1 rfl s8).symm), g6.trans rfl, g5.trans (congrArg some e5.symm), g4.trans (congrArg some (bkc_ren (σ := σ) h1 h2 rfl rfl).symm), g0.trans (congrArg some (ren_ro _ σ _).symm), g1.trans (congrArg some (ren_ro _ σ _).symm), g2.trans (congrArg some (ren_ro _ σ _).symm), g3.trans (congrArg some (ren_ro _ σ _).symm), hk⟩
  refine Wk.by σ (by decide) (by decide) (by decide) ⟨t2, t3, t4, t6, t7, t8, trivial⟩ hm rfl (fun u hu v hv huv ee => ?_) (fun u hu => ?_) (fun u hu => ?_) (fun u hu => ?_)
  · have low : ∀ u, u ∈ ([(7, some (.cells (bk B a1 (grV 8 K)).cells)), (6, some (.cells (bk zbk .nils .nils).cells)), (5, some (.cells [.int .i64 (w : Int), a3, a4])), (4, some (.cells (bk B a1 a2).cells)), (0, some (oSt B)), (1, some (oCk B)), (2, some (.ro (fE r B.ns))), (3, some (.ro (fE e B.ns)))] ++ rwM (riE B rv) 8 K : List (Nat × Option AObj)).map (fun e => e.1) → u < 9 := fun u hu => by
      cases K <;> simp [rwM] at hu <;> omega
    have q1 := low u hu
    have q2 := low v hv
    simp only [σ] at ee
    (repeat' split at ee) <;> omega
  all_goals (simp only [σ]; (repeat' split) <;> omega)
set_option maxRecDepth 100000 in
set_option maxHeartbeats 4000000 in
theorem rightly_can (B : CBook) (a1 a2 a3 a4 : AV) (r e : Nat → Int) (w : Nat) (n : Int) (h1 : IsSl a1 B.ns 0) (h2 : IsSl a2 B.nc 1) (h3 : IsSl a3 B.ns 2) (h4 : IsSl a4 B.ns 3) (hB : bkOk B) (he : ∀ i, i < B.ns → 0 ≤ e i ∧ e i ≤ 600) : CanS 0 Try.prog 37 4 [bk B a1 a2, .agg [.int .i64 (w : Int), a3, a4], .int .i64 n] [(0, some (oSt B)), (1, some (oCk B)), (2, some (.ro (fE r B.ns))), (3, some (.ro (fE e B.ns)))] 4 fun v H1 c1 => v = bk B a1 (grV 8 (riL (rdV B e n) B.nc)) ∧ c1 = 9 ∧ (riL (rdV B e n) B.nc ≠ [] → H1.get 8 = some (.grown (flat (riE B (rdV B e n)) (riL (rdV B e n) B.nc)) 3)) := by
  have hns := hB.1.1
  have hnc := hB.2.2.1.1
  have rfC : CalmC 0 Try.prog (alts [reachF, fromF]) := alts_calm fun g hg => by
    simp only [List.mem_cons, List.not_mem_nil, or_false] at hg
    rcases hg with rfl | rfl
    · exact reachF_calm
    · exact fromF_calm
  refine CanS.mk Try.func37 rfl rfl rfl ?_
  repeat' (first | refine RT.nil ?_ | refine sq_n ?_ | refine Tr.seq ?_ | refine Tr.region ?_ | refine Tr.block ?_ | (refine RT.goK rfl rfl rfl rfl ?_; apply Nx.of; (first | exact S.assign | exact S.loadNc rfl rfl rfl rfl | exact S.fieldAddr rfl rfl rfl | exact S.box | exact S.alloc rfl)) | (refine RT.goK0 rfl rfl rfl ?_; apply Nx.of; (first | exact S.store rfl rfl rfl rfl rfl rfl | exact S.store rfl rfl (bk_one h1 h2) rfl rfl rfl)))
  refine Tr.loop (fun k : Nat => stL Try.f37.ntmps [] [(2, .int .i64 n), (3, .ptr 4 0), (4, .ptr 5 0), (6, .ptr 6 0), (7, .ptr 7 0), (8, .int .i64 (k : Int))] ([(7, some (.cells (bk B a1 (grV 8 (riL (rdV B e n) k))).cells)), (6, some (.cells (bk zbk .nils .nils).cells)), (5, some (.cells [.int .i64 (w : Int), a3, a4])), (4, some (.cells (bk B a1 a2).cells)), (0, some (oSt B)), (1, some (oCk B)), (2, some (.ro (fE r B.ns))), (3, some (.ro (fE e B.ns)))] ++ rwM (riE B (rdV B e n)) 8 (riL (rdV B e n) k)) 9) (fun k => k ≤ B.nc) (fun k => B.nc - k) 0 (Nat.zero_le _) ?_ (fun k hk => ?_)
  · exact ri_wk (K := []) (x := 8) h1 h2 h3 h4 (by decide) (by decide) rfl rfl rfl rfl rfl rfl rfl rfl rfl rfl rfl rfl rfl rfl (fun h => absurd rfl h)
  have hlen := riL_len (rdV B e n) k
  by_cases hlt : k < B.nc
  · have hlt' : (k : Int) < B.nc := by omega
    have hck := hB.2.2.1.2 k hlt
    unfold ckOk at hck
    have hsi : (B.ck k).toNat < B.ns := by omega
    have hse : ((B.ck k).toNat : Int) = B.ck k := by omega
    have x1 := fE_at e hsi
    have hce := he (B.ck k).toNat hsi
    have hfr := frV_bd (lo := -(B.er k)) (hi := B.er k) (p := IntKind.i64.wrap (n + (k : Int))) (by omega)
    by_cases hp : 0 ≤ rdV B e n k ∧ rdV B e n k ≤ 600
    · have hA : AV.bool (decide (0 ≤ rdV B e n k ∧ rdV B e n k ≤ 600)) = .bool true := by rw [decide_eq_true hp]
      have e1 := riL_t hp
      unfold rdV at hA
      cases hl : riL (rdV B e n) k with
      | nil =>
        repeat' (first | refine RT.nil ?_ | refine sq_n ?_ | refine Tr.seq ?_ | refine Tr.region ?_ | refine Tr.cond_t rfl ?_ | refine Tr.skip ?_ | refine Tr.block ?_ | (refine RT.goK rfl rfl rfl rfl ?_; refine Nx.of (S.lss_t hlt') ?_) | (refine RT.goK rfl rfl rfl rfl ?_; apply Nx.of; (first | exact S.move | exact S.load1c rfl rfl rfl rfl | exact S.fieldAddr rfl rfl rfl | exact S.alloc rfl)) | (refine RT.goK0 rfl rfl rfl ?_; apply Nx.of; (first | exact S.store rfl rfl rfl rfl rfl rfl)) | (refine RT.goK rfl rfl rfl rfl ?_; apply Nx.of; (first | exact S.idx_sl rfl rfl rfl (by assumption) (by omega) | exact S.rowN0 rfl rfl rfl (fun _ => rfl) (range_at (by omega)) rfl | exact S.len_sl rfl rfl rfl (by assumption))))
        refine Tr.openK un37_7 (by kernel_rfl) (by kernel_rfl) (alts [reachF, fromF]) rfC ?_
        repeat' (first | (refine RD.free rfl rfl rfl rfl rfl rfl ?_; refine Nx.of (S.idx_slI rfl rfl rfl h4 (by omega) (by omega)) ?_) | (refine RD.free rfl rfl rfl rfl rfl rfl ?_; apply Nx.of; (first | exact S.move | exact S.fieldAddr rfl rfl rfl | exact S.add (by unfold In64; omega) | exact S.add_w | exact S.neg (by unfold In64; omega))) | (refine RD.load rfl rfl rfl rfl rfl rfl rfl rfl ?_; apply Nx.of; (first | exact S.load1c rfl rfl rfl rfl | exact S.row0 rfl rfl rfl (fun _ => rfl) (range_at (by omega)) rfl)) | (refine RD.store rfl rfl rfl rfl rfl rfl rfl ?_; apply Nx.of; (first | exact S.store rfl rfl rfl rfl rfl rfl)) | (refine RD.callN rfl rfl rfl rfl rfl rfl rfl rfl rfl (fun fl' => alts_hd (reachF_at _ _ fl' _ _)) (fun _ => by refine srOk_all ?_; simp only [srOk]; (repeat' (first | exact trivial | refine And.intro ?_ ?_)); all_goals (first | (refine ⟨_, rfl, ?_⟩; (first | rfl | (simp [rfO, rfVs, rfV, rfVs_flat]; done) | (simp [bk, AV.cells, pbC, rfO, rfVs, rfV, h1.rf, h2.rf, h3.rf, h4.rf]; done))))) ?_) | (refine RD.callN rfl rfl rfl rfl rfl rfl rfl rfl rfl (fun fl' => (alts_tl (famA_ne _ (by decide))).trans (alts_hd (fromF_at _ _ _ (by omega) _ _ _))) (fun _ => by refine srOk_all ?_; simp only [srOk]; (repeat' (first | exact trivial | refine And.intro ?_ ?_)); all_goals (first | (refine ⟨_, rfl, ?_⟩; (first | rfl | (simp [rfO, rfVs, rfV, rfVs_flat]; done) | (simp [bk, AV.cells, pbC, rfO, rfVs, rfV, h1.rf, h2.rf, h3.rf, h4.rf]; done))))) ?_) | refine RD.nil ⟨Nat.le_of_ble_eq_true rfl, ?_⟩)
        repeat' (first | refine RT.nil ?_ | refine sq_n ?_ | refine Tr.seq ?_ | refine Tr.region ?_ | refine Tr.cond_t rfl ?_ | refine blk_n ?_ | (refine RT.call rfl rfl rfl (val_is hA (Amid_at _ _ _ _ _ _)) rfl rfl (Nat.le_refl _) ?_) | (refine RT.goK rfl rfl rfl rfl ?_; apply Nx.of; (first | exact S.append_nil rfl rfl rfl rfl rfl rfl rfl rfl rfl rfl rfl)) | (refine RT.goK rfl rfl rfl rfl ?_; apply Nx.of; (first | exact S.move | exact S.assign | exact S.load1c rfl rfl rfl rfl | exact S.loadNc rfl rfl rfl rfl | exact S.fieldAddr rfl rfl rfl | exact S.add_one (by omega) | exact S.buildSlice rfl rfl rfl rfl rfl rfl rfl)) | (refine RT.goK0 rfl rfl rfl ?_; apply Nx.of; (first | exact S.store rfl rfl rfl rfl rfl rfl)))
        refine lp_n (k + 1) hlt (by omega) ?_
        rw [e1, hl]
        exact ri_wk (K := [k]) (x := 11) h1 h2 h3 h4 (by decide) (by decide) rfl rfl rfl rfl rfl rfl rfl rfl rfl rfl rfl rfl rfl rfl (fun _ => rfl)
      | cons q s =>
        have hcut : cut (flat (riE B (rdV B e n)) (q :: s)) 0 ((q :: s).length * 3) = some (flat (riE B (rdV B e n)) (q :: s)) := cut_all (by rw [flat_len (s := 3) (fun _ => rfl)])
        rw [hl] at hlen
        repeat' (first | refine RT.nil ?_ | refine sq_n ?_ | refine Tr.seq ?_ | refine Tr.region ?_ | refine Tr.cond_t rfl ?_ | refine Tr.skip ?_ | refine Tr.block ?_ | (refine RT.goK rfl rfl rfl rfl ?_; refine Nx.of (S.lss_t hlt') ?_) | (refine RT.goK rfl rfl rfl rfl ?_; apply Nx.of; (first | exact S.move | exact S.load1c rfl rfl rfl rfl | exact S.fieldAddr rfl rfl rfl | exact S.alloc rfl)) | (refine RT.goK0 rfl rfl rfl ?_; apply Nx.of; (first | exact S.store rfl rfl rfl rfl rfl rfl)) | (refine RT.goK rfl rfl rfl rfl ?_; apply Nx.of; (first | exact S.idx_sl rfl rfl rfl (by assumption) (by omega) | exact S.rowN0 rfl rfl rfl (fun _ => rfl) (range_at (by omega)) rfl | exact S.len_sl rfl rfl rfl (by assumption))))
        refine Tr.openK un37_7 (by kernel_rfl) (by kernel_rfl) (alts [reachF, fromF]) rfC ?_
        repeat' (first | (refine RD.free rfl rfl rfl rfl rfl rfl ?_; refine Nx.of (S.idx_slI rfl rfl rfl h4 (by omega) (by omega)) ?_) | (refine RD.free rfl rfl rfl rfl rfl rfl ?_; apply Nx.of; (first | exact S.move | exact S.fieldAddr rfl rfl rfl | exact S.add (by unfold In64; omega) | exact S.add_w | exact S.neg (by unfold In64; omega))) | (refine RD.load rfl rfl rfl rfl rfl rfl rfl rfl ?_; apply Nx.of; (first | exact S.load1c rfl rfl rfl rfl | exact S.row0 rfl rfl rfl (fun _ => rfl) (range_at (by omega)) rfl)) | (refine RD.store rfl rfl rfl rfl rfl rfl rfl ?_; apply Nx.of; (first | exact S.store rfl rfl rfl rfl rfl rfl)) | (refine RD.callN rfl rfl rfl rfl rfl rfl rfl rfl rfl (fun fl' => alts_hd (reachF_at _ _ fl' _ _)) (fun _ => by refine srOk_all ?_; simp only [srOk]; (repeat' (first | exact trivial | refine And.intro ?_ ?_)); all_goals (first | (refine ⟨_, rfl, ?_⟩; (first | rfl | (simp [rfO, rfVs, rfV, rfVs_flat]; done) | (simp [bk, AV.cells, pbC, rfO, rfVs, rfV, h1.rf, h2.rf, h3.rf, h4.rf]; done))))) ?_) | (refine RD.callN rfl rfl rfl rfl rfl rfl rfl rfl rfl (fun fl' => (alts_tl (famA_ne _ (by decide))).trans (alts_hd (fromF_at _ _ _ (by omega) _ _ _))) (fun _ => by refine srOk_all ?_; simp only [srOk]; (repeat' (first | exact trivial | refine And.intro ?_ ?_)); all_goals (first | (refine ⟨_, rfl, ?_⟩; (first | rfl | (simp [rfO, rfVs, rfV, rfVs_flat]; done) | (simp [bk, AV.cells, pbC, rfO, rfVs, rfV, h1.rf, h2.rf, h3.rf, h4.rf]; done))))) ?_) | refine RD.nil ⟨Nat.le_of_ble_eq_true rfl, ?_⟩)
        repeat' (first | refine RT.nil ?_ | refine sq_n ?_ | refine Tr.seq ?_ | refine Tr.region ?_ | refine Tr.cond_t rfl ?_ | refine blk_n ?_ | (refine RT.call rfl rfl rfl (val_is hA (Amid_at _ _ _ _ _ _)) rfl rfl (Nat.le_refl _) ?_) | (refine RT.goK rfl rfl rfl rfl ?_; apply Nx.of; (first | exact S.append_gs rfl rfl rfl rfl rfl rfl rfl rfl rfl rfl rfl rfl rfl hcut (by omega) rfl)) | (refine RT.goK rfl rfl rfl rfl ?_; apply Nx.of; (first | exact S.move | exact S.assign | exact S.load1c rfl rfl rfl rfl | exact S.loadNc rfl rfl rfl rfl | exact S.fieldAddr rfl rfl rfl | exact S.add_one (by omega) | exact S.buildSlice rfl rfl rfl rfl rfl rfl rfl)) | (refine RT.goK0 rfl rfl rfl ?_; apply Nx.of; (first | exact S.store rfl rfl rfl rfl rfl rfl)))
        refine lp_n (k + 1) hlt (by omega) ?_
        rw [e1, hl]
        refine ri_wk (K := (q :: s) ++ [k]) (x := 11) h1 h2 h3 h4 (by decide) (by decide) rfl rfl rfl rfl rfl rfl ?_ rfl rfl rfl rfl rfl rfl rfl (fun _ => ?_)
        · show _ = some (AObj.cells (bk B a1 (.gs 11 ((s ++ [k]).length + 1))).cells)
          rw [List.length_append]; rfl
        · rw [flat_append]; rfl
    · have hA : AV.bool (decide (0 ≤ rdV B e n k ∧ rdV B e n k ≤ 600)) = .bool false := by rw [decide_eq_false hp]
      have e1 := riL_f hp
      unfold rdV at hA
      cases hl : riL (rdV B e n) k with
      | nil =>
        repeat' (first | refine RT.nil ?_ | refine sq_n ?_ | refine Tr.seq ?_ | refine Tr.region ?_ | refine Tr.cond_t rfl ?_ | refine Tr.skip ?_ | refine Tr.block ?_ | (refine RT.goK rfl rfl rfl rfl ?_; refine Nx.of (S.lss_t hlt') ?_) | (refine RT.goK rfl rfl rfl rfl ?_; apply Nx.of; (first | exact S.move | exact S.load1c rfl rfl rfl rfl | exact S.fieldAddr rfl rfl rfl | exact S.alloc rfl)) | (refine RT.goK0 rfl rfl rfl ?_; apply Nx.of; (first | exact S.store rfl rfl rfl rfl rfl rfl)) | (refine RT.goK rfl rfl rfl rfl ?_; apply Nx.of; (first | exact S.idx_sl rfl rfl rfl (by assumption) (by omega) | exact S.rowN0 rfl rfl rfl (fun _ => rfl) (range_at (by omega)) rfl | exact S.len_sl rfl rfl rfl (by assumption))))
        refine Tr.openK un37_7 (by kernel_rfl) (by kernel_rfl) (alts [reachF, fromF]) rfC ?_
        repeat' (first | (refine RD.free rfl rfl rfl rfl rfl rfl ?_; refine Nx.of (S.idx_slI rfl rfl rfl h4 (by omega) (by omega)) ?_) | (refine RD.free rfl rfl rfl rfl rfl rfl ?_; apply Nx.of; (first | exact S.move | exact S.fieldAddr rfl rfl rfl | exact S.add (by unfold In64; omega) | exact S.add_w | exact S.neg (by unfold In64; omega))) | (refine RD.load rfl rfl rfl rfl rfl rfl rfl rfl ?_; apply Nx.of; (first | exact S.load1c rfl rfl rfl rfl | exact S.row0 rfl rfl rfl (fun _ => rfl) (range_at (by omega)) rfl)) | (refine RD.store rfl rfl rfl rfl rfl rfl rfl ?_; apply Nx.of; (first | exact S.store rfl rfl rfl rfl rfl rfl)) | (refine RD.callN rfl rfl rfl rfl rfl rfl rfl rfl rfl (fun fl' => alts_hd (reachF_at _ _ fl' _ _)) (fun _ => by refine srOk_all ?_; simp only [srOk]; (repeat' (first | exact trivial | refine And.intro ?_ ?_)); all_goals (first | (refine ⟨_, rfl, ?_⟩; (first | rfl | (simp [rfO, rfVs, rfV, rfVs_flat]; done) | (simp [bk, AV.cells, pbC, rfO, rfVs, rfV, h1.rf, h2.rf, h3.rf, h4.rf]; done))))) ?_) | (refine RD.callN rfl rfl rfl rfl rfl rfl rfl rfl rfl (fun fl' => (alts_tl (famA_ne _ (by decide))).trans (alts_hd (fromF_at _ _ _ (by omega) _ _ _))) (fun _ => by refine srOk_all ?_; simp only [srOk]; (repeat' (first | exact trivial | refine And.intro ?_ ?_)); all_goals (first | (refine ⟨_, rfl, ?_⟩; (first | rfl | (simp [rfO, rfVs, rfV, rfVs_flat]; done) | (simp [bk, AV.cells, pbC, rfO, rfVs, rfV, h1.rf, h2.rf, h3.rf, h4.rf]; done))))) ?_) | refine RD.nil ⟨Nat.le_of_ble_eq_true rfl, ?_⟩)
        repeat' (first | refine RT.nil ?_ | refine sq_n ?_ | refine Tr.seq ?_ | refine Tr.region ?_ | refine Tr.cond_f rfl ?_ | refine Tr.skip ?_ | refine blk_n ?_ | (refine RT.call rfl rfl rfl (val_is hA (Amid_at _ _ _ _ _ _)) rfl rfl (Nat.le_refl _) ?_) | (refine RT.goK rfl rfl rfl rfl ?_; apply Nx.of; (first | exact S.move | exact S.assign | exact S.load1c rfl rfl rfl rfl | exact S.fieldAddr rfl rfl rfl | exact S.add_one (by omega))))
        refine lp_n (k + 1) hlt (by omega) ?_
        rw [e1, hl]
        exact ri_wk (K := []) (x := 8) h1 h2 h3 h4 (by decide) (by decide) rfl rfl rfl rfl rfl rfl rfl rfl rfl rfl rfl rfl rfl rfl (fun h => absurd rfl h)
      | cons q s =>
        repeat' (first | refine RT.nil ?_ | refine sq_n ?_ | refine Tr.seq ?_ | refine Tr.region ?_ | refine Tr.cond_t rfl ?_ | refine Tr.skip ?_ | refine Tr.block ?_ | (refine RT.goK rfl rfl rfl rfl ?_; refine Nx.of (S.lss_t hlt') ?_) | (refine RT.goK rfl rfl rfl rfl ?_; apply Nx.of; (first | exact S.move | exact S.load1c rfl rfl rfl rfl | exact S.fieldAddr rfl rfl rfl | exact S.alloc rfl)) | (refine RT.goK0 rfl rfl rfl ?_; apply Nx.of; (first | exact S.store rfl rfl rfl rfl rfl rfl)) | (refine RT.goK rfl rfl rfl rfl ?_; apply Nx.of; (first | exact S.idx_sl rfl rfl rfl (by assumption) (by omega) | exact S.rowN0 rfl rfl rfl (fun _ => rfl) (range_at (by omega)) rfl | exact S.len_sl rfl rfl rfl (by assumption))))
        refine Tr.openK un37_7 (by kernel_rfl) (by kernel_rfl) (alts [reachF, fromF]) rfC ?_
        repeat' (first | (refine RD.free rfl rfl rfl rfl rfl rfl ?_; refine Nx.of (S.idx_slI rfl rfl rfl h4 (by omega) (by omega)) ?_) | (refine RD.free rfl rfl rfl rfl rfl rfl ?_; apply Nx.of; (first | exact S.move | exact S.fieldAddr rfl rfl rfl | exact S.add (by unfold In64; omega) | exact S.add_w | exact S.neg (by unfold In64; omega))) | (refine RD.load rfl rfl rfl rfl rfl rfl rfl rfl ?_; apply Nx.of; (first | exact S.load1c rfl rfl rfl rfl | exact S.row0 rfl rfl rfl (fun _ => rfl) (range_at (by omega)) rfl)) | (refine RD.store rfl rfl rfl rfl rfl rfl rfl ?_; apply Nx.of; (first | exact S.store rfl rfl rfl rfl rfl rfl)) | (refine RD.callN rfl rfl rfl rfl rfl rfl rfl rfl rfl (fun fl' => alts_hd (reachF_at _ _ fl' _ _)) (fun _ => by refine srOk_all ?_; simp only [srOk]; (repeat' (first | exact trivial | refine And.intro ?_ ?_)); all_goals (first | (refine ⟨_, rfl, ?_⟩; (first | rfl | (simp [rfO, rfVs, rfV, rfVs_flat]; done) | (simp [bk, AV.cells, pbC, rfO, rfVs, rfV, h1.rf, h2.rf, h3.rf, h4.rf]; done))))) ?_) | (refine RD.callN rfl rfl rfl rfl rfl rfl rfl rfl rfl (fun fl' => (alts_tl (famA_ne _ (by decide))).trans (alts_hd (fromF_at _ _ _ (by omega) _ _ _))) (fun _ => by refine srOk_all ?_; simp only [srOk]; (repeat' (first | exact trivial | refine And.intro ?_ ?_)); all_goals (first | (refine ⟨_, rfl, ?_⟩; (first | rfl | (simp [rfO, rfVs, rfV, rfVs_flat]; done) | (simp [bk, AV.cells, pbC, rfO, rfVs, rfV, h1.rf, h2.rf, h3.rf, h4.rf]; done))))) ?_) | refine RD.nil ⟨Nat.le_of_ble_eq_true rfl, ?_⟩)
        repeat' (first | refine RT.nil ?_ | refine sq_n ?_ | refine Tr.seq ?_ | refine Tr.region ?_ | refine Tr.cond_f rfl ?_ | refine Tr.skip ?_ | refine blk_n ?_ | (refine RT.call rfl rfl rfl (val_is hA (Amid_at _ _ _ _ _ _)) rfl rfl (Nat.le_refl _) ?_) | (refine RT.goK rfl rfl rfl rfl ?_; apply Nx.of; (first | exact S.move | exact S.assign | exact S.load1c rfl rfl rfl rfl | exact S.fieldAddr rfl rfl rfl | exact S.add_one (by omega))))
        refine lp_n (k + 1) hlt (by omega) ?_
        rw [e1, hl]
        exact ri_wk (K := q :: s) (x := 8) h1 h2 h3 h4 (by decide) (by decide) rfl rfl rfl rfl rfl rfl rfl rfl rfl rfl rfl rfl rfl rfl (fun _ => rfl)
  · obtain rfl : k = B.nc := by omega
    have hlt' : ¬ (B.nc : Int) < B.nc := by omega
    cases hl : riL (rdV B e n) B.nc with
    | nil =>
      repeat' (first | refine RT.nil ?_ | refine sq_n ?_ | refine Tr.seq ?_ | refine Tr.region ?_ | refine Tr.cond_f rfl ?_ | refine Tr.ret ?_ | refine Tr.exit ?_ | refine sq_x ?_ | refine blk_hit rfl ?_ | refine lp_x ?_ | (refine RT.goK rfl rfl rfl rfl ?_; first | refine Nx.of (S.lss_f hlt') ?_) | (refine RT.goK rfl rfl rfl rfl ?_; apply Nx.of; (first | exact S.move | exact S.load1c rfl rfl rfl rfl | exact S.loadNc rfl rfl rfl rfl | exact S.fieldAddr rfl rfl rfl)) | (refine RT.goK0 rfl rfl rfl ?_; apply Nx.of; (first | exact S.store rfl rfl (bkr_one h1) rfl rfl rfl)) | (refine RT.goK rfl rfl rfl rfl ?_; apply Nx.of; (first | exact S.len_sl rfl rfl rfl (by assumption))))
      (first | refine rt_go rfl ?_)
      exact ⟨rfl, rfl, fun h => absurd rfl h⟩
    | cons q s =>
      repeat' (first | refine RT.nil ?_ | refine sq_n ?_ | refine Tr.seq ?_ | refine Tr.region ?_ | refine Tr.cond_f rfl ?_ | refine Tr.ret ?_ | refine Tr.exit ?_ | refine sq_x ?_ | refine blk_hit rfl ?_ | refine lp_x ?_ | (refine RT.goK rfl rfl rfl rfl ?_; first | refine Nx.of (S.lss_f hlt') ?_) | (refine RT.goK rfl rfl rfl rfl ?_; apply Nx.of; (first | exact S.move | exact S.load1c rfl rfl rfl rfl | exact S.loadNc rfl rfl rfl rfl | exact S.fieldAddr rfl rfl rfl)) | (refine RT.goK0 rfl rfl rfl ?_; apply Nx.of; (first | exact S.store rfl rfl (bkr_one h1) rfl rfl rfl)) | (refine RT.goK rfl rfl rfl rfl ?_; apply Nx.of; (first | exact S.len_sl rfl rfl rfl (by assumption))))
      (first | refine rt_go rfl ?_)
      exact ⟨rfl, rfl, fun _ => getM rfl⟩
end Go.Proofs.Ytjncfddnphhofaa

/- What ClaimTrue needs: truly and rightly at any memory; what is so is a truth of the book whose clocks are right. -/
namespace Go.Proofs.Ytjncfddnphhofaa
open Go Go.Ev

theorem grI_is {x n : Nat} : IsSl (grI x n) n x := by
  cases n with
  | zero => exact IsSl.nils x
  | succ j => exact IsSl.gs x _
theorem grI_arg {W : List Wnd} {x i n : Nat} (h : W[i]? = some (x, 0, none)) : ArgW W (grI x n) (grI i n) := by
  cases n with
  | zero => exact .pl Pl.nils
  | succ j => exact ArgW.gs h
theorem sl_arg {W : List Wnd} {v : AV} {n x : Nat} (hi : IsSl v n x) (hx : W[x]? = some (x, 0, none)) : ArgW W v v := by
  rcases hi with rfl | ⟨rfl, rfl⟩
  · exact ArgW.gs hx
  · exact .pl Pl.nils
theorem bk_arg {W : List Wnd} {B : CBook} {a1 a2 : AV} (h1 : IsSl a1 B.ns 0) (h2 : IsSl a2 B.nc 1) (w0 : W[0]? = some (0, 0, none)) (w1 : W[1]? = some (1, 0, none)) : ArgW W (bk B a1 a2) (bk B a1 a2) :=
  ArgW.agg (show ArgsW _ [a1, .int .i64 B.wea, .int .i64 (B.cost 0), .int .i64 (B.cost 1), .int .i64 (B.cost 2), a2, .int .i64 B.rate] [a1, .int .i64 B.wea, .int .i64 (B.cost 0), .int .i64 (B.cost 1), .int .i64 (B.cost 2), a2, .int .i64 B.rate] from
    ⟨sl_arg h1 w0, .pl (fun _ => rfl), .pl (fun _ => rfl), .pl (fun _ => rfl), .pl (fun _ => rfl), sl_arg h2 w1, .pl (fun _ => rfl), trivial⟩)
theorem kn_ren (σ : Nat → Nat) (w n x y : Nat) : (AV.agg [.int .i64 (w : Int), grI x n, grI y n]).ren σ = .agg [.int .i64 (w : Int), grI (σ x) n, grI (σ y) n] := by
  simp only [AV.ren, AV.rens, grI_ren σ rfl]
theorem truly_at {B : CBook} {a1 a2 a3 : AV} {bv : Nat → Int} {nb w : Nat} (h1 : IsSl a1 B.ns 0) (h2 : IsSl a2 B.nc 1) (h3 : IsSl a3 nb 2) (hnb : nb ≤ 9223372036854775807) (hB : bkOk B) (hw3 : w < 3)
    (hwe : pkV (fun i => (((numsL B.wea 3)[i]?.getD 0 : Nat) : Int)) (numsL B.wea 3).length (pkV bv nb 0) = w) {m : List (Nat × Option AObj)} {c : Nat} (hm : ∀ x o, lookM m x = some o → x < c)
    (m0 : lookM m 0 = some (oSt B)) (m1 : lookM m 1 = some (oCk B)) (m2 : lookM m 2 = some (.ro (fE bv nb))) (fl : Nat) :
    OkAt 0 Try.prog fl 36 [bk B a1 a2, a3] (ofM m) c (.agg [.int .i64 (w : Int), grI (c + 4) B.ns, grI (c + 5) B.ns]) (ofM ((c + 5, some (.grown (fE (coT B bv nb w) B.ns) 1)) :: (c + 4, some (.grown (fE (rT B bv nb) B.ns) 1)) :: m)) (c + 6) := by
  have := CanS.fresh (H' := ofM ((c + 5, some (.grown (fE (coT B bv nb w) B.ns) 1)) :: (c + 4, some (.grown (fE (rT B bv nb) B.ns) 1)) :: m)) (k := 6) (v0 := .agg [.int .i64 (w : Int), grI 4 B.ns, grI 5 B.ns]) (truly_can B a1 a2 a3 bv nb w h1 h2 h3 hnb hB hw3 hwe)
    (Entry.win (H := ofM m) (c := c) (W := [(0, 0, none), (1, 0, none), (2, 0, none)]) (CS := [flat (stE B) (List.range B.ns), flat (ckE B) (List.range B.nc), fE bv nb]) rfl
      ⟨⟨_, getM m0, .inr ⟨_, rfl, cut_all rfl⟩⟩, pls_flat _ _, ⟨_, getM m1, .inr ⟨_, rfl, cut_all rfl⟩⟩, pls_flat _ _, ⟨_, getM m2, .inr ⟨_, rfl, cut_all rfl⟩⟩, fE_pls _ _, trivial⟩
      (show ArgsW _ [bk B a1 a2, a3] [bk B a1 a2, a3] from ⟨bk_arg h1 h2 rfl rfl, sl_arg h3 rfl, trivial⟩)) (fun v1 H1 c1 ⟨g1, g2, g3, g4⟩ => ?_) fl
  · rw [kn_ren] at this
    exact this
  · refine ⟨by rw [g1, kn_ren], g2, fun x o hx => ?_⟩
    rw [ofM_get] at hx
    by_cases e1 : x = c + 5
    · subst e1
      rw [lookM_hd] at hx
      cases hx
      exact .inr ⟨5, .grown (fE (coT B bv nb w) B.ns) 1, rfl, by rw [ren_grown]; exact g4, (ren_grown _ _ _ _).symm⟩
    rw [lookM_tl e1] at hx
    by_cases e2 : x = c + 4
    · subst e2
      rw [lookM_hd] at hx
      cases hx
      exact .inr ⟨4, .grown (fE (rT B bv nb) B.ns) 1, rfl, by rw [ren_grown]; exact g3, (ren_grown _ _ _ _).symm⟩
    rw [lookM_tl e2] at hx
    exact .inl ⟨hm x o hx, getM hx⟩
theorem rightly_at {B : CBook} {a1 a2 : AV} {r e : Nat → Int} {w : Nat} {n : Int} (h1 : IsSl a1 B.ns 0) (h2 : IsSl a2 B.nc 1) (hB : bkOk B) (he : ∀ i, i < B.ns → 0 ≤ e i ∧ e i ≤ 600) {m : List (Nat × Option AObj)} {c x y : Nat} (hc : 2 ≤ c) (hm : ∀ x o, lookM m x = some o → x < c)
    (m0 : lookM m 0 = some (oSt B)) (m1 : lookM m 1 = some (oCk B)) (mx : lookM m x = some (.grown (fE r B.ns) 1)) (my : lookM m y = some (.grown (fE e B.ns) 1)) (fl : Nat) :
    OkAt 0 Try.prog fl 37 [bk B a1 a2, .agg [.int .i64 (w : Int), grI x B.ns, grI y B.ns], .int .i64 n] (ofM m) c (bk B a1 (grV (c + 4) (riL (rdV B e n) B.nc))) (ofM (m ++ rwM (riE B (rdV B e n)) (c + 4) (riL (rdV B e n) B.nc))) (c + 5) := by
  have e0 : ∀ (σ : Nat → Nat), σ 0 = 0 → ∀ z, (bk B a1 (grV z (riL (rdV B e n) B.nc))).ren σ = bk B a1 (grV (σ z) (riL (rdV B e n) B.nc)) := fun σ h0 z => by simp only [bk, AV.ren, AV.rens, h1.ren h0, grV_ren σ rfl]
  have := CanS.freshD 2 (H' := ofM (m ++ rwM (riE B (rdV B e n)) (c + 4) (riL (rdV B e n) B.nc))) (k := 5) (v0 := bk B a1 (grV 6 (riL (rdV B e n) B.nc))) (rightly_can B a1 a2 (grI 2 B.ns) (grI 3 B.ns) r e w n h1 h2 grI_is grI_is hB he) hc (by decide)
    (args := [bk B a1 a2, .agg [.int .i64 (w : Int), grI x B.ns, grI y B.ns], .int .i64 n]) (H := ofM m) (fun ρ w' us hH hv => by
    have := Entry.windows (W := [(0, 0, none), (1, 0, none), (x, 0, none), (y, 0, none)]) (CS := [flat (stE B) (List.range B.ns), flat (ckE B) (List.range B.nc), fE r B.ns, fE e B.ns]) rfl
      ⟨⟨_, getM m0, .inr ⟨_, rfl, cut_all rfl⟩⟩, pls_flat _ _, ⟨_, getM m1, .inr ⟨_, rfl, cut_all rfl⟩⟩, pls_flat _ _, ⟨_, getM mx, .inr ⟨_, rfl, cut_all rfl⟩⟩, fE_pls _ _, ⟨_, getM my, .inr ⟨_, rfl, cut_all rfl⟩⟩, fE_pls _ _, trivial⟩
      (args := [bk B a1 a2, .agg [.int .i64 (w : Int), grI x B.ns, grI y B.ns], .int .i64 n]) (args0 := [bk B a1 a2, .agg [.int .i64 (w : Int), grI 2 B.ns, grI 3 B.ns], .int .i64 n])
      ⟨bk_arg h1 h2 rfl rfl, ArgW.agg (show ArgsW _ [.int .i64 (w : Int), grI x B.ns, grI y B.ns] [.int .i64 (w : Int), grI 2 B.ns, grI 3 B.ns] from ⟨.pl (fun _ => rfl), grI_arg rfl, grI_arg rfl, trivial⟩), .pl (fun _ => rfl), trivial⟩ ρ w' us hH hv
    exact ⟨_, this.1, this.2, fun y hy => by
      obtain rfl | rfl : y = 0 ∨ y = 1 := by omega
      · exact winR_id rfl
      · exact winR_id rfl⟩) (fun v1 H1 c1 ⟨g1, g2, g3⟩ => ?_) fl
  · rw [e0 _ rfl] at this
    exact this
  · refine ⟨by rw [g1, e0 _ rfl]; rfl, g2, fun z o hx => ?_⟩
    rw [ofM_get] at hx
    rcases lookM_app hx with k | k
    · exact .inl ⟨hm z o k, getM k⟩
    · generalize riL (rdV B e n) B.nc = K at g3 k
      cases K with
      | nil => cases k
      | cons p q =>
        replace k : lookM ((c + 4, some (.grown (flat (riE B (rdV B e n)) (p :: q)) 3)) :: []) z = some o := k
        by_cases e1 : z = c + 4
        · subst e1
          rw [lookM_hd] at k
          cases k
          exact .inr ⟨4, .grown (flat (riE B (rdV B e n)) (p :: q)) 3, rfl, by rw [ren_grown]; exact g3 (by simp), (ren_grown _ _ _ _).symm⟩
        · rw [lookM_tl e1] at k
          cases k

/-- The book with some of its clocks, read otherwise. -/
noncomputable def riB (B : CBook) (rv : Nat → Int) (K : List Nat) : CBook := { B with nc := K.length, ck := fun i => B.ck (K[i]?.getD 0), rd := fun i => rv (K[i]?.getD 0), er := fun i => B.er (K[i]?.getD 0) }
theorem flat_ri (B : CBook) (rv : Nat → Int) (K : List Nat) : flat (ckE (riB B rv K)) (List.range K.length) = flat (riE B rv) K := by
  have : flat (ckE (riB B rv K)) (List.range K.length) = flat (riE B rv) ((List.range K.length).map fun i => K[i]?.getD 0) := by
    unfold flat
    rw [List.map_map]
    rfl
  rw [this]
  refine congrArg _ (List.ext_getElem? fun i => ?_)
  rw [List.getElem?_map]
  by_cases h : i < K.length
  · rw [List.getElem?_range h, List.getElem?_eq_getElem h]
    show some (K[i]?.getD 0) = _
    rw [List.getElem?_eq_getElem h]; rfl
  · rw [List.getElem?_eq_none (by rw [List.length_range]; omega), List.getElem?_eq_none (by omega)]; rfl
section
variable {B : CBook} {rv : Nat → Int} {K : List Nat}
theorem riB_ok (hB : bkOk B) (hK : ∀ k ∈ K, k < B.nc ∧ (0 ≤ rv k ∧ rv k ≤ 600)) (hl : K.length ≤ 4) : bkOk (riB B rv K) := by
  refine ⟨⟨hB.1.1, fun i hi => ?_⟩, hB.2.1, ⟨hl, fun i hi => ?_⟩, hB.2.2.2⟩
  · have := hB.1.2 i hi
    unfold stOk at this ⊢
    have e : before (riB B rv K) i = before B i := by cases i <;> rfl
    rw [e]
    exact this
  · have hi : i < K.length := hi
    show ckOk B (B.ck (K[i]?.getD 0)) (rv (K[i]?.getD 0)) (B.er (K[i]?.getD 0))
    rw [List.getElem?_eq_getElem hi]
    have h1 := hK _ (List.getElem_mem hi)
    have h2 := hB.2.2.1.2 _ h1.1
    unfold ckOk at h2 ⊢
    exact ⟨h2.1, h1.2, h2.2.2⟩
theorem co_bd {bv : Nat → Int} {nb w : Nat} (hB : bkOk B) (hw : w < 3) {i : Nat} (hi : i < B.ns) : 0 ≤ coT B bv nb w i ∧ coT B bv nb w i ≤ 600 := by
  have h1 := now_bd (bv := bv) (nb := nb) hB hw i (Nat.le_of_lt hi)
  have h2 := truly_bd (bv := bv) (nb := nb) hB hw hi
  have h3 := cost_bd hB hw
  have := hB.1.1
  unfold coT
  omega
/-- What is so. -/
noncomputable def trT (B : CBook) (bv : Nat → Int) (nb w : Nat) : Tru := toT (w : Int) B.ns (rT B bv nb) (coT B bv nb w)
theorem trT_c {bv : Nat → Int} {nb w i : Nat} (hn : B.ns ≤ 3) (hi : i < B.ns) : (trT B bv nb w).c i = coT B bv nb w i := by
  unfold trT
  rw [toT_c (by omega), if_pos hi]
theorem trT_r {bv : Nat → Int} {nb w i : Nat} (hn : B.ns ≤ 3) (hi : i < B.ns) : (trT B bv nb w).r i = rT B bv nb i := by
  unfold trT
  rw [toT_r (by omega), if_pos hi]
theorem trT_is {bv : Nat → Int} {nb w : Nat} (hB : bkOk B) (hw : w < 3) (hp : hasP B.wea w) {n : Int} (hK : ∀ k ∈ K, k < B.nc ∧ (0 ≤ rdV B (coT B bv nb w) n k ∧ rdV B (coT B bv nb w) n k ≤ 600)) (hl : K.length ≤ 4) : trT B bv nb w ∈ Ws (riB B (rdV B (coT B bv nb w) n) K) := by
  have hX := riB_ok hB hK hl
  have hn := hB.1.1.2
  rw [mem_nc hX]
  have hY := ncB_ok hX
  refine ⟨(mem_Ws hY.1 hY.2.1).2 (toT_is (B := ncB (riB B (rdV B (coT B bv nb w) n) K)) hn ⟨by omega, by omega, by rw [Int.toNat_natCast]; exact hp⟩ fun i hi => ?_), fun k hk hwr => ?_⟩
  · have hi : i < B.ns := hi
    have h2 := truly_bd (bv := bv) (nb := nb) hB hw hi
    rw [Int.toNat_natCast]
    refine ⟨h2.1, ?_, rfl⟩
    show (if i = 0 then 0 else coT B bv nb w (i - 1) + B.sl (i - 1)) + B.dl i + B.cost w + rT B bv nb i ≤ coT B bv nb w i ∧ coT B bv nb w i ≤ (if i = 0 then 0 else coT B bv nb w (i - 1) + B.sh (i - 1)) + B.dh i + B.cost w + rT B bv nb i
    cases i with
    | zero =>
      rw [if_pos rfl, if_pos rfl]
      unfold coT nowT
      omega
    | succ j =>
      have h3 := truly_bd (bv := bv) (nb := nb) hB hw (show j < B.ns by omega)
      rw [if_neg (by omega), if_neg (by omega), Nat.add_sub_cancel]
      have e : nowT B bv nb w (j + 1) = coT B bv nb w j + sT B bv nb j := rfl
      have e2 : coT B bv nb w (j + 1) = nowT B bv nb w (j + 1) + (dT B bv nb (j + 1) + rT B bv nb (j + 1) + B.cost w) := rfl
      omega
  · have hk : k < K.length := hk
    have h1 := hK _ (List.getElem_mem hk)
    have h2 := hB.2.2.1.2 _ h1.1
    unfold ckOk at h2
    refine hwr ?_
    show rdV B (coT B bv nb w) n (K[k]?.getD 0) - B.er (K[k]?.getD 0) ≤ (trT B bv nb w).c (B.ck (K[k]?.getD 0)).toNat ∧ (trT B bv nb w).c (B.ck (K[k]?.getD 0)).toNat ≤ rdV B (coT B bv nb w) n (K[k]?.getD 0) + B.er (K[k]?.getD 0)
    rw [List.getElem?_eq_getElem hk]
    show rdV B (coT B bv nb w) n K[k] - B.er K[k] ≤ (trT B bv nb w).c (B.ck K[k]).toNat ∧ (trT B bv nb w).c (B.ck K[k]).toNat ≤ rdV B (coT B bv nb w) n K[k] + B.er K[k]
    rw [trT_c hn (by omega)]
    have h3 := frV_bd (lo := -(B.er K[k])) (hi := B.er K[k]) (p := IntKind.i64.wrap (n + ((K[k] : Nat) : Int))) (by omega)
    unfold rdV
    omega
theorem BkX.ri {a1 : AV} {x : Nat} {m : List (Nat × Option AObj)} {c : Nat} (h1 : IsSl a1 B.ns 0) (m0 : lookM m 0 = some (oSt B)) (hK : K ≠ [] → lookM m x = some (.grown (flat (riE B rv) K) 3)) : BkX (riB B rv K) a1 (grV x K) m c := by
  have st : LiesAt m a1 (riB B rv K).ns 0 (flat (stE (riB B rv K)) (List.range (riB B rv K).ns)) := ⟨h1, _, m0, .inr rfl⟩
  have e := flat_ri B rv K
  cases K with
  | nil => exact BkX.of (x1 := 0) (x2 := 0) st ⟨IsSl.nils 0, _, m0, .inl rfl⟩
  | cons a r => exact BkX.of (x1 := 0) (x2 := x) st ⟨IsSl.gs x _, _, hK (by simp), .inr (congrArg some e.symm)⟩
end
end Go.Proofs.Ytjncfddnphhofaa

/- Look-ups behind rows that may be absent. -/
namespace Go.Proofs.Ytjncfddnphhofaa
open Go Go.Ev

theorem look_rwn {enc : Nat → List Int} {x : Nat} {K : List Nat} (hne : K ≠ []) : ∀ {m : List (Nat × Option AObj)}, (∀ e ∈ m, e.1 ≠ x) → lookM (m ++ rwM enc x K) x = some (.grown (flat enc K) 3)
  | [], _ => by
    cases K with
    | nil => exact absurd rfl hne
    | cons a r => exact lookM_hd
  | (y, o) :: m, h => by
    have hy : y ≠ x := h (y, o) List.mem_cons_self
    rw [List.cons_append, lookM_tl hy.symm]
    exact look_rwn hne fun e he => h e (List.mem_cons_of_mem _ he)
theorem Kb.rw {enc : Nat → List Int} {x b : Nat} {K : List Nat} (h : x < b) : Kb (rwM enc x K) b := by
  cases K with
  | nil => exact Kb.nil
  | cons a r => exact Kb.cons h Kb.nil
theorem S.gtr_t {P : Program} {fl c t yt : Nat} {m : List (Nat × Option AObj)} {x1 x2 : Operand} {a b : Int} (h : b < a) : OpE P fl (.binOp .gtr t x1 x2 yt) [.int .i64 a, .int .i64 b] m c (.bool true) m c := by
  have := S.gtr (P := P) (fl := fl) (m := m) (c := c) (t := t) (yt := yt) (x1 := x1) (x2 := x2) (a := a) (b := b)
  rwa [decide_eq_true h] at this
theorem num_is {B : CBook} {n : Int} (h : ansE B True = 0) : ∃ x, n = x ∧ numA B n = .tup [.int .i64 x, .int .i64 0] := ⟨n, rfl, numA_ok h⟩
theorem In_tt {s : Int} {n : Nat} (h : hasP s n) (hn : n ≤ 62) (H : T AObj) (c fl : Nat) : OkAt 0 Try.prog fl 38 [.int .i64 s, .int .i64 (n : Int)] H c (.bool true) H c := val_is (by rw [dB_tt h]) (In_at s n hn H c fl)
/-- A span that is told holds what is so. -/
theorem span_T {B : CBook} {T : Tru} {q : Prop} {num : Tru → Int} (h : ansE B q = 0) (hT : T ∈ Ws B) : ∃ l u : Int, ansV B q num = .tup [.agg [.int .i64 l, .int .i64 u], .int .i64 0] ∧ l ≤ num T ∧ num T ≤ u := by
  have hW : Ws B ≠ [] := fun e => by rw [e] at hT; cases hT
  exact ⟨_, _, ansV_ok h, (sp_is num hW).all T hT⟩
noncomputable def holdF : CallFn := famA (α := Int × Int × Int) 40 (fun a => [.agg [.int .i64 a.1, .int .i64 a.2.1], .int .i64 a.2.2]) (fun _ => .bool true) fun a _ _ => a.1 ≤ a.2.2 ∧ a.2.2 ≤ a.2.1
theorem holdF_calm : CalmC 0 Try.prog holdF := famA_calm fun a fl H c h => Holds_t h H c fl
theorem holdF_at {a b p : Int} (h : a ≤ p ∧ p ≤ b) (fl0 : Nat) (H : T AObj) (c : Nat) : holdF fl0 40 [.agg [.int .i64 a, .int .i64 b], .int .i64 p] H c = some (.bool true, H, c) :=
  famA_at (α := Int × Int × Int) fl0 (a, b, p) h fun x _ => rfl
noncomputable def totF (x : Nat) (f : Nat → Int) (n : Nat) : CallFn := one1 41 [grI x n] (.int .i64 (totV f n)) fun H _ => ∃ m, H = ofM m ∧ lookM m x = some (.grown (fE f n) 1)
theorem totF_calm {x n : Nat} {f : Nat → Int} (hn : n ≤ 1000) (hf : ∀ k, k ≤ n → -1000000 ≤ totV f k ∧ totV f k ≤ 1000000) : CalmC 0 Try.prog (totF x f n) := one1_calm fun fl H c ⟨m, hm, h⟩ => by
  subst hm
  exact Total_at (Li.sl grI_is h rfl) hn hf fl
theorem trT_rg {B : CBook} {bv : Nat → Int} {nb w : Nat} (hn : 1 ≤ B.ns ∧ B.ns ≤ 3) : rgV (trT B bv nb w) = totV (rT B bv nb) B.ns := by
  unfold rgV trT toT
  obtain h | h | h : B.ns = 1 ∨ B.ns = 2 ∨ B.ns = 3 := by omega
  all_goals (rw [h]; simp [totV])
theorem tot_bd {B : CBook} {bv : Nat → Int} {nb w : Nat} (hB : bkOk B) (hw : w < 3) : ∀ k, k ≤ B.ns → 0 ≤ totV (rT B bv nb) k ∧ totV (rT B bv nb) k ≤ 30 * k
  | 0, _ => by simp [totV]
  | k + 1, h => by
    have h1 := tot_bd (bv := bv) (nb := nb) hB hw k (by omega)
    have h2 := truly_bd (bv := bv) (nb := nb) hB hw (show k < B.ns by omega)
    rw [totV]
    omega
/-- Wrong, where no clock must be wrong. -/
theorem Wrong_x0 {B : CBook} {v1 v2 : AV} {m : List (Nat × Option AObj)} {c : Nat} (h : BkX B v1 v2 m c) (hm : ∀ x o, lookM m x = some o → x < c) (hn : B.ns ≤ 9223372036854775807) (hB : bkOk B) (hw : wrongL B = []) (fl : Nat) :
    OkAt 0 Try.prog fl 32 [bk B v1 v2] (ofM m) c (.tup [.nils, .int .i64 0]) (ofM m) (c + 14) := by
  have := Wrong_xl h hm hn hB fl
  rw [hw] at this
  exact this
theorem S.load1g {P : Program} [Tab P] {fl c t x off s : Nat} {y : Ty} {a : Operand} {v : AV} {m : List (Nat × Option AObj)} {cs : List AV} (ht : ty P t = some y) (hg : y.agg = false) (ho : lookM m x = some (.grown cs s)) (hv : cs[off]? = some v) : OpE P fl (.load t a) [.ptr x off] m c v m c := S.load1 ht hg ho rfl hv
end Go.Proofs.Ytjncfddnphhofaa

/- ClaimTrue: the law, for every book and all numbers. -/
namespace Go.Proofs.Ytjncfddnphhofaa
open Go Go.Ev

theorem grV_rf (x : Nat) (L : List Nat) : rfV (grV x L) = true := by cases L <;> rfl
theorem tw_wk {B : CBook} {a1 a2 : AV} {bv r e : Nat → Int} {nb w : Nat} {ol ou : Int} {enc : Nat → List Int} {K : List Nat} (h1 : IsSl a1 B.ns 0) (h2 : IsSl a2 B.nc 1) {nt c : Nat} {l l2 : List (Nat × AV)} {m : List (Nat × Option AObj)} (hc : 32 ≤ c + 32)
    (hl : allL (fun t v => Go.Ev.look l t = some (v.ren fun y => if y < 32 then y else c + y)) l2)
    (g31 : lookM m 31 = some (.cells [.int .i64 ol, .int .i64 ou])) (g16 : lookM m 16 = some (.cells (bk B a1 (grV 15 K)).cells)) (g10 : lookM m 10 = some (.cells [.int .i64 (w : Int), grI 8 B.ns, grI 9 B.ns])) (g9 : lookM m 9 = some (.grown (fE e B.ns) 1)) (g8 : lookM m 8 = some (.grown (fE r B.ns) 1))
    (g3 : lookM m 3 = some (.cells (bk B a1 a2).cells)) (g0 : lookM m 0 = some (oSt B)) (g1 : lookM m 1 = some (oCk B)) (g2 : lookM m 2 = some (.ro (fE bv nb))) (gK : K ≠ [] → lookM m 15 = some (.grown (flat enc K) 3)) : Wk 0 3 3 (stL nt [] l m c) (stL nt [] l2 ([(31, some (.cells [.int .i64 ol, .int .i64 ou])), (16, some (.cells (bk B a1 (grV 15 K)).cells)), (10, some (.cells [.int .i64 (w : Int), grI 8 B.ns, grI 9 B.ns])), (9, some (.grown (fE e B.ns) 1)), (8, some (.grown (fE r B.ns) 1)), (3, some (.cells (bk B a1 a2).cells)), (0, some (oSt B)), (1, some (oCk B)), (2, some (.ro (fE bv nb)))] ++ rwM enc 15 K) 32) := by
  let σ : Nat → Nat := fun y => if y < 32 then y else c + y
  have hm : allM (fun y o => lookM m (σ y) = some (o.ren σ)) ([(31, some (.cells [.int .i64 ol, .int .i64 ou])), (16, some (.cells (bk B a1 (grV 15 K)).cells)), (10, some (.cells [.int .i64 (w : Int), grI 8 B.ns, grI 9 B.ns])), (9, some (.grown (fE e B.ns) 1)), (8, some (.grown (fE r B.ns) 1)), (3, some (.cells (bk B a1 a2).cells)), (0, some (oSt B)), (1, some (oCk B)), (2, some (.ro (fE bv nb)))] ++ rwM enc 15 K) := by
    have hk : allM (fun y o => lookM m (σ y) = some (o.ren σ)) (rwM enc 15 K) := by
      cases K with
      | nil => trivial
      | cons a q => exact ⟨(gK (by simp)).trans (congrArg some (ren_grown _ σ _ _).symm), trivial⟩
    have e10 : (AObj.cells [.int .i64 (w : Int), grI 8 B.ns, grI 9 B.ns]).ren σ = .cells [.int .i64 (w : Int), grI 8 B.ns, grI 9 B.ns] := by
      simp only [AObj.ren, AV.ren, AV.rens, grI_ren (x := 8) (y := 8) σ rfl, grI_ren (x := 9) (y := 9) σ rfl]
    exact ⟨g31, g16.trans (congrArg some (bkr_ren (x := 15) (y := 15) (σ := σ) h1 rfl rfl).symm), g10.trans (congrArg some e10.symm), g9.trans (congrArg some (ren_grown _ σ _ _).symm), g8.trans (congrArg some (ren_grown _ σ _ _).symm), g3.trans (congrArg some (bkc_ren (σ := σ) h1 h2 rfl rfl).symm), g0.trans (congrArg some (ren_ro _ σ _).symm), g1.trans (congrArg some (ren_ro _ σ _).symm), g2.trans (congrArg some (ren_ro _ σ _).symm), hk⟩
  refine Wk.by σ (by decide) (by decide) (by decide) hl hm rfl (fun u hu v hv huv ee => ?_) (fun u hu => ?_) (fun u hu => ?_) (fun u hu => ?_)
  · have low : ∀ u, u ∈ ([(31, some (.cells [.int .i64 ol, .int .i64 ou])), (16, some (.cells (bk B a1 (grV 15 K)).cells)), (10, some (.cells [.int .i64 (w : Int), grI 8 B.ns, grI 9 B.ns])), (9, some (.grown (fE e B.ns) 1)), (8, some (.grown (fE r B.ns) 1)), (3, some (.cells (bk B a1 a2).cells)), (0, some (oSt B)), (1, some (oCk B)), (2, some (.ro (fE bv nb)))] ++ rwM enc 15 K : List (Nat × Option AObj)).map (fun e => e.1) → u < 32 := fun u hu => by
      cases K <;> simp [rwM] at hu <;> omega
    have q1 := low u hu
    have q2 := low v hv
    simp only [σ] at ee
    (repeat' split at ee) <;> omega
  all_goals (simp only [σ]; (repeat' split) <;> omega)
set_option maxRecDepth 100000 in
set_option maxHeartbeats 8000000 in
theorem true_law (hb : BillOK) (B : CBook) (a1 a2 a3 : AV) (bv : Nat → Int) (nb : Nat) (h1 : IsSl a1 B.ns 0) (h2 : IsSl a2 B.nc 1) (h3 : IsSl a3 nb 2) (hn : B.ns ≤ 9223372036854775807) (hnb : nb ≤ 9223372036854775807) (n : Int) : CanS 0 Try.prog 6 3 [bk B a1 a2, a3, .int .i64 n] [(0, some (oSt B)), (1, some (oCk B)), (2, some (.ro (fE bv nb)))] 3 fun v _ _ => v = .bool true := by
  refine CanS.mk Try.func6 rfl rfl rfl ?_
  have hg8 : IsSl (grI 8 B.ns) B.ns 8 := grI_is
  have hg9 : IsSl (grI 9 B.ns) B.ns 9 := grI_is
  by_cases hB : bkOk B
  · have hns := hB.1.1
    have hnc := hB.2.2.1.1
    obtain ⟨w, hw3, hwp, hwe⟩ := pick_wea hB.2.1 (pkV bv nb 0)
    have hco : ∀ i, i < B.ns → 0 ≤ (coT B bv nb w) i ∧ (coT B bv nb w) i ≤ 600 := fun i hi => co_bd hB hw3 hi
    have hKK : ∀ k ∈ (riL (rdV B (coT B bv nb w) n) B.nc), k < B.nc ∧ (0 ≤ (rdV B (coT B bv nb w) n) k ∧ (rdV B (coT B bv nb w) n) k ≤ 600) := fun k hk => riL_mem.1 hk
    have hKl : ((riL (rdV B (coT B bv nb w) n) B.nc)).length ≤ 4 := Nat.le_trans (riL_len _ _) hnc
    have hX := riB_ok hB hKK hKl
    have hT : (trT B bv nb w) ∈ Ws (riB B (rdV B (coT B bv nb w) n) (riL (rdV B (coT B bv nb w) n) B.nc)) := trT_is hB hw3 hwp hKK hKl
    have hW : Ws (riB B (rdV B (coT B bv nb w) n) (riL (rdV B (coT B bv nb w) n) B.nc)) ≠ [] := fun e => by rw [e] at hT; cases hT
    have hR := rtV_t hX hW
    have hwn := (wr_nil hX).2 hW
    have hnl : IsSl .nils 0 0 := IsSl.nils 0
    obtain ⟨set0, e1, hE⟩ := num_is (n := setV (weaP (riB B (rdV B (coT B bv nb w) n) (riL (rdV B (coT B bv nb w) n) B.nc))) 3) (ansE_ok hX trivial hW)
    have hin : hasP set0 w := by rw [← e1]; exact ((setV_cases (weaP (riB B (rdV B (coT B bv nb w) n) (riL (rdV B (coT B bv nb w) n) B.nc)))).2 w hw3).2 ⟨_, hT, rfl⟩
    obtain ⟨kind, e2, hK⟩ := num_is (n := whV (riB B (rdV B (coT B bv nb w) n) (riL (rdV B (coT B bv nb w) n) B.nc)) (blP (riB B (rdV B (coT B bv nb w) n) (riL (rdV B (coT B bv nb w) n) B.nc)))) (ansE_ok hX trivial hW)
    have lastT : ((trT B bv nb w)).c (B.ns - 1) = (coT B bv nb w) (B.ns - 1) := trT_c hns.2 (by omega)
    have rgT : rgV (trT B bv nb w) = totV (rT B bv nb) B.ns := trT_rg hns
    have hrgb := tot_bd (bv := bv) (nb := nb) hB hw3 B.ns (Nat.le_refl _)
    have ltT : ltV (riB B (rdV B (coT B bv nb w) n) (riL (rdV B (coT B bv nb w) n) B.nc)) (B.ns - 1) (trT B bv nb w) = max 0 ((coT B bv nb w) (B.ns - 1) - B.due (B.ns - 1)) := by
      show max 0 (((trT B bv nb w)).c (B.ns - 1) - B.due (B.ns - 1)) = _
      rw [lastT]
    have owT : owV (riB B (rdV B (coT B bv nb w) n) (riL (rdV B (coT B bv nb w) n) B.nc)) (trT B bv nb w) = B.rate * min (max 0 ((coT B bv nb w) (B.ns - 1) - B.due (B.ns - 1))) (totV (rT B bv nb) B.ns) := by
      show B.rate * min (ltV (riB B (rdV B (coT B bv nb w) n) (riL (rdV B (coT B bv nb w) n) B.nc)) (B.ns - 1) (trT B bv nb w)) (rgV (trT B bv nb w)) = _
      rw [ltT, rgT]
    have blT : blP (riB B (rdV B (coT B bv nb w) n) (riL (rdV B (coT B bv nb w) n) B.nc)) (trT B bv nb w) ↔ (1 ≤ max 0 ((coT B bv nb w) (B.ns - 1) - B.due (B.ns - 1)) ∧ max 0 ((coT B bv nb w) (B.ns - 1) - B.due (B.ns - 1)) ≤ totV (rT B bv nb) B.ns) := by
      show (1 ≤ ltV (riB B (rdV B (coT B bv nb w) n) (riL (rdV B (coT B bv nb w) n) B.nc)) (B.ns - 1) (trT B bv nb w) ∧ ltV (riB B (rdV B (coT B bv nb w) n) (riL (rdV B (coT B bv nb w) n) B.nc)) (B.ns - 1) (trT B bv nb w) ≤ rgV (trT B bv nb w)) ↔ _
      rw [ltT, rgT]
    have hk3 : kind = 0 ∨ kind = 1 ∨ kind = 2 := by
      rw [← e2]
      by_cases g : ∀ t ∈ Ws (riB B (rdV B (coT B bv nb w) n) (riL (rdV B (coT B bv nb w) n) B.nc)), blP (riB B (rdV B (coT B bv nb w) n) (riL (rdV B (coT B bv nb w) n) B.nc)) t
      · exact .inr (.inr (whV_2 g))
      · by_cases g' : ∃ t ∈ Ws (riB B (rdV B (coT B bv nb w) n) (riL (rdV B (coT B bv nb w) n) B.nc)), blP (riB B (rdV B (coT B bv nb w) n) (riL (rdV B (coT B bv nb w) n) B.nc)) t
        · exact .inr (.inl (whV_1 g g'))
        · exact .inl (whV_0 g g')
    have hk2 : kind = 2 → blP (riB B (rdV B (coT B bv nb w) n) (riL (rdV B (coT B bv nb w) n) B.nc)) (trT B bv nb w) := fun h => whV_all.1 (e2.trans h) _ hT
    have hk0 : kind = 0 → ¬ blP (riB B (rdV B (coT B bv nb w) n) (riL (rdV B (coT B bv nb w) n) B.nc)) (trT B bv nb w) := fun h g => by
      have := (whV_ne hW).2 ⟨_, hT, g⟩
      rw [e2] at this
      exact this h
    have hAK : AV.bool (decide (0 ≤ kind ∧ kind ≤ 2)) = .bool true := by rw [decide_eq_true]; omega
    obtain ⟨ol, ou, hD, hD1, hD2⟩ := span_T (q := True) (num := owV (riB B (rdV B (coT B bv nb w) n) (riL (rdV B (coT B bv nb w) n) B.nc))) (ansE_ok hX trivial hW) hT
    obtain ⟨pays, e3, hP⟩ := num_is (n := paV (riB B (rdV B (coT B bv nb w) n) (riL (rdV B (coT B bv nb w) n) B.nc))) (ansE_ok hX trivial hW)
    have hp1 : pays ≤ owV (riB B (rdV B (coT B bv nb w) n) (riL (rdV B (coT B bv nb w) n) B.nc)) (trT B bv nb w) := by
      rw [← e3]
      unfold paV
      split
      · exact ((sp_is (owV (riB B (rdV B (coT B bv nb w) n) (riL (rdV B (coT B bv nb w) n) B.nc))) hW).all _ hT).1
      · exact ow_nn hX hT
    have hp2 : ¬ blP (riB B (rdV B (coT B bv nb w) n) (riL (rdV B (coT B bv nb w) n) B.nc)) (trT B bv nb w) → pays = 0 := fun g => by
      rw [← e3]
      unfold paV
      rw [if_neg]
      rw [e2]
      exact fun h => g (hk2 h)
    have hown := ow_nn hX hT
    have hown2 : owV (riB B (rdV B (coT B bv nb w) n) (riL (rdV B (coT B bv nb w) n) B.nc)) (trT B bv nb w) ≤ 99 * 600 := by
      rw [owT]
      have hr := hB.2.2.2
      have hc := hco (B.ns - 1) (by omega)
      have hs := hB.1.2 (B.ns - 1) (by omega)
      have hbf := before_bd B (B.ns - 1) fun j hj => hB.1.2 j (by omega)
      unfold stOk at hs
      exact Int.mul_le_mul hr.2 (by omega) (by omega) (by decide)
    rw [owT] at hp1 hown hown2 hD1 hD2
    have hDT : ol ≤ B.rate * min (max 0 ((coT B bv nb w) (B.ns - 1) - B.due (B.ns - 1))) (totV (rT B bv nb) B.ns) ∧ B.rate * min (max 0 ((coT B bv nb w) (B.ns - 1) - B.due (B.ns - 1))) (totV (rT B bv nb) B.ns) ≤ ou := ⟨hD1, hD2⟩
    obtain ⟨first, fe, hF, hfe⟩ : ∃ first fe : Int, fsA (riB B (rdV B (coT B bv nb w) n) (riL (rdV B (coT B bv nb w) n) B.nc)) = .tup [.int .i64 first, .int .i64 fe] ∧ (0 ≤ first ∧ first ≤ ((B.ns - 1 : Nat) : Int)) ∧ (fe = 0 ∧ (∀ k : Nat, (k : Int) = first → 0 < ltV (riB B (rdV B (coT B bv nb w) n) (riL (rdV B (coT B bv nb w) n) B.nc)) k (trT B bv nb w)) ∨ fe = 4) := by
      rw [fsA_ok (ansE_ok hX trivial hW)]
      by_cases hfs : fsN (riB B (rdV B (coT B bv nb w) n) (riL (rdV B (coT B bv nb w) n) B.nc)) < B.ns
      · have hp : fsP (riB B (rdV B (coT B bv nb w) n) (riL (rdV B (coT B bv nb w) n) B.nc)) (fsN (riB B (rdV B (coT B bv nb w) n) (riL (rdV B (coT B bv nb w) n) B.nc))) := fst_at hfs
        refine ⟨_, _, rfl, ?_, .inl ⟨?_, fun k hk => ?_⟩⟩
        · unfold fsV
          rw [if_pos (show fsN (riB B (rdV B (coT B bv nb w) n) (riL (rdV B (coT B bv nb w) n) B.nc)) < ((riB B (rdV B (coT B bv nb w) n) (riL (rdV B (coT B bv nb w) n) B.nc))).ns from hfs)]
          omega
        · unfold fsE
          rw [if_pos (show fsN (riB B (rdV B (coT B bv nb w) n) (riL (rdV B (coT B bv nb w) n) B.nc)) < ((riB B (rdV B (coT B bv nb w) n) (riL (rdV B (coT B bv nb w) n) B.nc))).ns from hfs)]
        · unfold fsV at hk
          rw [if_pos (show fsN (riB B (rdV B (coT B bv nb w) n) (riL (rdV B (coT B bv nb w) n) B.nc)) < ((riB B (rdV B (coT B bv nb w) n) (riL (rdV B (coT B bv nb w) n) B.nc))).ns from hfs)] at hk
          have : k = fsN (riB B (rdV B (coT B bv nb w) n) (riL (rdV B (coT B bv nb w) n) B.nc)) := by omega
          rw [this]
          exact hp _ hT
      · refine ⟨_, _, rfl, ?_, .inr ?_⟩
        · unfold fsV
          rw [if_neg (show ¬ fsN (riB B (rdV B (coT B bv nb w) n) (riL (rdV B (coT B bv nb w) n) B.nc)) < ((riB B (rdV B (coT B bv nb w) n) (riL (rdV B (coT B bv nb w) n) B.nc))).ns from hfs)]
          omega
        · unfold fsE
          rw [if_neg (show ¬ fsN (riB B (rdV B (coT B bv nb w) n) (riL (rdV B (coT B bv nb w) n) B.nc)) < ((riB B (rdV B (coT B bv nb w) n) (riL (rdV B (coT B bv nb w) n) B.nc))).ns from hfs)]
    have hAF : AV.bool (decide (0 ≤ first ∧ first ≤ ((B.ns - 1 : Nat) : Int))) = .bool true := by rw [decide_eq_true hfe.1]
    repeat' (first | refine RT.nil ?_ | refine sq_n ?_ | refine Tr.seq ?_ | refine Tr.region ?_ | refine Tr.cond_f rfl ?_ | refine Tr.skip ?_ | (refine RT.call rfl rfl rfl (sound_t ⟨h1, h2, rfl, rfl, by decide⟩ hn hB _) rfl rfl (Nat.le_refl _) ?_) | (refine RT.goK rfl rfl rfl rfl ?_; apply Nx.of; (first | exact S.assign | exact S.loadNc rfl rfl rfl rfl | exact S.not_t | exact S.box)))
    refine Tr.openK un6_3 (by kernel_rfl) (by kernel_rfl) (pinX 36 [bk B a1 a2, a3] [(3, some (.cells (bk B a1 a2).cells)), (0, some (oSt B)), (1, some (oCk B)), (2, some (.ro (fE bv nb)))] 4 (.agg [.int .i64 (w : Int), grI 8 B.ns, grI 9 B.ns]) ((9, some (.grown (fE (coT B bv nb w) B.ns) 1)) :: (8, some (.grown (fE (rT B bv nb) B.ns) 1)) :: [(3, some (.cells (bk B a1 a2).cells)), (0, some (oSt B)), (1, some (oCk B)), (2, some (.ro (fE bv nb)))]) 10) (pinX_calm (fun fl => truly_at (c := 4) h1 h2 h3 hnb hB hw3 hwe (Kb.hm (by repeat' (first | exact Kb.nil | refine Kb.cons (by decide) ?_))) rfl rfl rfl fl) (fun fl => ((Good.refl fl 4 (ofM [(3, some (.cells (bk B a1 a2).cells)), (0, some (oSt B)), (1, some (oCk B)), (2, some (.ro (fE bv nb)))])).cons (c2 := 10) (by decide) (by decide) (by decide)).cons (c2 := 10) (by decide) (by decide) (by decide))) ?_
    repeat' (first | (refine RD.free rfl rfl rfl rfl rfl rfl ?_; apply Nx.of; (first | exact S.move | exact S.assign | exact S.fieldAddr rfl rfl rfl | exact S.sub_one (by omega) (by omega) | exact S.len_sl rfl rfl rfl (by assumption))) | (refine RD.new rfl rfl rfl rfl rfl rfl ?_; apply Nx.of; (first | exact S.alloc rfl)) | (refine RD.load rfl rfl rfl rfl rfl rfl rfl rfl ?_; apply Nx.of; (first | exact S.load1c rfl rfl rfl rfl | exact S.loadNc rfl rfl rfl rfl)) | (refine RD.store rfl rfl rfl rfl rfl rfl rfl ?_; apply Nx.of; (first | exact S.store rfl rfl (grI_ones _ _ _ _) rfl rfl rfl)) | (refine RD.callX rfl rfl rfl rfl rfl rfl rfl rfl rfl (fun fl' => pinX_at _ _ _ _ _ _ _ fl') (fun _ => by refine srOkX_all ?_; simp only [srOkX]; (repeat' (first | exact trivial | refine And.intro ?_ ?_)); all_goals (first | exact trivial | (refine ⟨_, rfl, rfl, ?_⟩; (first | rfl | (simp [rfO, rfVs, rfV, rfVs_flat]; done) | (simp [bk, AV.cells, pbC, rfO, rfVs, rfV, h1.rf, h2.rf, h3.rf, hg8.rf, hg9.rf, grV_rf, rfVs_flat, fE]; done))))) ?_) | refine RD.nil ⟨Nat.le_of_ble_eq_true rfl, ?_⟩)
    repeat' (first | refine sq_n ?_ | refine Tr.seq ?_ | refine Tr.region ?_ | (refine RT.goK rfl rfl rfl rfl ?_; apply Nx.of; (first | exact S.move | exact S.loadNc rfl rfl rfl rfl)))
    (refine RT.call rfl rfl rfl (rightly_at (x := 8) (y := 9) h1 h2 hB hco (by decide) (Kb.hm (by repeat' (first | exact Kb.nil | refine Kb.cons (by decide) ?_))) rfl rfl rfl rfl _) rfl rfl (by decide) ?_)
    repeat' (first | refine RT.nil ?_ | refine sq_n ?_ | refine Tr.seq ?_ | refine Tr.region ?_ | (refine RT.goK rfl rfl rfl rfl ?_; apply Nx.of; (first | exact S.loadNc rfl rfl rfl rfl | exact S.alloc rfl)) | (refine RT.goK0 rfl rfl rfl ?_; apply Nx.of; (first | exact S.store rfl rfl (bkr_one h1) rfl rfl rfl)))
    (refine RT.call rfl rfl rfl (val_is hR (Right_x (BkX.ri (B := B) (rv := (rdV B (coT B bv nb w) n)) (K := (riL (rdV B (coT B bv nb w) n) B.nc)) h1 rfl (fun hne => (by repeat' (first | (refine look_rwn hne ?_; simp; done))))) hn _)) rfl rfl (Nat.le_refl _) ?_)
    repeat' (first | refine RT.nil ?_ | refine sq_n ?_ | refine Tr.seq ?_ | refine Tr.region ?_ | (refine RT.goK rfl rfl rfl rfl ?_; apply Nx.of; (first | exact S.move | exact S.assign | exact S.loadNc rfl rfl rfl rfl | exact S.extract rfl)))
    (refine RT.call rfl rfl rfl (Wrong_x0 (BkX.ri (B := B) (rv := (rdV B (coT B bv nb w) n)) (K := (riL (rdV B (coT B bv nb w) n) B.nc)) h1 rfl (fun hne => (by repeat' (first | (refine look_rwn hne ?_; simp; done))))) (Kb.hm (by repeat' (first | exact Kb.nil | refine Kb.cons (by decide) ?_ | refine Kb.app ?_ ?_ | exact Kb.rw (by decide)))) hn hX hwn _) rfl rfl (by decide) ?_)
    repeat' (first | refine RT.nil ?_ | refine sq_n ?_ | refine Tr.seq ?_ | refine Tr.region ?_ | (refine RT.goK rfl rfl rfl rfl ?_; apply Nx.of; (first | exact S.move | exact S.assign | exact S.loadNc rfl rfl rfl rfl | exact S.extract rfl)))
    (refine RT.call rfl rfl rfl (val_is hE (Weather_x (BkX.ri (B := B) (rv := (rdV B (coT B bv nb w) n)) (K := (riL (rdV B (coT B bv nb w) n) B.nc)) h1 rfl (fun hne => (by repeat' (first | (refine look_rwn hne ?_; simp; done))))) hn _)) rfl rfl (Nat.le_refl _) ?_)
    repeat' (first | refine RT.nil ?_ | refine sq_n ?_ | refine Tr.seq ?_ | refine Tr.region ?_ | (refine RT.goK rfl rfl rfl rfl ?_; apply Nx.of; (first | exact S.move | exact S.assign | exact S.loadNc rfl rfl rfl rfl | exact S.extract rfl)))
    (refine RT.call rfl rfl rfl (val_is hK (Blame_x (BkX.ri (B := B) (rv := (rdV B (coT B bv nb w) n)) (K := (riL (rdV B (coT B bv nb w) n) B.nc)) h1 rfl (fun hne => (by repeat' (first | (refine look_rwn hne ?_; simp; done))))) hn _)) rfl rfl (Nat.le_refl _) ?_)
    repeat' (first | refine RT.nil ?_ | refine sq_n ?_ | refine Tr.seq ?_ | refine Tr.region ?_ | (refine RT.goK rfl rfl rfl rfl ?_; apply Nx.of; (first | exact S.move | exact S.assign | exact S.loadNc rfl rfl rfl rfl | exact S.extract rfl)))
    (refine RT.call rfl rfl rfl (val_is hD (Owes_x (BkX.ri (B := B) (rv := (rdV B (coT B bv nb w) n)) (K := (riL (rdV B (coT B bv nb w) n) B.nc)) h1 rfl (fun hne => (by repeat' (first | (refine look_rwn hne ?_; simp; done))))) hn _)) rfl rfl (Nat.le_refl _) ?_)
    repeat' (first | refine RT.nil ?_ | refine sq_n ?_ | refine Tr.seq ?_ | refine Tr.region ?_ | (refine RT.goK rfl rfl rfl rfl ?_; apply Nx.of; (first | exact S.move | exact S.assign | exact S.loadNc rfl rfl rfl rfl | exact S.alloc rfl | exact S.extract rfl)) | (refine RT.goK0 rfl rfl rfl ?_; apply Nx.of; (first | exact S.store rfl rfl rfl rfl rfl rfl)))
    (refine RT.call rfl rfl rfl (val_is hP (Pays_x (BkX.ri (B := B) (rv := (rdV B (coT B bv nb w) n)) (K := (riL (rdV B (coT B bv nb w) n) B.nc)) h1 rfl (fun hne => (by repeat' (first | (refine look_rwn hne ?_; simp; done))))) hn _)) rfl rfl (Nat.le_refl _) ?_)
    repeat' (first | refine RT.nil ?_ | refine sq_n ?_ | refine Tr.seq ?_ | refine Tr.region ?_ | (refine RT.goK rfl rfl rfl rfl ?_; apply Nx.of; (first | exact S.move | exact S.assign | exact S.loadNc rfl rfl rfl rfl | exact S.extract rfl)))
    (refine RT.call rfl rfl rfl (val_is hF (First_x (BkX.ri (B := B) (rv := (rdV B (coT B bv nb w) n)) (K := (riL (rdV B (coT B bv nb w) n) B.nc)) h1 rfl (fun hne => (by repeat' (first | (refine look_rwn hne ?_; simp; done))))) hn _)) rfl rfl (Nat.le_refl _) ?_)
    repeat' (first | refine RT.nil ?_ | refine sq_n ?_ | (refine RT.goK rfl rfl rfl rfl ?_; apply Nx.of; (first | exact S.move | exact S.assign | exact S.extract rfl)))
    refine Tr.seq ?_
    refine Tr.mono (Q := fun ex st2 => ex = .normal ∧ Wk 0 3 3 st2 (stL Try.f6.ntmps [] [(3, .ptr 3 0), (6, .bool false), (7, .ptr 10 0), (8, .int .i64 ((B.ns - 1 : Nat) : Int)), (9, .ptr 16 0), (16, .int .i64 kind), (18, .ptr 31 0), (20, .int .i64 pays), (22, .int .i64 first), (23, .int .i64 fe), (135, .bool false)] ([(31, some (.cells [.int .i64 ol, .int .i64 ou])), (16, some (.cells (bk B a1 (grV 15 (riL (rdV B (coT B bv nb w) n) B.nc))).cells)), (10, some (.cells [.int .i64 (w : Int), grI 8 B.ns, grI 9 B.ns])), (9, some (.grown (fE (coT B bv nb w) B.ns) 1)), (8, some (.grown (fE (rT B bv nb) B.ns) 1)), (3, some (.cells (bk B a1 a2).cells)), (0, some (oSt B)), (1, some (oCk B)), (2, some (.ro (fE bv nb)))] ++ rwM (riE B (rdV B (coT B bv nb w) n)) 15 (riL (rdV B (coT B bv nb w) n) B.nc)) 32)) ?_ (fun ex st2 ⟨he, hwk⟩ => ?_)
    · have hfe2 := hfe.2
      rcases hfe2 with ⟨rfl, _⟩ | rfl
      · repeat' (first | refine RT.nil ?_ | refine sq_n ?_ | refine Tr.seq ?_ | refine Tr.region ?_ | refine Tr.cond_f rfl ?_ | refine Tr.skip ?_ | (refine RT.call rfl rfl rfl (In_tt hin (by omega) _ _ _) rfl rfl (Nat.le_refl _) ?_) | (refine RT.call rfl rfl rfl (val_is hAK (Amid_at _ _ _ _ _ _)) rfl rfl (Nat.le_refl _) ?_) | (refine RT.goK rfl rfl rfl rfl ?_; apply Nx.of; (first | exact S.neq_f (by decide))) | (refine RT.goK rfl rfl rfl rfl ?_; apply Nx.of; (first | exact S.move | exact S.load1c rfl rfl rfl rfl | exact S.fieldAddr rfl rfl rfl | exact S.not_t | exact S.pick_ff)) | (refine RT.goK rfl rfl rfl rfl ?_; apply Nx.of; (first | exact S.len_sl rfl rfl rfl (by assumption))) | (refine RT.no rfl rfl rfl ?_))
        refine ⟨rfl, ?_⟩
        exact tw_wk h1 h2 (by omega) ⟨rfl, rfl, rfl, rfl, rfl, rfl, rfl, rfl, rfl, rfl, rfl, trivial⟩ rfl rfl rfl rfl rfl rfl rfl rfl rfl (fun hne => (by repeat' (first | (refine look_rwn hne ?_; simp; done))))
      · repeat' (first | refine RT.nil ?_ | refine sq_n ?_ | refine Tr.seq ?_ | refine Tr.region ?_ | refine Tr.cond_f rfl ?_ | refine Tr.skip ?_ | (refine RT.call rfl rfl rfl (In_tt hin (by omega) _ _ _) rfl rfl (Nat.le_refl _) ?_) | (refine RT.call rfl rfl rfl (val_is hAK (Amid_at _ _ _ _ _ _)) rfl rfl (Nat.le_refl _) ?_) | (refine RT.goK rfl rfl rfl rfl ?_; apply Nx.of; (first | exact S.neq_t (by decide) | exact S.neq_f (by decide))) | (refine RT.goK rfl rfl rfl rfl ?_; apply Nx.of; (first | exact S.move | exact S.load1c rfl rfl rfl rfl | exact S.fieldAddr rfl rfl rfl | exact S.not_t | exact S.pick_tt | exact S.pick_ff)) | (refine RT.goK rfl rfl rfl rfl ?_; apply Nx.of; (first | exact S.len_sl rfl rfl rfl (by assumption))))
        refine ⟨rfl, ?_⟩
        exact tw_wk h1 h2 (by omega) ⟨rfl, rfl, rfl, rfl, rfl, rfl, rfl, rfl, rfl, rfl, rfl, trivial⟩ rfl rfl rfl rfl rfl rfl rfl rfl rfl (fun hne => (by repeat' (first | (refine look_rwn hne ?_; simp; done))))
    subst he
    refine sq_n (Tr.wk hwk ?_)
    repeat' (first | refine RT.nil ?_ | refine sq_n ?_ | refine Tr.seq ?_ | refine Tr.region ?_ | refine Tr.block ?_ | (refine RT.goK rfl rfl rfl rfl ?_; apply Nx.of; (first | exact S.assign)))
    refine Tr.loop (fun k : Nat => stL Try.f6.ntmps [] [(3, .ptr 3 0), (6, .bool false), (7, .ptr 10 0), (8, .int .i64 ((B.ns - 1 : Nat) : Int)), (9, .ptr 16 0), (16, .int .i64 kind), (18, .ptr 31 0), (20, .int .i64 pays), (22, .int .i64 first), (23, .int .i64 fe), (24, .int .i64 (k : Int))] ([(31, some (.cells [.int .i64 ol, .int .i64 ou])), (16, some (.cells (bk B a1 (grV 15 (riL (rdV B (coT B bv nb w) n) B.nc))).cells)), (10, some (.cells [.int .i64 (w : Int), grI 8 B.ns, grI 9 B.ns])), (9, some (.grown (fE (coT B bv nb w) B.ns) 1)), (8, some (.grown (fE (rT B bv nb) B.ns) 1)), (3, some (.cells (bk B a1 a2).cells)), (0, some (oSt B)), (1, some (oCk B)), (2, some (.ro (fE bv nb)))] ++ rwM (riE B (rdV B (coT B bv nb w) n)) 15 (riL (rdV B (coT B bv nb w) n) B.nc)) 32) (fun k => k ≤ B.ns) (fun k => B.ns - k) 0 (Nat.zero_le _) ?_ (fun k hk => ?_)
    · exact tw_wk h1 h2 (by omega) ⟨rfl, rfl, rfl, rfl, rfl, rfl, rfl, rfl, rfl, rfl, rfl, trivial⟩ rfl rfl rfl rfl rfl rfl rfl rfl rfl (fun hne => (by repeat' (first | (refine look_rwn hne ?_; simp; done))))
    by_cases hlt : k < B.ns
    · have hle : (k : Int) ≤ ((B.ns - 1 : Nat) : Int) := by omega
      have hq : stQ (riB B (rdV B (coT B bv nb w) n) (riL (rdV B (coT B bv nb w) n) B.nc)) (k : Int) := ⟨by omega, show (k : Int) ≤ (B.ns : Int) - 1 by omega⟩
      obtain ⟨cl, cu, hC, hC1, hC2⟩ := span_T (q := stQ (riB B (rdV B (coT B bv nb w) n) (riL (rdV B (coT B bv nb w) n) B.nc)) (k : Int)) (num := fun t : Tru => t.c (k : Int).toNat) (ansE_ok hX hq hW) hT
      obtain ⟨ll, lu, hL, hL1, hL2⟩ := span_T (q := stQ (riB B (rdV B (coT B bv nb w) n) (riL (rdV B (coT B bv nb w) n) B.nc)) (k : Int)) (num := ltV (riB B (rdV B (coT B bv nb w) n) (riL (rdV B (coT B bv nb w) n) B.nc)) (k : Int).toNat) (ansE_ok hX hq hW) hT
      obtain ⟨rl, ru, hO, hO1, hO2⟩ := span_T (q := stQ (riB B (rdV B (coT B bv nb w) n) (riL (rdV B (coT B bv nb w) n) B.nc)) (k : Int)) (num := fun t : Tru => t.r (k : Int).toNat) (ansE_ok hX hq hW) hT
      have xe := fE_at (coT B bv nb w) hlt
      have xr := fE_at (rT B bv nb) hlt
      have eC : ((trT B bv nb w)).c k = (coT B bv nb w) k := trT_c hns.2 hlt
      have eR : ((trT B bv nb w)).r k = (rT B bv nb) k := trT_r hns.2 hlt
      have eL : ltV (riB B (rdV B (coT B bv nb w) n) (riL (rdV B (coT B bv nb w) n) B.nc)) k (trT B bv nb w) = max 0 ((coT B bv nb w) k - B.due k) := by
        show max 0 (((trT B bv nb w)).c k - B.due k) = _
        rw [eC]
      have iC : cl ≤ (coT B bv nb w) k ∧ (coT B bv nb w) k ≤ cu := by rw [← eC]; exact ⟨hC1, hC2⟩
      have iR : rl ≤ (rT B bv nb) k ∧ (rT B bv nb) k ≤ ru := by rw [← eR]; exact ⟨hO1, hO2⟩
      have iL : ll ≤ max 0 ((coT B bv nb w) k - B.due k) ∧ max 0 ((coT B bv nb w) k - B.due k) ≤ lu := by rw [← eL]; exact ⟨hL1, hL2⟩
      have hcb := hco k hlt
      have hdue : 1 ≤ B.due k ∧ B.due k ≤ 300 := by
        have h3 := before_bd B k fun j hj => hB.1.2 j (by omega)
        have h4 := hB.1.2 _ hlt
        unfold stOk at h4
        omega
      repeat' (first | refine RT.nil ?_ | refine sq_n ?_ | refine Tr.seq ?_ | refine Tr.region ?_ | refine Tr.cond_t rfl ?_ | refine Tr.skip ?_ | refine Tr.block ?_ | (refine RT.goK rfl rfl rfl rfl ?_; refine Nx.of (S.leq_t hle) ?_) | (refine RT.goK rfl rfl rfl rfl ?_; apply Nx.of; (first | exact S.move | exact S.assign | exact S.loadNc rfl rfl rfl rfl | exact S.alloc rfl | exact S.extract rfl)) | (refine RT.goK0 rfl rfl rfl ?_; apply Nx.of; (first | exact S.store rfl rfl rfl rfl rfl rfl)) | (refine RT.call rfl rfl rfl (val_is hC (Comes_x (BkX.ri (B := B) (rv := (rdV B (coT B bv nb w) n)) (K := (riL (rdV B (coT B bv nb w) n) B.nc)) h1 rfl (fun hne => (by repeat' (first | (refine look_rwn hne ?_; simp; done))))) hn _ _)) rfl rfl (Nat.le_refl _) ?_) | (refine RT.call rfl rfl rfl (val_is hL (Late_x (BkX.ri (B := B) (rv := (rdV B (coT B bv nb w) n)) (K := (riL (rdV B (coT B bv nb w) n) B.nc)) h1 rfl (fun hne => (by repeat' (first | (refine look_rwn hne ?_; simp; done))))) hn _ _)) rfl rfl (Nat.le_refl _) ?_) | (refine RT.call rfl rfl rfl (val_is hO (Rough_x (BkX.ri (B := B) (rv := (rdV B (coT B bv nb w) n)) (K := (riL (rdV B (coT B bv nb w) n) B.nc)) h1 rfl (fun hne => (by repeat' (first | (refine look_rwn hne ?_; simp; done))))) hn _ _)) rfl rfl (Nat.le_refl _) ?_))
      refine Tr.openK un6_20 (by kernel_rfl) (by kernel_rfl) noCall noCall_calm ?_
      repeat' (first | (refine RD.free rfl rfl rfl rfl rfl rfl ?_; apply Nx.of; (first | exact S.move | exact S.assign | exact S.fieldAddr rfl rfl rfl | exact S.sub (by unfold In64; omega) | exact S.max2 | exact S.idx_sl rfl rfl rfl (by assumption) (by omega))) | (refine RD.load rfl rfl rfl rfl rfl rfl rfl rfl ?_; apply Nx.of; (first | exact S.load1c rfl rfl rfl rfl | exact S.row0 rfl rfl rfl (fun _ => rfl) (range_at (by omega)) rfl)) | (refine RD.load rfl rfl rfl rfl rfl rfl rfl (by refine us_all ?_; simp only [usOk, cond_true, cond_false]; (repeat' (first | exact trivial | refine And.intro ?_ ?_)); all_goals (first | rfl | exact .inl trivial | exact .inl rfl | (refine Or.inr ⟨_, _, _, rfl, getM rfl, getM rfl, ?_⟩; (first | rfl | (simp [rfO, rfVs, rfV, rfVs_flat]; done) | (simp [bk, AV.cells, pbC, rfO, rfVs, rfV, h1.rf, h2.rf, h3.rf, hg8.rf, hg9.rf, grV_rf, rfVs_flat, fE]; done))))) ?_; apply Nx.of; (first | exact S.load1g rfl rfl rfl xe)) | refine RD.nil ⟨Nat.le_of_ble_eq_true rfl, ?_⟩)
      repeat' (first | refine sq_n ?_ | refine Tr.seq ?_)
      have hfe2 := hfe.2
      rcases hfe2 with ⟨rfl, hlt0⟩ | rfl
      · by_cases hfk : (k : Int) = first
        · have hlk : ¬ max 0 ((coT B bv nb w) k - B.due k) = 0 := by
            have := hlt0 k hfk
            rw [eL] at this
            omega
          (refine Tr.openK un6_21 (by kernel_rfl) (by kernel_rfl) holdF holdF_calm ?_; repeat' (first | (refine RD.free rfl rfl rfl rfl rfl rfl ?_; apply Nx.of; (first | exact S.eql_t (by decide) | exact S.neq_f (by decide))) | (refine RD.free rfl rfl rfl rfl rfl rfl ?_; apply Nx.of; (first | exact S.eql_t hfk | exact S.eql_f hlk)) | (refine RD.free rfl rfl rfl rfl rfl rfl ?_; apply Nx.of; (first | exact S.move | exact S.fieldAddr rfl rfl rfl | exact S.not_t | exact S.pick_tt | exact S.pick_ff | exact S.idx_sl rfl rfl rfl (by assumption) (by omega))) | (refine RD.load rfl rfl rfl rfl rfl rfl rfl rfl ?_; apply Nx.of; (first | exact S.load1c rfl rfl rfl rfl | exact S.loadNc rfl rfl rfl rfl)) | (refine RD.load rfl rfl rfl rfl rfl rfl rfl (by refine us_all ?_; simp only [usOk, cond_true, cond_false]; (repeat' (first | exact trivial | refine And.intro ?_ ?_)); all_goals (first | rfl | exact .inl trivial)) ?_; apply Nx.of; (first | exact S.load1g rfl rfl rfl xe | exact S.load1g rfl rfl rfl xr)) | (refine RD.callN rfl rfl rfl rfl rfl rfl rfl rfl rfl (fun fl' => holdF_at (by assumption) fl' _ _) (fun _ => by refine srOk_all ?_; simp only [srOk]; (repeat' (first | exact trivial | refine And.intro ?_ ?_)); all_goals (first | exact trivial | (refine ⟨_, rfl, ?_⟩; (first | rfl | (simp [rfO, rfVs, rfV, rfVs_flat]; done) | (simp [bk, AV.cells, pbC, rfO, rfVs, rfV, h1.rf, h2.rf, h3.rf, hg8.rf, hg9.rf, grV_rf, rfVs_flat, fE]; done))))) ?_) | refine RD.nil ⟨Nat.le_of_ble_eq_true rfl, ?_⟩)); (repeat' (first | refine RT.nil ?_ | refine sq_n ?_ | refine Tr.region ?_ | refine Tr.cond_f rfl ?_ | refine Tr.skip ?_ | refine blk_n ?_ | (refine RT.goK rfl rfl rfl rfl ?_; apply Nx.of; (first | exact S.move | exact S.assign | exact S.add_one (by omega))))); (refine lp_n (k + 1) hlt (by omega) ?_; exact tw_wk h1 h2 (by omega) ⟨rfl, rfl, rfl, rfl, rfl, rfl, rfl, rfl, rfl, rfl, rfl, trivial⟩ rfl rfl rfl rfl rfl rfl rfl rfl rfl (fun hne => (by repeat' (first | (refine look_rwn hne ?_; simp; done)))))
        · (refine Tr.openK un6_21 (by kernel_rfl) (by kernel_rfl) holdF holdF_calm ?_; repeat' (first | (refine RD.free rfl rfl rfl rfl rfl rfl ?_; apply Nx.of; (first | exact S.eql_t (by decide) | exact S.neq_f (by decide))) | (refine RD.free rfl rfl rfl rfl rfl rfl ?_; apply Nx.of; (first | exact S.eql_f hfk)) | (refine RD.free rfl rfl rfl rfl rfl rfl ?_; apply Nx.of; (first | exact S.move | exact S.fieldAddr rfl rfl rfl | exact S.not_t | exact S.pick_tt | exact S.pick_ff | exact S.idx_sl rfl rfl rfl (by assumption) (by omega))) | (refine RD.load rfl rfl rfl rfl rfl rfl rfl rfl ?_; apply Nx.of; (first | exact S.load1c rfl rfl rfl rfl | exact S.loadNc rfl rfl rfl rfl)) | (refine RD.no rfl rfl rfl rfl ?_) | (refine RD.load rfl rfl rfl rfl rfl rfl rfl (by refine us_all ?_; simp only [usOk, cond_true, cond_false]; (repeat' (first | exact trivial | refine And.intro ?_ ?_)); all_goals (first | rfl | exact .inl trivial)) ?_; apply Nx.of; (first | exact S.load1g rfl rfl rfl xe | exact S.load1g rfl rfl rfl xr)) | (refine RD.callN rfl rfl rfl rfl rfl rfl rfl rfl rfl (fun fl' => holdF_at (by assumption) fl' _ _) (fun _ => by refine srOk_all ?_; simp only [srOk]; (repeat' (first | exact trivial | refine And.intro ?_ ?_)); all_goals (first | exact trivial | (refine ⟨_, rfl, ?_⟩; (first | rfl | (simp [rfO, rfVs, rfV, rfVs_flat]; done) | (simp [bk, AV.cells, pbC, rfO, rfVs, rfV, h1.rf, h2.rf, h3.rf, hg8.rf, hg9.rf, grV_rf, rfVs_flat, fE]; done))))) ?_) | refine RD.nil ⟨Nat.le_of_ble_eq_true rfl, ?_⟩)); (repeat' (first | refine RT.nil ?_ | refine sq_n ?_ | refine Tr.region ?_ | refine Tr.cond_f rfl ?_ | refine Tr.skip ?_ | refine blk_n ?_ | (refine RT.goK rfl rfl rfl rfl ?_; apply Nx.of; (first | exact S.move | exact S.assign | exact S.add_one (by omega))))); (refine lp_n (k + 1) hlt (by omega) ?_; exact tw_wk h1 h2 (by omega) ⟨rfl, rfl, rfl, rfl, rfl, rfl, rfl, rfl, rfl, rfl, rfl, trivial⟩ rfl rfl rfl rfl rfl rfl rfl rfl rfl (fun hne => (by repeat' (first | (refine look_rwn hne ?_; simp; done)))))
      · (refine Tr.openK un6_21 (by kernel_rfl) (by kernel_rfl) holdF holdF_calm ?_; repeat' (first | (refine RD.free rfl rfl rfl rfl rfl rfl ?_; apply Nx.of; (first | exact S.eql_f (by decide) | exact S.neq_f (by decide))) | (refine RD.free rfl rfl rfl rfl rfl rfl ?_; apply Nx.of; (first | exact S.move | exact S.fieldAddr rfl rfl rfl | exact S.not_t | exact S.pick_ff | exact S.idx_sl rfl rfl rfl (by assumption) (by omega))) | (refine RD.load rfl rfl rfl rfl rfl rfl rfl rfl ?_; apply Nx.of; (first | exact S.load1c rfl rfl rfl rfl | exact S.loadNc rfl rfl rfl rfl)) | (refine RD.no rfl rfl rfl rfl ?_) | (refine RD.load rfl rfl rfl rfl rfl rfl rfl (by refine us_all ?_; simp only [usOk, cond_true, cond_false]; (repeat' (first | exact trivial | refine And.intro ?_ ?_)); all_goals (first | rfl | exact .inl trivial)) ?_; apply Nx.of; (first | exact S.load1g rfl rfl rfl xe | exact S.load1g rfl rfl rfl xr)) | (refine RD.callN rfl rfl rfl rfl rfl rfl rfl rfl rfl (fun fl' => holdF_at (by assumption) fl' _ _) (fun _ => by refine srOk_all ?_; simp only [srOk]; (repeat' (first | exact trivial | refine And.intro ?_ ?_)); all_goals (first | exact trivial | (refine ⟨_, rfl, ?_⟩; (first | rfl | (simp [rfO, rfVs, rfV, rfVs_flat]; done) | (simp [bk, AV.cells, pbC, rfO, rfVs, rfV, h1.rf, h2.rf, h3.rf, hg8.rf, hg9.rf, grV_rf, rfVs_flat, fE]; done))))) ?_) | refine RD.nil ⟨Nat.le_of_ble_eq_true rfl, ?_⟩)); (repeat' (first | refine RT.nil ?_ | refine sq_n ?_ | refine Tr.region ?_ | refine Tr.cond_f rfl ?_ | refine Tr.skip ?_ | refine blk_n ?_ | (refine RT.goK rfl rfl rfl rfl ?_; apply Nx.of; (first | exact S.move | exact S.assign | exact S.add_one (by omega))))); (refine lp_n (k + 1) hlt (by omega) ?_; exact tw_wk h1 h2 (by omega) ⟨rfl, rfl, rfl, rfl, rfl, rfl, rfl, rfl, rfl, rfl, rfl, trivial⟩ rfl rfl rfl rfl rfl rfl rfl rfl rfl (fun hne => (by repeat' (first | (refine look_rwn hne ?_; simp; done)))))
    · obtain rfl : k = B.ns := by omega
      have hle : ¬ (B.ns : Int) ≤ ((B.ns - 1 : Nat) : Int) := by omega
      have xe := fE_at (coT B bv nb w) (show B.ns - 1 < B.ns by omega)
      have xr := fE_at (rT B bv nb) (show B.ns - 1 < B.ns by omega)
      have hcb := hco (B.ns - 1) (by omega)
      have hdue : 1 ≤ B.due (B.ns - 1) ∧ B.due (B.ns - 1) ≤ 300 := by
        have h3 := before_bd B (B.ns - 1) fun j hj => hB.1.2 j (by omega)
        have h4 := hB.1.2 (B.ns - 1) (by omega)
        unfold stOk at h4
        omega
      have tF : CalmC 0 Try.prog (totF 8 (rT B bv nb) B.ns) := totF_calm (by omega) (fun k hk => by have := tot_bd (bv := bv) (nb := nb) hB hw3 k hk; omega)
      have hk2' : kind = 2 → _ := fun h => blT.1 (hk2 h)
      have hk0' : kind = 0 → ¬ _ := fun h g => hk0 h (blT.2 g)
      have hp2' : ¬ _ → pays = 0 := fun g => hp2 (fun q => g (blT.1 q))
      repeat' (first | refine RT.nil ?_ | refine sq_n ?_ | refine Tr.seq ?_ | refine Tr.region ?_ | refine Tr.cond_f rfl ?_ | refine Tr.exit ?_ | refine sq_x ?_ | refine blk_hit rfl ?_ | refine lp_x ?_ | (refine RT.goK rfl rfl rfl rfl ?_; refine Nx.of (S.leq_f hle) ?_) | (refine RT.goK rfl rfl rfl rfl ?_; apply Nx.of; (first | exact S.move)))
      refine Tr.openK un6_23 (by kernel_rfl) (by kernel_rfl) (totF 8 (rT B bv nb) B.ns) tF ?_
      repeat' (first | (refine RD.free rfl rfl rfl rfl rfl rfl ?_; apply Nx.of; (first | exact S.move | exact S.assign | exact S.fieldAddr rfl rfl rfl | exact S.sub (by unfold In64; omega) | exact S.max2 | exact S.idx_sl rfl rfl rfl (by assumption) (by omega))) | (refine RD.load rfl rfl rfl rfl rfl rfl rfl rfl ?_; apply Nx.of; (first | exact S.load1c rfl rfl rfl rfl | exact S.row0 rfl rfl rfl (fun _ => rfl) (range_at (by omega)) rfl)) | (refine RD.load rfl rfl rfl rfl rfl rfl rfl (by refine us_all ?_; simp only [usOk, cond_true, cond_false]; (repeat' (first | exact trivial | refine And.intro ?_ ?_)); all_goals (first | rfl | exact .inl trivial | exact .inl rfl | (refine Or.inr ⟨_, _, _, rfl, getM rfl, getM rfl, ?_⟩; (first | rfl | (simp [rfO, rfVs, rfV, rfVs_flat]; done) | (simp [bk, AV.cells, pbC, rfO, rfVs, rfV, h1.rf, h2.rf, h3.rf, hg8.rf, hg9.rf, grV_rf, rfVs_flat, fE]; done))))) ?_; apply Nx.of; (first | exact S.load1g rfl rfl rfl xe)) | (refine RD.callN rfl rfl rfl rfl rfl rfl rfl rfl rfl (fun fl' => one1_at ⟨_, rfl, rfl⟩ fl') (fun _ => by refine srOk_all ?_; simp only [srOk]; (repeat' (first | exact trivial | refine And.intro ?_ ?_)); all_goals (first | (refine ⟨_, rfl, ?_⟩; (first | (simp [rfO, rfVs, rfV, rfVs_flat]; done) | (simp [bk, AV.cells, pbC, rfO, rfVs, rfV, h1.rf, h2.rf, h3.rf, hg8.rf, hg9.rf, grV_rf, rfVs_flat, fE]; done))))) ?_) | refine RD.nil ⟨Nat.le_of_ble_eq_true rfl, ?_⟩)
      by_cases hb1 : 0 < max 0 ((coT B bv nb w) (B.ns - 1) - B.due (B.ns - 1))
      · by_cases hb2 : max 0 ((coT B bv nb w) (B.ns - 1) - B.due (B.ns - 1)) ≤ totV (rT B bv nb) B.ns
        · have hne : kind ≠ 0 := fun h => hk0' h ⟨by omega, hb2⟩
          rcases hk3 with h | h | h
          · exact absurd h hne
          · (repeat' (first | refine RT.nil ?_ | refine sq_n ?_ | refine Tr.seq ?_ | refine Tr.region ?_ | refine Tr.cond_f rfl ?_ | refine Tr.skip ?_ | refine Tr.ret ?_ | (refine RT.goK rfl rfl rfl rfl ?_; first | refine Nx.of (S.leq_t (by omega)) ?_ | refine Nx.of (S.eql_f (by omega)) ?_ | refine Nx.of (S.gtr_t (by omega)) ?_) | (refine RT.call rfl rfl rfl (Holds_t hDT _ _ _) rfl rfl (Nat.le_refl _) ?_) | (refine RT.call rfl rfl rfl (val_is hAF (Amid_at _ _ _ _ _ _)) rfl rfl (Nat.le_refl _) ?_) | (refine RT.call rfl rfl rfl (hb.root_at _ _ _) rfl rfl (Nat.le_refl _) ?_) | (refine RT.goK rfl rfl rfl rfl ?_; apply Nx.of; (first | exact S.move | exact S.assign | exact S.load1c rfl rfl rfl rfl | exact S.loadNc rfl rfl rfl rfl | exact S.fieldAddr rfl rfl rfl | exact S.not_t | exact S.pick_tt | exact S.pick_ff | exact S.mul (by unfold In64; omega) | exact S.min2)) | (refine RT.no rfl rfl rfl ?_))); (first | refine rt_go rfl ?_); rfl
          · (repeat' (first | refine RT.nil ?_ | refine sq_n ?_ | refine Tr.seq ?_ | refine Tr.region ?_ | refine Tr.cond_f rfl ?_ | refine Tr.skip ?_ | refine Tr.ret ?_ | (refine RT.goK rfl rfl rfl rfl ?_; first | refine Nx.of (S.leq_t (by omega)) ?_ | refine Nx.of (S.eql_t (by omega)) ?_ | refine Nx.of (S.eql_f (by omega)) ?_ | refine Nx.of (S.gtr_t (by omega)) ?_) | (refine RT.call rfl rfl rfl (Holds_t hDT _ _ _) rfl rfl (Nat.le_refl _) ?_) | (refine RT.call rfl rfl rfl (val_is hAF (Amid_at _ _ _ _ _ _)) rfl rfl (Nat.le_refl _) ?_) | (refine RT.call rfl rfl rfl (hb.root_at _ _ _) rfl rfl (Nat.le_refl _) ?_) | (refine RT.goK rfl rfl rfl rfl ?_; apply Nx.of; (first | exact S.move | exact S.assign | exact S.load1c rfl rfl rfl rfl | exact S.loadNc rfl rfl rfl rfl | exact S.fieldAddr rfl rfl rfl | exact S.not_t | exact S.pick_tt | exact S.pick_ff | exact S.mul (by unfold In64; omega) | exact S.min2)) | (refine RT.no rfl rfl rfl ?_))); (first | refine rt_go rfl ?_); rfl
        · have hne : kind ≠ 2 := fun h => hb2 (hk2' h).2
          have hp0 := hp2' (fun g => hb2 g.2)
          rcases hk3 with h | h | h
          · (repeat' (first | refine RT.nil ?_ | refine sq_n ?_ | refine Tr.seq ?_ | refine Tr.region ?_ | refine Tr.cond_f rfl ?_ | refine Tr.skip ?_ | refine Tr.ret ?_ | (refine RT.goK rfl rfl rfl rfl ?_; first | refine Nx.of (S.leq_t (by omega)) ?_ | refine Nx.of (S.leq_f (by omega)) ?_ | refine Nx.of (S.eql_t (by omega)) ?_ | refine Nx.of (S.eql_f (by omega)) ?_ | refine Nx.of (S.gtr_t (by omega)) ?_) | (refine RT.call rfl rfl rfl (Holds_t hDT _ _ _) rfl rfl (Nat.le_refl _) ?_) | (refine RT.call rfl rfl rfl (val_is hAF (Amid_at _ _ _ _ _ _)) rfl rfl (Nat.le_refl _) ?_) | (refine RT.call rfl rfl rfl (hb.root_at _ _ _) rfl rfl (Nat.le_refl _) ?_) | (refine RT.goK rfl rfl rfl rfl ?_; apply Nx.of; (first | exact S.move | exact S.assign | exact S.load1c rfl rfl rfl rfl | exact S.loadNc rfl rfl rfl rfl | exact S.fieldAddr rfl rfl rfl | exact S.not_t | exact S.pick_tt | exact S.pick_ff | exact S.mul (by unfold In64; omega) | exact S.min2)) | (refine RT.no rfl rfl rfl ?_))); (first | refine rt_go rfl ?_); rfl
          · (repeat' (first | refine RT.nil ?_ | refine sq_n ?_ | refine Tr.seq ?_ | refine Tr.region ?_ | refine Tr.cond_f rfl ?_ | refine Tr.skip ?_ | refine Tr.ret ?_ | (refine RT.goK rfl rfl rfl rfl ?_; first | refine Nx.of (S.leq_t (by omega)) ?_ | refine Nx.of (S.leq_f (by omega)) ?_ | refine Nx.of (S.eql_t (by omega)) ?_ | refine Nx.of (S.eql_f (by omega)) ?_ | refine Nx.of (S.gtr_t (by omega)) ?_) | (refine RT.call rfl rfl rfl (Holds_t hDT _ _ _) rfl rfl (Nat.le_refl _) ?_) | (refine RT.call rfl rfl rfl (val_is hAF (Amid_at _ _ _ _ _ _)) rfl rfl (Nat.le_refl _) ?_) | (refine RT.call rfl rfl rfl (hb.root_at _ _ _) rfl rfl (Nat.le_refl _) ?_) | (refine RT.goK rfl rfl rfl rfl ?_; apply Nx.of; (first | exact S.move | exact S.assign | exact S.load1c rfl rfl rfl rfl | exact S.loadNc rfl rfl rfl rfl | exact S.fieldAddr rfl rfl rfl | exact S.not_t | exact S.pick_tt | exact S.pick_ff | exact S.mul (by unfold In64; omega) | exact S.min2)) | (refine RT.no rfl rfl rfl ?_))); (first | refine rt_go rfl ?_); rfl
          · exact absurd h hne
      · have hne : kind ≠ 2 := fun h => hb1 (by have := (hk2' h).1; omega)
        have hp0 := hp2' (fun g => hb1 (by have := g.1; omega))
        rcases hk3 with h | h | h
        · (repeat' (first | refine RT.nil ?_ | refine sq_n ?_ | refine Tr.seq ?_ | refine Tr.region ?_ | refine Tr.cond_f rfl ?_ | refine Tr.skip ?_ | refine Tr.ret ?_ | (refine RT.goK rfl rfl rfl rfl ?_; first | refine Nx.of (S.leq_t (by omega)) ?_ | refine Nx.of (S.eql_t (by omega)) ?_ | refine Nx.of (S.eql_f (by omega)) ?_ | refine Nx.of (S.gtr_f (by omega)) ?_) | (refine RT.call rfl rfl rfl (Holds_t hDT _ _ _) rfl rfl (Nat.le_refl _) ?_) | (refine RT.call rfl rfl rfl (val_is hAF (Amid_at _ _ _ _ _ _)) rfl rfl (Nat.le_refl _) ?_) | (refine RT.call rfl rfl rfl (hb.root_at _ _ _) rfl rfl (Nat.le_refl _) ?_) | (refine RT.goK rfl rfl rfl rfl ?_; apply Nx.of; (first | exact S.move | exact S.assign | exact S.load1c rfl rfl rfl rfl | exact S.loadNc rfl rfl rfl rfl | exact S.fieldAddr rfl rfl rfl | exact S.not_t | exact S.pick_tt | exact S.pick_ff | exact S.mul (by unfold In64; omega) | exact S.min2)) | (refine RT.no rfl rfl rfl ?_))); (first | refine rt_go rfl ?_); rfl
        · (repeat' (first | refine RT.nil ?_ | refine sq_n ?_ | refine Tr.seq ?_ | refine Tr.region ?_ | refine Tr.cond_f rfl ?_ | refine Tr.skip ?_ | refine Tr.ret ?_ | (refine RT.goK rfl rfl rfl rfl ?_; first | refine Nx.of (S.leq_t (by omega)) ?_ | refine Nx.of (S.eql_t (by omega)) ?_ | refine Nx.of (S.eql_f (by omega)) ?_ | refine Nx.of (S.gtr_f (by omega)) ?_) | (refine RT.call rfl rfl rfl (Holds_t hDT _ _ _) rfl rfl (Nat.le_refl _) ?_) | (refine RT.call rfl rfl rfl (val_is hAF (Amid_at _ _ _ _ _ _)) rfl rfl (Nat.le_refl _) ?_) | (refine RT.call rfl rfl rfl (hb.root_at _ _ _) rfl rfl (Nat.le_refl _) ?_) | (refine RT.goK rfl rfl rfl rfl ?_; apply Nx.of; (first | exact S.move | exact S.assign | exact S.load1c rfl rfl rfl rfl | exact S.loadNc rfl rfl rfl rfl | exact S.fieldAddr rfl rfl rfl | exact S.not_t | exact S.pick_tt | exact S.pick_ff | exact S.mul (by unfold In64; omega) | exact S.min2)) | (refine RT.no rfl rfl rfl ?_))); (first | refine rt_go rfl ?_); rfl
        · exact absurd h hne
  · repeat' (first | refine RT.nil ?_ | refine sq_n ?_ | refine Tr.seq ?_ | refine Tr.region ?_ | refine Tr.cond_t rfl ?_ | refine Tr.ret ?_ | refine sq_r ?_ | (refine RT.call rfl rfl rfl (hb.root_at _ _ _) rfl rfl (Nat.le_refl _) ?_) | (refine RT.call rfl rfl rfl (sound_f ⟨h1, h2, rfl, rfl, by decide⟩ hn hB _) rfl rfl (Nat.le_refl _) ?_) | (refine RT.goK rfl rfl rfl rfl ?_; apply Nx.of; (first | exact S.assign | exact S.loadNc rfl rfl rfl rfl | exact S.not_f | exact S.box)))
    (first | refine rt_go rfl ?_)
    rfl
end Go.Proofs.Ytjncfddnphhofaa
