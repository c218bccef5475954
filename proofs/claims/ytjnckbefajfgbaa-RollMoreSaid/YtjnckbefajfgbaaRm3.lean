/- Texts of one kind, one behind the other: Ka, Kb, SyY, SyZ, Kc, SyNp, Kd, Ke. -/
import Derived.Test.YtjnckbefajfgbaaRm2
set_option linter.unusedVariables false
set_option linter.unusedSimpArgs false
/- The valid book of package roll: isWithin .. Check answer what the chapter asks, for all arguments. -/
namespace Go.Proofs.Ytjnckbefajfgbaa
open Go Go.Ev

theorem pls_flat {τ : Type} (enc : τ → List Int) (L : List τ) : Pls (flat enc L) := fun σ => rens_flat enc σ L
set_option maxRecDepth 100000 in
theorem isWithin_can (n lo hi : Int) : CanS 0 Try.prog 91 0 [.int .i64 n, .int .i64 lo, .int .i64 hi] [] 0 fun v _ _ => v = .bool (decide (lo ≤ n ∧ n ≤ hi)) := by
  refine CanS.mk Try.func91 rfl rfl rfl ?_
  repeat' (first | refine RT.nil ?_ | refine sq_n ?_ | refine Tr.seq ?_ | refine Tr.region ?_ | refine Tr.ret ?_ | (refine RT.splitd rfl rfl (fun _ => ?_) (fun _ => ?_)) | (refine RT.goK rfl rfl rfl rfl ?_; apply Nx.of; (first | exact S.move | exact S.assign | exact S.leq | exact S.pick_tt | exact S.pick_ff)) | (refine RT.no rfl rfl rfl ?_))
  all_goals
    (first | refine rt_go rfl ?_)
    simp [*, retV]
theorem isWithin_at (fl : Nat) (n lo hi : Int) (H : T AObj) (c : Nat) : OkAt 0 Try.prog fl 91 [.int .i64 n, .int .i64 lo, .int .i64 hi] H c (.bool (decide (lo ≤ n ∧ n ≤ hi))) H c :=
  (isWithin_can n lo hi).pure (.bool _) (.plain fun _ => rfl) fl

/-- The numbers of a book: layers, days, looks. -/
structure RBook where
  nl : Nat
  nee : Nat → Int
  yar : Nat → Int
  nd : Nat
  wl : Nat → Int
  wh : Nat → Int
  sky : Nat → Int
  nk : Nat
  ld : Nat → Int
  lb : Nat → Int

def laE (B : RBook) (i : Nat) : List Int := [B.nee i, B.yar i]
def daE (B : RBook) (i : Nat) : List Int := [B.wl i, B.wh i, B.sky i]
def loE (B : RBook) (i : Nat) : List Int := [B.ld i, B.lb i]
abbrev oLa (B : RBook) : AObj := .ro (flat (laE B) (List.range B.nl))
abbrev oDa (B : RBook) : AObj := .ro (flat (daE B) (List.range B.nd))
abbrev oLo (B : RBook) : AObj := .ro (flat (loE B) (List.range B.nk))
def laOk (B : RBook) (i : Nat) : Prop := (1 ≤ B.nee i ∧ B.nee i ≤ 30) ∧ 1 ≤ B.yar i ∧ B.yar i ≤ 50
def lasOk (B : RBook) : Prop := (1 ≤ B.nl ∧ B.nl ≤ 4) ∧ ∀ i, i < B.nl → laOk B i
set_option maxRecDepth 100000 in
theorem areLayers_can (B : RBook) (a : AV) (ha : IsSl a B.nl 0) : CanS 0 Try.prog 104 1 [a] [(0, some (oLa B))] 1 fun v _ _ => v = .bool (dB (lasOk B)) := by
  refine CanS.mk Try.func104 rfl rfl rfl ?_
  repeat' (first | refine RT.nil ?_ | refine sq_n ?_ | refine Tr.seq ?_ | refine Tr.region ?_ | refine Tr.cond_d rfl (fun _ => ?_) (fun _ => ?_) | refine Tr.skip ?_ | refine Tr.ret ?_ | refine sq_r ?_ | refine Tr.block ?_ | (refine RT.call rfl rfl rfl (isWithin_at _ _ _ _ _ _) rfl rfl (Nat.le_refl _) ?_) | (refine RT.goK rfl rfl rfl rfl ?_; apply Nx.of; (first | exact S.move | exact S.assign | exact S.not_d)) | (refine RT.goK rfl rfl rfl rfl ?_; apply Nx.of; (first | exact S.len_sl rfl rfl rfl (by assumption))))
  · (first | refine rt_go rfl ?_)
    refine dB_no fun h => ?_
    unfold lasOk at h
    omega
  · refine Tr.loop (fun k : Nat => stL Try.f104.ntmps [] [(0, a), (2, .bool false), (9, a), (10, .int .i64 B.nl), (11, .int .i64 k)] [(0, some (oLa B))] 1) (fun k => k ≤ B.nl ∧ ∀ i, i < k → laOk B i) (fun k => B.nl - k) 0 ⟨Nat.zero_le _, fun i hi => absurd hi (Nat.not_lt_zero i)⟩ (by (refine Wk.same (by decide) (by decide) (by decide) (by decide) ?_ ?_ rfl; all_goals ((try simp only [allL, allM]); (repeat' (first | exact trivial | refine And.intro ?_ ?_)); all_goals (first | rfl | exact IsSl.ren (by assumption) (nm_lt (by decide)) | exact ren_ro _ _ _ | decide)))) (fun k hk => ?_)
    obtain ⟨hk, hall⟩ := hk
    repeat' (first | refine RT.nil ?_ | refine sq_n ?_ | refine Tr.seq ?_ | refine Tr.region ?_ | refine Tr.cond_t rfl ?_ | refine Tr.cond_d rfl (fun _ => ?_) (fun _ => ?_) | refine Tr.skip ?_ | refine Tr.ret ?_ | refine sq_r ?_ | refine Tr.exit ?_ | refine sq_x ?_ | refine Tr.block ?_ | refine blk_n ?_ | refine blk_r ?_ | refine blk_hit rfl ?_ | refine lp_r ?_ | refine lp_x ?_ | (refine RT.splitd rfl rfl (fun _ => ?_) (fun _ => ?_)) | (refine RT.call rfl rfl rfl (isWithin_at _ _ _ _ _ _) rfl rfl (Nat.le_refl _) ?_) | (refine RT.goK rfl rfl rfl rfl ?_; apply Nx.of; (first | exact S.move | exact S.assign | exact S.load1c rfl rfl rfl rfl | exact S.fieldAddr rfl rfl rfl | exact S.lss | exact S.not_d | exact S.pick_tt | exact S.pick_ff | exact S.alloc rfl | exact S.add_one (by omega))) | (refine RT.goK0 rfl rfl rfl ?_; apply Nx.of; (first | exact S.store rfl rfl rfl rfl rfl rfl)) | (refine RT.goK rfl rfl rfl rfl ?_; apply Nx.of; (first | exact S.idx_sl rfl rfl rfl (by assumption) (by omega) | exact S.rowN0 rfl rfl rfl (fun _ => rfl) (range_at (by omega)) rfl)) | (refine RT.no rfl rfl rfl ?_))
    · (first | refine rt_go rfl ?_)
      refine dB_no fun h => ?_
      have := h.2 k (by omega)
      unfold laOk at this
      omega
    · (first | refine rt_go rfl ?_)
      refine dB_no fun h => ?_
      have := h.2 k (by omega)
      unfold laOk at this
      omega
    · refine lp_n (k + 1) ⟨by omega, fun i hi => ?_⟩ (by omega) (by (refine Wk.same (by decide) (by decide) (by decide) (by decide) ?_ ?_ rfl; all_goals ((try simp only [allL, allM]); (repeat' (first | exact trivial | refine And.intro ?_ ?_)); all_goals (first | rfl | exact IsSl.ren (by assumption) (nm_lt (by decide)) | exact ren_ro _ _ _ | decide))))
      rcases Nat.lt_succ_iff_lt_or_eq.1 hi with h | rfl
      · exact hall i h
      · unfold laOk; omega
    · (first | refine rt_go rfl ?_)
      refine dB_yes ⟨by omega, fun i hi => hall i (by omega)⟩
theorem areLayers_at (B : RBook) (a : AV) (ha : IsSl a B.nl 0) {m : List (Nat × Option AObj)} {c : Nat} (hm : lookM m 0 = some (oLa B)) (hc : 1 ≤ c) (fl : Nat) :
    OkAt 0 Try.prog fl 104 [a] (ofM m) c (.bool (dB (lasOk B))) (ofM m) c :=
  (areLayers_can B a ha).pure (.bool _) (.nm hc (by omega) ⟨⟨hm, ren_ro _ _ _, by omega⟩, trivial⟩ (congrArg (fun v => [v]) (ha.ren (nm_lt (by omega))))) fl

set_option maxRecDepth 100000 in
theorem areWagons_can (lo hi : Int) : CanS 0 Try.prog 116 0 [.agg [.int .i64 lo, .int .i64 hi]] [] 0 fun v _ _ => v = .bool (decide ((0 ≤ lo ∧ lo ≤ 20) ∧ (lo ≤ hi ∧ hi ≤ 20) ∧ hi - lo ≤ 1)) := by
  refine CanS.mk Try.func116 rfl rfl rfl ?_
  repeat' (first | refine RT.nil ?_ | refine sq_n ?_ | refine Tr.seq ?_ | refine Tr.region ?_ | refine Tr.ret ?_ | (refine RT.splitd rfl rfl (fun _ => ?_) (fun _ => ?_)) | (refine RT.call rfl rfl rfl (isWithin_at _ _ _ _ _ _) rfl rfl (Nat.le_refl _) ?_) | (refine RT.goK rfl rfl rfl rfl ?_; apply Nx.of; (first | exact S.move | exact S.assign | exact S.load1c rfl rfl rfl rfl | exact S.fieldAddr rfl rfl rfl | exact S.leq | exact S.pick_tt | exact S.pick_ff | exact S.box | exact S.sub (by unfold In64; omega))) | (refine RT.no rfl rfl rfl ?_))
  all_goals
    (first | refine rt_go rfl ?_)
    simp [*, retV]
theorem areWagons_at (fl : Nat) (lo hi : Int) (H : T AObj) (c : Nat) : OkAt 0 Try.prog fl 116 [.agg [.int .i64 lo, .int .i64 hi]] H c (.bool (decide ((0 ≤ lo ∧ lo ≤ 20) ∧ (lo ≤ hi ∧ hi ≤ 20) ∧ hi - lo ≤ 1))) H c :=
  (areWagons_can lo hi).pure (.bool _) (.plain fun _ => rfl) fl
def daOk (B : RBook) (i : Nat) : Prop := ((0 ≤ B.wl i ∧ B.wl i ≤ 20) ∧ (B.wl i ≤ B.wh i ∧ B.wh i ≤ 20) ∧ B.wh i - B.wl i ≤ 1) ∧ 1 ≤ B.sky i ∧ B.sky i ≤ 7
def dasOk (B : RBook) : Prop := (1 ≤ B.nd ∧ B.nd ≤ 5) ∧ ∀ i, i < B.nd → daOk B i
set_option maxRecDepth 100000 in
theorem areDays_can (B : RBook) (a : AV) (ha : IsSl a B.nd 0) : CanS 0 Try.prog 105 1 [a] [(0, some (oDa B))] 1 fun v _ _ => v = .bool (dB (dasOk B)) := by
  refine CanS.mk Try.func105 rfl rfl rfl ?_
  repeat' (first | refine RT.nil ?_ | refine sq_n ?_ | refine Tr.seq ?_ | refine Tr.region ?_ | refine Tr.cond_d rfl (fun _ => ?_) (fun _ => ?_) | refine Tr.skip ?_ | refine Tr.ret ?_ | refine sq_r ?_ | refine Tr.block ?_ | (refine RT.call rfl rfl rfl (isWithin_at _ _ _ _ _ _) rfl rfl (Nat.le_refl _) ?_) | (refine RT.goK rfl rfl rfl rfl ?_; apply Nx.of; (first | exact S.move | exact S.assign | exact S.not_d)) | (refine RT.goK rfl rfl rfl rfl ?_; apply Nx.of; (first | exact S.len_sl rfl rfl rfl (by assumption))))
  · (first | refine rt_go rfl ?_)
    refine dB_no fun h => ?_
    unfold dasOk at h
    omega
  · refine Tr.loop (fun k : Nat => stL Try.f105.ntmps [] [(0, a), (2, .bool false), (9, a), (10, .int .i64 B.nd), (11, .int .i64 k)] [(0, some (oDa B))] 1) (fun k => k ≤ B.nd ∧ ∀ i, i < k → daOk B i) (fun k => B.nd - k) 0 ⟨Nat.zero_le _, fun i hi => absurd hi (Nat.not_lt_zero i)⟩ (by (refine Wk.same (by decide) (by decide) (by decide) (by decide) ?_ ?_ rfl; all_goals ((try simp only [allL, allM]); (repeat' (first | exact trivial | refine And.intro ?_ ?_)); all_goals (first | rfl | exact IsSl.ren (by assumption) (nm_lt (by decide)) | exact ren_ro _ _ _ | decide)))) (fun k hk => ?_)
    obtain ⟨hk, hall⟩ := hk
    repeat' (first | refine RT.nil ?_ | refine sq_n ?_ | refine Tr.seq ?_ | refine Tr.region ?_ | refine Tr.cond_t rfl ?_ | refine Tr.cond_d rfl (fun _ => ?_) (fun _ => ?_) | refine Tr.skip ?_ | refine Tr.ret ?_ | refine sq_r ?_ | refine Tr.exit ?_ | refine sq_x ?_ | refine Tr.block ?_ | refine blk_n ?_ | refine blk_r ?_ | refine blk_hit rfl ?_ | refine lp_r ?_ | refine lp_x ?_ | (refine RT.splitd rfl rfl (fun _ => ?_) (fun _ => ?_)) | (refine RT.call rfl rfl rfl (areWagons_at _ _ _ _ _) rfl rfl (Nat.le_refl _) ?_) | (refine RT.call rfl rfl rfl (isWithin_at _ _ _ _ _ _) rfl rfl (Nat.le_refl _) ?_) | (refine RT.goK rfl rfl rfl rfl ?_; apply Nx.of; (first | exact S.move | exact S.assign | exact S.load1c rfl rfl rfl rfl | exact S.loadNc rfl rfl rfl rfl | exact S.fieldAddr rfl rfl rfl | exact S.lss | exact S.not_d | exact S.pick_tt | exact S.pick_ff | exact S.alloc rfl | exact S.add_one (by omega))) | (refine RT.goK0 rfl rfl rfl ?_; apply Nx.of; (first | exact S.store rfl rfl rfl rfl rfl rfl)) | (refine RT.goK rfl rfl rfl rfl ?_; apply Nx.of; (first | exact S.idx_sl rfl rfl rfl (by assumption) (by omega) | exact S.rowN0 rfl rfl rfl (fun _ => rfl) (range_at (by omega)) rfl)) | (refine RT.no rfl rfl rfl ?_))
    · (first | refine rt_go rfl ?_)
      refine dB_no fun h => ?_
      have := h.2 k (by omega)
      unfold daOk at this
      omega
    · (first | refine rt_go rfl ?_)
      refine dB_no fun h => ?_
      have := h.2 k (by omega)
      unfold daOk at this
      omega
    · refine lp_n (k + 1) ⟨by omega, fun i hi => ?_⟩ (by omega) (by (refine Wk.same (by decide) (by decide) (by decide) (by decide) ?_ ?_ rfl; all_goals ((try simp only [allL, allM]); (repeat' (first | exact trivial | refine And.intro ?_ ?_)); all_goals (first | rfl | exact IsSl.ren (by assumption) (nm_lt (by decide)) | exact ren_ro _ _ _ | decide))))
      rcases Nat.lt_succ_iff_lt_or_eq.1 hi with h | rfl
      · exact hall i h
      · unfold daOk; omega
    · (first | refine rt_go rfl ?_)
      refine dB_yes ⟨by omega, fun i hi => hall i (by omega)⟩
theorem areDays_at (B : RBook) (a2 : AV) (ha : IsSl a2 B.nd 1) {m : List (Nat × Option AObj)} {c : Nat} (hm : lookM m 1 = some (oDa B)) (hc : 2 ≤ c) (fl : Nat) :
    OkAt 0 Try.prog fl 105 [a2] (ofM m) c (.bool (dB (dasOk B))) (ofM m) c := by
  rcases ha with rfl | ⟨rfl, h0⟩
  · exact (areDays_can B (.gs 0 B.nd) (IsSl.gs 0 _)).pure (.bool _) (Entry.win (W := [(1, 0, none)]) (CS := [flat (daE B) (List.range B.nd)]) rfl ⟨⟨_, getM hm, .inr ⟨_, rfl, cut_all rfl⟩⟩, pls_flat _ _, trivial⟩ (show ArgsW [(1, 0, none)] [.gs 1 B.nd] [.gs 0 B.nd] from ⟨ArgW.gs rfl, trivial⟩)) fl
  · exact (areDays_can B .nils (h0 ▸ IsSl.nils 0)).pure (.bool _) (Entry.win (W := [(1, 0, none)]) (CS := [flat (daE B) (List.range B.nd)]) rfl ⟨⟨_, getM hm, .inr ⟨_, rfl, cut_all rfl⟩⟩, pls_flat _ _, trivial⟩ (show ArgsW [(1, 0, none)] [.nils] [.nils] from ⟨.pl Pl.nils, trivial⟩)) fl

def bk (_ : RBook) (a1 a2 a3 : AV) : AV := .agg [a1, a2, a3]
theorem bkc_ren {B : RBook} {a1 a2 a3 : AV} (h1 : IsSl a1 B.nl 0) (h2 : IsSl a2 B.nd 1) (h3 : IsSl a3 B.nk 2) {σ : Nat → Nat} (e1 : σ 0 = 0) (e2 : σ 1 = 1) (e3 : σ 2 = 2) : (AObj.cells (bk B a1 a2 a3).cells).ren σ = .cells (bk B a1 a2 a3).cells := by simp only [bk, AObj.ren, AV.cells, AV.ren, AV.rens, h1.ren e1, h2.ren e2, h3.ren e3]
/-- A book that lies in memory. -/
structure BkIn (B : RBook) (a1 a2 a3 : AV) (m : List (Nat × Option AObj)) (c : Nat) : Prop where
  h1 : IsSl a1 B.nl 0
  h2 : IsSl a2 B.nd 1
  h3 : IsSl a3 B.nk 2
  m1 : lookM m 0 = some (oLa B)
  m2 : lookM m 1 = some (oDa B)
  m3 : lookM m 2 = some (oLo B)
  hc : 3 ≤ c
theorem BkIn.entry {B : RBook} {a1 a2 a3 : AV} {m : List (Nat × Option AObj)} {c : Nat} (h : BkIn B a1 a2 a3 m c) (vs : List AV) (hv : Pls vs) : Entry 0 (ofM m) c (bk B a1 a2 a3 :: vs) [(0, some (oLa B)), (1, some (oDa B)), (2, some (oLo B))] 3 (bk B a1 a2 a3 :: vs) :=
  .nm h.hc (by omega) ⟨⟨h.m1, ren_ro _ _ _, by omega⟩, ⟨h.m2, ren_ro _ _ _, by omega⟩, ⟨h.m3, ren_ro _ _ _, by omega⟩, trivial⟩ (by
    show AV.ren _ _ :: AV.rens _ vs = _
    rw [hv]
    simp only [bk, AV.ren, AV.rens, h.h1.ren (nm_lt (show 0 < 3 by omega)), h.h2.ren (nm_lt (show 1 < 3 by omega)), h.h3.ren (nm_lt (show 2 < 3 by omega))])
def dyQ (B : RBook) (n : Int) : Prop := 0 ≤ n ∧ n ≤ (B.nd : Int) - 1
set_option maxRecDepth 100000 in
theorem isDay_can (B : RBook) (a1 a2 a3 : AV) (h2 : IsSl a2 B.nd 1) (n : Int) (hn : B.nd ≤ 9223372036854775807) : CanS 0 Try.prog 67 3 [bk B a1 a2 a3, .int .i64 n] [(0, some (oLa B)), (1, some (oDa B)), (2, some (oLo B))] 3 fun v _ _ => v = .bool (dB (dyQ B n)) := by
  refine CanS.mk Try.func67 rfl rfl rfl ?_
  repeat' (first | refine RT.nil ?_ | refine sq_n ?_ | refine Tr.seq ?_ | refine Tr.region ?_ | refine Tr.ret ?_ | (refine RT.call rfl rfl rfl (isWithin_at _ _ _ _ _ _) rfl rfl (Nat.le_refl _) ?_) | (refine RT.goK rfl rfl rfl rfl ?_; apply Nx.of; (first | exact S.move | exact S.assign | exact S.load1c rfl rfl rfl rfl | exact S.fieldAddr rfl rfl rfl | exact S.box | exact S.sub (by unfold In64; omega))) | (refine RT.goK rfl rfl rfl rfl ?_; apply Nx.of; (first | exact S.len_sl rfl rfl rfl (by assumption))))
  (first | refine rt_go rfl ?_)
  exact dB_iff Iff.rfl
theorem isDay_at {B : RBook} {a1 a2 a3 : AV} {m : List (Nat × Option AObj)} {c : Nat} (h : BkIn B a1 a2 a3 m c) (hn : B.nd ≤ 9223372036854775807) (fl : Nat) (n : Int) : OkAt 0 Try.prog fl 67 [bk B a1 a2 a3, .int .i64 n] (ofM m) c (.bool (dB (dyQ B n))) (ofM m) c :=
  (isDay_can B a1 a2 a3 h.h2 n hn).pure (.bool _) (h.entry _ fun _ => rfl) fl
def lkOk (B : RBook) (d b : Int) : Prop := dyQ B d ∧ 0 ≤ b ∧ b ≤ (B.nl : Int)
set_option maxRecDepth 100000 in
theorem isLook_can (B : RBook) (a1 a2 a3 : AV) (h1 : IsSl a1 B.nl 0) (h2 : IsSl a2 B.nd 1) (h3 : IsSl a3 B.nk 2) (hn : B.nd ≤ 9223372036854775807) (d b : Int) : CanS 0 Try.prog 71 3 [bk B a1 a2 a3, .agg [.int .i64 d, .int .i64 b]] [(0, some (oLa B)), (1, some (oDa B)), (2, some (oLo B))] 3 fun v _ _ => v = .bool (dB (lkOk B d b)) := by
  refine CanS.mk Try.func71 rfl rfl rfl ?_
  repeat' (first | refine RT.nil ?_ | refine sq_n ?_ | refine Tr.seq ?_ | refine Tr.region ?_ | refine Tr.ret ?_ | (refine RT.splitd rfl rfl (fun _ => ?_) (fun _ => ?_)) | (refine RT.call rfl rfl rfl (isDay_at ⟨by assumption, by assumption, by assumption, rfl, rfl, rfl, by decide⟩ (by assumption) _ _) rfl rfl (Nat.le_refl _) ?_) | (refine RT.call rfl rfl rfl (isWithin_at _ _ _ _ _ _) rfl rfl (Nat.le_refl _) ?_) | (refine RT.goK rfl rfl rfl rfl ?_; apply Nx.of; (first | exact S.move | exact S.assign | exact S.load1c rfl rfl rfl rfl | exact S.loadNc rfl rfl rfl rfl | exact S.fieldAddr rfl rfl rfl | exact S.pick_tt | exact S.pick_ff | exact S.box)) | (refine RT.goK rfl rfl rfl rfl ?_; apply Nx.of; (first | exact S.len_sl rfl rfl rfl (by assumption))) | (refine RT.no rfl rfl rfl ?_))
  all_goals (first | refine rt_go rfl ?_)
  all_goals first | exact dB_no fun h => (by unfold lkOk at h; simp_all; done) | (refine dB_iff ?_; unfold lkOk; simp_all)
theorem isLook_at {B : RBook} {a1 a2 a3 : AV} {m : List (Nat × Option AObj)} {c : Nat} (h : BkIn B a1 a2 a3 m c) (hn : B.nd ≤ 9223372036854775807) (d b : Int) (fl : Nat) : OkAt 0 Try.prog fl 71 [bk B a1 a2 a3, .agg [.int .i64 d, .int .i64 b]] (ofM m) c (.bool (dB (lkOk B d b))) (ofM m) c :=
  (isLook_can B a1 a2 a3 h.h1 h.h2 h.h3 hn d b).pure (.bool _) (h.entry _ fun _ => rfl) fl
def lksOk (B : RBook) : Prop := B.nk ≤ 4 ∧ ∀ i, i < B.nk → lkOk B (B.ld i) (B.lb i)
set_option maxRecDepth 100000 in
theorem areLooks_can (B : RBook) (a1 a2 a3 : AV) (h1 : IsSl a1 B.nl 0) (h2 : IsSl a2 B.nd 1) (h3 : IsSl a3 B.nk 2) (hn : B.nd ≤ 9223372036854775807) : CanS 0 Try.prog 106 3 [bk B a1 a2 a3] [(0, some (oLa B)), (1, some (oDa B)), (2, some (oLo B))] 3 fun v _ _ => v = .bool (dB (lksOk B)) := by
  refine CanS.mk Try.func106 rfl rfl rfl ?_
  repeat' (first | refine RT.nil ?_ | refine sq_n ?_ | refine Tr.seq ?_ | refine Tr.region ?_ | refine Tr.cond_d rfl (fun _ => ?_) (fun _ => ?_) | refine Tr.skip ?_ | refine Tr.ret ?_ | refine sq_r ?_ | refine Tr.block ?_ | (refine RT.goK rfl rfl rfl rfl ?_; apply Nx.of; (first | exact S.move | exact S.assign | exact S.load1c rfl rfl rfl rfl | exact S.fieldAddr rfl rfl rfl | exact S.gtr | exact S.box)) | (refine RT.goK rfl rfl rfl rfl ?_; apply Nx.of; (first | exact S.len_sl rfl rfl rfl (by assumption))))
  · (first | refine rt_go rfl ?_)
    refine dB_no fun h => ?_
    unfold lksOk at h
    omega
  · refine Tr.loop (fun k : Nat => stL Try.f106.ntmps [] [(1, .ptr 3 0), (2, .bool false), (10, a3), (11, .int .i64 B.nk), (12, .int .i64 k)] [(3, some (.cells (bk B a1 a2 a3).cells)), (0, some (oLa B)), (1, some (oDa B)), (2, some (oLo B))] 4) (fun k => k ≤ B.nk ∧ ∀ i, i < k → lkOk B (B.ld i) (B.lb i)) (fun k => B.nk - k) 0 ⟨Nat.zero_le _, fun i hi => absurd hi (Nat.not_lt_zero i)⟩ (by (refine Wk.same (by decide) (by decide) (by decide) (by decide) ?_ ?_ rfl; all_goals ((try simp only [allL, allM]); (repeat' (first | exact trivial | refine And.intro ?_ ?_)); all_goals (first | rfl | exact IsSl.ren (by assumption) (nm_lt (by decide)) | exact ren_ro _ _ _ | exact bkc_ren h1 h2 h3 (nm_lt (by decide)) (nm_lt (by decide)) (nm_lt (by decide)) | decide)))) (fun k hk => ?_)
    obtain ⟨hk, hall⟩ := hk
    repeat' (first | refine RT.nil ?_ | refine sq_n ?_ | refine Tr.seq ?_ | refine Tr.region ?_ | refine Tr.cond_d rfl (fun _ => ?_) (fun _ => ?_) | refine Tr.skip ?_ | refine Tr.ret ?_ | refine sq_r ?_ | refine Tr.exit ?_ | refine sq_x ?_ | refine Tr.block ?_ | refine blk_n ?_ | refine blk_r ?_ | refine blk_hit rfl ?_ | refine lp_r ?_ | refine lp_x ?_ | (refine RT.call rfl rfl rfl (isLook_at ⟨by assumption, by assumption, by assumption, rfl, rfl, rfl, by decide⟩ (by assumption) _ _ _) rfl rfl (Nat.le_refl _) ?_) | (refine RT.goK rfl rfl rfl rfl ?_; apply Nx.of; (first | exact S.move | exact S.assign | exact S.loadNc rfl rfl rfl rfl | exact S.lss | exact S.not_d | exact S.alloc rfl | exact S.add_one (by omega))) | (refine RT.goK0 rfl rfl rfl ?_; apply Nx.of; (first | exact S.store rfl rfl rfl rfl rfl rfl)) | (refine RT.goK rfl rfl rfl rfl ?_; apply Nx.of; (first | exact S.idx_sl rfl rfl rfl (by assumption) (by omega) | exact S.rowN0 rfl rfl rfl (fun _ => rfl) (range_at (by omega)) rfl)))
    · (first | refine rt_go rfl ?_)
      refine dB_no fun h => ?_
      exact absurd (h.2 k (by omega)) (by assumption)
    · refine lp_n (k + 1) ⟨by omega, fun i hi => ?_⟩ (by omega) (by (refine Wk.same (by decide) (by decide) (by decide) (by decide) ?_ ?_ rfl; all_goals ((try simp only [allL, allM]); (repeat' (first | exact trivial | refine And.intro ?_ ?_)); all_goals (first | rfl | exact IsSl.ren (by assumption) (nm_lt (by decide)) | exact ren_ro _ _ _ | exact bkc_ren h1 h2 h3 (nm_lt (by decide)) (nm_lt (by decide)) (nm_lt (by decide)) | decide))))
      rcases Nat.lt_succ_iff_lt_or_eq.1 hi with h | rfl
      · exact hall i h
      · exact Classical.not_not.1 (by assumption)
    · (first | refine rt_go rfl ?_)
      exact dB_yes ⟨by omega, fun i hi => hall i (by omega)⟩
theorem areLooks_at {B : RBook} {a1 a2 a3 : AV} {m : List (Nat × Option AObj)} {c : Nat} (h : BkIn B a1 a2 a3 m c) (hn : B.nd ≤ 9223372036854775807) (fl : Nat) : OkAt 0 Try.prog fl 106 [bk B a1 a2 a3] (ofM m) c (.bool (dB (lksOk B))) (ofM m) c :=
  (areLooks_can B a1 a2 a3 h.h1 h.h2 h.h3 hn).pure (.bool _) (h.entry _ fun _ => rfl) fl
def bkOk (B : RBook) : Prop := lasOk B ∧ dasOk B ∧ lksOk B
set_option maxRecDepth 100000 in
theorem isBook_can (B : RBook) (a1 a2 a3 : AV) (h1 : IsSl a1 B.nl 0) (h2 : IsSl a2 B.nd 1) (h3 : IsSl a3 B.nk 2) (hn : B.nd ≤ 9223372036854775807) : CanS 0 Try.prog 85 3 [bk B a1 a2 a3] [(0, some (oLa B)), (1, some (oDa B)), (2, some (oLo B))] 3 fun v _ _ => v = .bool (dB (bkOk B)) := by
  refine CanS.mk Try.func85 rfl rfl rfl ?_
  repeat' (first | refine RT.nil ?_ | refine sq_n ?_ | refine Tr.seq ?_ | refine Tr.region ?_ | refine Tr.ret ?_ | (refine RT.splitd rfl rfl (fun _ => ?_) (fun _ => ?_)) | (refine RT.call rfl rfl rfl (areLayers_at B _ (by assumption) rfl (by decide) _) rfl rfl (Nat.le_refl _) ?_) | (refine RT.call rfl rfl rfl (areDays_at B _ (by assumption) rfl (by decide) _) rfl rfl (Nat.le_refl _) ?_) | (refine RT.call rfl rfl rfl (areLooks_at ⟨by assumption, by assumption, by assumption, rfl, rfl, rfl, by decide⟩ (by assumption) _) rfl rfl (Nat.le_refl _) ?_) | (refine RT.goK rfl rfl rfl rfl ?_; apply Nx.of; (first | exact S.move | exact S.assign | exact S.load1c rfl rfl rfl rfl | exact S.loadNc rfl rfl rfl rfl | exact S.fieldAddr rfl rfl rfl | exact S.pick_tt | exact S.pick_ff | exact S.box)) | (refine RT.no rfl rfl rfl ?_))
  all_goals (first | refine rt_go rfl ?_)
  all_goals first | exact dB_no fun h => (by unfold bkOk at h; simp_all) | (refine dB_iff ?_; unfold bkOk; simp_all)
theorem isBook_at {B : RBook} {a1 a2 a3 : AV} {m : List (Nat × Option AObj)} {c : Nat} (h : BkIn B a1 a2 a3 m c) (hn : B.nd ≤ 9223372036854775807) (fl : Nat) : OkAt 0 Try.prog fl 85 [bk B a1 a2 a3] (ofM m) c (.bool (dB (bkOk B))) (ofM m) c :=
  (isBook_can B a1 a2 a3 h.h1 h.h2 h.h3 hn).pure (.bool _) (h.entry _ fun _ => rfl) fl
/-- What Check answers. -/
noncomputable def ckV (B : RBook) : Int := bif dB (bkOk B) then 0 else 70
set_option maxRecDepth 100000 in
theorem Check_can (B : RBook) (a1 a2 a3 : AV) (h1 : IsSl a1 B.nl 0) (h2 : IsSl a2 B.nd 1) (h3 : IsSl a3 B.nk 2) (hn : B.nd ≤ 9223372036854775807) : CanS 0 Try.prog 59 3 [bk B a1 a2 a3] [(0, some (oLa B)), (1, some (oDa B)), (2, some (oLo B))] 3 fun v _ _ => v = .int .i64 (ckV B) := by
  refine CanS.mk Try.func59 rfl rfl rfl ?_
  repeat' (first | refine RT.nil ?_ | refine sq_n ?_ | refine Tr.seq ?_ | refine Tr.region ?_ | refine Tr.cond_d rfl (fun _ => ?_) (fun _ => ?_) | refine Tr.skip ?_ | refine Tr.ret ?_ | refine sq_r ?_ | (refine RT.call rfl rfl rfl (isBook_at ⟨by assumption, by assumption, by assumption, rfl, rfl, rfl, by decide⟩ (by assumption) _) rfl rfl (Nat.le_refl _) ?_) | (refine RT.goK rfl rfl rfl rfl ?_; apply Nx.of; (first | exact S.assign | exact S.loadNc rfl rfl rfl rfl | exact S.not_d | exact S.box)))
  all_goals (first | refine rt_go rfl ?_)
  all_goals (unfold ckV dB; simp_all [retV])
theorem Check_at {B : RBook} {a1 a2 a3 : AV} {m : List (Nat × Option AObj)} {c : Nat} (h : BkIn B a1 a2 a3 m c) (hn : B.nd ≤ 9223372036854775807) (fl : Nat) : OkAt 0 Try.prog fl 59 [bk B a1 a2 a3] (ofM m) c (.int .i64 (ckV B)) (ofM m) c :=
  (Check_can B a1 a2 a3 h.h1 h.h2 h.h3 hn).pure (.int _ _) (h.entry _ fun _ => rfl) fl
end Go.Proofs.Ytjnckbefajfgbaa

/- The truths of package roll: truths, right, has, done, before, the layers' effects. -/
namespace Go.Proofs.Ytjnckbefajfgbaa
open Go Go.Ev

/-- A truth: wagons, skies, the road at each day's end, how often layers were laid and lost. -/
structure Tru where
  w : Nat → Int
  s : Nat → Int
  eb : Nat → Int
  er : Nat → Int
  la : Nat → Int
  lo : Nat → Int
def truE (t : Tru) : List Int := [t.w 0, t.w 1, t.w 2, t.w 3, t.w 4, t.s 0, t.s 1, t.s 2, t.s 3, t.s 4, t.eb 0, t.er 0, t.eb 1, t.er 1, t.eb 2, t.er 2, t.eb 3, t.er 3, t.eb 4, t.er 4, t.la 0, t.la 1, t.la 2, t.la 3, t.lo 0, t.lo 1, t.lo 2, t.lo 3]
abbrev truC (t : Tru) : List AV := [.int .i64 (t.w 0), .int .i64 (t.w 1), .int .i64 (t.w 2), .int .i64 (t.w 3), .int .i64 (t.w 4), .int .i64 (t.s 0), .int .i64 (t.s 1), .int .i64 (t.s 2), .int .i64 (t.s 3), .int .i64 (t.s 4), .int .i64 (t.eb 0), .int .i64 (t.er 0), .int .i64 (t.eb 1), .int .i64 (t.er 1), .int .i64 (t.eb 2), .int .i64 (t.er 2), .int .i64 (t.eb 3), .int .i64 (t.er 3), .int .i64 (t.eb 4), .int .i64 (t.er 4), .int .i64 (t.la 0), .int .i64 (t.la 1), .int .i64 (t.la 2), .int .i64 (t.la 3), .int .i64 (t.lo 0), .int .i64 (t.lo 1), .int .i64 (t.lo 2), .int .i64 (t.lo 3)]
abbrev trV (t : Tru) : AV := .agg (truC t)
abbrev roV (b r : Int) : AV := .agg [.int .i64 b, .int .i64 r]
def upd (f : Nat → Int) (i : Nat) (v : Int) : Nat → Int := fun j => if j = i then v else f j
theorem upd_at {f : Nat → Int} {i : Nat} {v : Int} : upd f i v i = v := if_pos rfl
theorem upd_ne {f : Nat → Int} {i j : Nat} {v : Int} (h : j ≠ i) : upd f i v j = f j := if_neg h
def Tru.setW (t : Tru) (i : Nat) (v : Int) : Tru := { t with w := upd t.w i v }
def Tru.setS (t : Tru) (i : Nat) (v : Int) : Tru := { t with s := upd t.s i v }
def Tru.setE (t : Tru) (i : Nat) (b r : Int) : Tru := { t with eb := upd t.eb i b, er := upd t.er i r }
def Tru.setLa (t : Tru) (i : Nat) (v : Int) : Tru := { t with la := upd t.la i v }
def Tru.setLo (t : Tru) (i : Nat) (v : Int) : Tru := { t with lo := upd t.lo i v }

theorem lt5 {i : Nat} (h : i < 5) : i = 0 ∨ i = 1 ∨ i = 2 ∨ i = 3 ∨ i = 4 := by omega
theorem lt4 {i : Nat} (h : i < 4) : i = 0 ∨ i = 1 ∨ i = 2 ∨ i = 3 := by omega
theorem truC_w {t : Tru} {i : Nat} (h : i < 5) : (truC t)[0 + 0 + i * 1]? = some (.int .i64 (t.w i)) := by rcases lt5 h with rfl | rfl | rfl | rfl | rfl <;> rfl
theorem truC_s {t : Tru} {i : Nat} (h : i < 5) : (truC t)[0 + 5 + i * 1]? = some (.int .i64 (t.s i)) := by rcases lt5 h with rfl | rfl | rfl | rfl | rfl <;> rfl
theorem truC_e {t : Tru} {i : Nat} (h : i < 5) : cut (truC t) (0 + 10 + i * 2) 2 = some [.int .i64 (t.eb i), .int .i64 (t.er i)] := by rcases lt5 h with rfl | rfl | rfl | rfl | rfl <;> rfl
theorem truC_b {t : Tru} {i : Nat} (h : i < 5) : (truC t)[0 + 10 + i * 2 + 0]? = some (.int .i64 (t.eb i)) := by rcases lt5 h with rfl | rfl | rfl | rfl | rfl <;> rfl
theorem truC_la {t : Tru} {i : Nat} (h : i < 4) : (truC t)[0 + 20 + i * 1]? = some (.int .i64 (t.la i)) := by rcases lt4 h with rfl | rfl | rfl | rfl <;> rfl
theorem truC_lo {t : Tru} {i : Nat} (h : i < 4) : (truC t)[0 + 24 + i * 1]? = some (.int .i64 (t.lo i)) := by rcases lt4 h with rfl | rfl | rfl | rfl <;> rfl
theorem truC_setW {t : Tru} {i : Nat} {v : Int} (h : i < 5) : Go.Ev.splice (truC t) (0 + 0 + i * 1) [.int .i64 v] = some (truC (t.setW i v)) := by rcases lt5 h with rfl | rfl | rfl | rfl | rfl <;> rfl
theorem truC_setS {t : Tru} {i : Nat} {v : Int} (h : i < 5) : Go.Ev.splice (truC t) (0 + 5 + i * 1) [.int .i64 v] = some (truC (t.setS i v)) := by rcases lt5 h with rfl | rfl | rfl | rfl | rfl <;> rfl
theorem truC_setE {t : Tru} {i : Nat} {b r : Int} (h : i < 5) : Go.Ev.splice (truC t) (0 + 10 + i * 2) [.int .i64 b, .int .i64 r] = some (truC (t.setE i b r)) := by rcases lt5 h with rfl | rfl | rfl | rfl | rfl <;> rfl
theorem truC_setLa {t : Tru} {i : Nat} {v : Int} (h : i < 4) : Go.Ev.splice (truC t) (0 + 20 + i * 1) [.int .i64 v] = some (truC (t.setLa i v)) := by rcases lt4 h with rfl | rfl | rfl | rfl <;> rfl
theorem truC_setLo {t : Tru} {i : Nat} {v : Int} (h : i < 4) : Go.Ev.splice (truC t) (0 + 24 + i * 1) [.int .i64 v] = some (truC (t.setLo i v)) := by rcases lt4 h with rfl | rfl | rfl | rfl <;> rfl

/-- Whether a number is in a set. -/
def hasP (s : Int) (n : Nat) : Prop := andI (s.fdiv (2 ^ n)) 1 = 1
set_option maxRecDepth 100000 in
theorem has_can (s : Int) (n : Nat) (h : n ≤ 62) : CanS 0 Try.prog 95 0 [.int .i64 s, .int .i64 (n : Int)] [] 0 fun v _ _ => v = .bool (dB (hasP s n)) := by
  refine CanS.mk Try.func95 rfl rfl rfl ?_
  repeat' (first | refine RT.nil ?_ | refine sq_n ?_ | refine Tr.seq ?_ | refine Tr.region ?_ | refine Tr.ret ?_ | (refine RT.goK rfl rfl rfl rfl ?_; apply Nx.of; (first | exact S.shr h | exact S.and)) | (refine RT.goK rfl rfl rfl rfl ?_; apply Nx.of; (first | exact S.move | exact S.assign | exact S.eql)))
  (first | refine rt_go rfl ?_)
  exact dB_iff Iff.rfl
theorem has_at (s : Int) (n : Nat) (h : n ≤ 62) (H : T AObj) (c fl : Nat) : OkAt 0 Try.prog fl 95 [.int .i64 s, .int .i64 (n : Int)] H c (.bool (dB (hasP s n))) H c :=
  (has_can s n h).pure (.bool _) (.plain fun _ => rfl) fl
set_option maxRecDepth 100000 in
set_option maxHeartbeats 4000000 in
theorem isRight_can (t : Tru) (d : Nat) (hd : d < 5) (b : Int) : CanS 0 Try.prog 73 0 [.agg [.int .i64 (d : Int), .int .i64 b], trV t] [] 0 fun v _ _ => v = .bool (dB (t.eb d = b)) := by
  refine CanS.mk Try.func73 rfl rfl rfl ?_
  repeat' (first | refine RT.nil ?_ | refine sq_n ?_ | refine Tr.seq ?_ | refine Tr.region ?_ | (refine RT.goK rfl rfl rfl rfl ?_; apply Nx.of; (first | exact S.assign | exact S.box)))
  refine Tr.openK un73_1 (by kernel_rfl) (by kernel_rfl) noCall noCall_calm ?_
  repeat' (first | (refine RD.free rfl rfl rfl rfl rfl rfl ?_; refine Nx.of (S.idx_arr rfl rfl rfl hd) ?_) | (refine RD.load rfl rfl rfl rfl rfl rfl rfl rfl ?_; apply Nx.of; (first | exact S.load1c rfl rfl rfl (truC_b hd))) | (refine RD.free rfl rfl rfl rfl rfl rfl ?_; apply Nx.of; (first | exact S.assign | exact S.fieldAddr rfl rfl rfl | exact S.eql)) | (refine RD.load rfl rfl rfl rfl rfl rfl rfl rfl ?_; apply Nx.of; (first | exact S.load1c rfl rfl rfl rfl)) | refine RD.nil ⟨Nat.le_of_ble_eq_true rfl, ?_⟩)
  repeat' (first | refine sq_n ?_ | refine Tr.ret ?_)
  (first | refine rt_go rfl ?_)
  exact dB_iff Iff.rfl
theorem isRight_at (fl : Nat) (t : Tru) (d : Nat) (hd : d < 5) (b : Int) (H : T AObj) (c : Nat) : OkAt 0 Try.prog fl 73 [.agg [.int .i64 (d : Int), .int .i64 b], trV t] H c (.bool (dB (t.eb d = b))) H c :=
  (isRight_can t d hd b).pure (.bool _) (.plain fun _ => rfl) fl

/-- The book that the package calculates with. -/
abbrev becF : AV := .fn 86 [] []
def pbC (B : RBook) (a1 a2 a3 : AV) : List AV := [a1, a2, a3, becF]
theorem pbc_ren {B : RBook} {a1 a2 a3 : AV} (h1 : IsSl a1 B.nl 0) (h2 : IsSl a2 B.nd 1) (h3 : IsSl a3 B.nk 2) {σ : Nat → Nat} (e1 : σ 0 = 0) (e2 : σ 1 = 1) (e3 : σ 2 = 2) : (AObj.cells (pbC B a1 a2 a3)).ren σ = .cells (pbC B a1 a2 a3) := by simp only [pbC, AObj.ren, AV.ren, AV.rens, h1.ren e1, h2.ren e2, h3.ren e3]
structure PbIn (B : RBook) (a1 a2 a3 : AV) (p : Nat) (m : List (Nat × Option AObj)) (c : Nat) : Prop where
  h1 : IsSl a1 B.nl 0
  h2 : IsSl a2 B.nd 1
  h3 : IsSl a3 B.nk 2
  m1 : lookM m 0 = some (oLa B)
  m2 : lookM m 1 = some (oDa B)
  m3 : lookM m 2 = some (oLo B)
  m4 : lookM m p = some (.cells (pbC B a1 a2 a3))
  hc : 3 ≤ c
  hp : p < c
theorem PbIn.entry {B : RBook} {a1 a2 a3 : AV} {p : Nat} {m : List (Nat × Option AObj)} {c : Nat} (h : PbIn B a1 a2 a3 p m c) (vs : List AV) (hv : Pls vs) : Entry 0 (ofM m) c (.ptr p 0 :: vs) [(0, some (oLa B)), (1, some (oDa B)), (2, some (oLo B)), (3, some (.cells (pbC B a1 a2 a3)))] 4 (.ptr 3 0 :: vs) := by
  have e0 : tau [0, 1, 2, p] c 0 = 0 := rfl
  have e1 : tau [0, 1, 2, p] c 1 = 1 := rfl
  have e2 : tau [0, 1, 2, p] c 2 = 2 := rfl
  have e3 : tau [0, 1, 2, p] c 3 = p := rfl
  have hp0 : p ≠ 0 := fun e => by have := h.m4; rw [e, h.m1] at this; cases this
  have hp1 : p ≠ 1 := fun e => by have := h.m4; rw [e, h.m2] at this; cases this
  have hp2 : p ≠ 2 := fun e => by have := h.m4; rw [e, h.m3] at this; cases this
  have ha : AV.rens (tau [0, 1, 2, p] c) (.ptr 3 0 :: vs) = .ptr p 0 :: vs := by
    show AV.ren _ _ :: AV.rens _ vs = _
    rw [hv]; rfl
  rw [← ha]
  refine Entry.ren _ (fun g hg => by omega) (fun y hy => by rw [tau_ge hy]; omega) ⟨?_, ?_, ?_, ?_, trivial⟩ (fun x y o o' hx hy hxy => ?_)
  · show (ofM m).get (tau [0, 1, 2, p] c 0) = some _
    rw [e0, ren_ro]; exact getM h.m1
  · show (ofM m).get (tau [0, 1, 2, p] c 1) = some _
    rw [e1, ren_ro]; exact getM h.m2
  · show (ofM m).get (tau [0, 1, 2, p] c 2) = some _
    rw [e2, ren_ro]; exact getM h.m3
  · show (ofM m).get (tau [0, 1, 2, p] c 3) = some _
    rw [e3, pbc_ren h.h1 h.h2 h.h3 e0 e1 e2]; exact getM h.m4
  · refine .inl ?_
    have low : ∀ {z : Nat} {ob : AObj}, lookM [(0, some (oLa B)), (1, some (oDa B)), (2, some (oLo B)), (3, some (.cells (pbC B a1 a2 a3)))] z = some ob → z = 0 ∨ z = 1 ∨ z = 2 ∨ z = 3 := fun {z ob} hz => by
      have := lookM_mem hz
      simpa using this
    rcases low hx with rfl | rfl | rfl | rfl <;> rcases low hy with rfl | rfl | rfl | rfl <;> simp only [e0, e1, e2, e3] <;> omega
set_option maxRecDepth 100000 in
theorem done_can (B : RBook) (a1 a2 a3 : AV) (h1 : IsSl a1 B.nl 0) (h2 : IsSl a2 B.nd 1) (h3 : IsSl a3 B.nk 2) : CanS 0 Try.prog 79 4 [.ptr 3 0] [(0, some (oLa B)), (1, some (oDa B)), (2, some (oLo B)), (3, some (.cells (pbC B a1 a2 a3)))] 4 fun v _ _ => v = roV B.nl 0 := by
  refine CanS.mk Try.func79 rfl rfl rfl ?_
  repeat' (first | refine RT.nil ?_ | refine sq_n ?_ | refine Tr.seq ?_ | refine Tr.region ?_ | refine Tr.ret ?_ | (refine RT.goK rfl rfl rfl rfl ?_; apply Nx.of; (first | exact S.move | exact S.load1c rfl rfl rfl rfl | exact S.fieldAddr rfl rfl rfl | exact S.alloc rfl | exact S.build rfl rfl rfl | exact S.nilCheck)) | (refine RT.goK0 rfl rfl rfl ?_; apply Nx.of; (first | exact S.store rfl rfl rfl rfl rfl rfl)) | (refine RT.goK rfl rfl rfl rfl ?_; apply Nx.of; (first | exact S.len_sl rfl rfl rfl (by assumption))))
  (first | refine rt_go rfl ?_)
  rfl
theorem done_at {B : RBook} {a1 a2 a3 : AV} {p : Nat} {m : List (Nat × Option AObj)} {c : Nat} (h : PbIn B a1 a2 a3 p m c) (fl : Nat) : OkAt 0 Try.prog fl 79 [.ptr p 0] (ofM m) c (roV B.nl 0) (ofM m) c :=
  (done_can B a1 a2 a3 h.h1 h.h2 h.h3).pure (fun _ => rfl) (h.entry [] .nil) fl

theorem eqTi (a b e d f g k l : Int) : eqA Try.prog 84 (.agg [.int .i64 a, .int .i64 b, .int .i64 e, .int .i64 d]) (.agg [.int .i64 f, .int .i64 g, .int .i64 k, .int .i64 l]) = some (decide (a = f ∧ b = g ∧ e = k ∧ d = l)) := by
  have : eqA Try.prog 84 (.agg [.int .i64 a, .int .i64 b, .int .i64 e, .int .i64 d]) (.agg [.int .i64 f, .int .i64 g, .int .i64 k, .int .i64 l]) = andV (some (decide (a = f))) (andV (some (decide (b = g))) (andV (some (decide (e = k))) (andV (some (decide (d = l))) (some true)))) := by kernel_rfl
  rw [this, andV1, andV2, andV2, andV2]
theorem eqRo (a b e d : Int) : eqA Try.prog 81 (roV a b) (roV e d) = some (decide (a = e ∧ b = d)) := by
  have : eqA Try.prog 81 (roV a b) (roV e d) = andV (some (decide (a = e))) (andV (some (decide (b = d))) (some true)) := by kernel_rfl
  rw [this, andV1, andV2]
/-- The road before a day. -/
def noLa (t : Tru) : Prop := t.la 0 = 0 ∧ t.la 1 = 0 ∧ t.la 2 = 0 ∧ t.la 3 = 0
noncomputable def befB (t : Tru) (d : Nat) : Int := bif dB (noLa t) then 0 else t.eb (d - 1)
noncomputable def befR (t : Tru) (d : Nat) : Int := bif dB (noLa t) then 0 else t.er (d - 1)
set_option maxRecDepth 100000 in
set_option maxHeartbeats 4000000 in
theorem before_can (t : Tru) (d : Nat) (hd : d < 5) (h0 : noLa t ∨ 1 ≤ d) : CanS 0 Try.prog 113 1 [.ptr 0 0, .int .i64 (d : Int)] [(0, some (.cells (truC t)))] 1 fun v _ _ => v = roV (befB t d) (befR t d) := by
  refine CanS.mk Try.func113 rfl rfl rfl ?_
  by_cases hd1 : 1 ≤ d
  · have hd5 : d - 1 < 5 := by omega
    repeat' (first | refine RT.nil ?_ | refine sq_n ?_ | refine Tr.seq ?_ | refine Tr.region ?_ | refine Tr.cond_d rfl (fun _ => ?_) (fun _ => ?_) | refine Tr.skip ?_ | refine Tr.ret ?_ | refine sq_r ?_ | (refine RT.goK rfl rfl rfl rfl ?_; apply Nx.of; (first | exact S.idx_arr rfl rfl rfl hd5 | exact S.loadNc rfl rfl rfl (truC_e hd5))) | (refine RT.goK rfl rfl rfl rfl ?_; apply Nx.of; (first | exact S.move | exact S.loadNc rfl rfl rfl rfl | exact S.fieldAddr rfl rfl rfl | exact S.alloc rfl | exact S.sub_one (by omega) (by omega) | exact S.build rfl rfl rfl | exact S.buildA rfl rfl rfl rfl | exact S.nilCheck | exact S.eqlA (eqTi _ _ _ _ _ _ _ _))) | (refine RT.goK0 rfl rfl rfl ?_; apply Nx.of; (first | exact S.store rfl rfl rfl rfl rfl rfl)))
    · (first | refine rt_go rfl ?_)
      have hz : noLa t := by assumption
      unfold befB befR
      rw [dB_tt hz]
      rfl
    · (first | refine rt_go rfl ?_)
      have hz : ¬ noLa t := by assumption
      unfold befB befR
      rw [dB_ff hz]
      rfl
  · repeat' (first | refine RT.nil ?_ | refine sq_n ?_ | refine Tr.seq ?_ | refine Tr.region ?_ | refine Tr.cond_d rfl (fun _ => ?_) (fun _ => ?_) | refine Tr.skip ?_ | refine Tr.ret ?_ | refine sq_r ?_ | (refine RT.goK rfl rfl rfl rfl ?_; apply Nx.of; (first | exact S.move | exact S.loadNc rfl rfl rfl rfl | exact S.fieldAddr rfl rfl rfl | exact S.alloc rfl | exact S.sub (by unfold In64; omega) | exact S.build rfl rfl rfl | exact S.buildA rfl rfl rfl rfl | exact S.nilCheck | exact S.eqlA (eqTi _ _ _ _ _ _ _ _))) | (refine RT.goK0 rfl rfl rfl ?_; apply Nx.of; (first | exact S.store rfl rfl rfl rfl rfl rfl)))
    · (first | refine rt_go rfl ?_)
      have hz : noLa t := by assumption
      unfold befB befR
      rw [dB_tt hz]
      rfl
    · exact absurd (h0.resolve_right hd1) (by assumption)
theorem before_at {t : Tru} {d x : Nat} {m : List (Nat × Option AObj)} {c : Nat} (hd : d < 5) (h0 : noLa t ∨ 1 ≤ d) (hx : lookM m x = some (.cells (truC t))) (fl : Nat) : OkAt 0 Try.prog fl 113 [.ptr x 0, .int .i64 (d : Int)] (ofM m) c (roV (befB t d) (befR t d)) (ofM m) c := by
  have e0 : tau [x] c 0 = x := rfl
  have ha : AV.rens (tau [x] c) [.ptr 0 0, .int .i64 (d : Int)] = [.ptr x 0, .int .i64 (d : Int)] := rfl
  rw [← ha]
  refine (before_can t d hd h0).pure (fun _ => rfl) (Entry.ren _ (fun g hg => by omega) (fun y hy => by rw [tau_ge hy]; omega) ⟨?_, trivial⟩ (fun y z o o' hy hz hyz => ?_)) fl
  · show (ofM m).get (tau [x] c 0) = some _
    rw [e0]; exact getM hx
  · have q1 := lookM_mem hy
    have q2 := lookM_mem hz
    simp at q1 q2
    exact absurd (q1.trans q2.symm) hyz
set_option maxRecDepth 100000 in
theorem rests_can (n y b r w : Int) : CanS 0 Try.prog 110 0 [.agg [.int .i64 n, .int .i64 y], roV b r, .int .i64 w] [] 0 fun v _ _ => v = roV b r := by
  refine CanS.mk Try.func110 rfl rfl rfl ?_
  repeat' (first | refine RT.nil ?_ | refine sq_n ?_ | refine Tr.seq ?_ | refine Tr.region ?_ | refine Tr.ret ?_ | (refine RT.goK rfl rfl rfl rfl ?_; apply Nx.of; (first | exact S.loadNc rfl rfl rfl rfl | exact S.box | exact S.alloc rfl)) | (refine RT.goK0 rfl rfl rfl ?_; apply Nx.of; (first | exact S.store rfl rfl rfl rfl rfl rfl)))
  (first | refine rt_go rfl ?_)
  rfl
set_option maxRecDepth 100000 in
theorem isLost_can (n y b r w : Int) : CanS 0 Try.prog 112 0 [.agg [.int .i64 n, .int .i64 y], roV b r, .int .i64 w] [] 0 fun v _ _ => v = roV b 0 := by
  refine CanS.mk Try.func112 rfl rfl rfl ?_
  repeat' (first | refine RT.nil ?_ | refine sq_n ?_ | refine Tr.seq ?_ | refine Tr.region ?_ | refine Tr.ret ?_ | (refine RT.goK rfl rfl rfl rfl ?_; apply Nx.of; (first | exact S.load1c rfl rfl rfl rfl | exact S.fieldAddr rfl rfl rfl | exact S.box | exact S.alloc rfl | exact S.build rfl rfl rfl)) | (refine RT.goK0 rfl rfl rfl ?_; apply Nx.of; (first | exact S.store rfl rfl rfl rfl rfl rfl)))
  (first | refine rt_go rfl ?_)
  rfl
/-- What the road is like after a day on which the layer is rolled. -/
noncomputable def rolB (n b r w : Int) : Int := bif dB (n ≤ r + w) then b + 1 else b
noncomputable def rolR (n b r w : Int) : Int := bif dB (n ≤ r + w) then 0 else r + w
set_option maxRecDepth 100000 in
theorem isRolled_can (n y b r w : Int) (hb : 0 ≤ b ∧ b ≤ 100) (hr : 0 ≤ r ∧ r ≤ 1000) (hw : 0 ≤ w ∧ w ≤ 1000) : CanS 0 Try.prog 111 0 [.agg [.int .i64 n, .int .i64 y], roV b r, .int .i64 w] [] 0 fun v _ _ => v = roV (rolB n b r w) (rolR n b r w) := by
  refine CanS.mk Try.func111 rfl rfl rfl ?_
  repeat' (first | refine RT.nil ?_ | refine sq_n ?_ | refine Tr.seq ?_ | refine Tr.region ?_ | refine Tr.cond_d rfl (fun _ => ?_) (fun _ => ?_) | refine Tr.skip ?_ | refine Tr.ret ?_ | refine sq_r ?_ | (refine RT.goK rfl rfl rfl rfl ?_; apply Nx.of; (first | exact S.move | exact S.load1c rfl rfl rfl rfl | exact S.loadNc rfl rfl rfl rfl | exact S.fieldAddr rfl rfl rfl | exact S.geq | exact S.box | exact S.alloc rfl | exact S.add (by unfold In64; omega) | exact S.build rfl rfl rfl)) | (refine RT.goK0 rfl rfl rfl ?_; apply Nx.of; (first | exact S.store rfl rfl rfl rfl rfl rfl)))
  · (first | refine rt_go rfl ?_)
    have h : n ≤ r + w := by assumption
    unfold rolB rolR
    rw [dB_tt h]
    rfl
  · (first | refine rt_go rfl ?_)
    have h : ¬ n ≤ r + w := by assumption
    unfold rolB rolR
    rw [dB_ff h]
    rfl
/-- The effects of the skies. -/
abbrev efV : AV := .agg [.fn 110 [] [], .int .i64 0, .fn 111 [] [], .int .i64 0, .fn 112 [] [], .int .i64 1]
set_option maxRecDepth 100000 in
theorem effects_can : CanS 0 Try.prog 94 0 [] [] 0 fun v _ _ => v = efV := by
  refine CanS.mk Try.func94 rfl rfl rfl ?_
  repeat' (first | refine RT.nil ?_ | refine sq_n ?_ | refine Tr.seq ?_ | refine Tr.region ?_ | refine Tr.ret ?_ | (refine RT.goK rfl rfl rfl rfl ?_; apply Nx.of; (first | exact S.alloc rfl | exact S.build rfl rfl rfl | exact S.buildA rfl rfl rfl rfl)) | (refine RT.goK0 rfl rfl rfl ?_; apply Nx.of; (first | exact S.store rfl rfl rfl rfl rfl rfl)))
  (first | refine rt_go rfl ?_)
  rfl
theorem effects_at (H : T AObj) (c fl : Nat) : OkAt 0 Try.prog fl 94 [] H c efV H c := effects_can.pure (fun _ => rfl) (.plain fun _ => rfl) fl
set_option maxRecDepth 100000 in
theorem bec_can (d s : Int) : CanS 0 Try.prog 86 0 [.int .i64 d, .int .i64 s] [] 0 fun v _ _ => v = .int .i64 s := by
  refine CanS.mk Try.func86 rfl rfl rfl ?_
  repeat' (first | refine RT.nil ?_ | refine sq_n ?_ | refine Tr.seq ?_ | refine Tr.region ?_ | refine Tr.ret ?_ | (refine RT.goK rfl rfl rfl rfl ?_; apply Nx.of; (first | exact S.move | exact S.assign)))
  (first | refine rt_go rfl ?_)
  rfl
theorem bec_at (d s : Int) (H : T AObj) (c fl : Nat) : OkAt 0 Try.prog fl 86 [.int .i64 d, .int .i64 s] H c (.int .i64 s) H c := (bec_can d s).pure (.int _ _) (.plain fun _ => rfl) fl
theorem rests_at (n y b r w : Int) (H : T AObj) (c fl : Nat) : OkAt 0 Try.prog fl 110 [.agg [.int .i64 n, .int .i64 y], roV b r, .int .i64 w] H c (roV b r) H c := (rests_can n y b r w).pure (fun _ => rfl) (.plain fun _ => rfl) fl
theorem isLost_at (n y b r w : Int) (H : T AObj) (c fl : Nat) : OkAt 0 Try.prog fl 112 [.agg [.int .i64 n, .int .i64 y], roV b r, .int .i64 w] H c (roV b 0) H c := (isLost_can n y b r w).pure (fun _ => rfl) (.plain fun _ => rfl) fl
theorem isRolled_at (n y b r w : Int) (hb : 0 ≤ b ∧ b ≤ 100) (hr : 0 ≤ r ∧ r ≤ 1000) (hw : 0 ≤ w ∧ w ≤ 1000) (H : T AObj) (c fl : Nat) : OkAt 0 Try.prog fl 111 [.agg [.int .i64 n, .int .i64 y], roV b r, .int .i64 w] H c (roV (rolB n b r w) (rolR n b r w)) H c := (isRolled_can n y b r w hb hr hw).pure (fun _ => rfl) (.plain fun _ => rfl) fl
end Go.Proofs.Ytjnckbefajfgbaa

/- Calls that spoil one object; calls that leave new names behind, in regions whose order is open. -/
namespace Go.Ev
open Go

section
variable {G : Nat} {P : Program} {ρ ρ1 : Rho} {fl c c' : Nat} {w w' : World}

theorem Good.cons {H : T AObj} {m : List (Nat × Option AObj)} {c1 c2 d : Nat} {o : AObj} (h : Good fl c H c1 (ofM m)) (hd : c ≤ d) (hd2 : d < c2) (hc : c1 ≤ c2) : Good fl c H c2 (ofM ((d, some o) :: m)) := by
  refine ⟨Nat.le_trans h.count hc, fun x h1 h2 => ?_, fun hdm x hx => ?_⟩
  · have := h.keep x h1 h2
    rw [ofM_get] at this ⊢
    rw [lookM_tl (by omega)]
    exact this
  · by_cases e : x = d
    · omega
    · have := h.dom hdm x (by rw [ofM_get] at hx ⊢; rwa [lookM_tl e] at hx)
      omega
open Classical in
/-- One call, in one memory. -/
noncomputable def pinX (f : Nat) (args : List AV) (m : List (Nat × Option AObj)) (c : Nat) (v : AV) (m' : List (Nat × Option AObj)) (c' : Nat) : CallFn := fun _ f1 args1 H1 c1 =>
  if f1 = f ∧ args1 = args ∧ H1 = ofM m ∧ c1 = c then some (v, ofM m', c') else none
theorem pinX_at (f : Nat) (args : List AV) (m : List (Nat × Option AObj)) (c : Nat) (v : AV) (m' : List (Nat × Option AObj)) (c' fl : Nat) : pinX f args m c v m' c' fl f args (ofM m) c = some (v, ofM m', c') := by
  unfold pinX; rw [if_pos ⟨rfl, rfl, rfl, rfl⟩]
theorem pinX_calm {f : Nat} {args : List AV} {m m' : List (Nat × Option AObj)} {v : AV} (h : ∀ fl, OkAt G P fl f args (ofM m) c v (ofM m') c') (hg : ∀ fl, Good fl c (ofM m) c' (ofM m')) : CalmC G P (pinX f args m c v m' c') := by
  refine ⟨fun fl f1 args1 H1 c1 v' H' c2 e => ?_, fun fl f1 args1 H1 c1 v' H' c2 e => ?_⟩
  · unfold pinX at e
    split at e
    · rename_i hh
      obtain ⟨rfl, rfl, rfl, rfl⟩ := hh
      simp only [Option.some.injEq, Prod.mk.injEq] at e
      obtain ⟨rfl, rfl, rfl⟩ := e
      exact h _
    · cases e
  · unfold pinX at e
    split at e
    · rename_i hh
      obtain ⟨rfl, rfl, rfl, rfl⟩ := hh
      simp only [Option.some.injEq, Prod.mk.injEq] at e
      obtain ⟨rfl, rfl, rfl⟩ := e
      exact hg _
    · cases e

variable {n : Nat} {dfs : List Nat} {l : List (Nat × AV)} {o : Oper} {call round : CallFn} {ops : List Oper} {is : List OpI} {rs us : List Rec} {un : List Nat} {wd : Bool} {v : AV} {d : Nat} {K : St → Prop} {m m' : List (Nat × Option AObj)}
theorem RD.callX [hP : PG P G] {f : Nat} {first cap args : List AV} (hk : kindA o.op = .heavy) (hc : isCall o.op = true) (hr : recL rs un = some us) (hw : wantedL ops o l = some true) (hv : operandsL G l (opArgs o.op) = some (.fn f first cap :: args)) (hd : o.dst = some d) (hn : Nat.blt d n = true)
    (hu : us.all (fun r => !r.heavy && r.st.isNone) = true) (hh : (us.flatMap fun r => (List.range (r.hi - r.lo)).map (r.lo + ·)) = [])
    (hs : ∀ fl', call fl' f (first ++ args ++ cap) (ofM m) c = some (v, ofM m', c')) (hsame : wd = true → us.all (sameR P (ofM m) (ofM m')) = true)
    (h : RD G P fl call round ops is (⟨true, none, c, c', none, bif wd then some (ofM m, ofM m') else none, none⟩ :: rs) (stL n dfs ((d, v) :: l) m' c') K) : RD G P fl call round ops (⟨o, un, wd⟩ :: is) rs (stL n dfs l m c) K := by
  refine RD.step (v := v) (m' := m') (c' := c') (rc := ⟨true, none, c, c', none, bif wd then some (ofM m, ofM m') else none, none⟩) hr hw hv ?_ (put_some hn hd) (by rw [hd]; exact h)
  rw [hk]; unfold stD
  have hst : ∀ fl', stepA P call round fl' o.op (.fn f first cap :: args) (ofM m) c = some (v, ofM m', c') := fun fl' => by
    unfold stepA; rw [hc]; exact hs fl'
  simp only [hu, hh, hideA, cond_true]
  cases wd with
  | true => simp only [cond_true, hst, backA, List.foldl_nil, hsame rfl]
  | false => simp only [cond_false, hst, backA, List.foldl_nil]
/-- What was read is still there, where a call adds names. -/
def srOkX (m m' : List (Nat × Option AObj)) : List Rec → Prop
  | [] => True
  | r :: us => (match r.reads with | none => True | some x => ∃ ob, lookM m x = some ob ∧ lookM m' x = some ob ∧ rfO ob = true) ∧ srOkX m m' us
theorem srOkX_all : ∀ {us : List Rec}, srOkX m m' us → us.all (sameR P (ofM m) (ofM m')) = true
  | [], _ => rfl
  | r :: us, h => by
    obtain ⟨h1, h2⟩ := h
    have h3 : sameR P (ofM m) (ofM m') r = true := by
      unfold sameR
      split at h1
      · rename_i e; rw [e]
      · rename_i x e
        obtain ⟨ob, h4, h4', h5⟩ := h1
        rw [e]
        simp only [same_get (getM h4) (getM h4') h5, Bool.true_or]
    rw [List.all_cons, h3, srOkX_all h2]
    rfl
end
end Go.Ev

/- Heavy operations that are not calls, whose order beside others is open; and-not. -/
namespace Go.Ev
open Go

section
variable {G : Nat} {P : Program} {fl c c' : Nat} {n : Nat} {dfs : List Nat} {l : List (Nat × AV)} {o : Oper} {call round : CallFn} {ops : List Oper} {is : List OpI} {rs us : List Rec} {un : List Nat} {v : AV} {vs : List AV} {d : Nat} {K : St → Prop} {m m' : List (Nat × Option AObj)}
def andnI (a b : Int) : Int := IntKind.i64.wrap (BitVec.ofInt 64 a &&& ~~~(BitVec.ofInt 64 b)).toNat
theorem S.andNot {t s : Nat} {x1 x2 : Operand} {a b : Int} : OpE P fl (.binOp .andNot t x1 x2 s) [.int .i64 a, .int .i64 b] m c (.int .i64 (andnI a b)) m c := ⟨rfl, Nat.le_refl _, rfl⟩
theorem S.neqB_f {t s : Nat} {x1 x2 : Operand} {b : Bool} (h : eqA P t (.bool b) (.bool b) = some true) : OpE P fl (.binOp .neq t x1 x2 s) [.bool b, .bool b] m c (.bool false) m c := by
  refine ⟨rfl, Nat.le_refl _, ?_⟩
  show opt1 ((eqA P t (.bool b) (.bool b)).map fun b => .bool (!b)) (ofM m) c = _
  rw [h]; rfl
theorem S.gtr_f {t s : Nat} {x1 x2 : Operand} {a b : Int} (h : ¬ b < a) : OpE P fl (.binOp .gtr t x1 x2 s) [.int .i64 a, .int .i64 b] m c (.bool false) m c := by
  have := S.gtr (P := P) (fl := fl) (m := m) (c := c) (t := t) (yt := s) (x1 := x1) (x2 := x2) (a := a) (b := b)
  rwa [decide_eq_false h] at this
theorem S.idx_sl4 [Tab P] {t i k x off cp : Nat} {x1 x2 : Operand} {y z : Ty} (hy : ty P t = some y) (hk : y.kind = 5) (hz : ty P y.elem = some z) (hi : i < k) : OpE P fl (.indexAddr t x1 x2) [.sl x off k cp, .int .i64 (i : Int)] m c (.ptr x (off + i * z.size)) m c := by
  refine ⟨rfl, Nat.le_refl _, ?_⟩
  have h1 : Nat.blt i k = true := by simpa using hi
  simp only [opA, oIndexAddr, indexAddrA, natOf_nat, ty_slice hy hk, ty_size hz, h1, cond_true, Option.map_some, opt1]
end
end Go.Ev

/- The truths of package roll: what comes of a day. -/
namespace Go.Proofs.Ytjnckbefajfgbaa
open Go Go.Ev

theorem S.index_arrN {P : Program} [Tab P] {fl c t : Nat} {y z : Ty} {x1 x2 : Operand} {m : List (Nat × Option AObj)} {i : Int} {cs vs : List AV} (hy : ty P t = some y) (hk : y.kind = 4) (hz : ty P y.elem = some z) (hg : z.agg = true) (h0 : 0 ≤ i) (hi : i < y.len) (hv : cut cs (i.toNat * z.size) z.size = some vs) : OpE P fl (.index t x1 x2) [.agg cs, .int .i64 i] m c (.agg vs) m c := by
  obtain ⟨j, rfl⟩ : ∃ j : Nat, i = j := ⟨i.toNat, by omega⟩
  replace hi : j < y.len := by omega
  replace hv : cut cs (j * z.size) z.size = some vs := hv
  refine ⟨rfl, by first | exact Nat.le_refl _, ?_⟩
  have h1 : aggB P y.elem = some true := by rw [ty_agg hz, hg]
  have h2 : Nat.blt j y.len = true := by simpa using hi
  simp only [opA, oIndex, indexA, natOf_nat, ty_array hy hk, ty_size hz, h2, cond_true, Option.bind_some, partA, h1, hv, Option.map_some, opt1]
/-- What comes of a day, where a layer is not bound. -/
noncomputable def passN (B : RBook) (t : Tru) (d rb : Nat) (rr : Int) : Tru :=
  if t.s d = 0 then (t.setLo rb (t.lo rb + 0)).setE d rb rr
  else if t.s d = 1 then (t.setLo rb (t.lo rb + 0)).setE d (rolB (B.nee rb) rb rr (t.w d)) (rolR (B.nee rb) rb rr (t.w d))
  else (t.setLo rb (t.lo rb + 1)).setE d rb 0
noncomputable def pasT (B : RBook) (t : Tru) (d : Nat) : Tru :=
  bif dB (befB t d = B.nl ∧ befR t d = 0) then t.setE d (befB t d) (befR t d)
  else passN B (bif dB (t.la (befB t d).toNat = t.lo (befB t d).toNat) then t.setLa (befB t d).toNat (t.la (befB t d).toNat + 1) else t) d (befB t d).toNat (befR t d)
/-- A truth as far as it is known before a day. -/
structure PasOk (B : RBook) (t : Tru) (d : Nat) : Prop where
  d5 : d < 5
  h0 : noLa t ∨ 1 ≤ d
  b : 0 ≤ befB t d ∧ befB t d ≤ B.nl
  r : 0 ≤ befR t d ∧ befR t d ≤ 1000
  z : befB t d = B.nl → befR t d = 0
  la : ∀ i, i < 4 → 0 ≤ t.la i ∧ t.la i ≤ 1000
  lo : ∀ i, i < 4 → 0 ≤ t.lo i ∧ t.lo i ≤ 1000
  w : 0 ≤ t.w d ∧ t.w d ≤ 20
  s : t.s d = 0 ∨ t.s d = 1 ∨ t.s d = 2
theorem done_calm {B : RBook} {a1 a2 a3 : AV} {p : Nat} : CalmC 0 Try.prog (one1 79 [.ptr p 0] (roV B.nl 0) fun H c => ∃ m, H = ofM m ∧ PbIn B a1 a2 a3 p m c) := one1_calm fun fl H c ⟨m, hm, h⟩ => by subst hm; exact done_at h fl
theorem efb_calm (d s : Int) : CalmC 0 Try.prog (alts [one1 94 [] efV fun _ _ => True, one1 86 [.int .i64 d, .int .i64 s] (.int .i64 s) fun _ _ => True]) := alts_calm fun g hg => by
  simp only [List.mem_cons, List.not_mem_nil, or_false] at hg
  rcases hg with rfl | rfl
  · exact one1_calm fun fl H c _ => effects_at H c fl
  · exact one1_calm fun fl H c _ => bec_at d s H c fl
set_option maxRecDepth 100000 in
set_option maxHeartbeats 8000000 in
theorem pass_can (B : RBook) (a1 a2 a3 : AV) (h1 : IsSl a1 B.nl 0) (h2 : IsSl a2 B.nd 1) (h3 : IsSl a3 B.nk 2) (hB : bkOk B) (t : Tru) (d : Nat) (ho : PasOk B t d) : CanS 0 Try.prog 96 4 [.ptr 3 0, .ptr 4 0, .int .i64 (d : Int)] [(0, some (oLa B)), (1, some (oDa B)), (2, some (oLo B)), (3, some (.cells (pbC B a1 a2 a3))), (4, some (.cells (truC t)))] 5 fun v H1 _ => v = .tup [] ∧ H1.get 4 = some (.cells (truC (pasT B t d))) := by
  have hd := ho.d5
  obtain ⟨rb, hrb⟩ := Int.eq_ofNat_of_zero_le ho.b.1
  have hbn : rb ≤ B.nl := by have := ho.b.2; omega
  obtain ⟨rr, hrr⟩ : ∃ r, befR t d = r := ⟨_, rfl⟩
  have hrB := ho.r
  rw [hrr] at hrB
  have hbef := fun fl => before_at (m := [(0, some (oLa B)), (1, some (oDa B)), (2, some (oLo B)), (3, some (.cells (pbC B a1 a2 a3))), (4, some (.cells (truC t)))]) (c := 5) (x := 4) hd ho.h0 rfl fl
  rw [hrb, hrr] at hbef
  have hz := ho.z
  rw [hrb, hrr] at hz
  have hnl4 := hB.1.1
  have hw := ho.w
  refine CanS.mk Try.func96 rfl rfl rfl ?_
  repeat' (first | refine RT.nil ?_ | refine sq_n ?_ | refine Tr.seq ?_ | refine Tr.region ?_ | (refine RT.call rfl rfl rfl (hbef _) rfl rfl (Nat.le_refl _) ?_) | (refine RT.goK rfl rfl rfl rfl ?_; apply Nx.of; (first | exact S.move | exact S.alloc rfl)) | (refine RT.goK0 rfl rfl rfl ?_; apply Nx.of; (first | exact S.store rfl rfl rfl rfl rfl rfl)))
  refine Tr.openK un96_1 (by kernel_rfl) (by kernel_rfl) (one1 79 [.ptr 3 0] (roV B.nl 0) fun H c => ∃ m, H = ofM m ∧ PbIn B a1 a2 a3 3 m c) done_calm ?_
  repeat' (first | (refine RD.callN rfl rfl rfl rfl rfl rfl rfl rfl rfl (fun fl' => one1_at ⟨_, rfl, h1, h2, h3, rfl, rfl, rfl, rfl, by decide, by decide⟩ fl') (fun _ => by refine srOk_all ?_; simp only [srOk]; (repeat' (first | exact trivial | refine And.intro ?_ ?_)); all_goals (first | (refine ⟨_, rfl, ?_⟩; (first | rfl)))) ?_) | (refine RD.free rfl rfl rfl rfl rfl rfl ?_; apply Nx.of; (first | exact S.move | exact S.eqlA (eqRo _ _ _ _))) | (refine RD.load rfl rfl rfl rfl rfl rfl rfl rfl ?_; apply Nx.of; (first | exact S.loadNc rfl rfl rfl rfl)) | refine RD.nil ⟨Nat.le_of_ble_eq_true rfl, ?_⟩)
  by_cases hdn : (rb : Int) = B.nl ∧ rr = 0
  · repeat' (first | refine sq_n ?_ | refine Tr.seq ?_ | refine Tr.cond_d rfl (fun _ => ?_) (fun _ => ?_) | refine Tr.skip ?_)
    · refine Tr.openK un96_2 (by kernel_rfl) (by kernel_rfl) noCall noCall_calm ?_
      repeat' (first | (refine RD.free rfl rfl rfl rfl rfl rfl ?_; refine Nx.of (S.idx_arr rfl rfl rfl hd) ?_) | (refine RD.load rfl rfl rfl rfl rfl rfl rfl (by refine us_all ?_; simp only [usOk, cond_true, cond_false]; (repeat' (first | exact trivial | refine And.intro ?_ ?_)); all_goals (first | rfl | exact .inl trivial)) ?_; apply Nx.of; (first | exact S.loadNc rfl rfl rfl rfl)) | (refine RD.store rfl rfl rfl rfl rfl rfl rfl ?_; apply Nx.of; (first | exact S.store rfl rfl rfl rfl rfl (truC_setE hd))) | (refine RD.free rfl rfl rfl rfl rfl rfl ?_; apply Nx.of; (first | exact S.move | exact S.fieldAddr rfl rfl rfl | exact S.nilCheck)) | refine RD.nil ⟨Nat.le_of_ble_eq_true rfl, ?_⟩)
      repeat' (first | refine sq_n ?_ | refine Tr.ret ?_ | refine sq_r ?_)
      (first | refine rt_go rfl ?_)
      refine ⟨rfl, getM ?_⟩
      unfold pasT
      rw [hrb, hrr, dB_tt hdn]
      rfl
    · exact absurd hdn (by assumption)
  · have hnl : rb < B.nl := by
      rcases Nat.lt_or_ge rb B.nl with h | h
      · exact h
      · have : (rb : Int) = B.nl := by omega
        exact absurd ⟨this, hz this⟩ hdn
    have h4 : rb < 4 := by omega
    have hla := ho.la rb h4
    have hlo := ho.lo rb h4
    have hne := hB.1.2 rb hnl
    unfold laOk at hne
    repeat' (first | refine sq_n ?_ | refine Tr.seq ?_ | refine Tr.cond_d rfl (fun _ => ?_) (fun _ => ?_) | refine Tr.skip ?_)
    · exact absurd (by assumption) hdn
    refine Tr.openK un96_3 (by kernel_rfl) (by kernel_rfl) noCall noCall_calm ?_
    repeat' (first | (refine RD.free rfl rfl rfl rfl rfl rfl ?_; refine Nx.of (S.idx_arr rfl rfl rfl h4) ?_) | (refine RD.load rfl rfl rfl rfl rfl rfl rfl (by refine us_all ?_; simp only [usOk, cond_true, cond_false]; (repeat' (first | exact trivial | refine And.intro ?_ ?_)); all_goals (first | rfl | exact .inl trivial)) ?_; apply Nx.of; (first | exact S.load1c rfl rfl rfl (truC_la h4) | exact S.load1c rfl rfl rfl (truC_lo h4) | exact S.load1c rfl rfl rfl rfl)) | (refine RD.free rfl rfl rfl rfl rfl rfl ?_; apply Nx.of; (first | exact S.move | exact S.fieldAddr rfl rfl rfl | exact S.eql | exact S.nilCheck)) | refine RD.nil ⟨Nat.le_of_ble_eq_true rfl, ?_⟩)
    by_cases hll : t.la rb = t.lo rb
    · repeat' (first | refine sq_n ?_ | refine Tr.seq ?_ | refine Tr.cond_d rfl (fun _ => ?_) (fun _ => ?_) | refine Tr.skip ?_)
      · refine Tr.openK un96_4 (by kernel_rfl) (by kernel_rfl) noCall noCall_calm ?_
        repeat' (first | (refine RD.free rfl rfl rfl rfl rfl rfl ?_; refine Nx.of (S.idx_arr rfl rfl rfl h4) ?_) | (refine RD.load rfl rfl rfl rfl rfl rfl rfl (by refine us_all ?_; simp only [usOk, cond_true, cond_false]; (repeat' (first | exact trivial | refine And.intro ?_ ?_)); all_goals (first | rfl | exact .inl trivial)) ?_; apply Nx.of; (first | exact S.load1c rfl rfl rfl (truC_la h4) | exact S.load1c rfl rfl rfl rfl)) | (refine RD.store rfl rfl rfl rfl rfl rfl rfl ?_; apply Nx.of; (first | exact S.store rfl rfl rfl rfl rfl (truC_setLa h4))) | (refine RD.free rfl rfl rfl rfl rfl rfl ?_; apply Nx.of; (first | exact S.move | exact S.fieldAddr rfl rfl rfl | exact S.add (by unfold In64; omega) | exact S.nilCheck)) | refine RD.nil ⟨Nat.le_of_ble_eq_true rfl, ?_⟩)
        repeat' (first | refine sq_n ?_ | refine Tr.seq ?_)
        rcases ho.s with hs | hs | hs
        · have hs2 : (t.setLa rb (t.la rb + 1)).s d = 0 := hs
          have hlo2 : 0 ≤ (t.setLa rb (t.la rb + 1)).lo rb ∧ (t.setLa rb (t.la rb + 1)).lo rb ≤ 1000 := hlo
          have xs : (truC (t.setLa rb (t.la rb + 1)))[0 + 5 + d * 1]? = some (.int .i64 0) := by rw [truC_s hd]; exact congrArg (fun x => some (AV.int .i64 x)) hs
          refine Tr.openK un96_5 (by kernel_rfl) (by kernel_rfl) _ (efb_calm (d : Int) 0) ?_
          repeat' (first | (refine RD.callN rfl rfl rfl rfl rfl rfl rfl rfl rfl (fun fl' => alts_hd (one1_at trivial fl')) (fun _ => by refine srOk_all ?_; simp only [srOk]; (repeat' (first | exact trivial | refine And.intro ?_ ?_)); all_goals (first | (refine ⟨_, rfl, ?_⟩; (first | rfl | (simp [pbC, rfO, rfVs, rfV, h1.rf, h2.rf, h3.rf]; done))))) ?_) | (refine RD.callN rfl rfl rfl rfl rfl rfl rfl rfl rfl (fun fl' => (alts_tl (famA_ne _ (by decide))).trans (alts_hd (one1_at trivial fl'))) (fun _ => by refine srOk_all ?_; simp only [srOk]; (repeat' (first | exact trivial | refine And.intro ?_ ?_)); all_goals (first | exact trivial | (refine ⟨_, rfl, ?_⟩; (first | rfl | (simp [rfO, rfVs, rfV, rfVs_flat]; done) | (simp [pbC, rfO, rfVs, rfV, h1.rf, h2.rf, h3.rf]; done))))) ?_) | (refine RD.free rfl rfl rfl rfl rfl rfl ?_; refine Nx.of (S.idx_arr rfl rfl rfl hd) ?_) | (refine RD.free rfl rfl rfl rfl rfl rfl ?_; first | refine Nx.of (S.index_arrN rfl rfl rfl rfl (by decide) (by decide) rfl) ?_) | (refine RD.load rfl rfl rfl rfl rfl rfl rfl (by refine us_all ?_; simp only [usOk, cond_true, cond_false]; (repeat' (first | exact trivial | refine And.intro ?_ ?_)); all_goals (first | rfl | exact .inl trivial)) ?_; apply Nx.of; (first | exact S.load1c rfl rfl rfl xs | exact S.load1c rfl rfl rfl rfl)) | (refine RD.free rfl rfl rfl rfl rfl rfl ?_; apply Nx.of; (first | exact S.move | exact S.fieldAddr rfl rfl rfl | exact S.nilCheck)) | (refine RD.new rfl rfl rfl rfl rfl rfl ?_; apply Nx.of; (first | exact S.alloc rfl)) | (refine RD.store rfl rfl rfl rfl rfl rfl rfl ?_; apply Nx.of; (first | exact S.store rfl rfl rfl rfl rfl rfl)) | refine RD.nil ⟨Nat.le_of_ble_eq_true rfl, ?_⟩)
          repeat' (first | refine sq_n ?_ | refine Tr.seq ?_)
          refine Tr.openK un96_6 (by kernel_rfl) (by kernel_rfl) noCall noCall_calm ?_
          repeat' (first | (refine RD.free rfl rfl rfl rfl rfl rfl ?_; refine Nx.of (S.idx_arr rfl rfl rfl h4) ?_) | (refine RD.load rfl rfl rfl rfl rfl rfl rfl (by refine us_all ?_; simp only [usOk, cond_true, cond_false]; (repeat' (first | exact trivial | refine And.intro ?_ ?_)); all_goals (first | rfl | exact .inl trivial)) ?_; apply Nx.of; (first | exact S.load1c rfl rfl rfl (truC_lo h4) | exact S.load1c rfl rfl rfl rfl)) | (refine RD.store rfl rfl rfl rfl rfl rfl rfl ?_; apply Nx.of; (first | exact S.store rfl rfl rfl rfl rfl (truC_setLo h4))) | (refine RD.free rfl rfl rfl rfl rfl rfl ?_; apply Nx.of; (first | exact S.move | exact S.fieldAddr rfl rfl rfl | exact S.add (by unfold In64; omega) | exact S.nilCheck)) | refine RD.nil ⟨Nat.le_of_ble_eq_true rfl, ?_⟩)
          repeat' (first | refine sq_n ?_)
          refine Tr.openK un96_7 (by kernel_rfl) (by kernel_rfl) (one1 110 [.agg [.int .i64 (B.nee rb), .int .i64 (B.yar rb)], roV rb rr, .int .i64 (t.w d)] (roV rb rr) fun _ _ => True) (one1_calm fun fl H c _ => rests_at _ _ _ _ _ H c fl) ?_
          repeat' (first | (refine RD.callN rfl rfl rfl rfl rfl rfl rfl rfl rfl (fun fl' => one1_at trivial fl') (fun _ => by refine srOk_all ?_; simp only [srOk]; (repeat' (first | exact trivial | refine And.intro ?_ ?_)); all_goals (first | (refine ⟨_, rfl, ?_⟩; (first | rfl | (simp [rfO, rfVs, rfV, rfVs_flat]; done) | (simp [pbC, rfO, rfVs, rfV, h1.rf, h2.rf, h3.rf]; done))))) ?_) | (refine RD.free rfl rfl rfl rfl rfl rfl ?_; refine Nx.of (S.idx_arr rfl rfl rfl hd) ?_) | (refine RD.free rfl rfl rfl rfl rfl rfl ?_; first | refine Nx.of (S.idx_sl rfl rfl rfl h1 hnl) ?_) | (refine RD.load rfl rfl rfl rfl rfl rfl rfl (by refine us_all ?_; simp only [usOk, cond_true, cond_false]; (repeat' (first | exact trivial | refine And.intro ?_ ?_)); all_goals (first | rfl | exact .inl trivial | (refine Or.inr (was_same rfl ?_); (first | (exact ⟨_, rfl, rfl⟩))))) ?_; apply Nx.of; (first | exact S.load1c rfl rfl rfl (truC_w hd) | exact S.rowN0 rfl rfl rfl (fun _ => rfl) (range_at hnl) rfl | exact S.load1c rfl rfl rfl rfl | exact S.loadNc rfl rfl rfl rfl)) | (refine RD.store rfl rfl rfl rfl rfl rfl rfl ?_; apply Nx.of; (first | exact S.store rfl rfl rfl rfl rfl (truC_setE hd))) | (refine RD.free rfl rfl rfl rfl rfl rfl ?_; apply Nx.of; (first | exact S.move | exact S.fieldAddr rfl rfl rfl | exact S.nilCheck)) | refine RD.nil ⟨Nat.le_of_ble_eq_true rfl, ?_⟩)
          repeat' (first | refine RT.nil ?_ | refine sq_n ?_ | refine Tr.seq ?_ | refine Tr.region ?_ | refine Tr.cond_t rfl ?_ | refine Tr.cond_f rfl ?_ | refine Tr.cond_d rfl (fun _ => ?_) (fun _ => ?_) | refine Tr.skip ?_ | refine Tr.ret ?_ | refine sq_r ?_ | refine Tr.exit ?_ | refine sq_x ?_ | refine Tr.block ?_ | refine blk_n ?_ | refine blk_r ?_ | refine blk_hit rfl ?_ | refine blk_pass rfl ?_ | refine Tr.label ?_ | refine Tr.scope ?_ | refine scp_n ?_ | refine scp_r ?_ | refine scp_x ?_ | refine lp_r ?_ | refine lp_x ?_ | (refine RT.goK rfl rfl rfl rfl ?_; apply Nx.of; (first | exact S.move | exact S.assign | exact S.load1c rfl rfl rfl rfl | exact S.loadNc rfl rfl rfl rfl | exact S.fieldAddr rfl rfl rfl | exact S.leq | exact S.lss | exact S.eql | exact S.neq | exact S.geq | exact S.gtr | exact S.not_t | exact S.not_f | exact S.not_d | exact S.pick_tt | exact S.pick_ff | exact S.pick_td (by assumption) | exact S.pick_fd (by assumption) | exact S.pick_b | exact S.box | exact S.alloc rfl | exact S.add_one (by omega) | exact S.sub_one (by omega) (by omega) | exact S.add (by unfold In64; omega) | exact S.sub (by unfold In64; omega) | exact S.mul (by unfold In64; omega) | exact S.add_w | exact S.sub_w | exact S.mul_w | exact S.min2 | exact S.max2 | exact S.build rfl rfl rfl | exact S.buildA rfl rfl rfl rfl | exact S.nilCheck | exact S.extract rfl | exact S.eqlA (eqRo _ _ _ _))) | (refine RT.goK0 rfl rfl rfl ?_; apply Nx.of; (first | exact S.store rfl rfl rfl rfl rfl rfl | exact S.eqlA (eqRo _ _ _ _))))
          refine rt_gon rfl ?_
          refine ⟨rfl, getM ?_⟩
          unfold pasT
          rw [hrb, hrr, dB_ff hdn, Int.toNat_natCast, dB_tt hll]
          show _ = some (AObj.cells (truC (passN B (t.setLa rb (t.la rb + 1)) d rb rr)))
          unfold passN
          rw [if_pos hs2]
          rfl
        · have hs2 : (t.setLa rb (t.la rb + 1)).s d = 1 := hs
          have hlo2 : 0 ≤ (t.setLa rb (t.la rb + 1)).lo rb ∧ (t.setLa rb (t.la rb + 1)).lo rb ≤ 1000 := hlo
          have xs : (truC (t.setLa rb (t.la rb + 1)))[0 + 5 + d * 1]? = some (.int .i64 1) := by rw [truC_s hd]; exact congrArg (fun x => some (AV.int .i64 x)) hs
          refine Tr.openK un96_5 (by kernel_rfl) (by kernel_rfl) _ (efb_calm (d : Int) 1) ?_
          repeat' (first | (refine RD.callN rfl rfl rfl rfl rfl rfl rfl rfl rfl (fun fl' => alts_hd (one1_at trivial fl')) (fun _ => by refine srOk_all ?_; simp only [srOk]; (repeat' (first | exact trivial | refine And.intro ?_ ?_)); all_goals (first | (refine ⟨_, rfl, ?_⟩; (first | rfl | (simp [pbC, rfO, rfVs, rfV, h1.rf, h2.rf, h3.rf]; done))))) ?_) | (refine RD.callN rfl rfl rfl rfl rfl rfl rfl rfl rfl (fun fl' => (alts_tl (famA_ne _ (by decide))).trans (alts_hd (one1_at trivial fl'))) (fun _ => by refine srOk_all ?_; simp only [srOk]; (repeat' (first | exact trivial | refine And.intro ?_ ?_)); all_goals (first | exact trivial | (refine ⟨_, rfl, ?_⟩; (first | rfl | (simp [rfO, rfVs, rfV, rfVs_flat]; done) | (simp [pbC, rfO, rfVs, rfV, h1.rf, h2.rf, h3.rf]; done))))) ?_) | (refine RD.free rfl rfl rfl rfl rfl rfl ?_; refine Nx.of (S.idx_arr rfl rfl rfl hd) ?_) | (refine RD.free rfl rfl rfl rfl rfl rfl ?_; first | refine Nx.of (S.index_arrN rfl rfl rfl rfl (by decide) (by decide) rfl) ?_) | (refine RD.load rfl rfl rfl rfl rfl rfl rfl (by refine us_all ?_; simp only [usOk, cond_true, cond_false]; (repeat' (first | exact trivial | refine And.intro ?_ ?_)); all_goals (first | rfl | exact .inl trivial)) ?_; apply Nx.of; (first | exact S.load1c rfl rfl rfl xs | exact S.load1c rfl rfl rfl rfl)) | (refine RD.free rfl rfl rfl rfl rfl rfl ?_; apply Nx.of; (first | exact S.move | exact S.fieldAddr rfl rfl rfl | exact S.nilCheck)) | (refine RD.new rfl rfl rfl rfl rfl rfl ?_; apply Nx.of; (first | exact S.alloc rfl)) | (refine RD.store rfl rfl rfl rfl rfl rfl rfl ?_; apply Nx.of; (first | exact S.store rfl rfl rfl rfl rfl rfl)) | refine RD.nil ⟨Nat.le_of_ble_eq_true rfl, ?_⟩)
          repeat' (first | refine sq_n ?_ | refine Tr.seq ?_)
          refine Tr.openK un96_6 (by kernel_rfl) (by kernel_rfl) noCall noCall_calm ?_
          repeat' (first | (refine RD.free rfl rfl rfl rfl rfl rfl ?_; refine Nx.of (S.idx_arr rfl rfl rfl h4) ?_) | (refine RD.load rfl rfl rfl rfl rfl rfl rfl (by refine us_all ?_; simp only [usOk, cond_true, cond_false]; (repeat' (first | exact trivial | refine And.intro ?_ ?_)); all_goals (first | rfl | exact .inl trivial)) ?_; apply Nx.of; (first | exact S.load1c rfl rfl rfl (truC_lo h4) | exact S.load1c rfl rfl rfl rfl)) | (refine RD.store rfl rfl rfl rfl rfl rfl rfl ?_; apply Nx.of; (first | exact S.store rfl rfl rfl rfl rfl (truC_setLo h4))) | (refine RD.free rfl rfl rfl rfl rfl rfl ?_; apply Nx.of; (first | exact S.move | exact S.fieldAddr rfl rfl rfl | exact S.add (by unfold In64; omega) | exact S.nilCheck)) | refine RD.nil ⟨Nat.le_of_ble_eq_true rfl, ?_⟩)
          repeat' (first | refine sq_n ?_)
          refine Tr.openK un96_7 (by kernel_rfl) (by kernel_rfl) (one1 111 [.agg [.int .i64 (B.nee rb), .int .i64 (B.yar rb)], roV rb rr, .int .i64 (t.w d)] (roV (rolB (B.nee rb) rb rr (t.w d)) (rolR (B.nee rb) rb rr (t.w d))) fun _ _ => True) (one1_calm fun fl H c _ => isRolled_at _ _ _ _ _ (by omega) (by omega) (by omega) H c fl) ?_
          repeat' (first | (refine RD.callN rfl rfl rfl rfl rfl rfl rfl rfl rfl (fun fl' => one1_at trivial fl') (fun _ => by refine srOk_all ?_; simp only [srOk]; (repeat' (first | exact trivial | refine And.intro ?_ ?_)); all_goals (first | (refine ⟨_, rfl, ?_⟩; (first | rfl | (simp [rfO, rfVs, rfV, rfVs_flat]; done) | (simp [pbC, rfO, rfVs, rfV, h1.rf, h2.rf, h3.rf]; done))))) ?_) | (refine RD.free rfl rfl rfl rfl rfl rfl ?_; refine Nx.of (S.idx_arr rfl rfl rfl hd) ?_) | (refine RD.free rfl rfl rfl rfl rfl rfl ?_; first | refine Nx.of (S.idx_sl rfl rfl rfl h1 hnl) ?_) | (refine RD.load rfl rfl rfl rfl rfl rfl rfl (by refine us_all ?_; simp only [usOk, cond_true, cond_false]; (repeat' (first | exact trivial | refine And.intro ?_ ?_)); all_goals (first | rfl | exact .inl trivial | (refine Or.inr (was_same rfl ?_); (first | (exact ⟨_, rfl, rfl⟩))))) ?_; apply Nx.of; (first | exact S.load1c rfl rfl rfl (truC_w hd) | exact S.rowN0 rfl rfl rfl (fun _ => rfl) (range_at hnl) rfl | exact S.load1c rfl rfl rfl rfl | exact S.loadNc rfl rfl rfl rfl)) | (refine RD.store rfl rfl rfl rfl rfl rfl rfl ?_; apply Nx.of; (first | exact S.store rfl rfl rfl rfl rfl (truC_setE hd))) | (refine RD.free rfl rfl rfl rfl rfl rfl ?_; apply Nx.of; (first | exact S.move | exact S.fieldAddr rfl rfl rfl | exact S.nilCheck)) | refine RD.nil ⟨Nat.le_of_ble_eq_true rfl, ?_⟩)
          repeat' (first | refine RT.nil ?_ | refine sq_n ?_ | refine Tr.seq ?_ | refine Tr.region ?_ | refine Tr.cond_t rfl ?_ | refine Tr.cond_f rfl ?_ | refine Tr.cond_d rfl (fun _ => ?_) (fun _ => ?_) | refine Tr.skip ?_ | refine Tr.ret ?_ | refine sq_r ?_ | refine Tr.exit ?_ | refine sq_x ?_ | refine Tr.block ?_ | refine blk_n ?_ | refine blk_r ?_ | refine blk_hit rfl ?_ | refine blk_pass rfl ?_ | refine Tr.label ?_ | refine Tr.scope ?_ | refine scp_n ?_ | refine scp_r ?_ | refine scp_x ?_ | refine lp_r ?_ | refine lp_x ?_ | (refine RT.goK rfl rfl rfl rfl ?_; apply Nx.of; (first | exact S.move | exact S.assign | exact S.load1c rfl rfl rfl rfl | exact S.loadNc rfl rfl rfl rfl | exact S.fieldAddr rfl rfl rfl | exact S.leq | exact S.lss | exact S.eql | exact S.neq | exact S.geq | exact S.gtr | exact S.not_t | exact S.not_f | exact S.not_d | exact S.pick_tt | exact S.pick_ff | exact S.pick_td (by assumption) | exact S.pick_fd (by assumption) | exact S.pick_b | exact S.box | exact S.alloc rfl | exact S.add_one (by omega) | exact S.sub_one (by omega) (by omega) | exact S.add (by unfold In64; omega) | exact S.sub (by unfold In64; omega) | exact S.mul (by unfold In64; omega) | exact S.add_w | exact S.sub_w | exact S.mul_w | exact S.min2 | exact S.max2 | exact S.build rfl rfl rfl | exact S.buildA rfl rfl rfl rfl | exact S.nilCheck | exact S.extract rfl | exact S.eqlA (eqRo _ _ _ _))) | (refine RT.goK0 rfl rfl rfl ?_; apply Nx.of; (first | exact S.store rfl rfl rfl rfl rfl rfl | exact S.eqlA (eqRo _ _ _ _))))
          refine rt_gon rfl ?_
          refine ⟨rfl, getM ?_⟩
          unfold pasT
          rw [hrb, hrr, dB_ff hdn, Int.toNat_natCast, dB_tt hll]
          show _ = some (AObj.cells (truC (passN B (t.setLa rb (t.la rb + 1)) d rb rr)))
          unfold passN
          rw [if_neg (by rw [hs2]; decide), if_pos hs2]
          rfl
        · have hs2 : (t.setLa rb (t.la rb + 1)).s d = 2 := hs
          have hlo2 : 0 ≤ (t.setLa rb (t.la rb + 1)).lo rb ∧ (t.setLa rb (t.la rb + 1)).lo rb ≤ 1000 := hlo
          have xs : (truC (t.setLa rb (t.la rb + 1)))[0 + 5 + d * 1]? = some (.int .i64 2) := by rw [truC_s hd]; exact congrArg (fun x => some (AV.int .i64 x)) hs
          refine Tr.openK un96_5 (by kernel_rfl) (by kernel_rfl) _ (efb_calm (d : Int) 2) ?_
          repeat' (first | (refine RD.callN rfl rfl rfl rfl rfl rfl rfl rfl rfl (fun fl' => alts_hd (one1_at trivial fl')) (fun _ => by refine srOk_all ?_; simp only [srOk]; (repeat' (first | exact trivial | refine And.intro ?_ ?_)); all_goals (first | (refine ⟨_, rfl, ?_⟩; (first | rfl | (simp [pbC, rfO, rfVs, rfV, h1.rf, h2.rf, h3.rf]; done))))) ?_) | (refine RD.callN rfl rfl rfl rfl rfl rfl rfl rfl rfl (fun fl' => (alts_tl (famA_ne _ (by decide))).trans (alts_hd (one1_at trivial fl'))) (fun _ => by refine srOk_all ?_; simp only [srOk]; (repeat' (first | exact trivial | refine And.intro ?_ ?_)); all_goals (first | exact trivial | (refine ⟨_, rfl, ?_⟩; (first | rfl | (simp [rfO, rfVs, rfV, rfVs_flat]; done) | (simp [pbC, rfO, rfVs, rfV, h1.rf, h2.rf, h3.rf]; done))))) ?_) | (refine RD.free rfl rfl rfl rfl rfl rfl ?_; refine Nx.of (S.idx_arr rfl rfl rfl hd) ?_) | (refine RD.free rfl rfl rfl rfl rfl rfl ?_; first | refine Nx.of (S.index_arrN rfl rfl rfl rfl (by decide) (by decide) rfl) ?_) | (refine RD.load rfl rfl rfl rfl rfl rfl rfl (by refine us_all ?_; simp only [usOk, cond_true, cond_false]; (repeat' (first | exact trivial | refine And.intro ?_ ?_)); all_goals (first | rfl | exact .inl trivial)) ?_; apply Nx.of; (first | exact S.load1c rfl rfl rfl xs | exact S.load1c rfl rfl rfl rfl)) | (refine RD.free rfl rfl rfl rfl rfl rfl ?_; apply Nx.of; (first | exact S.move | exact S.fieldAddr rfl rfl rfl | exact S.nilCheck)) | (refine RD.new rfl rfl rfl rfl rfl rfl ?_; apply Nx.of; (first | exact S.alloc rfl)) | (refine RD.store rfl rfl rfl rfl rfl rfl rfl ?_; apply Nx.of; (first | exact S.store rfl rfl rfl rfl rfl rfl)) | refine RD.nil ⟨Nat.le_of_ble_eq_true rfl, ?_⟩)
          repeat' (first | refine sq_n ?_ | refine Tr.seq ?_)
          refine Tr.openK un96_6 (by kernel_rfl) (by kernel_rfl) noCall noCall_calm ?_
          repeat' (first | (refine RD.free rfl rfl rfl rfl rfl rfl ?_; refine Nx.of (S.idx_arr rfl rfl rfl h4) ?_) | (refine RD.load rfl rfl rfl rfl rfl rfl rfl (by refine us_all ?_; simp only [usOk, cond_true, cond_false]; (repeat' (first | exact trivial | refine And.intro ?_ ?_)); all_goals (first | rfl | exact .inl trivial)) ?_; apply Nx.of; (first | exact S.load1c rfl rfl rfl (truC_lo h4) | exact S.load1c rfl rfl rfl rfl)) | (refine RD.store rfl rfl rfl rfl rfl rfl rfl ?_; apply Nx.of; (first | exact S.store rfl rfl rfl rfl rfl (truC_setLo h4))) | (refine RD.free rfl rfl rfl rfl rfl rfl ?_; apply Nx.of; (first | exact S.move | exact S.fieldAddr rfl rfl rfl | exact S.add (by unfold In64; omega) | exact S.nilCheck)) | refine RD.nil ⟨Nat.le_of_ble_eq_true rfl, ?_⟩)
          repeat' (first | refine sq_n ?_)
          refine Tr.openK un96_7 (by kernel_rfl) (by kernel_rfl) (one1 112 [.agg [.int .i64 (B.nee rb), .int .i64 (B.yar rb)], roV rb rr, .int .i64 (t.w d)] (roV rb 0) fun _ _ => True) (one1_calm fun fl H c _ => isLost_at _ _ _ _ _ H c fl) ?_
          repeat' (first | (refine RD.callN rfl rfl rfl rfl rfl rfl rfl rfl rfl (fun fl' => one1_at trivial fl') (fun _ => by refine srOk_all ?_; simp only [srOk]; (repeat' (first | exact trivial | refine And.intro ?_ ?_)); all_goals (first | (refine ⟨_, rfl, ?_⟩; (first | rfl | (simp [rfO, rfVs, rfV, rfVs_flat]; done) | (simp [pbC, rfO, rfVs, rfV, h1.rf, h2.rf, h3.rf]; done))))) ?_) | (refine RD.free rfl rfl rfl rfl rfl rfl ?_; refine Nx.of (S.idx_arr rfl rfl rfl hd) ?_) | (refine RD.free rfl rfl rfl rfl rfl rfl ?_; first | refine Nx.of (S.idx_sl rfl rfl rfl h1 hnl) ?_) | (refine RD.load rfl rfl rfl rfl rfl rfl rfl (by refine us_all ?_; simp only [usOk, cond_true, cond_false]; (repeat' (first | exact trivial | refine And.intro ?_ ?_)); all_goals (first | rfl | exact .inl trivial | (refine Or.inr (was_same rfl ?_); (first | (exact ⟨_, rfl, rfl⟩))))) ?_; apply Nx.of; (first | exact S.load1c rfl rfl rfl (truC_w hd) | exact S.rowN0 rfl rfl rfl (fun _ => rfl) (range_at hnl) rfl | exact S.load1c rfl rfl rfl rfl | exact S.loadNc rfl rfl rfl rfl)) | (refine RD.store rfl rfl rfl rfl rfl rfl rfl ?_; apply Nx.of; (first | exact S.store rfl rfl rfl rfl rfl (truC_setE hd))) | (refine RD.free rfl rfl rfl rfl rfl rfl ?_; apply Nx.of; (first | exact S.move | exact S.fieldAddr rfl rfl rfl | exact S.nilCheck)) | refine RD.nil ⟨Nat.le_of_ble_eq_true rfl, ?_⟩)
          repeat' (first | refine RT.nil ?_ | refine sq_n ?_ | refine Tr.seq ?_ | refine Tr.region ?_ | refine Tr.cond_t rfl ?_ | refine Tr.cond_f rfl ?_ | refine Tr.cond_d rfl (fun _ => ?_) (fun _ => ?_) | refine Tr.skip ?_ | refine Tr.ret ?_ | refine sq_r ?_ | refine Tr.exit ?_ | refine sq_x ?_ | refine Tr.block ?_ | refine blk_n ?_ | refine blk_r ?_ | refine blk_hit rfl ?_ | refine blk_pass rfl ?_ | refine Tr.label ?_ | refine Tr.scope ?_ | refine scp_n ?_ | refine scp_r ?_ | refine scp_x ?_ | refine lp_r ?_ | refine lp_x ?_ | (refine RT.goK rfl rfl rfl rfl ?_; apply Nx.of; (first | exact S.move | exact S.assign | exact S.load1c rfl rfl rfl rfl | exact S.loadNc rfl rfl rfl rfl | exact S.fieldAddr rfl rfl rfl | exact S.leq | exact S.lss | exact S.eql | exact S.neq | exact S.geq | exact S.gtr | exact S.not_t | exact S.not_f | exact S.not_d | exact S.pick_tt | exact S.pick_ff | exact S.pick_td (by assumption) | exact S.pick_fd (by assumption) | exact S.pick_b | exact S.box | exact S.alloc rfl | exact S.add_one (by omega) | exact S.sub_one (by omega) (by omega) | exact S.add (by unfold In64; omega) | exact S.sub (by unfold In64; omega) | exact S.mul (by unfold In64; omega) | exact S.add_w | exact S.sub_w | exact S.mul_w | exact S.min2 | exact S.max2 | exact S.build rfl rfl rfl | exact S.buildA rfl rfl rfl rfl | exact S.nilCheck | exact S.extract rfl | exact S.eqlA (eqRo _ _ _ _))) | (refine RT.goK0 rfl rfl rfl ?_; apply Nx.of; (first | exact S.store rfl rfl rfl rfl rfl rfl | exact S.eqlA (eqRo _ _ _ _))))
          refine rt_gon rfl ?_
          refine ⟨rfl, getM ?_⟩
          unfold pasT
          rw [hrb, hrr, dB_ff hdn, Int.toNat_natCast, dB_tt hll]
          show _ = some (AObj.cells (truC (passN B (t.setLa rb (t.la rb + 1)) d rb rr)))
          unfold passN
          rw [if_neg (by rw [hs2]; decide), if_neg (by rw [hs2]; decide)]
          rfl
      · exact absurd hll (by assumption)
    · repeat' (first | refine sq_n ?_ | refine Tr.seq ?_ | refine Tr.cond_d rfl (fun _ => ?_) (fun _ => ?_) | refine Tr.skip ?_)
      · exact absurd (by assumption) hll
      rcases ho.s with hs | hs | hs
      · have hs2 : t.s d = 0 := hs
        have hlo2 : 0 ≤ t.lo rb ∧ t.lo rb ≤ 1000 := hlo
        have xs : (truC t)[0 + 5 + d * 1]? = some (.int .i64 0) := by rw [truC_s hd]; exact congrArg (fun x => some (AV.int .i64 x)) hs
        refine Tr.openK un96_5 (by kernel_rfl) (by kernel_rfl) _ (efb_calm (d : Int) 0) ?_
        repeat' (first | (refine RD.callN rfl rfl rfl rfl rfl rfl rfl rfl rfl (fun fl' => alts_hd (one1_at trivial fl')) (fun _ => by refine srOk_all ?_; simp only [srOk]; (repeat' (first | exact trivial | refine And.intro ?_ ?_)); all_goals (first | (refine ⟨_, rfl, ?_⟩; (first | rfl | (simp [pbC, rfO, rfVs, rfV, h1.rf, h2.rf, h3.rf]; done))))) ?_) | (refine RD.callN rfl rfl rfl rfl rfl rfl rfl rfl rfl (fun fl' => (alts_tl (famA_ne _ (by decide))).trans (alts_hd (one1_at trivial fl'))) (fun _ => by refine srOk_all ?_; simp only [srOk]; (repeat' (first | exact trivial | refine And.intro ?_ ?_)); all_goals (first | exact trivial | (refine ⟨_, rfl, ?_⟩; (first | rfl | (simp [rfO, rfVs, rfV, rfVs_flat]; done) | (simp [pbC, rfO, rfVs, rfV, h1.rf, h2.rf, h3.rf]; done))))) ?_) | (refine RD.free rfl rfl rfl rfl rfl rfl ?_; refine Nx.of (S.idx_arr rfl rfl rfl hd) ?_) | (refine RD.free rfl rfl rfl rfl rfl rfl ?_; first | refine Nx.of (S.index_arrN rfl rfl rfl rfl (by decide) (by decide) rfl) ?_) | (refine RD.load rfl rfl rfl rfl rfl rfl rfl (by refine us_all ?_; simp only [usOk, cond_true, cond_false]; (repeat' (first | exact trivial | refine And.intro ?_ ?_)); all_goals (first | rfl | exact .inl trivial)) ?_; apply Nx.of; (first | exact S.load1c rfl rfl rfl xs | exact S.load1c rfl rfl rfl rfl)) | (refine RD.free rfl rfl rfl rfl rfl rfl ?_; apply Nx.of; (first | exact S.move | exact S.fieldAddr rfl rfl rfl | exact S.nilCheck)) | (refine RD.new rfl rfl rfl rfl rfl rfl ?_; apply Nx.of; (first | exact S.alloc rfl)) | (refine RD.store rfl rfl rfl rfl rfl rfl rfl ?_; apply Nx.of; (first | exact S.store rfl rfl rfl rfl rfl rfl)) | refine RD.nil ⟨Nat.le_of_ble_eq_true rfl, ?_⟩)
        repeat' (first | refine sq_n ?_ | refine Tr.seq ?_)
        refine Tr.openK un96_6 (by kernel_rfl) (by kernel_rfl) noCall noCall_calm ?_
        repeat' (first | (refine RD.free rfl rfl rfl rfl rfl rfl ?_; refine Nx.of (S.idx_arr rfl rfl rfl h4) ?_) | (refine RD.load rfl rfl rfl rfl rfl rfl rfl (by refine us_all ?_; simp only [usOk, cond_true, cond_false]; (repeat' (first | exact trivial | refine And.intro ?_ ?_)); all_goals (first | rfl | exact .inl trivial)) ?_; apply Nx.of; (first | exact S.load1c rfl rfl rfl (truC_lo h4) | exact S.load1c rfl rfl rfl rfl)) | (refine RD.store rfl rfl rfl rfl rfl rfl rfl ?_; apply Nx.of; (first | exact S.store rfl rfl rfl rfl rfl (truC_setLo h4))) | (refine RD.free rfl rfl rfl rfl rfl rfl ?_; apply Nx.of; (first | exact S.move | exact S.fieldAddr rfl rfl rfl | exact S.add (by unfold In64; omega) | exact S.nilCheck)) | refine RD.nil ⟨Nat.le_of_ble_eq_true rfl, ?_⟩)
        repeat' (first | refine sq_n ?_)
        refine Tr.openK un96_7 (by kernel_rfl) (by kernel_rfl) (one1 110 [.agg [.int .i64 (B.nee rb), .int .i64 (B.yar rb)], roV rb rr, .int .i64 (t.w d)] (roV rb rr) fun _ _ => True) (one1_calm fun fl H c _ => rests_at _ _ _ _ _ H c fl) ?_
        repeat' (first | (refine RD.callN rfl rfl rfl rfl rfl rfl rfl rfl rfl (fun fl' => one1_at trivial fl') (fun _ => by refine srOk_all ?_; simp only [srOk]; (repeat' (first | exact trivial | refine And.intro ?_ ?_)); all_goals (first | (refine ⟨_, rfl, ?_⟩; (first | rfl | (simp [rfO, rfVs, rfV, rfVs_flat]; done) | (simp [pbC, rfO, rfVs, rfV, h1.rf, h2.rf, h3.rf]; done))))) ?_) | (refine RD.free rfl rfl rfl rfl rfl rfl ?_; refine Nx.of (S.idx_arr rfl rfl rfl hd) ?_) | (refine RD.free rfl rfl rfl rfl rfl rfl ?_; first | refine Nx.of (S.idx_sl rfl rfl rfl h1 hnl) ?_) | (refine RD.load rfl rfl rfl rfl rfl rfl rfl (by refine us_all ?_; simp only [usOk, cond_true, cond_false]; (repeat' (first | exact trivial | refine And.intro ?_ ?_)); all_goals (first | rfl | exact .inl trivial | (refine Or.inr (was_same rfl ?_); (first | (exact ⟨_, rfl, rfl⟩))))) ?_; apply Nx.of; (first | exact S.load1c rfl rfl rfl (truC_w hd) | exact S.rowN0 rfl rfl rfl (fun _ => rfl) (range_at hnl) rfl | exact S.load1c rfl rfl rfl rfl | exact S.loadNc rfl rfl rfl rfl)) | (refine RD.store rfl rfl rfl rfl rfl rfl rfl ?_; apply Nx.of; (first | exact S.store rfl rfl rfl rfl rfl (truC_setE hd))) | (refine RD.free rfl rfl rfl rfl rfl rfl ?_; apply Nx.of; (first | exact S.move | exact S.fieldAddr rfl rfl rfl | exact S.nilCheck)) | refine RD.nil ⟨Nat.le_of_ble_eq_true rfl, ?_⟩)
        repeat' (first | refine RT.nil ?_ | refine sq_n ?_ | refine Tr.seq ?_ | refine Tr.region ?_ | refine Tr.cond_t rfl ?_ | refine Tr.cond_f rfl ?_ | refine Tr.cond_d rfl (fun _ => ?_) (fun _ => ?_) | refine Tr.skip ?_ | refine Tr.ret ?_ | refine sq_r ?_ | refine Tr.exit ?_ | refine sq_x ?_ | refine Tr.block ?_ | refine blk_n ?_ | refine blk_r ?_ | refine blk_hit rfl ?_ | refine blk_pass rfl ?_ | refine Tr.label ?_ | refine Tr.scope ?_ | refine scp_n ?_ | refine scp_r ?_ | refine scp_x ?_ | refine lp_r ?_ | refine lp_x ?_ | (refine RT.goK rfl rfl rfl rfl ?_; apply Nx.of; (first | exact S.move | exact S.assign | exact S.load1c rfl rfl rfl rfl | exact S.loadNc rfl rfl rfl rfl | exact S.fieldAddr rfl rfl rfl | exact S.leq | exact S.lss | exact S.eql | exact S.neq | exact S.geq | exact S.gtr | exact S.not_t | exact S.not_f | exact S.not_d | exact S.pick_tt | exact S.pick_ff | exact S.pick_td (by assumption) | exact S.pick_fd (by assumption) | exact S.pick_b | exact S.box | exact S.alloc rfl | exact S.add_one (by omega) | exact S.sub_one (by omega) (by omega) | exact S.add (by unfold In64; omega) | exact S.sub (by unfold In64; omega) | exact S.mul (by unfold In64; omega) | exact S.add_w | exact S.sub_w | exact S.mul_w | exact S.min2 | exact S.max2 | exact S.build rfl rfl rfl | exact S.buildA rfl rfl rfl rfl | exact S.nilCheck | exact S.extract rfl | exact S.eqlA (eqRo _ _ _ _))) | (refine RT.goK0 rfl rfl rfl ?_; apply Nx.of; (first | exact S.store rfl rfl rfl rfl rfl rfl | exact S.eqlA (eqRo _ _ _ _))))
        refine rt_gon rfl ?_
        refine ⟨rfl, getM ?_⟩
        unfold pasT
        rw [hrb, hrr, dB_ff hdn, Int.toNat_natCast, dB_ff hll]
        show _ = some (AObj.cells (truC (passN B t d rb rr)))
        unfold passN
        rw [if_pos hs2]
        rfl
      · have hs2 : t.s d = 1 := hs
        have hlo2 : 0 ≤ t.lo rb ∧ t.lo rb ≤ 1000 := hlo
        have xs : (truC t)[0 + 5 + d * 1]? = some (.int .i64 1) := by rw [truC_s hd]; exact congrArg (fun x => some (AV.int .i64 x)) hs
        refine Tr.openK un96_5 (by kernel_rfl) (by kernel_rfl) _ (efb_calm (d : Int) 1) ?_
        repeat' (first | (refine RD.callN rfl rfl rfl rfl rfl rfl rfl rfl rfl (fun fl' => alts_hd (one1_at trivial fl')) (fun _ => by refine srOk_all ?_; simp only [srOk]; (repeat' (first | exact trivial | refine And.intro ?_ ?_)); all_goals (first | (refine ⟨_, rfl, ?_⟩; (first | rfl | (simp [pbC, rfO, rfVs, rfV, h1.rf, h2.rf, h3.rf]; done))))) ?_) | (refine RD.callN rfl rfl rfl rfl rfl rfl rfl rfl rfl (fun fl' => (alts_tl (famA_ne _ (by decide))).trans (alts_hd (one1_at trivial fl'))) (fun _ => by refine srOk_all ?_; simp only [srOk]; (repeat' (first | exact trivial | refine And.intro ?_ ?_)); all_goals (first | exact trivial | (refine ⟨_, rfl, ?_⟩; (first | rfl | (simp [rfO, rfVs, rfV, rfVs_flat]; done) | (simp [pbC, rfO, rfVs, rfV, h1.rf, h2.rf, h3.rf]; done))))) ?_) | (refine RD.free rfl rfl rfl rfl rfl rfl ?_; refine Nx.of (S.idx_arr rfl rfl rfl hd) ?_) | (refine RD.free rfl rfl rfl rfl rfl rfl ?_; first | refine Nx.of (S.index_arrN rfl rfl rfl rfl (by decide) (by decide) rfl) ?_) | (refine RD.load rfl rfl rfl rfl rfl rfl rfl (by refine us_all ?_; simp only [usOk, cond_true, cond_false]; (repeat' (first | exact trivial | refine And.intro ?_ ?_)); all_goals (first | rfl | exact .inl trivial)) ?_; apply Nx.of; (first | exact S.load1c rfl rfl rfl xs | exact S.load1c rfl rfl rfl rfl)) | (refine RD.free rfl rfl rfl rfl rfl rfl ?_; apply Nx.of; (first | exact S.move | exact S.fieldAddr rfl rfl rfl | exact S.nilCheck)) | (refine RD.new rfl rfl rfl rfl rfl rfl ?_; apply Nx.of; (first | exact S.alloc rfl)) | (refine RD.store rfl rfl rfl rfl rfl rfl rfl ?_; apply Nx.of; (first | exact S.store rfl rfl rfl rfl rfl rfl)) | refine RD.nil ⟨Nat.le_of_ble_eq_true rfl, ?_⟩)
        repeat' (first | refine sq_n ?_ | refine Tr.seq ?_)
        refine Tr.openK un96_6 (by kernel_rfl) (by kernel_rfl) noCall noCall_calm ?_
        repeat' (first | (refine RD.free rfl rfl rfl rfl rfl rfl ?_; refine Nx.of (S.idx_arr rfl rfl rfl h4) ?_) | (refine RD.load rfl rfl rfl rfl rfl rfl rfl (by refine us_all ?_; simp only [usOk, cond_true, cond_false]; (repeat' (first | exact trivial | refine And.intro ?_ ?_)); all_goals (first | rfl | exact .inl trivial)) ?_; apply Nx.of; (first | exact S.load1c rfl rfl rfl (truC_lo h4) | exact S.load1c rfl rfl rfl rfl)) | (refine RD.store rfl rfl rfl rfl rfl rfl rfl ?_; apply Nx.of; (first | exact S.store rfl rfl rfl rfl rfl (truC_setLo h4))) | (refine RD.free rfl rfl rfl rfl rfl rfl ?_; apply Nx.of; (first | exact S.move | exact S.fieldAddr rfl rfl rfl | exact S.add (by unfold In64; omega) | exact S.nilCheck)) | refine RD.nil ⟨Nat.le_of_ble_eq_true rfl, ?_⟩)
        repeat' (first | refine sq_n ?_)
        refine Tr.openK un96_7 (by kernel_rfl) (by kernel_rfl) (one1 111 [.agg [.int .i64 (B.nee rb), .int .i64 (B.yar rb)], roV rb rr, .int .i64 (t.w d)] (roV (rolB (B.nee rb) rb rr (t.w d)) (rolR (B.nee rb) rb rr (t.w d))) fun _ _ => True) (one1_calm fun fl H c _ => isRolled_at _ _ _ _ _ (by omega) (by omega) (by omega) H c fl) ?_
        repeat' (first | (refine RD.callN rfl rfl rfl rfl rfl rfl rfl rfl rfl (fun fl' => one1_at trivial fl') (fun _ => by refine srOk_all ?_; simp only [srOk]; (repeat' (first | exact trivial | refine And.intro ?_ ?_)); all_goals (first | (refine ⟨_, rfl, ?_⟩; (first | rfl | (simp [rfO, rfVs, rfV, rfVs_flat]; done) | (simp [pbC, rfO, rfVs, rfV, h1.rf, h2.rf, h3.rf]; done))))) ?_) | (refine RD.free rfl rfl rfl rfl rfl rfl ?_; refine Nx.of (S.idx_arr rfl rfl rfl hd) ?_) | (refine RD.free rfl rfl rfl rfl rfl rfl ?_; first | refine Nx.of (S.idx_sl rfl rfl rfl h1 hnl) ?_) | (refine RD.load rfl rfl rfl rfl rfl rfl rfl (by refine us_all ?_; simp only [usOk, cond_true, cond_false]; (repeat' (first | exact trivial | refine And.intro ?_ ?_)); all_goals (first | rfl | exact .inl trivial | (refine Or.inr (was_same rfl ?_); (first | (exact ⟨_, rfl, rfl⟩))))) ?_; apply Nx.of; (first | exact S.load1c rfl rfl rfl (truC_w hd) | exact S.rowN0 rfl rfl rfl (fun _ => rfl) (range_at hnl) rfl | exact S.load1c rfl rfl rfl rfl | exact S.loadNc rfl rfl rfl rfl)) | (refine RD.store rfl rfl rfl rfl rfl rfl rfl ?_; apply Nx.of; (first | exact S.store rfl rfl rfl rfl rfl (truC_setE hd))) | (refine RD.free rfl rfl rfl rfl rfl rfl ?_; apply Nx.of; (first | exact S.move | exact S.fieldAddr rfl rfl rfl | exact S.nilCheck)) | refine RD.nil ⟨Nat.le_of_ble_eq_true rfl, ?_⟩)
        repeat' (first | refine RT.nil ?_ | refine sq_n ?_ | refine Tr.seq ?_ | refine Tr.region ?_ | refine Tr.cond_t rfl ?_ | refine Tr.cond_f rfl ?_ | refine Tr.cond_d rfl (fun _ => ?_) (fun _ => ?_) | refine Tr.skip ?_ | refine Tr.ret ?_ | refine sq_r ?_ | refine Tr.exit ?_ | refine sq_x ?_ | refine Tr.block ?_ | refine blk_n ?_ | refine blk_r ?_ | refine blk_hit rfl ?_ | refine blk_pass rfl ?_ | refine Tr.label ?_ | refine Tr.scope ?_ | refine scp_n ?_ | refine scp_r ?_ | refine scp_x ?_ | refine lp_r ?_ | refine lp_x ?_ | (refine RT.goK rfl rfl rfl rfl ?_; apply Nx.of; (first | exact S.move | exact S.assign | exact S.load1c rfl rfl rfl rfl | exact S.loadNc rfl rfl rfl rfl | exact S.fieldAddr rfl rfl rfl | exact S.leq | exact S.lss | exact S.eql | exact S.neq | exact S.geq | exact S.gtr | exact S.not_t | exact S.not_f | exact S.not_d | exact S.pick_tt | exact S.pick_ff | exact S.pick_td (by assumption) | exact S.pick_fd (by assumption) | exact S.pick_b | exact S.box | exact S.alloc rfl | exact S.add_one (by omega) | exact S.sub_one (by omega) (by omega) | exact S.add (by unfold In64; omega) | exact S.sub (by unfold In64; omega) | exact S.mul (by unfold In64; omega) | exact S.add_w | exact S.sub_w | exact S.mul_w | exact S.min2 | exact S.max2 | exact S.build rfl rfl rfl | exact S.buildA rfl rfl rfl rfl | exact S.nilCheck | exact S.extract rfl | exact S.eqlA (eqRo _ _ _ _))) | (refine RT.goK0 rfl rfl rfl ?_; apply Nx.of; (first | exact S.store rfl rfl rfl rfl rfl rfl | exact S.eqlA (eqRo _ _ _ _))))
        refine rt_gon rfl ?_
        refine ⟨rfl, getM ?_⟩
        unfold pasT
        rw [hrb, hrr, dB_ff hdn, Int.toNat_natCast, dB_ff hll]
        show _ = some (AObj.cells (truC (passN B t d rb rr)))
        unfold passN
        rw [if_neg (by rw [hs2]; decide), if_pos hs2]
        rfl
      · have hs2 : t.s d = 2 := hs
        have hlo2 : 0 ≤ t.lo rb ∧ t.lo rb ≤ 1000 := hlo
        have xs : (truC t)[0 + 5 + d * 1]? = some (.int .i64 2) := by rw [truC_s hd]; exact congrArg (fun x => some (AV.int .i64 x)) hs
        refine Tr.openK un96_5 (by kernel_rfl) (by kernel_rfl) _ (efb_calm (d : Int) 2) ?_
        repeat' (first | (refine RD.callN rfl rfl rfl rfl rfl rfl rfl rfl rfl (fun fl' => alts_hd (one1_at trivial fl')) (fun _ => by refine srOk_all ?_; simp only [srOk]; (repeat' (first | exact trivial | refine And.intro ?_ ?_)); all_goals (first | (refine ⟨_, rfl, ?_⟩; (first | rfl | (simp [pbC, rfO, rfVs, rfV, h1.rf, h2.rf, h3.rf]; done))))) ?_) | (refine RD.callN rfl rfl rfl rfl rfl rfl rfl rfl rfl (fun fl' => (alts_tl (famA_ne _ (by decide))).trans (alts_hd (one1_at trivial fl'))) (fun _ => by refine srOk_all ?_; simp only [srOk]; (repeat' (first | exact trivial | refine And.intro ?_ ?_)); all_goals (first | exact trivial | (refine ⟨_, rfl, ?_⟩; (first | rfl | (simp [rfO, rfVs, rfV, rfVs_flat]; done) | (simp [pbC, rfO, rfVs, rfV, h1.rf, h2.rf, h3.rf]; done))))) ?_) | (refine RD.free rfl rfl rfl rfl rfl rfl ?_; refine Nx.of (S.idx_arr rfl rfl rfl hd) ?_) | (refine RD.free rfl rfl rfl rfl rfl rfl ?_; first | refine Nx.of (S.index_arrN rfl rfl rfl rfl (by decide) (by decide) rfl) ?_) | (refine RD.load rfl rfl rfl rfl rfl rfl rfl (by refine us_all ?_; simp only [usOk, cond_true, cond_false]; (repeat' (first | exact trivial | refine And.intro ?_ ?_)); all_goals (first | rfl | exact .inl trivial)) ?_; apply Nx.of; (first | exact S.load1c rfl rfl rfl xs | exact S.load1c rfl rfl rfl rfl)) | (refine RD.free rfl rfl rfl rfl rfl rfl ?_; apply Nx.of; (first | exact S.move | exact S.fieldAddr rfl rfl rfl | exact S.nilCheck)) | (refine RD.new rfl rfl rfl rfl rfl rfl ?_; apply Nx.of; (first | exact S.alloc rfl)) | (refine RD.store rfl rfl rfl rfl rfl rfl rfl ?_; apply Nx.of; (first | exact S.store rfl rfl rfl rfl rfl rfl)) | refine RD.nil ⟨Nat.le_of_ble_eq_true rfl, ?_⟩)
        repeat' (first | refine sq_n ?_ | refine Tr.seq ?_)
        refine Tr.openK un96_6 (by kernel_rfl) (by kernel_rfl) noCall noCall_calm ?_
        repeat' (first | (refine RD.free rfl rfl rfl rfl rfl rfl ?_; refine Nx.of (S.idx_arr rfl rfl rfl h4) ?_) | (refine RD.load rfl rfl rfl rfl rfl rfl rfl (by refine us_all ?_; simp only [usOk, cond_true, cond_false]; (repeat' (first | exact trivial | refine And.intro ?_ ?_)); all_goals (first | rfl | exact .inl trivial)) ?_; apply Nx.of; (first | exact S.load1c rfl rfl rfl (truC_lo h4) | exact S.load1c rfl rfl rfl rfl)) | (refine RD.store rfl rfl rfl rfl rfl rfl rfl ?_; apply Nx.of; (first | exact S.store rfl rfl rfl rfl rfl (truC_setLo h4))) | (refine RD.free rfl rfl rfl rfl rfl rfl ?_; apply Nx.of; (first | exact S.move | exact S.fieldAddr rfl rfl rfl | exact S.add (by unfold In64; omega) | exact S.nilCheck)) | refine RD.nil ⟨Nat.le_of_ble_eq_true rfl, ?_⟩)
        repeat' (first | refine sq_n ?_)
        refine Tr.openK un96_7 (by kernel_rfl) (by kernel_rfl) (one1 112 [.agg [.int .i64 (B.nee rb), .int .i64 (B.yar rb)], roV rb rr, .int .i64 (t.w d)] (roV rb 0) fun _ _ => True) (one1_calm fun fl H c _ => isLost_at _ _ _ _ _ H c fl) ?_
        repeat' (first | (refine RD.callN rfl rfl rfl rfl rfl rfl rfl rfl rfl (fun fl' => one1_at trivial fl') (fun _ => by refine srOk_all ?_; simp only [srOk]; (repeat' (first | exact trivial | refine And.intro ?_ ?_)); all_goals (first | (refine ⟨_, rfl, ?_⟩; (first | rfl | (simp [rfO, rfVs, rfV, rfVs_flat]; done) | (simp [pbC, rfO, rfVs, rfV, h1.rf, h2.rf, h3.rf]; done))))) ?_) | (refine RD.free rfl rfl rfl rfl rfl rfl ?_; refine Nx.of (S.idx_arr rfl rfl rfl hd) ?_) | (refine RD.free rfl rfl rfl rfl rfl rfl ?_; first | refine Nx.of (S.idx_sl rfl rfl rfl h1 hnl) ?_) | (refine RD.load rfl rfl rfl rfl rfl rfl rfl (by refine us_all ?_; simp only [usOk, cond_true, cond_false]; (repeat' (first | exact trivial | refine And.intro ?_ ?_)); all_goals (first | rfl | exact .inl trivial | (refine Or.inr (was_same rfl ?_); (first | (exact ⟨_, rfl, rfl⟩))))) ?_; apply Nx.of; (first | exact S.load1c rfl rfl rfl (truC_w hd) | exact S.rowN0 rfl rfl rfl (fun _ => rfl) (range_at hnl) rfl | exact S.load1c rfl rfl rfl rfl | exact S.loadNc rfl rfl rfl rfl)) | (refine RD.store rfl rfl rfl rfl rfl rfl rfl ?_; apply Nx.of; (first | exact S.store rfl rfl rfl rfl rfl (truC_setE hd))) | (refine RD.free rfl rfl rfl rfl rfl rfl ?_; apply Nx.of; (first | exact S.move | exact S.fieldAddr rfl rfl rfl | exact S.nilCheck)) | refine RD.nil ⟨Nat.le_of_ble_eq_true rfl, ?_⟩)
        repeat' (first | refine RT.nil ?_ | refine sq_n ?_ | refine Tr.seq ?_ | refine Tr.region ?_ | refine Tr.cond_t rfl ?_ | refine Tr.cond_f rfl ?_ | refine Tr.cond_d rfl (fun _ => ?_) (fun _ => ?_) | refine Tr.skip ?_ | refine Tr.ret ?_ | refine sq_r ?_ | refine Tr.exit ?_ | refine sq_x ?_ | refine Tr.block ?_ | refine blk_n ?_ | refine blk_r ?_ | refine blk_hit rfl ?_ | refine blk_pass rfl ?_ | refine Tr.label ?_ | refine Tr.scope ?_ | refine scp_n ?_ | refine scp_r ?_ | refine scp_x ?_ | refine lp_r ?_ | refine lp_x ?_ | (refine RT.goK rfl rfl rfl rfl ?_; apply Nx.of; (first | exact S.move | exact S.assign | exact S.load1c rfl rfl rfl rfl | exact S.loadNc rfl rfl rfl rfl | exact S.fieldAddr rfl rfl rfl | exact S.leq | exact S.lss | exact S.eql | exact S.neq | exact S.geq | exact S.gtr | exact S.not_t | exact S.not_f | exact S.not_d | exact S.pick_tt | exact S.pick_ff | exact S.pick_td (by assumption) | exact S.pick_fd (by assumption) | exact S.pick_b | exact S.box | exact S.alloc rfl | exact S.add_one (by omega) | exact S.sub_one (by omega) (by omega) | exact S.add (by unfold In64; omega) | exact S.sub (by unfold In64; omega) | exact S.mul (by unfold In64; omega) | exact S.add_w | exact S.sub_w | exact S.mul_w | exact S.min2 | exact S.max2 | exact S.build rfl rfl rfl | exact S.buildA rfl rfl rfl rfl | exact S.nilCheck | exact S.extract rfl | exact S.eqlA (eqRo _ _ _ _))) | (refine RT.goK0 rfl rfl rfl ?_; apply Nx.of; (first | exact S.store rfl rfl rfl rfl rfl rfl | exact S.eqlA (eqRo _ _ _ _))))
        refine rt_gon rfl ?_
        refine ⟨rfl, getM ?_⟩
        unfold pasT
        rw [hrb, hrr, dB_ff hdn, Int.toNat_natCast, dB_ff hll]
        show _ = some (AObj.cells (truC (passN B t d rb rr)))
        unfold passN
        rw [if_neg (by rw [hs2]; decide), if_neg (by rw [hs2]; decide)]
        rfl
end Go.Proofs.Ytjnckbefajfgbaa

/- A call that hands over, and leaves nothing else behind. -/
namespace Go.Ev
open Go

section
variable {G : Nat} {P : Program} {C : Cons} {fl c lo : Nat} {m : List (Nat × Option AObj)} {s : C.γ}
theorem CanJ.pure {f c0 lo0 : Nat} {args0 : List AV} {m0 : List (Nat × Option AObj)} {R : AV → C.γ → Prop} (h : CanJ G P C c0 lo0 f args0 m0 c0 s fun v _ s' => R v s') (hR : ∀ v s', R v s' → Pl v)
    (τ : Nat → Nat) (hτg : ∀ g, g < G → τ g = g) (hτ2 : ∀ y, c0 ≤ y → c ≤ τ y) (hobj : ∀ y o, lookM m0 y = some o → lookM m (τ y) = some (o.ren τ))
    (hinj : ∀ x y o o', lookM m0 x = some o → lookM m0 y = some o' → x ≠ y → τ x ≠ τ y ∨ ∃ n m, o.share = some (false, n) ∧ o'.share = some (false, m))
    (hτl : τ lo0 = lo) (hτi : ∀ x, x < c0 → τ x = lo → x = lo0) (hml : lookM m lo = none) : OkJ G P C fl lo f (AV.rens τ args0) m c s fun v m' s' => R v s' ∧ m' = m := by
  refine ⟨h.enter, fun ρ w F us hH hargs hb r n => ?_⟩
  have h0 : Holds G (fun x => ρ (τ x)) (ofM m0) c0 w := hH.ren τ (fun x o hx => by rw [ofM_get]; exact hobj x o (by rw [← ofM_get]; exact hx)) (fun x y o o' hx hy => hinj x y o o' (by rw [← ofM_get]; exact hx) (by rw [← ofM_get]; exact hy)) hτ2 hτg
  have hlow : ∀ y t, ρ (τ y) = some t → y < c0 := fun y t ht => by
    rcases Nat.lt_or_ge y c0 with h | h
    · exact h
    · have := h0.fresh y h
      replace this : ρ (τ y) = none := this
      rw [this] at ht; cases ht
  have hb0 : Beside C (fun x => ρ (τ x)) lo0 c0 F s w := ⟨hb.j, fun x p hx hp => hb.d (τ x) p (fun e => hx (hτi x (hlow x p hp) e)) hp, fun x p hx hp => absurd (hlow x p hp) (by omega), by
    obtain ⟨p, h1, h2⟩ := hb.lb
    exact ⟨p, by show ρ (τ lo0) = _; rw [hτl]; exact h1, h2⟩⟩
  refine (h.run _ w F us h0 ((VRs_ren ρ τ args0 us).1 hargs) hb0 r n).mono ?_
  rintro e w' ⟨u, v1, H1, c1, ρ1, s1, F1, rfl, hRv, h3, h4, h5, h6, h7, h8, h9⟩
  have hv := hR _ _ hRv
  have hfr : ∃ x, ρ1 x = none := ⟨c1, h4.fresh c1 (Nat.le_refl _)⟩
  have hkeep : ∀ b, b < w.heap.size → ¬ F b → w'.heap[b]? = w.heap[b]? := fun b hb hF => h7.keep b hb (fun y t hy ht => absurd (hlow y t ht) (by omega)) hF
  refine ⟨u, v1, m, s1, F1, rfl, ⟨hRv, rfl⟩, hv.vr hfr h3, ⟨fun x o hx => ?_, fun x y o o' p p' hxy hx hy hp hp' hb => hH.sep x y o o' p p' hxy hx hy hp hp' hb, hH.fresh, fun x p hp => Nat.lt_of_lt_of_le (hH.lt x p hp) h7.size, hH.glob⟩,
    ⟨h7.os, h7.tape, h7.output, h7.size, fun b hb hn hF => hkeep b hb hF⟩, ⟨h8.j, fun x p hx hp hf => (h9 p.b hf).elim (hb.d x p hx hp) fun h => by have := hH.lt x p hp; omega, hb.rd, hb.lb⟩, h9⟩
  obtain ⟨p, h1, h2⟩ := hH.obj x o hx
  have hne : x ≠ lo := fun e => by rw [e, ofM_get, hml] at hx; cases hx
  exact ⟨p, h1, h2.world (hkeep p.b (hH.lt x p h1) (hb.d x p hne h1))⟩
end
end Go.Ev

/- The truths of package roll: one by one. -/
namespace Go.Proofs.Ytjnckbefajfgbaa
open Go Go.Ev

theorem pass_at {B : RBook} {a1 a2 a3 : AV} {p q d c : Nat} {t : Tru} {m : List (Nat × Option AObj)} (h : PbIn B a1 a2 a3 p m c) (hB : bkOk B) (hq : lookM m q = some (.cells (truC t))) (ho : PasOk B t d) (fl : Nat) (hfl : fl ≤ q) :
    OkAt 0 Try.prog fl 96 [.ptr p 0, .ptr q 0, .int .i64 (d : Int)] (ofM m) c (.tup []) (ofM ((q, some (.cells (truC (pasT B t d)))) :: m)) c := by
  have e0 : tau [0, 1, 2, p, q] c 0 = 0 := rfl
  have e1 : tau [0, 1, 2, p, q] c 1 = 1 := rfl
  have e2 : tau [0, 1, 2, p, q] c 2 = 2 := rfl
  have e3 : tau [0, 1, 2, p, q] c 3 = p := rfl
  have e4 : tau [0, 1, 2, p, q] c 4 = q := rfl
  have hp0 : p ≠ 0 := fun e => by have := h.m4; rw [e, h.m1] at this; cases this
  have hp1 : p ≠ 1 := fun e => by have := h.m4; rw [e, h.m2] at this; cases this
  have hp2 : p ≠ 2 := fun e => by have := h.m4; rw [e, h.m3] at this; cases this
  have hq0 : q ≠ 0 := fun e => by rw [e, h.m1] at hq; cases hq
  have hq1 : q ≠ 1 := fun e => by rw [e, h.m2] at hq; cases hq
  have hq2 : q ≠ 2 := fun e => by rw [e, h.m3] at hq; cases hq
  have hqp : q ≠ p := fun e => by rw [e, h.m4] at hq; cases hq
  have ha : AV.rens (tau [0, 1, 2, p, q] c) [.ptr 3 0, .ptr 4 0, .int .i64 (d : Int)] = [.ptr p 0, .ptr q 0, .int .i64 (d : Int)] := rfl
  rw [← ha]
  have low : ∀ {z : Nat} {ob : AObj}, lookM [(0, some (oLa B)), (1, some (oDa B)), (2, some (oLo B)), (3, some (.cells (pbC B a1 a2 a3))), (4, some (.cells (truC t)))] z = some ob → z = 0 ∨ z = 1 ∨ z = 2 ∨ z = 3 ∨ z = 4 := fun {z ob} hz => by
    have := lookM_mem hz
    simpa using this
  refine CanS.write (o0 := .cells (truC t)) (pass_can B a1 a2 a3 h.h1 h.h2 h.h3 hB t d ho) (fun _ => rfl) (fun _ => rfl) rfl (tau [0, 1, 2, p, q] c) (Nat.zero_le _) (fun g hg => by omega) (fun y hy => by rw [tau_ge hy]; omega) (fun y o hy => ?_) (fun x y o o' hx hy hxy => ?_) rfl hfl rfl rfl
  · rcases low hy with rfl | rfl | rfl | rfl | rfl
    · cases hy; rw [e0, ren_ro]; exact getM h.m1
    · cases hy; rw [e1, ren_ro]; exact getM h.m2
    · cases hy; rw [e2, ren_ro]; exact getM h.m3
    · cases hy; rw [e3, pbc_ren h.h1 h.h2 h.h3 e0 e1 e2]; exact getM h.m4
    · cases hy; rw [e4]; exact getM hq
  · refine .inl ?_
    rcases low hx with rfl | rfl | rfl | rfl | rfl <;> rcases low hy with rfl | rfl | rfl | rfl | rfl <;> simp only [e0, e1, e2, e3, e4] <;> omega

def ints (a b : Int) : List Int := (List.range (b - a + 1).toNat).map fun k : Nat => a + (k : Int)
theorem ints_cons {a b : Int} (h : a ≤ b) : ints a b = a :: ints (a + 1) b := by
  unfold ints
  obtain ⟨n, hn⟩ : ∃ n, (b - a + 1).toNat = n + 1 := ⟨(b - a).toNat, by omega⟩
  rw [hn, show (b - (a + 1) + 1).toNat = n by omega, List.range_succ_eq_map, List.map_cons, List.map_map]
  refine congr (congrArg _ (by simp)) ?_
  refine List.map_congr_left fun k _ => ?_
  show a + ((k + 1 : Nat) : Int) = a + 1 + k
  omega
theorem ints_nil {a b : Int} (h : b < a) : ints a b = [] := by
  unfold ints
  rw [show (b - a + 1).toNat = 0 by omega]; rfl
/-- All looks of a day are right. -/
def lksAt (B : RBook) (d : Nat) (t : Tru) (n : Nat) : Prop := ∀ k, k < n → B.ld k = d → t.eb d = B.lb k
/-- What comes of so many wagons and a sky. -/
noncomputable def nxT (B : RBook) (t : Tru) (d : Nat) (n : Int) (sk : Nat) : Tru := pasT B ((t.setW d n).setS d (sk : Int)) d
/-- All truths from a day on. -/
noncomputable def trs (B : RBook) : Nat → Nat → Tru → List Tru
  | 0, _, t => [t]
  | k + 1, d, t => (ints (B.wl d) (B.wh d)).flatMap fun n => (List.range 3).flatMap fun sk => bif dB (hasP (B.sky d) sk ∧ lksAt B d (nxT B t d n sk) B.nk) then trs B k (d + 1) (nxT B t d n sk) else []
noncomputable def skyR (B : RBook) (k d : Nat) (t : Tru) (n : Int) (sk : Nat) : List Tru := bif dB (hasP (B.sky d) sk ∧ lksAt B d (nxT B t d n sk) B.nk) then trs B k (d + 1) (nxT B t d n sk) else []
noncomputable def innR (B : RBook) (k d : Nat) (t : Tru) (n : Int) (sk : Nat) : List Tru := ((List.range 3).drop sk).flatMap (skyR B k d t n)
noncomputable def outR (B : RBook) (k d : Nat) (t : Tru) (n : Int) : List Tru := (ints n (B.wh d)).flatMap fun n => innR B k d t n 0
theorem innR_cons {B : RBook} {k d : Nat} {t : Tru} {n : Int} {sk : Nat} (h : sk < 3) : innR B k d t n sk = skyR B k d t n sk ++ innR B k d t n (sk + 1) := by
  obtain rfl | rfl | rfl : sk = 0 ∨ sk = 1 ∨ sk = 2 := by omega
  all_goals rfl
theorem outR_cons {B : RBook} {k d : Nat} {t : Tru} {n : Int} (h : n ≤ B.wh d) : outR B k d t n = innR B k d t n 0 ++ outR B k d t (n + 1) := by unfold outR; rw [ints_cons h, List.flatMap_cons]
theorem outR_nil {B : RBook} {k d : Nat} {t : Tru} {n : Int} (h : B.wh d < n) : outR B k d t n = [] := by unfold outR; rw [ints_nil h]; rfl

/-- A consumer is handed truths. -/
def foldC (C : Cons) : C.γ → List Tru → C.γ × Bool
  | s, [] => (s, true)
  | s, t :: ts => if (C.step s [trV t]).2 then foldC C (C.step s [trV t]).1 ts else ((C.step s [trV t]).1, false)
theorem foldC_append (C : Cons) : ∀ (s : C.γ) (xs ys : List Tru), foldC C s (xs ++ ys) = if (foldC C s xs).2 then foldC C (foldC C s xs).1 ys else ((foldC C s xs).1, false)
  | s, [], ys => by simp [foldC]
  | s, t :: xs, ys => by
    simp only [List.cons_append, foldC]
    split
    · exact foldC_append C _ xs ys
    · rfl
theorem foldC_live (C : Cons) (r : Nat) : ∀ (s : C.γ) (xs : List Tru), C.lv (r + xs.length) s → (foldC C s xs).2 = true → C.lv r (foldC C s xs).1
  | s, [], h, _ => h
  | s, t :: xs, h, e => by
    simp only [foldC] at e ⊢
    split
    · rename_i g
      rw [if_pos g] at e
      exact foldC_live C r _ xs (C.live _ s _ h g) e
    · rename_i g
      rw [if_neg g] at e
      cases e

theorem upd_self {f : Nat → Int} {i : Nat} : upd f i (f i) = f := funext fun j => by
  unfold upd
  split
  · rename_i e; rw [e]
  · rfl
theorem upd_upd {f : Nat → Int} {i : Nat} {a b : Int} : upd (upd f i a) i b = upd f i b := funext fun j => by
  unfold upd
  split <;> rfl
theorem setW_self {t : Tru} {i : Nat} : t.setW i (t.w i) = t := by unfold Tru.setW; rw [upd_self]
theorem setW_setW {t : Tru} {i : Nat} {a b : Int} : (t.setW i a).setW i b = t.setW i b := by unfold Tru.setW; simp only [upd_upd]

/-- A truth as far as it is known before a day. -/
structure LvOk (B : RBook) (t : Tru) (d : Nat) : Prop where
  h0 : noLa t ∨ 1 ≤ d
  b : 0 ≤ befB t d ∧ befB t d ≤ B.nl
  r : 0 ≤ befR t d ∧ befR t d ≤ 30
  z : befB t d = B.nl → befR t d = 0
  la : ∀ i, i < 4 → 0 ≤ t.la i ∧ t.la i ≤ d
  lo : ∀ i, i < 4 → 0 ≤ t.lo i ∧ t.lo i ≤ d
theorem LvOk.pas {B : RBook} {t : Tru} {d sk : Nat} {n : Int} (h : LvOk B t d) (hd : d < 5) (hn : 0 ≤ n ∧ n ≤ 20) (hs : sk < 3) : PasOk B ((t.setW d n).setS d (sk : Int)) d := by
  refine ⟨hd, h.h0, h.b, ⟨h.r.1, Int.le_trans h.r.2 (by decide)⟩, h.z, fun i hi => ⟨(h.la i hi).1, ?_⟩, fun i hi => ⟨(h.lo i hi).1, ?_⟩, ?_, ?_⟩
  · have := (h.la i hi).2
    show t.la i ≤ 1000
    omega
  · have := (h.lo i hi).2
    show t.lo i ≤ 1000
    omega
  · show 0 ≤ upd t.w d n d ∧ upd t.w d n d ≤ 20
    rw [upd_at]; exact hn
  · show upd t.s d sk d = 0 ∨ upd t.s d sk d = 1 ∨ upd t.s d sk d = 2
    rw [upd_at]; omega
theorem upd_le {f : Nat → Int} {i j : Nat} {v : Int} (h : v = f i ∨ v = f i + 1) : upd f i v j = f j ∨ upd f i v j = f j + 1 := by
  by_cases e : j = i
  · subst e; rw [upd_at]; exact h
  · rw [upd_ne e]; exact .inl rfl
theorem pas_e {B : RBook} {t : Tru} {d : Nat} (hB : bkOk B) (ho : PasOk B t d) (h30 : befR t d ≤ 30) :
    (0 ≤ (pasT B t d).eb d ∧ (pasT B t d).eb d ≤ B.nl) ∧ (0 ≤ (pasT B t d).er d ∧ (pasT B t d).er d ≤ 30) ∧ ((pasT B t d).eb d = B.nl → (pasT B t d).er d = 0) ∧ ∀ i, ((pasT B t d).la i = t.la i ∨ (pasT B t d).la i = t.la i + 1) ∧ ((pasT B t d).lo i = t.lo i ∨ (pasT B t d).lo i = t.lo i + 1) := by
  obtain ⟨rb, hrb⟩ := Int.eq_ofNat_of_zero_le ho.b.1
  have hb := ho.b
  have hr := ho.r
  have hz := ho.z
  unfold pasT
  by_cases hdn : befB t d = B.nl ∧ befR t d = 0
  · rw [dB_tt hdn, cond_true]
    refine ⟨?_, ?_, ?_, fun i => ⟨.inl rfl, .inl rfl⟩⟩
    · show 0 ≤ upd t.eb d _ d ∧ upd t.eb d _ d ≤ _
      rw [upd_at]; exact hb
    · show 0 ≤ upd t.er d _ d ∧ upd t.er d _ d ≤ _
      rw [upd_at]; exact ⟨hr.1, h30⟩
    · show upd t.eb d _ d = _ → upd t.er d _ d = 0
      rw [upd_at, upd_at]; exact hz
  · rw [dB_ff hdn, cond_false, hrb, Int.toNat_natCast]
    rw [hrb] at hb hz hdn
    have hnl : rb < B.nl := by
      rcases Nat.lt_or_ge rb B.nl with h | h
      · exact h
      · have : (rb : Int) = B.nl := by omega
        exact absurd ⟨this, hz this⟩ hdn
    have hne := hB.1.2 rb hnl
    unfold laOk at hne
    have hw := ho.w
    have key : ∀ u : Tru, u.w d = t.w d → (∀ i, u.la i = t.la i ∨ u.la i = t.la i + 1) → (∀ i, u.lo i = t.lo i) →
        (0 ≤ (passN B u d rb (befR t d)).eb d ∧ (passN B u d rb (befR t d)).eb d ≤ B.nl) ∧ (0 ≤ (passN B u d rb (befR t d)).er d ∧ (passN B u d rb (befR t d)).er d ≤ 30) ∧ ((passN B u d rb (befR t d)).eb d = B.nl → (passN B u d rb (befR t d)).er d = 0) ∧ ∀ i, ((passN B u d rb (befR t d)).la i = t.la i ∨ (passN B u d rb (befR t d)).la i = t.la i + 1) ∧ ((passN B u d rb (befR t d)).lo i = t.lo i ∨ (passN B u d rb (befR t d)).lo i = t.lo i + 1) := fun u huw hul huo => by
      have lo0 : ∀ {v : Int}, (v = u.lo rb ∨ v = u.lo rb + 1) → ∀ i, upd u.lo rb v i = t.lo i ∨ upd u.lo rb v i = t.lo i + 1 := fun {v} hv i => by
        rw [← huo i]; exact upd_le hv
      unfold passN
      split
      · refine ⟨?_, ?_, ?_, fun i => ⟨hul i, lo0 (.inl (Int.add_zero _)) i⟩⟩
        · show 0 ≤ upd _ d _ d ∧ upd _ d _ d ≤ _
          rw [upd_at]; omega
        · show 0 ≤ upd _ d _ d ∧ upd _ d _ d ≤ _
          rw [upd_at]; omega
        · show upd _ d _ d = _ → upd _ d _ d = 0
          rw [upd_at, upd_at]; omega
      · split
        · rw [huw]
          by_cases hl : B.nee rb ≤ befR t d + t.w d
          · have e1 : rolB (B.nee rb) rb (befR t d) (t.w d) = rb + 1 := by unfold rolB; rw [dB_tt hl]; rfl
            have e2 : rolR (B.nee rb) rb (befR t d) (t.w d) = 0 := by unfold rolR; rw [dB_tt hl]; rfl
            rw [e1, e2]
            refine ⟨?_, ?_, ?_, fun i => ⟨hul i, lo0 (.inl (Int.add_zero _)) i⟩⟩
            · show 0 ≤ upd _ d _ d ∧ upd _ d _ d ≤ _
              rw [upd_at]; omega
            · show 0 ≤ upd _ d _ d ∧ upd _ d _ d ≤ _
              rw [upd_at]; omega
            · show upd _ d _ d = _ → upd _ d _ d = 0
              rw [upd_at, upd_at]; omega
          · have e1 : rolB (B.nee rb) rb (befR t d) (t.w d) = rb := by unfold rolB; rw [dB_ff hl]; rfl
            have e2 : rolR (B.nee rb) rb (befR t d) (t.w d) = befR t d + t.w d := by unfold rolR; rw [dB_ff hl]; rfl
            rw [e1, e2]
            refine ⟨?_, ?_, ?_, fun i => ⟨hul i, lo0 (.inl (Int.add_zero _)) i⟩⟩
            · show 0 ≤ upd _ d _ d ∧ upd _ d _ d ≤ _
              rw [upd_at]; omega
            · show 0 ≤ upd _ d _ d ∧ upd _ d _ d ≤ _
              rw [upd_at]; omega
            · show upd _ d _ d = _ → upd _ d _ d = 0
              rw [upd_at, upd_at]; omega
        · refine ⟨?_, ?_, ?_, fun i => ⟨hul i, lo0 (.inr rfl) i⟩⟩
          · show 0 ≤ upd _ d _ d ∧ upd _ d _ d ≤ _
            rw [upd_at]; omega
          · show 0 ≤ upd _ d _ d ∧ upd _ d _ d ≤ _
            rw [upd_at]; omega
          · show upd _ d _ d = _ → upd _ d _ d = 0
            rw [upd_at, upd_at]; omega
    by_cases hll : t.la rb = t.lo rb
    · rw [dB_tt hll, cond_true]
      exact key _ rfl (fun i => upd_le (.inr rfl)) fun i => rfl
    · rw [dB_ff hll, cond_false]
      exact key _ rfl (fun i => .inl rfl) fun i => rfl
theorem LvOk.next {B : RBook} {t : Tru} {d sk : Nat} {n : Int} (hB : bkOk B) (h : LvOk B t d) (hd : d < 5) (hn : 0 ≤ n ∧ n ≤ 20) (hs : sk < 3) : LvOk B (nxT B t d n sk) (d + 1) := by
  obtain ⟨g1, g2, g3, g4⟩ := pas_e hB (h.pas hd hn hs) h.r.2
  have hnl := hB.1.1.1
  have hcase : (befB (nxT B t d n sk) (d + 1) = 0 ∧ befR (nxT B t d n sk) (d + 1) = 0) ∨ (befB (nxT B t d n sk) (d + 1) = (nxT B t d n sk).eb d ∧ befR (nxT B t d n sk) (d + 1) = (nxT B t d n sk).er d) := by
    unfold befB befR
    by_cases hz : noLa (nxT B t d n sk)
    · rw [dB_tt hz]; exact .inl ⟨rfl, rfl⟩
    · rw [dB_ff hz]; exact .inr ⟨rfl, rfl⟩
  refine ⟨.inr (by omega), ?_, ?_, ?_, fun i hi => ?_, fun i hi => ?_⟩
  · rcases hcase with ⟨q, _⟩ | ⟨q, _⟩
    · rw [q]; omega
    · rw [q]; exact g1
  · rcases hcase with ⟨_, q⟩ | ⟨_, q⟩
    · rw [q]; omega
    · rw [q]; exact g2
  · rcases hcase with ⟨q, q'⟩ | ⟨q, q'⟩
    · rw [q, q']; omega
    · rw [q, q']; exact g3
  · have a := (g4 i).1
    have b := h.la i hi
    have e : ((t.setW d n).setS d (sk : Int)).la i = t.la i := rfl
    rw [e] at a
    show 0 ≤ (pasT B _ d).la i ∧ (pasT B _ d).la i ≤ ((d + 1 : Nat) : Int)
    omega
  · have a := (g4 i).2
    have b := h.lo i hi
    have e : ((t.setW d n).setS d (sk : Int)).lo i = t.lo i := rfl
    rw [e] at a
    show 0 ≤ (pasT B _ d).lo i ∧ (pasT B _ d).lo i ≤ ((d + 1 : Nat) : Int)
    omega
end Go.Proofs.Ytjnckbefajfgbaa

/- The truths of package roll: day by day. -/
namespace Go.Proofs.Ytjnckbefajfgbaa
open Go Go.Ev

theorem val_is {v v' : AV} {H H' : T AObj} {c c' fl f : Nat} {args : List AV} (e : v = v') (h : OkAt 0 Try.prog fl f args H c v H' c') : OkAt 0 Try.prog fl f args H c v' H' c' := e ▸ h
/-- What going on finds in memory. -/
structure LvIn (B : RBook) (a1 a2 a3 : AV) (lo p x y z : Nat) (m : List (Nat × Option AObj)) (c : Nat) : Prop where
  pb : PbIn B a1 a2 a3 p m c
  hl : lookM m lo = none
  hx : lookM m x = some (.cells [.ptr p 0])
  hy : lookM m y = some (.cells [.yld lo])
  hz : lookM m z = some (.cells [.fn 93 [] [.ptr x 0, .ptr y 0, .ptr z 0]])
theorem live_ok {B : RBook} {C : Cons} {a1 a2 a3 : AV} {lo p x y z : Nat} {m : List (Nat × Option AObj)} {c i : Nat} {t : Tru} {s : C.γ} {ts : List Tru} (h : LvIn B a1 a2 a3 lo p x y z m c)
    (hc : CanJ 0 Try.prog C 8 3 93 [.int .i64 (i : Int), trV t, .ptr 5 0, .ptr 6 0, .ptr 7 0] [(0, some (oLa B)), (1, some (oDa B)), (2, some (oLo B)), (4, some (.cells (pbC B a1 a2 a3))), (5, some (.cells [.ptr 4 0])), (6, some (.cells [.yld 3])), (7, some (.cells [.fn 93 [] [.ptr 5 0, .ptr 6 0, .ptr 7 0]]))] 8 s fun v _ s' => v = .bool (foldC C s ts).2 ∧ s' = (foldC C s ts).1) (fl : Nat) :
    OkJ 0 Try.prog C fl lo 93 [.int .i64 (i : Int), trV t, .ptr x 0, .ptr y 0, .ptr z 0] m c s fun v m' s' => (v = .bool (foldC C s ts).2 ∧ s' = (foldC C s ts).1) ∧ m' = m := by
  have e0 : tau [0, 1, 2, lo, p, x, y, z] c 0 = 0 := rfl
  have e1 : tau [0, 1, 2, lo, p, x, y, z] c 1 = 1 := rfl
  have e2 : tau [0, 1, 2, lo, p, x, y, z] c 2 = 2 := rfl
  have e4 : tau [0, 1, 2, lo, p, x, y, z] c 4 = p := rfl
  have ha : AV.rens (tau [0, 1, 2, lo, p, x, y, z] c) [.int .i64 (i : Int), trV t, .ptr 5 0, .ptr 6 0, .ptr 7 0] = [.int .i64 (i : Int), trV t, .ptr x 0, .ptr y 0, .ptr z 0] := rfl
  rw [← ha]
  have low : ∀ {u : Nat} {ob : AObj}, lookM [(0, some (oLa B)), (1, some (oDa B)), (2, some (oLo B)), (4, some (.cells (pbC B a1 a2 a3))), (5, some (.cells [.ptr 4 0])), (6, some (.cells [.yld 3])), (7, some (.cells [.fn 93 [] [.ptr 5 0, .ptr 6 0, .ptr 7 0]]))] u = some ob → u = 0 ∨ u = 1 ∨ u = 2 ∨ u = 4 ∨ u = 5 ∨ u = 6 ∨ u = 7 := fun {u ob} hz => by
    have := lookM_mem hz
    simpa using this
  have hobj : ∀ u o, lookM [(0, some (oLa B)), (1, some (oDa B)), (2, some (oLo B)), (4, some (.cells (pbC B a1 a2 a3))), (5, some (.cells [.ptr 4 0])), (6, some (.cells [.yld 3])), (7, some (.cells [.fn 93 [] [.ptr 5 0, .ptr 6 0, .ptr 7 0]]))] u = some o → lookM m (tau [0, 1, 2, lo, p, x, y, z] c u) = some (o.ren (tau [0, 1, 2, lo, p, x, y, z] c)) := fun u o hu => by
    rcases low hu with rfl | rfl | rfl | rfl | rfl | rfl | rfl
    · cases hu; rw [e0, ren_ro]; exact h.pb.m1
    · cases hu; rw [e1, ren_ro]; exact h.pb.m2
    · cases hu; rw [e2, ren_ro]; exact h.pb.m3
    · cases hu; rw [e4, pbc_ren h.pb.h1 h.pb.h2 h.pb.h3 e0 e1 e2]; exact h.pb.m4
    · cases hu; exact h.hx
    · cases hu; exact h.hy
    · cases hu; exact h.hz
  refine CanJ.pure (R := fun v s' => v = .bool (foldC C s ts).2 ∧ s' = (foldC C s ts).1) hc (fun v s' ⟨q, _⟩ => by subst q; exact .bool _) (tau [0, 1, 2, lo, p, x, y, z] c) (fun g hg => by omega) (fun u hu => by rw [tau_ge hu]; omega) hobj (fun u u' o o' hu hu' hne => .inl fun e => ?_) rfl (fun u hu e => ?_) h.hl
  · have g1 := hobj u o hu
    have g2 := hobj u' o' hu'
    rw [e] at g1
    rw [g1] at g2
    rcases low hu with rfl | rfl | rfl | rfl | rfl | rfl | rfl <;> rcases low hu' with rfl | rfl | rfl | rfl | rfl | rfl | rfl <;> first | exact absurd rfl hne | exact absurd (show (0 : Nat) = 1 from e) (by decide) | exact absurd (show (1 : Nat) = 0 from e) (by decide) | exact absurd (show (0 : Nat) = 2 from e) (by decide) | exact absurd (show (2 : Nat) = 0 from e) (by decide) | exact absurd (show (1 : Nat) = 2 from e) (by decide) | exact absurd (show (2 : Nat) = 1 from e) (by decide) | (cases hu; cases hu'; simp [AObj.ren, AV.rens, AV.ren, pbC, oLa, oDa, oLo] at g2)
  · rcases (by omega : u = 0 ∨ u = 1 ∨ u = 2 ∨ u = 3 ∨ u = 4 ∨ u = 5 ∨ u = 6 ∨ u = 7) with rfl | rfl | rfl | rfl | rfl | rfl | rfl | rfl
    · have := hobj 0 _ rfl; rw [e, h.hl] at this; cases this
    · have := hobj 1 _ rfl; rw [e, h.hl] at this; cases this
    · have := hobj 2 _ rfl; rw [e, h.hl] at this; cases this
    · rfl
    · have := hobj 4 _ rfl; rw [e, h.hl] at this; cases this
    · have := hobj 5 _ rfl; rw [e, h.hl] at this; cases this
    · have := hobj 6 _ rfl; rw [e, h.hl] at this; cases this
    · have := hobj 7 _ rfl; rw [e, h.hl] at this; cases this
set_option maxRecDepth 100000 in
set_option maxHeartbeats 4000000 in
theorem live0_can (B : RBook) (a1 a2 a3 : AV) (h1 : IsSl a1 B.nl 0) (h2 : IsSl a2 B.nd 1) (h3 : IsSl a3 B.nk 2) (C : Cons) (hY : YldOK Try.prog C) (hC : ∀ k s t, C.lv (k + 1) s → C.ok s [trV t]) (t : Tru) (s : C.γ) (r : Nat) (hl : C.lv (r + 1) s) : CanJ 0 Try.prog C 8 3 93 [.int .i64 (B.nd : Int), trV t, .ptr 5 0, .ptr 6 0, .ptr 7 0] [(0, some (oLa B)), (1, some (oDa B)), (2, some (oLo B)), (4, some (.cells (pbC B a1 a2 a3))), (5, some (.cells [.ptr 4 0])), (6, some (.cells [.yld 3])), (7, some (.cells [.fn 93 [] [.ptr 5 0, .ptr 6 0, .ptr 7 0]]))] 8 s fun v _ s' => v = .bool (foldC C s [t]).2 ∧ s' = (foldC C s [t]).1 := by
  refine CanJ.mk' Try.func93 rfl rfl rfl (by decide) (by decide) ?_
  repeat' (first | refine RTJ.nil ?_ | refine sqJ_n ?_ | refine TrJ.seq ?_ | refine TrJ.region ?_ | refine TrJ.cond_d rfl (fun _ => ?_) (fun _ => ?_) | refine TrJ.skip ?_ | refine TrJ.ret ?_ | refine sqJ_r ?_ | refine TrJ.block ?_ | (refine RTJ.yield hY rfl rfl rfl (fun _ => rfl) (hC r _ t hl) rfl rfl rfl ?_) | (refine RTJ.goK rfl rfl rfl rfl ?_; apply Nx.of; (first | exact S.move | exact S.assign | exact S.load1c rfl rfl rfl rfl | exact S.loadNc rfl rfl rfl rfl | exact S.fieldAddr rfl rfl rfl | exact S.eql | exact S.box | exact S.alloc rfl | exact S.nilCheck)) | (refine RTJ.goK0 rfl rfl rfl ?_; apply Nx.of; (first | exact S.store rfl rfl rfl rfl rfl rfl)) | (refine RTJ.goK rfl rfl rfl rfl ?_; apply Nx.of; (first | exact S.idx_sl rfl rfl rfl (by assumption) (by omega) | exact S.rowN0 rfl rfl rfl (fun _ => rfl) (range_at (by omega)) rfl | exact S.len_sl rfl rfl rfl (by assumption))))
  · (first | refine ⟨rt_go rfl ?_⟩)
    refine ⟨?_, ?_⟩
    · show AV.bool (C.step s [trV t]).2 = _
      unfold foldC
      cases hq : (C.step s [trV t]).2
      · rfl
      · rfl
    · show (C.step s [trV t]).1 = _
      unfold foldC
      cases hq : (C.step s [trV t]).2
      · rfl
      · rfl
  · exact absurd rfl (by assumption)
set_option maxRecDepth 100000 in
set_option maxHeartbeats 8000000 in
theorem live1_can (B : RBook) (a1 a2 a3 : AV) (h1 : IsSl a1 B.nl 0) (h2 : IsSl a2 B.nd 1) (h3 : IsSl a3 B.nk 2) (hB : bkOk B) (C : Cons) (k d : Nat) (hd : d < B.nd) (t : Tru) (ht : LvOk B t d) (s : C.γ) (r : Nat) (hl : C.lv (r + (trs B (k + 1) d t).length) s)
    (ih : ∀ (t : Tru) (s : C.γ) (r : Nat), C.lv (r + (trs B k (d + 1) t).length) s → LvOk B t (d + 1) → CanJ 0 Try.prog C 8 3 93 [.int .i64 ((d + 1 : Nat) : Int), trV t, .ptr 5 0, .ptr 6 0, .ptr 7 0] [(0, some (oLa B)), (1, some (oDa B)), (2, some (oLo B)), (4, some (.cells (pbC B a1 a2 a3))), (5, some (.cells [.ptr 4 0])), (6, some (.cells [.yld 3])), (7, some (.cells [.fn 93 [] [.ptr 5 0, .ptr 6 0, .ptr 7 0]]))] 8 s fun v _ s' => v = .bool (foldC C s (trs B k (d + 1) t)).2 ∧ s' = (foldC C s (trs B k (d + 1) t)).1) :
    CanJ 0 Try.prog C 8 3 93 [.int .i64 (d : Int), trV t, .ptr 5 0, .ptr 6 0, .ptr 7 0] [(0, some (oLa B)), (1, some (oDa B)), (2, some (oLo B)), (4, some (.cells (pbC B a1 a2 a3))), (5, some (.cells [.ptr 4 0])), (6, some (.cells [.yld 3])), (7, some (.cells [.fn 93 [] [.ptr 5 0, .ptr 6 0, .ptr 7 0]]))] 8 s fun v _ s' => v = .bool (foldC C s (trs B (k + 1) d t)).2 ∧ s' = (foldC C s (trs B (k + 1) d t)).1 := by
  have hnd := hB.2.1.1
  have hnk := hB.2.2.1
  have hd5 : d < 5 := by omega
  have hda := hB.2.1.2 d hd
  unfold daOk at hda
  refine CanJ.mk' Try.func93 rfl rfl rfl (by decide) (by decide) ?_
  repeat' (first | refine RTJ.nil ?_ | refine sqJ_n ?_ | refine TrJ.seq ?_ | refine TrJ.region ?_ | refine TrJ.cond_d rfl (fun _ => ?_) (fun _ => ?_) | refine TrJ.skip ?_ | refine TrJ.block ?_ | (refine RTJ.goK rfl rfl rfl rfl ?_; apply Nx.of; (first | exact S.idx_sl rfl rfl rfl h2 hd | exact S.rowN0 rfl rfl rfl (fun _ => rfl) (range_at hd) rfl)) | (refine RTJ.goK rfl rfl rfl rfl ?_; apply Nx.of; (first | exact S.move | exact S.assign | exact S.load1c rfl rfl rfl rfl | exact S.loadNc rfl rfl rfl rfl | exact S.fieldAddr rfl rfl rfl | exact S.eql | exact S.box | exact S.alloc rfl | exact S.nilCheck)) | (refine RTJ.goK0 rfl rfl rfl ?_; apply Nx.of; (first | exact S.store rfl rfl rfl rfl rfl rfl)) | (refine RTJ.goK rfl rfl rfl rfl ?_; apply Nx.of; (first | exact S.len_sl rfl rfl rfl (by assumption))))
  · exfalso; omega
  refine TrJ.loop (fun j : Int × Int => stL Try.f93.ntmps [] [(0, .int .i64 (d : Int)), (2, .ptr 5 0), (3, .ptr 6 0), (4, .ptr 7 0), (6, .ptr 8 0), (8, .ptr 9 0), (9, .int .i64 j.1)] [(9, some (.cells [.int .i64 (B.wl d), .int .i64 (B.wh d)])), (8, some (.cells (truC (t.setW d j.2)))), (0, some (oLa B)), (1, some (oDa B)), (2, some (oLo B)), (4, some (.cells (pbC B a1 a2 a3))), (5, some (.cells [.ptr 4 0])), (6, some (.cells [.yld 3])), (7, some (.cells [.fn 93 [] [.ptr 5 0, .ptr 6 0, .ptr 7 0]]))] 10)
    (fun j s' => (B.wl d ≤ j.1 ∧ j.1 ≤ B.wh d + 1) ∧ foldC C s' (outR B k d t j.1) = foldC C s (trs B (k + 1) d t) ∧ C.lv (r + (outR B k d t j.1).length) s') (fun j => (B.wh d + 1 - j.1).toNat) (B.wl d, t.w d) ⟨⟨by omega, by omega⟩, rfl, hl⟩ (by (refine Wk.same (by decide) (by decide) (by decide) (by decide) ?_ ?_ rfl; all_goals ((try simp only [allL, allM]); (repeat' (first | exact trivial | refine And.intro ?_ ?_)); all_goals (first | rfl | exact ren_ro _ _ _ | exact congrArg (fun t => some (AObj.cells (truC t))) setW_self.symm | exact pbc_ren h1 h2 h3 (nm_lt (by decide)) (nm_lt (by decide)) (nm_lt (by decide)) | decide)))) ?_
  rintro ⟨n, b⟩ s1 ⟨hn, hf, hl1⟩
  simp only at hn hf ⊢
  by_cases hnb : n ≤ B.wh d
  · repeat' (first | refine RTJ.nil ?_ | refine sqJ_n ?_ | refine TrJ.seq ?_ | refine TrJ.region ?_ | refine TrJ.cond_t rfl ?_ | refine TrJ.skip ?_ | refine TrJ.block ?_ | refine TrJ.label ?_ | refine TrJ.scope ?_ | (refine RTJ.goK rfl rfl rfl rfl ?_; refine Nx.of (S.leq_t hnb) ?_) | (refine RTJ.call rfl rfl rfl (effects_at _ _ _) rfl rfl (Nat.le_refl _) ?_) | (refine RTJ.goK rfl rfl rfl rfl ?_; apply Nx.of; (first | exact S.idx_arr rfl rfl rfl hd5)) | (refine RTJ.goK0 rfl rfl rfl ?_; apply Nx.of; (first | exact S.store rfl rfl rfl rfl rfl (truC_setW hd5))) | (refine RTJ.goK rfl rfl rfl rfl ?_; apply Nx.of; (first | exact S.move | exact S.load1c rfl rfl rfl rfl | exact S.fieldAddr rfl rfl rfl)))
    refine TrJ.loop (fun sk : Nat => stL Try.f93.ntmps [] [(0, .int .i64 (d : Int)), (2, .ptr 5 0), (3, .ptr 6 0), (4, .ptr 7 0), (6, .ptr 8 0), (8, .ptr 9 0), (9, .int .i64 n), (47, .int .i64 3), (48, .int .i64 (sk : Int))] [(9, some (.cells [.int .i64 (B.wl d), .int .i64 (B.wh d)])), (8, some (.cells (truC (t.setW d n)))), (0, some (oLa B)), (1, some (oDa B)), (2, some (oLo B)), (4, some (.cells (pbC B a1 a2 a3))), (5, some (.cells [.ptr 4 0])), (6, some (.cells [.yld 3])), (7, some (.cells [.fn 93 [] [.ptr 5 0, .ptr 6 0, .ptr 7 0]]))] 10)
      (fun sk s' => sk ≤ 3 ∧ foldC C s' (innR B k d t n sk ++ outR B k d t (n + 1)) = foldC C s (trs B (k + 1) d t) ∧ C.lv (r + (innR B k d t n sk ++ outR B k d t (n + 1)).length) s') (fun sk => 3 - sk) 0 ⟨by omega, by rw [← outR_cons hnb]; exact hf, by rw [← outR_cons hnb]; exact hl1⟩ (by (refine Wk.same (by decide) (by decide) (by decide) (by decide) ?_ ?_ rfl; all_goals ((try simp only [allL, allM]); (repeat' (first | exact trivial | refine And.intro ?_ ?_)); all_goals (first | rfl | exact ren_ro _ _ _ | exact congrArg (fun t => some (AObj.cells (truC t))) setW_setW | exact pbc_ren h1 h2 h3 (nm_lt (by decide)) (nm_lt (by decide)) (nm_lt (by decide)) | decide)))) ?_
    rintro sk s2 ⟨hsk, hf2, hl2⟩
    by_cases hs3 : sk < 3
    · have hs3' : (sk : Int) < 3 := by omega
      have hpo := ht.pas hd5 (show 0 ≤ n ∧ n ≤ 20 by omega) hs3
      rw [innR_cons hs3] at hf2 hl2
      by_cases hh : hasP (B.sky d) sk
      · have hhv : AV.bool (dB (hasP (B.sky d) sk)) = .bool true := by rw [dB_tt hh]
        repeat' (first | refine RTJ.nil ?_ | refine sqJ_n ?_ | refine TrJ.seq ?_ | refine TrJ.region ?_ | refine TrJ.cond_t rfl ?_ | refine TrJ.cond_f rfl ?_ | refine TrJ.skip ?_ | refine TrJ.block ?_ | (refine RTJ.goK rfl rfl rfl rfl ?_; refine Nx.of (S.lss_t hs3') ?_) | (refine RTJ.call rfl rfl rfl (val_is hhv (has_at _ _ (by omega) _ _ _)) rfl rfl (Nat.le_refl _) ?_) | (refine RTJ.call rfl rfl rfl (pass_at (p := 4) (q := 10) (t := (t.setW d n).setS d (sk : Int)) ⟨h1, h2, h3, rfl, rfl, rfl, rfl, by decide, by decide⟩ hB rfl hpo 8 (by decide)) rfl rfl (Nat.le_refl _) ?_) | (refine RTJ.goK rfl rfl rfl rfl ?_; apply Nx.of; (first | exact S.idx_arr rfl rfl rfl hd5 | exact S.idx_sl rfl rfl rfl h2 hd | exact S.row rfl rfl rfl (fun _ => rfl) (range_at hd) rfl)) | (refine RTJ.goK0 rfl rfl rfl ?_; apply Nx.of; (first | exact S.store rfl rfl rfl rfl rfl (truC_setS hd5))) | (refine RTJ.goK rfl rfl rfl rfl ?_; apply Nx.of; (first | exact S.move | exact S.assign | exact S.load1c rfl rfl rfl rfl | exact S.loadNc rfl rfl rfl rfl | exact S.fieldAddr rfl rfl rfl | exact S.not_t | exact S.alloc rfl | exact S.nilCheck)) | (refine RTJ.goK0 rfl rfl rfl ?_; apply Nx.of; (first | exact S.store rfl rfl rfl rfl rfl rfl)) | (refine RTJ.goK rfl rfl rfl rfl ?_; apply Nx.of; (first | exact S.len_sl rfl rfl rfl (by assumption))))
        refine TrJ.loop (fun i : Nat => stL Try.f93.ntmps [] [(0, .int .i64 (d : Int)), (2, .ptr 5 0), (3, .ptr 6 0), (4, .ptr 7 0), (6, .ptr 8 0), (8, .ptr 9 0), (9, .int .i64 n), (11, .ptr 10 0), (47, .int .i64 3), (48, .int .i64 (sk : Int)), (75, a3), (76, .int .i64 (B.nk : Int)), (77, .int .i64 (i : Int))] ((10, some (.cells (truC (nxT B t d n sk)))) :: [(9, some (.cells [.int .i64 (B.wl d), .int .i64 (B.wh d)])), (8, some (.cells (truC (t.setW d n)))), (0, some (oLa B)), (1, some (oDa B)), (2, some (oLo B)), (4, some (.cells (pbC B a1 a2 a3))), (5, some (.cells [.ptr 4 0])), (6, some (.cells [.yld 3])), (7, some (.cells [.fn 93 [] [.ptr 5 0, .ptr 6 0, .ptr 7 0]]))]) 11)
          (fun i s' => i ≤ B.nk ∧ lksAt B d (nxT B t d n sk) i ∧ s' = s2) (fun i => B.nk - i) 0 ⟨Nat.zero_le _, fun j hj => absurd hj (Nat.not_lt_zero j), rfl⟩ (by (refine Wk.same (by decide) (by decide) (by decide) (by decide) ?_ ?_ rfl; all_goals ((try simp only [allL, allM]); (repeat' (first | exact trivial | refine And.intro ?_ ?_)); all_goals (first | rfl | exact IsSl.ren (by assumption) (nm_lt (by decide)) | exact ren_ro _ _ _ | exact pbc_ren h1 h2 h3 (nm_lt (by decide)) (nm_lt (by decide)) (nm_lt (by decide)) | decide)))) ?_
        rintro i s3 ⟨hi, hlk, rfl⟩
        by_cases hin : i < B.nk
        · have hin' : (i : Int) < B.nk := by omega
          by_cases he : B.ld i = d
          · by_cases hb2 : (nxT B t d n sk).eb d = B.lb i
            · have hir : ∀ H c fl, OkAt 0 Try.prog fl 73 [.agg [.int .i64 (B.ld i), .int .i64 (B.lb i)], trV (nxT B t d n sk)] H c (.bool true) H c := fun H c fl => by
                have := isRight_at fl (nxT B t d n sk) d hd5 (B.lb i) H c
                rw [dB_tt hb2, ← he] at this
                exact this
              repeat' (first | refine RTJ.nil ?_ | refine sqJ_n ?_ | refine TrJ.seq ?_ | refine TrJ.region ?_ | refine TrJ.cond_t rfl ?_ | refine TrJ.cond_f rfl ?_ | refine TrJ.skip ?_ | refine TrJ.block ?_ | refine blkJ_n ?_ | (refine RTJ.goK rfl rfl rfl rfl ?_; first | refine Nx.of (S.lss_t hin') ?_ | refine Nx.of (S.eql_t he) ?_ | refine Nx.of (S.idx_sl rfl rfl rfl h3 hin) ?_) | (refine RTJ.call rfl rfl rfl (hir _ _ _) rfl rfl (Nat.le_refl _) ?_) | (refine RTJ.goK rfl rfl rfl rfl ?_; apply Nx.of; (first | exact S.move | exact S.load1c rfl rfl rfl rfl | exact S.loadNc rfl rfl rfl rfl | exact S.fieldAddr rfl rfl rfl | exact S.not_t | exact S.pick_tt | exact S.alloc rfl | exact S.add_one (by omega))) | (refine RTJ.goK0 rfl rfl rfl ?_; apply Nx.of; (first | exact S.store rfl rfl rfl rfl rfl rfl)) | (refine RTJ.goK rfl rfl rfl rfl ?_; apply Nx.of; (first | exact S.rowN0 rfl rfl rfl (fun _ => rfl) (range_at (by omega)) rfl)))
              refine lpJ_n (i + 1) ⟨hin, fun j hj e => ?_, rfl⟩ (by omega) (by (refine Wk.same (by decide) (by decide) (by decide) (by decide) ?_ ?_ rfl; all_goals ((try simp only [allL, allM]); (repeat' (first | exact trivial | refine And.intro ?_ ?_)); all_goals (first | rfl | exact IsSl.ren (by assumption) (nm_lt (by decide)) | exact ren_ro _ _ _ | exact pbc_ren h1 h2 h3 (nm_lt (by decide)) (nm_lt (by decide)) (nm_lt (by decide)) | decide))))
              by_cases g : j = i
              · subst g; exact hb2
              · exact hlk j (by omega) e
            · have hir : ∀ H c fl, OkAt 0 Try.prog fl 73 [.agg [.int .i64 (B.ld i), .int .i64 (B.lb i)], trV (nxT B t d n sk)] H c (.bool false) H c := fun H c fl => by
                have := isRight_at fl (nxT B t d n sk) d hd5 (B.lb i) H c
                rw [dB_ff hb2, ← he] at this
                exact this
              repeat' (first | refine RTJ.nil ?_ | refine sqJ_n ?_ | refine TrJ.seq ?_ | refine TrJ.region ?_ | refine TrJ.cond_t rfl ?_ | refine TrJ.skip ?_ | refine TrJ.exit ?_ | refine sqJ_x ?_ | refine TrJ.block ?_ | refine blkJ_hit rfl ?_ | refine blkJ_pass rfl ?_ | refine lpJ_x ?_ | (refine RTJ.goK rfl rfl rfl rfl ?_; first | refine Nx.of (S.lss_t hin') ?_ | refine Nx.of (S.eql_t he) ?_ | refine Nx.of (S.idx_sl rfl rfl rfl h3 hin) ?_) | (refine RTJ.call rfl rfl rfl (hir _ _ _) rfl rfl (Nat.le_refl _) ?_) | (refine RTJ.goK rfl rfl rfl rfl ?_; apply Nx.of; (first | exact S.move | exact S.load1c rfl rfl rfl rfl | exact S.loadNc rfl rfl rfl rfl | exact S.fieldAddr rfl rfl rfl | exact S.not_f | exact S.pick_tt | exact S.alloc rfl | exact S.add_one (by omega))) | (refine RTJ.goK0 rfl rfl rfl ?_; apply Nx.of; (first | exact S.store rfl rfl rfl rfl rfl rfl)) | (refine RTJ.goK rfl rfl rfl rfl ?_; apply Nx.of; (first | exact S.rowN0 rfl rfl rfl (fun _ => rfl) (range_at (by omega)) rfl)))
              have e0 : skyR B k d t n sk = [] := by unfold skyR; rw [dB_ff fun q => hb2 (q.2 i hin he)]; rfl
              rw [e0, List.nil_append] at hf2 hl2
              exact lpJ_n (sk + 1) ⟨hs3, hf2, hl2⟩ (by omega) (by (refine Wk.same (by decide) (by decide) (by decide) (by decide) ?_ ?_ rfl; all_goals ((try simp only [allL, allM]); (repeat' (first | exact trivial | refine And.intro ?_ ?_)); all_goals (first | rfl | exact ren_ro _ _ _ | exact pbc_ren h1 h2 h3 (nm_lt (by decide)) (nm_lt (by decide)) (nm_lt (by decide)) | decide))))
          · repeat' (first | refine RTJ.nil ?_ | refine sqJ_n ?_ | refine TrJ.seq ?_ | refine TrJ.region ?_ | refine TrJ.cond_t rfl ?_ | refine TrJ.cond_f rfl ?_ | refine TrJ.skip ?_ | refine TrJ.block ?_ | refine blkJ_n ?_ | (refine RTJ.goK rfl rfl rfl rfl ?_; first | refine Nx.of (S.lss_t hin') ?_ | refine Nx.of (S.eql_f he) ?_ | refine Nx.of (S.idx_sl rfl rfl rfl h3 hin) ?_) | (refine RTJ.goK rfl rfl rfl rfl ?_; apply Nx.of; (first | exact S.move | exact S.load1c rfl rfl rfl rfl | exact S.fieldAddr rfl rfl rfl | exact S.pick_ff | exact S.alloc rfl | exact S.add_one (by omega))) | (refine RTJ.goK0 rfl rfl rfl ?_; apply Nx.of; (first | exact S.store rfl rfl rfl rfl rfl rfl)) | (refine RTJ.goK rfl rfl rfl rfl ?_; apply Nx.of; (first | exact S.rowN0 rfl rfl rfl (fun _ => rfl) (range_at (by omega)) rfl)) | (refine RTJ.no rfl rfl rfl ?_))
            refine lpJ_n (i + 1) ⟨hin, fun j hj e => ?_, rfl⟩ (by omega) (by (refine Wk.same (by decide) (by decide) (by decide) (by decide) ?_ ?_ rfl; all_goals ((try simp only [allL, allM]); (repeat' (first | exact trivial | refine And.intro ?_ ?_)); all_goals (first | rfl | exact IsSl.ren (by assumption) (nm_lt (by decide)) | exact ren_ro _ _ _ | exact pbc_ren h1 h2 h3 (nm_lt (by decide)) (nm_lt (by decide)) (nm_lt (by decide)) | decide))))
            by_cases g : j = i
            · subst g; exact absurd e he
            · exact hlk j (by omega) e
        · have hin' : ¬ (i : Int) < B.nk := by omega
          have hik : i = B.nk := by omega
          rw [hik] at hlk
          have e0 : skyR B k d t n sk = trs B k (d + 1) (nxT B t d n sk) := by unfold skyR; rw [dB_tt ⟨hh, hlk⟩]; rfl
          rw [e0, List.append_assoc, foldC_append] at hf2
          have hl3 : C.lv ((r + (innR B k d t n (sk + 1) ++ outR B k d t (n + 1)).length) + (trs B k (d + 1) (nxT B t d n sk)).length) s3 := by
            rw [e0, List.append_assoc, List.length_append] at hl2
            rw [show ∀ a b c : Nat, a + b + c = a + (c + b) by intros; omega]
            exact hl2
          repeat' (first | refine RTJ.nil ?_ | refine sqJ_n ?_ | refine TrJ.seq ?_ | refine TrJ.region ?_ | refine TrJ.cond_f rfl ?_ | refine TrJ.exit ?_ | refine sqJ_x ?_ | refine blkJ_hit rfl ?_ | refine lpJ_x ?_ | (refine RTJ.goK rfl rfl rfl rfl ?_; first | refine Nx.of (S.lss_f hin') ?_) | (refine RTJ.goK rfl rfl rfl rfl ?_; apply Nx.of; (first | exact S.move | exact S.load1c rfl rfl rfl rfl | exact S.loadNc rfl rfl rfl rfl | exact S.add_one (by omega))))
          refine RTJ.callJ rfl rfl rfl (live_ok (B := B) (t := nxT B t d n sk) (i := d + 1) ⟨⟨h1, h2, h3, rfl, rfl, rfl, rfl, by decide, by decide⟩, rfl, rfl, rfl, rfl⟩ (ih _ _ _ hl3 (ht.next hB hd5 (by omega) hs3)) 8) rfl rfl ?_
          rintro v m' s4 ⟨⟨hv, hs4⟩, hm'⟩
          subst hm'
          cases hb : (foldC C s3 (trs B k (d + 1) (nxT B t d n sk))).2
          · rw [hb] at hv hf2
            subst hv
            repeat' (first | refine RTJ.nil ?_ | refine sqJ_n ?_ | refine TrJ.seq ?_ | refine TrJ.region ?_ | refine TrJ.cond_t rfl ?_ | refine TrJ.ret ?_ | refine sqJ_r ?_ | refine blkJ_r ?_ | refine scpJ_r ?_ | refine lpJ_r ?_ | (refine RTJ.goK rfl rfl rfl rfl ?_; apply Nx.of; (first | exact S.assign | exact S.not_f)))
            (first | refine ⟨rt_go rfl ?_⟩)
            refine ⟨?_, ?_⟩
            · rw [← hf2]; rfl
            · rw [← hf2]; exact hs4
          · rw [hb] at hv hf2
            subst hv
            repeat' (first | refine RTJ.nil ?_ | refine sqJ_n ?_ | refine TrJ.region ?_ | refine TrJ.cond_f rfl ?_ | refine TrJ.skip ?_ | refine blkJ_n ?_ | (refine RTJ.goK rfl rfl rfl rfl ?_; apply Nx.of; (first | exact S.move | exact S.not_t | exact S.add_one (by omega))))
            refine lpJ_n (sk + 1) ⟨hs3, ?_, ?_⟩ (by omega) (by (refine Wk.same (by decide) (by decide) (by decide) (by decide) ?_ ?_ rfl; all_goals ((try simp only [allL, allM]); (repeat' (first | exact trivial | refine And.intro ?_ ?_)); all_goals (first | rfl | exact ren_ro _ _ _ | exact pbc_ren h1 h2 h3 (nm_lt (by decide)) (nm_lt (by decide)) (nm_lt (by decide)) | decide))))
            · rw [hs4]
              exact hf2
            · rw [hs4]
              exact foldC_live C _ _ _ hl3 hb
      · have hhv : AV.bool (dB (hasP (B.sky d) sk)) = .bool false := by rw [dB_ff hh]
        have e0 : skyR B k d t n sk = [] := by unfold skyR; rw [dB_ff fun q => hh q.1]; rfl
        rw [e0, List.nil_append] at hf2 hl2
        repeat' (first | refine RTJ.nil ?_ | refine sqJ_n ?_ | refine TrJ.seq ?_ | refine TrJ.region ?_ | refine TrJ.cond_t rfl ?_ | refine TrJ.skip ?_ | refine TrJ.exit ?_ | refine sqJ_x ?_ | refine TrJ.block ?_ | refine blkJ_hit rfl ?_ | (refine RTJ.goK rfl rfl rfl rfl ?_; refine Nx.of (S.lss_t hs3') ?_) | (refine RTJ.call rfl rfl rfl (val_is hhv (has_at _ _ (by omega) _ _ _)) rfl rfl (Nat.le_refl _) ?_) | (refine RTJ.goK rfl rfl rfl rfl ?_; apply Nx.of; (first | exact S.idx_sl rfl rfl rfl h2 hd | exact S.row rfl rfl rfl (fun _ => rfl) (range_at hd) rfl)) | (refine RTJ.goK rfl rfl rfl rfl ?_; apply Nx.of; (first | exact S.move | exact S.assign | exact S.load1c rfl rfl rfl rfl | exact S.fieldAddr rfl rfl rfl | exact S.not_f | exact S.add_one (by omega) | exact S.nilCheck)))
        exact lpJ_n (sk + 1) ⟨hs3, hf2, hl2⟩ (by omega) (by (refine Wk.same (by decide) (by decide) (by decide) (by decide) ?_ ?_ rfl; all_goals ((try simp only [allL, allM]); (repeat' (first | exact trivial | refine And.intro ?_ ?_)); all_goals (first | rfl | exact ren_ro _ _ _ | exact pbc_ren h1 h2 h3 (nm_lt (by decide)) (nm_lt (by decide)) (nm_lt (by decide)) | decide))))
    · have hs3' : ¬ (sk : Int) < 3 := by omega
      obtain rfl : sk = 3 := by omega
      repeat' (first | refine RTJ.nil ?_ | refine sqJ_n ?_ | refine TrJ.seq ?_ | refine TrJ.region ?_ | refine TrJ.cond_f rfl ?_ | refine TrJ.exit ?_ | refine sqJ_x ?_ | refine blkJ_n ?_ | refine blkJ_hit rfl ?_ | refine scpJ_n ?_ | refine lpJ_x ?_ | (refine RTJ.goK rfl rfl rfl rfl ?_; refine Nx.of (S.lss_f hs3') ?_) | (refine RTJ.goK rfl rfl rfl rfl ?_; apply Nx.of; (first | exact S.move | exact S.assign | exact S.add (by unfold In64; omega))))
      exact lpJ_n (n + 1, n) ⟨⟨by show _ ≤ n + 1; omega, by show n + 1 ≤ _; omega⟩, hf2, hl2⟩ (by show (B.wh d + 1 - (n + 1)).toNat < (B.wh d + 1 - n).toNat; omega) (by (refine Wk.same (by decide) (by decide) (by decide) (by decide) ?_ ?_ rfl; all_goals ((try simp only [allL, allM]); (repeat' (first | exact trivial | refine And.intro ?_ ?_)); all_goals (first | rfl | exact ren_ro _ _ _ | exact pbc_ren h1 h2 h3 (nm_lt (by decide)) (nm_lt (by decide)) (nm_lt (by decide)) | decide))))
  · repeat' (first | refine RTJ.nil ?_ | refine sqJ_n ?_ | refine TrJ.seq ?_ | refine TrJ.region ?_ | refine TrJ.cond_f rfl ?_ | refine TrJ.ret ?_ | refine TrJ.exit ?_ | refine sqJ_x ?_ | refine blkJ_hit rfl ?_ | refine lpJ_x ?_ | (refine RTJ.goK rfl rfl rfl rfl ?_; refine Nx.of (S.leq_f hnb) ?_) | (refine RTJ.goK rfl rfl rfl rfl ?_; apply Nx.of; (first | exact S.move | exact S.assign | exact S.load1c rfl rfl rfl rfl | exact S.fieldAddr rfl rfl rfl)))
    (first | refine ⟨rt_go rfl ?_⟩)
    rw [outR_nil (by omega)] at hf
    refine ⟨?_, ?_⟩
    · rw [← hf]; rfl
    · rw [← hf]; rfl
end Go.Proofs.Ytjnckbefajfgbaa
