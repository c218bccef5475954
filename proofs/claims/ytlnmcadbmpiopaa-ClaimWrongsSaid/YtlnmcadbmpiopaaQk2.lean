/- Texts of one kind, one behind the other: SyH, Ca, SyI, Cb, Cc, SyJ, Cd, SyK, SyL, Ce. -/
import Derived.Test.YtlnmcadbmpiopaaQk1
import Derived.Test.YtlnmcadbmpiopaaQkT
set_option linter.unusedVariables false
set_option linter.unusedSimpArgs false
/- What functions return; equality of structs; append. -/
namespace Go.Ev
open Go
section
variable {G : Nat} {P : Program} {fl cb c c' : Nat} {m m' : List (Nat × Option AObj)} {l : List (Nat × AV)} {n : Nat} {dfs : List Nat} {y z : Ty} {t yt : Nat} {x1 x2 x3 : Operand} {a b : Int} {v : AV} {Qf : AV → T AObj → Nat → Prop}
def resL (P : Program) [Tab P] (l : List (Nat × AV)) (m : List (Nat × Option AObj)) : ResultVar → Option AV
  | .tmp t => look l t
  | .cell a t => match look l a, ty P t with
    | some (.ptr x off), some y => match lookM m x with
      | some o => match cellsOf o with
        | some cs => bif y.agg then (match cut cs off y.size with | some u => some (.agg u) | none => none) else cs[off]?
        | none => none
      | none => none
    | _, _ => none
theorem resL_ok [Tab P] {rv : ResultVar} (h : resL P l m rv = some v) : resultA P (ofL l) (ofM m) rv = some v := by
  cases rv with
  | tmp t => simp only [resL] at h; simp only [resultA, ofL_get, h]
  | cell a t =>
    simp only [resL] at h
    split at h
    · rename_i x off yy h1 h2
      split at h
      · rename_i o h3
        split at h
        · rename_i cs h4
          have h5 := ty_agg h2
          simp only [resultA, ofL_get, h1, loadA, ofM_get, h3, h4, Option.bind_some, partA, h5]
          cases hg : yy.agg with
          | true =>
            rw [hg] at h
            simp only [cond_true] at h
            simp only [ty_size h2]
            split at h
            · rename_i u hu; rw [hu]; simpa using h
            · cases h
          | false =>
            rw [hg] at h
            simpa using h
        · cases h
      · cases h
    · cases h
def ressL (P : Program) [Tab P] (l : List (Nat × AV)) (m : List (Nat × Option AObj)) : List ResultVar → Option (List AV)
  | [] => some []
  | r :: rs => match resL P l m r with
    | some v => match ressL P l m rs with
      | some vs => some (v :: vs)
      | none => none
    | none => none
theorem ressL_ok [Tab P] : ∀ {rs : List ResultVar} {vs : List AV}, ressL P l m rs = some vs → rs.mapM (resultA P (ofL l) (ofM m)) = some vs
  | [], vs, h => by simp only [ressL, Option.some.injEq] at h; subst h; rfl
  | r :: rs, vs, h => by
    simp only [ressL] at h
    split at h
    · rename_i v0 h0
      split at h
      · rename_i vs' h1
        simp only [Option.some.injEq] at h
        subst h
        simp only [List.mapM_cons, resL_ok h0, ressL_ok h1, Option.bind_eq_bind, Option.bind_some, Option.pure_def]
      · cases h
    · cases h
def retV : List AV → AV
  | [v] => v
  | vs => .tup vs
theorem rt_go [Tab P] {rs : List ResultVar} {vs : List AV} (h : ressL P l m rs = some vs) (hq : Qf (retV vs) (ofM m) c) : rtQ P fl rs Qf .ret (stL n [] l m c) := by
  refine ⟨⟨ofM m, retV vs, rfl, ?_, hq⟩⟩
  show resultsA P (ofL l) (ofM m) rs = _
  have := ressL_ok h
  unfold resultsA
  rw [this]
  cases vs with
  | nil => rfl
  | cons v vs => cases vs <;> rfl
theorem rt_gon [Tab P] {rs : List ResultVar} {vs : List AV} (h : ressL P l m rs = some vs) (hq : Qf (retV vs) (ofM m) c) : rtQ P fl rs Qf .normal (stL n [] l m c) := ⟨(rt_go (fl := fl) (n := n) h hq).go⟩
theorem S.eqlA {l1 l2 : List AV} {q : Bool} (h : eqA P t (.agg l1) (.agg l2) = some q) : OpE P fl (.binOp .eql t x1 x2 yt) [.agg l1, .agg l2] m c (.bool q) m c := by
  refine ⟨rfl, Nat.le_refl _, ?_⟩
  show opt1 ((eqA P t (.agg l1) (.agg l2)).map .bool) (ofM m) c = _
  rw [h]; rfl
theorem andV2 {p q : Prop} [Decidable p] [Decidable q] : andV (some (decide p)) (some (decide q)) = some (decide (p ∧ q)) := by by_cases h1 : p <;> by_cases h2 : q <;> simp [andV, h1, h2]
theorem andV1 {p : Prop} [Decidable p] : andV (some (decide p)) (some true) = some (decide p) := by by_cases h1 : p <;> simp [andV, h1]
theorem S.index_arrI [Tab P] {i : Int} {cs : List AV} (hy : ty P t = some y) (hk : y.kind = 4) (hz : ty P y.elem = some z) (hg : z.agg = false) (h0 : 0 ≤ i) (hi : i < y.len) (hv : cs[i.toNat * z.size]? = some v) : OpE P fl (.index t x1 x2) [.agg cs, .int .i64 i] m c v m c := by
  obtain ⟨j, rfl⟩ : ∃ j : Nat, i = j := ⟨i.toNat, by omega⟩
  exact S.index_arr hy hk hz hg (by omega) hv
theorem S.idx_arrI [Tab P] {i : Int} {x off : Nat} (hy : ty P t = some y) (hk : y.kind = 4) (hz : ty P y.elem = some z) (h0 : 0 ≤ i) (hi : i < y.len) : OpE P fl (.indexAddr t x1 x2) [.ptr x off, .int .i64 i] m c (.ptr x (off + i.toNat * z.size)) m c := by
  obtain ⟨j, rfl⟩ : ∃ j : Nat, i = j := ⟨i.toNat, by omega⟩
  exact S.idx_arr hy hk hz (by omega)
theorem S.lss_t (h : a < b) : OpE P fl (.binOp .lss t x1 x2 yt) [.int .i64 a, .int .i64 b] m c (.bool true) m c := by have := S.lss (P := P) (fl := fl) (m := m) (c := c) (t := t) (yt := yt) (x1 := x1) (x2 := x2) (a := a) (b := b); rwa [decide_eq_true h] at this
theorem S.lss_f (h : ¬ a < b) : OpE P fl (.binOp .lss t x1 x2 yt) [.int .i64 a, .int .i64 b] m c (.bool false) m c := by have := S.lss (P := P) (fl := fl) (m := m) (c := c) (t := t) (yt := yt) (x1 := x1) (x2 := x2) (a := a) (b := b); rwa [decide_eq_false h] at this
theorem S.leq_t (h : a ≤ b) : OpE P fl (.binOp .leq t x1 x2 yt) [.int .i64 a, .int .i64 b] m c (.bool true) m c := by have := S.leq (P := P) (fl := fl) (m := m) (c := c) (t := t) (yt := yt) (x1 := x1) (x2 := x2) (a := a) (b := b); rwa [decide_eq_true h] at this
theorem S.leq_f (h : ¬ a ≤ b) : OpE P fl (.binOp .leq t x1 x2 yt) [.int .i64 a, .int .i64 b] m c (.bool false) m c := by have := S.leq (P := P) (fl := fl) (m := m) (c := c) (t := t) (yt := yt) (x1 := x1) (x2 := x2) (a := a) (b := b); rwa [decide_eq_false h] at this
theorem S.eql_t (h : a = b) : OpE P fl (.binOp .eql t x1 x2 yt) [.int .i64 a, .int .i64 b] m c (.bool true) m c := by have := S.eql (P := P) (fl := fl) (m := m) (c := c) (t := t) (yt := yt) (x1 := x1) (x2 := x2) (a := a) (b := b); rwa [decide_eq_true h] at this
theorem S.eql_f (h : ¬ a = b) : OpE P fl (.binOp .eql t x1 x2 yt) [.int .i64 a, .int .i64 b] m c (.bool false) m c := by have := S.eql (P := P) (fl := fl) (m := m) (c := c) (t := t) (yt := yt) (x1 := x1) (x2 := x2) (a := a) (b := b); rwa [decide_eq_false h] at this
theorem S.neq_t (h : ¬ a = b) : OpE P fl (.binOp .neq t x1 x2 yt) [.int .i64 a, .int .i64 b] m c (.bool true) m c := by have := S.neq (P := P) (fl := fl) (m := m) (c := c) (t := t) (yt := yt) (x1 := x1) (x2 := x2) (a := a) (b := b); rwa [decide_eq_true (show a ≠ b from h)] at this
theorem S.neq_f (h : a = b) : OpE P fl (.binOp .neq t x1 x2 yt) [.int .i64 a, .int .i64 b] m c (.bool false) m c := by have := S.neq (P := P) (fl := fl) (m := m) (c := c) (t := t) (yt := yt) (x1 := x1) (x2 := x2) (a := a) (b := b); rwa [decide_eq_false (show ¬ a ≠ b from fun k => k h)] at this
noncomputable def dB (p : Prop) : Bool := @decide p (Classical.propDecidable p)
theorem dB_no {p : Prop} (h : ¬ p) : AV.bool false = .bool (dB p) := bool_no h
theorem dB_yes {p : Prop} (h : p) : AV.bool true = .bool (dB p) := bool_yes h
theorem dB_iff {p q : Prop} {inst : Decidable p} (h : p ↔ q) : AV.bool (@decide p inst) = .bool (dB q) := by
  by_cases hp : p
  · rw [decide_eq_true hp]; exact dB_yes (h.1 hp)
  · rw [decide_eq_false hp]; exact dB_no fun hq => hp (h.2 hq)
theorem flat_append {τ : Type} (enc : τ → List Int) (L L' : List τ) : flat enc (L ++ L') = flat enc L ++ flat enc L' := by simp [flat]
theorem flat_one {τ : Type} (enc : τ → List Int) (e : τ) : flat enc [e] = (enc e).map (AV.int .i64) := by simp [flat]
theorem flat_len {τ : Type} {enc : τ → List Int} {s : Nat} (hs : ∀ e, (enc e).length = s) : ∀ L : List τ, (flat enc L).length = L.length * s
  | [] => by simp [flat]
  | e :: L => by
    have h : flat enc (e :: L) = (enc e).map (AV.int .i64) ++ flat enc L := by simp [flat]
    rw [h, List.length_append, List.length_map, hs, flat_len hs L, List.length_cons, Nat.succ_mul]; omega
end
end Go.Ev
/- The valid book of package claim: isWithin, isSpan, areStages, areWeathers, isStage, isClock, areClocks, isBook and Check answer what the chapter asks, for all arguments. -/
namespace Go.Proofs.Ytlnmcadbmpiopaa
open Go Go.Ev
set_option maxRecDepth 100000 in
theorem isWithin_can (n lo hi : Int) : CanS 0 Try.prog 93 0 [.int .i64 n, .int .i64 lo, .int .i64 hi] [] 0 fun v _ _ => v = .bool (decide (lo ≤ n ∧ n ≤ hi)) := by
  refine CanS.mk Try.func93 rfl rfl rfl ?_
  repeat' (first | refine RT.nil ?_ | refine sq_n ?_ | refine Tr.seq ?_ | refine Tr.region ?_ | refine Tr.ret ?_ | (refine RT.splitd rfl rfl (fun _ => ?_) (fun _ => ?_)) | (refine RT.goK rfl rfl rfl rfl ?_; apply Nx.of; (first | exact S.move | exact S.assign | exact S.leq | exact S.pick_tt | exact S.pick_ff)) | (refine RT.no rfl rfl rfl ?_))
  all_goals
    (first | refine rt_go rfl ?_)
    simp [*, retV]
theorem isWithin_at (fl : Nat) (n lo hi : Int) (H : T AObj) (c : Nat) : OkAt 0 Try.prog fl 93 [.int .i64 n, .int .i64 lo, .int .i64 hi] H c (.bool (decide (lo ≤ n ∧ n ≤ hi))) H c :=
  (isWithin_can n lo hi).pure (.bool _) (.plain fun _ => rfl) fl
set_option maxRecDepth 100000 in
theorem isSpan_can (lo hi a b d : Int) (h : 0 ≤ a ∧ b ≤ 100000) : CanS 0 Try.prog 114 0 [.agg [.int .i64 lo, .int .i64 hi], .int .i64 a, .int .i64 b, .int .i64 d] [] 0 fun v _ _ => v = .bool (decide ((a ≤ lo ∧ lo ≤ b) ∧ (lo ≤ hi ∧ hi ≤ b) ∧ hi - lo ≤ d)) := by
  refine CanS.mk Try.func114 rfl rfl rfl ?_
  repeat' (first | refine RT.nil ?_ | refine sq_n ?_ | refine Tr.seq ?_ | refine Tr.region ?_ | refine Tr.ret ?_ | (refine RT.splitd rfl rfl (fun _ => ?_) (fun _ => ?_)) | (refine RT.call rfl rfl rfl (isWithin_at _ _ _ _ _ _) rfl rfl (Nat.le_refl _) ?_) | (refine RT.goK rfl rfl rfl rfl ?_; apply Nx.of; (first | exact S.move | exact S.assign | exact S.load1c rfl rfl rfl rfl | exact S.fieldAddr rfl rfl rfl | exact S.leq | exact S.pick_tt | exact S.pick_ff | exact S.box | exact S.sub (by unfold In64; omega))) | (refine RT.no rfl rfl rfl ?_))
  all_goals
    (first | refine rt_go rfl ?_)
    simp [*, retV]
theorem isSpan_at (fl : Nat) (lo hi a b d : Int) (h : 0 ≤ a ∧ b ≤ 100000) (H : T AObj) (c : Nat) : OkAt 0 Try.prog fl 114 [.agg [.int .i64 lo, .int .i64 hi], .int .i64 a, .int .i64 b, .int .i64 d] H c (.bool (decide ((a ≤ lo ∧ lo ≤ b) ∧ (lo ≤ hi ∧ hi ≤ b) ∧ hi - lo ≤ d))) H c :=
  (isSpan_can lo hi a b d h).pure (.bool _) (.plain fun _ => rfl) fl
structure CBook where
  ns : Nat
  due : Nat → Int
  dl : Nat → Int
  dh : Nat → Int
  rl : Nat → Int
  rh : Nat → Int
  sl : Nat → Int
  sh : Nat → Int
  wea : Int
  cost : Nat → Int
  nc : Nat
  ck : Nat → Int
  rd : Nat → Int
  er : Nat → Int
  rate : Int
def stE (B : CBook) (i : Nat) : List Int := [B.due i, B.dl i, B.dh i, B.rl i, B.rh i, B.sl i, B.sh i]
def before (B : CBook) : Nat → Int
  | 0 => 0
  | k + 1 => B.due k
def stOk (B : CBook) (i : Nat) : Prop := (before B i + 1 ≤ B.due i ∧ B.due i ≤ 300) ∧ ((1 ≤ B.dl i ∧ B.dl i ≤ 90) ∧ (B.dl i ≤ B.dh i ∧ B.dh i ≤ 90) ∧ B.dh i - B.dl i ≤ 2) ∧
  ((0 ≤ B.rl i ∧ B.rl i ≤ 30) ∧ (B.rl i ≤ B.rh i ∧ B.rh i ≤ 30) ∧ B.rh i - B.rl i ≤ 2) ∧ ((0 ≤ B.sl i ∧ B.sl i ≤ 20) ∧ (B.sl i ≤ B.sh i ∧ B.sh i ≤ 20) ∧ B.sh i - B.sl i ≤ 1)
theorem before_bd (B : CBook) : ∀ k, (∀ i, i < k → stOk B i) → 0 ≤ before B k ∧ before B k ≤ 300
  | 0, _ => by simp [before]
  | k + 1, h => by
    have h1 := before_bd B k fun i hi => h i (by omega)
    have h2 := h k (by omega)
    unfold stOk at h2
    simp only [before]
    omega
set_option maxRecDepth 100000 in
theorem areStages_can (B : CBook) (a : AV) (ha : IsSl a B.ns 0) : CanS 0 Try.prog 90 1 [a] [(0, some (.ro (flat (stE B) (List.range B.ns))))] 1 fun v _ _ => v = .bool (dB ((1 ≤ B.ns ∧ B.ns ≤ 3) ∧ ∀ i, i < B.ns → stOk B i)) := by
  refine CanS.mk Try.func90 rfl rfl rfl ?_
  repeat' (first | refine RT.nil ?_ | refine sq_n ?_ | refine Tr.seq ?_ | refine Tr.region ?_ | refine Tr.cond_d rfl (fun _ => ?_) (fun _ => ?_) | refine Tr.skip ?_ | refine Tr.ret ?_ | refine sq_r ?_ | refine Tr.block ?_ | (refine RT.call rfl rfl rfl (isWithin_at _ _ _ _ _ _) rfl rfl (Nat.le_refl _) ?_) | (refine RT.goK rfl rfl rfl rfl ?_; apply Nx.of; (first | exact S.move | exact S.assign | exact S.not_d)) | (refine RT.goK rfl rfl rfl rfl ?_; apply Nx.of; (first | exact S.len_sl rfl rfl rfl (by assumption))))
  · (first | refine rt_go rfl ?_)
    refine dB_no fun h => ?_
    omega
  · refine Tr.loop (fun k : Nat => stL Try.f90.ntmps [] [(0, a), (2, .bool false), (3, .int .i64 (before B k)), (10, a), (11, .int .i64 B.ns), (12, .int .i64 k)] [(0, some (.ro (flat (stE B) (List.range B.ns))))] 1) (fun k => k ≤ B.ns ∧ ∀ i, i < k → stOk B i) (fun k => B.ns - k) 0 ⟨Nat.zero_le _, fun i hi => absurd hi (Nat.not_lt_zero i)⟩ (by (refine Wk.same (by decide) (by decide) (by decide) (by decide) ?_ ?_ rfl; all_goals ((try simp only [allL, allM]); (repeat' (first | exact trivial | refine And.intro ?_ ?_)); all_goals (first | rfl | exact IsSl.ren (by assumption) (nm_lt (by decide)) | exact ren_ro _ _ _ | decide)))) (fun k hk => ?_)
    obtain ⟨hk, hall⟩ := hk
    have hb := before_bd B k hall
    repeat' (first | refine RT.nil ?_ | refine sq_n ?_ | refine Tr.seq ?_ | refine Tr.region ?_ | refine Tr.cond_t rfl ?_ | refine Tr.cond_d rfl (fun _ => ?_) (fun _ => ?_) | refine Tr.skip ?_ | refine Tr.ret ?_ | refine sq_r ?_ | refine Tr.exit ?_ | refine sq_x ?_ | refine Tr.block ?_ | refine blk_n ?_ | refine blk_r ?_ | refine blk_hit rfl ?_ | refine lp_r ?_ | refine lp_x ?_ | (refine RT.splitd rfl rfl (fun _ => ?_) (fun _ => ?_)) | (refine RT.call rfl rfl rfl (isWithin_at _ _ _ _ _ _) rfl rfl (Nat.le_refl _) ?_) | (refine RT.call rfl rfl rfl (isSpan_at _ _ _ _ _ _ (by omega) _ _) rfl rfl (Nat.le_refl _) ?_) | (refine RT.goK rfl rfl rfl rfl ?_; apply Nx.of; (first | exact S.move | exact S.assign | exact S.load1c rfl rfl rfl rfl | exact S.loadNc rfl rfl rfl rfl | exact S.fieldAddr rfl rfl rfl | exact S.lss | exact S.not_d | exact S.pick_tt | exact S.pick_ff | exact S.alloc rfl | exact S.add_one (by omega) | exact S.add (by unfold In64; omega))) | (refine RT.goK0 rfl rfl rfl ?_; apply Nx.of; (first | exact S.store rfl rfl rfl rfl rfl rfl)) | (refine RT.goK rfl rfl rfl rfl ?_; apply Nx.of; (first | exact S.idx_sl rfl rfl rfl (by assumption) (by omega) | exact S.rowN0 rfl rfl rfl (fun _ => rfl) (range_at (by omega)) rfl)) | (refine RT.no rfl rfl rfl ?_))
    · (first | refine rt_go rfl ?_)
      refine dB_no fun h => ?_
      have := h.2 k (by omega)
      unfold stOk at this
      omega
    · (first | refine rt_go rfl ?_)
      refine dB_no fun h => ?_
      have := h.2 k (by omega)
      unfold stOk at this
      omega
    · (first | refine rt_go rfl ?_)
      refine dB_no fun h => ?_
      have := h.2 k (by omega)
      unfold stOk at this
      omega
    · (first | refine rt_go rfl ?_)
      refine dB_no fun h => ?_
      have := h.2 k (by omega)
      unfold stOk at this
      omega
    · refine lp_n (k + 1) ⟨by omega, fun i hi => ?_⟩ (by omega) (by (refine Wk.same (by decide) (by decide) (by decide) (by decide) ?_ ?_ rfl; all_goals ((try simp only [allL, allM]); (repeat' (first | exact trivial | refine And.intro ?_ ?_)); all_goals (first | rfl | exact IsSl.ren (by assumption) (nm_lt (by decide)) | exact ren_ro _ _ _ | decide))))
      rcases Nat.lt_succ_iff_lt_or_eq.1 hi with h | rfl
      · exact hall i h
      · unfold stOk; omega
    · (first | refine rt_go rfl ?_)
      refine dB_yes ⟨by omega, fun i hi => hall i (by omega)⟩
theorem areStages_at (B : CBook) (a : AV) (ha : IsSl a B.ns 0) {m : List (Nat × Option AObj)} {c : Nat} (hm : lookM m 0 = some (.ro (flat (stE B) (List.range B.ns)))) (hc : 1 ≤ c) (fl : Nat) :
    OkAt 0 Try.prog fl 90 [a] (ofM m) c (.bool (dB ((1 ≤ B.ns ∧ B.ns ≤ 3) ∧ ∀ i, i < B.ns → stOk B i))) (ofM m) c :=
  (areStages_can B a ha).pure (.bool _) (.nm hc (by omega) ⟨⟨hm, ren_ro _ _ _, by omega⟩, trivial⟩ (congrArg (fun v => [v]) (ha.ren (nm_lt (by omega))))) fl
def ckE (B : CBook) (i : Nat) : List Int := [B.ck i, B.rd i, B.er i]
def bk (B : CBook) (a1 a2 : AV) : AV := .agg [a1, .int .i64 B.wea, .int .i64 (B.cost 0), .int .i64 (B.cost 1), .int .i64 (B.cost 2), a2, .int .i64 B.rate]
abbrev oSt (B : CBook) : AObj := .ro (flat (stE B) (List.range B.ns))
abbrev oCk (B : CBook) : AObj := .ro (flat (ckE B) (List.range B.nc))
theorem bk_ren {B : CBook} {a1 a2 : AV} (h1 : IsSl a1 B.ns 0) (h2 : IsSl a2 B.nc 1) {σ : Nat → Nat} (e1 : σ 0 = 0) (e2 : σ 1 = 1) : (bk B a1 a2).ren σ = bk B a1 a2 := by simp only [bk, AV.ren, AV.rens, h1.ren e1, h2.ren e2]
theorem bkc_ren {B : CBook} {a1 a2 : AV} (h1 : IsSl a1 B.ns 0) (h2 : IsSl a2 B.nc 1) {σ : Nat → Nat} (e1 : σ 0 = 0) (e2 : σ 1 = 1) : (AObj.cells (bk B a1 a2).cells).ren σ = .cells (bk B a1 a2).cells := by simp only [bk, AObj.ren, AV.cells, AV.ren, AV.rens, h1.ren e1, h2.ren e2]
structure BkIn (B : CBook) (a1 a2 : AV) (m : List (Nat × Option AObj)) (c : Nat) : Prop where
  h1 : IsSl a1 B.ns 0
  h2 : IsSl a2 B.nc 1
  m1 : lookM m 0 = some (oSt B)
  m2 : lookM m 1 = some (oCk B)
  hc : 2 ≤ c
theorem BkIn.entry {B : CBook} {a1 a2 : AV} {m : List (Nat × Option AObj)} {c : Nat} (h : BkIn B a1 a2 m c) (vs : List AV) (hv : Pls vs) : Entry 0 (ofM m) c (bk B a1 a2 :: vs) [(0, some (oSt B)), (1, some (oCk B))] 2 (bk B a1 a2 :: vs) :=
  .nm h.hc (by omega) ⟨⟨h.m1, ren_ro _ _ _, by omega⟩, ⟨h.m2, ren_ro _ _ _, by omega⟩, trivial⟩ (by
    show AV.ren _ _ :: AV.rens _ vs = _
    rw [hv]
    simp only [bk, AV.ren, AV.rens, h.h1.ren (nm_lt (show 0 < 2 by omega)), h.h2.ren (nm_lt (show 1 < 2 by omega))])
set_option maxRecDepth 100000 in
theorem isStage_can (B : CBook) (a1 a2 : AV) (h1 : IsSl a1 B.ns 0) (n : Int) (hn : B.ns ≤ 9223372036854775807) : CanS 0 Try.prog 56 2 [bk B a1 a2, .int .i64 n] [(0, some (oSt B)), (1, some (oCk B))] 2 fun v _ _ => v = .bool (decide (0 ≤ n ∧ n ≤ (B.ns : Int) - 1)) := by
  refine CanS.mk Try.func56 rfl rfl rfl ?_
  repeat' (first | refine RT.nil ?_ | refine sq_n ?_ | refine Tr.seq ?_ | refine Tr.region ?_ | refine Tr.ret ?_ | (refine RT.call rfl rfl rfl (isWithin_at _ _ _ _ _ _) rfl rfl (Nat.le_refl _) ?_) | (refine RT.goK rfl rfl rfl rfl ?_; apply Nx.of; (first | exact S.move | exact S.assign | exact S.load1c rfl rfl rfl rfl | exact S.fieldAddr rfl rfl rfl | exact S.box | exact S.sub (by unfold In64; omega))) | (refine RT.goK rfl rfl rfl rfl ?_; apply Nx.of; (first | exact S.len_sl rfl rfl rfl (by assumption))))
  (first | refine rt_go rfl ?_)
  rfl
theorem isStage_at {B : CBook} {a1 a2 : AV} {m : List (Nat × Option AObj)} {c : Nat} (h : BkIn B a1 a2 m c) (hn : B.ns ≤ 9223372036854775807) (fl : Nat) (n : Int) : OkAt 0 Try.prog fl 56 [bk B a1 a2, .int .i64 n] (ofM m) c (.bool (decide (0 ≤ n ∧ n ≤ (B.ns : Int) - 1))) (ofM m) c :=
  (isStage_can B a1 a2 h.h1 n hn).pure (.bool _) (h.entry _ fun _ => rfl) fl
def weaOk (B : CBook) : Prop := (1 ≤ B.wea ∧ B.wea ≤ 7) ∧ (0 ≤ B.cost 0 ∧ B.cost 0 ≤ 30) ∧ (0 ≤ B.cost 1 ∧ B.cost 1 ≤ 30) ∧ (0 ≤ B.cost 2 ∧ B.cost 2 ≤ 30)
set_option maxRecDepth 100000 in
theorem areWeathers_can (B : CBook) (a1 a2 : AV) : CanS 0 Try.prog 91 2 [bk B a1 a2] [(0, some (oSt B)), (1, some (oCk B))] 2 fun v _ _ => v = .bool (dB (weaOk B)) := by
  refine CanS.mk Try.func91 rfl rfl rfl ?_
  repeat' (first | refine RT.nil ?_ | refine sq_n ?_ | refine Tr.seq ?_ | refine Tr.region ?_ | refine Tr.cond_d rfl (fun _ => ?_) (fun _ => ?_) | refine Tr.skip ?_ | refine Tr.ret ?_ | refine sq_r ?_ | refine Tr.block ?_ | (refine RT.call rfl rfl rfl (isWithin_at _ _ _ _ _ _) rfl rfl (Nat.le_refl _) ?_) | (refine RT.goK rfl rfl rfl rfl ?_; apply Nx.of; (first | exact S.move | exact S.assign | exact S.load1c rfl rfl rfl rfl | exact S.loadNc rfl rfl rfl rfl | exact S.fieldAddr rfl rfl rfl | exact S.not_d | exact S.box)))
  · (first | refine rt_go rfl ?_)
    exact dB_no fun h => absurd h.1 (by assumption)
  · refine Tr.unroll 4 ?_
    repeat' (first | refine RT.nil ?_ | refine sq_n ?_ | refine Tr.seq ?_ | refine Tr.region ?_ | refine Tr.cond_t rfl ?_ | refine Tr.cond_f rfl ?_ | refine Tr.cond_d rfl (fun _ => ?_) (fun _ => ?_) | refine Tr.skip ?_ | refine Tr.ret ?_ | refine sq_r ?_ | refine Tr.exit ?_ | refine sq_x ?_ | refine Tr.block ?_ | refine blk_n ?_ | refine blk_r ?_ | refine blk_hit rfl ?_ | refine un_n ?_ | refine un_r ?_ | refine un_x ?_ | (refine RT.call rfl rfl rfl (isWithin_at _ _ _ _ _ _) rfl rfl (Nat.le_refl _) ?_) | (refine RT.goK rfl rfl rfl rfl ?_; apply Nx.of; (first | exact S.lss_t (by decide) | exact S.lss_f (by decide) | exact S.index_arrI rfl rfl rfl rfl (by decide) (by decide) rfl)) | (refine RT.goK rfl rfl rfl rfl ?_; apply Nx.of; (first | exact S.move | exact S.assign | exact S.not_d | exact S.add (by unfold In64; omega))))
    all_goals (first | refine rt_go rfl ?_)
    all_goals first | exact dB_no fun h => (by unfold weaOk at h; simp_all; done) | exact dB_yes (by unfold weaOk; simp_all)
set_option maxRecDepth 100000 in
theorem areWeathers_at {B : CBook} {a1 a2 : AV} {m : List (Nat × Option AObj)} {c : Nat} (h : BkIn B a1 a2 m c) (fl : Nat) : OkAt 0 Try.prog fl 91 [bk B a1 a2] (ofM m) c (.bool (dB (weaOk B))) (ofM m) c :=
  (areWeathers_can B a1 a2).pure (.bool _) (h.entry _ fun _ => rfl) fl
def ckOk (B : CBook) (s r e : Int) : Prop := (0 ≤ s ∧ s ≤ (B.ns : Int) - 1) ∧ (0 ≤ r ∧ r ≤ 600) ∧ 0 ≤ e ∧ e ≤ 5
set_option maxRecDepth 100000 in
theorem isClock_can (B : CBook) (a1 a2 : AV) (h1 : IsSl a1 B.ns 0) (h2 : IsSl a2 B.nc 1) (hn : B.ns ≤ 9223372036854775807) (s r e : Int) : CanS 0 Try.prog 79 2 [bk B a1 a2, .agg [.int .i64 s, .int .i64 r, .int .i64 e]] [(0, some (oSt B)), (1, some (oCk B))] 2 fun v _ _ => v = .bool (dB (ckOk B s r e)) := by
  refine CanS.mk Try.func79 rfl rfl rfl ?_
  repeat' (first | refine RT.nil ?_ | refine sq_n ?_ | refine Tr.seq ?_ | refine Tr.region ?_ | refine Tr.ret ?_ | (refine RT.splitd rfl rfl (fun _ => ?_) (fun _ => ?_)) | (refine RT.call rfl rfl rfl (isStage_at ⟨by assumption, by assumption, rfl, rfl, by decide⟩ (by assumption) _ _) rfl rfl (Nat.le_refl _) ?_) | (refine RT.call rfl rfl rfl (isWithin_at _ _ _ _ _ _) rfl rfl (Nat.le_refl _) ?_) | (refine RT.goK rfl rfl rfl rfl ?_; apply Nx.of; (first | exact S.move | exact S.assign | exact S.load1c rfl rfl rfl rfl | exact S.loadNc rfl rfl rfl rfl | exact S.fieldAddr rfl rfl rfl | exact S.pick_tt | exact S.pick_ff | exact S.box)) | (refine RT.no rfl rfl rfl ?_))
  all_goals (first | refine rt_go rfl ?_)
  all_goals first | exact dB_no fun h => (by unfold ckOk at h; omega) | (refine dB_iff ?_; unfold ckOk; simp_all)
theorem isClock_at {B : CBook} {a1 a2 : AV} {m : List (Nat × Option AObj)} {c : Nat} (h : BkIn B a1 a2 m c) (hn : B.ns ≤ 9223372036854775807) (s r e : Int) (fl : Nat) : OkAt 0 Try.prog fl 79 [bk B a1 a2, .agg [.int .i64 s, .int .i64 r, .int .i64 e]] (ofM m) c (.bool (dB (ckOk B s r e))) (ofM m) c :=
  (isClock_can B a1 a2 h.h1 h.h2 hn s r e).pure (.bool _) (h.entry _ fun _ => rfl) fl
def cksOk (B : CBook) : Prop := B.nc ≤ 4 ∧ ∀ i, i < B.nc → ckOk B (B.ck i) (B.rd i) (B.er i)
set_option maxRecDepth 100000 in
theorem areClocks_can (B : CBook) (a1 a2 : AV) (h1 : IsSl a1 B.ns 0) (h2 : IsSl a2 B.nc 1) (hn : B.ns ≤ 9223372036854775807) : CanS 0 Try.prog 92 2 [bk B a1 a2] [(0, some (oSt B)), (1, some (oCk B))] 2 fun v _ _ => v = .bool (dB (cksOk B)) := by
  refine CanS.mk Try.func92 rfl rfl rfl ?_
  repeat' (first | refine RT.nil ?_ | refine sq_n ?_ | refine Tr.seq ?_ | refine Tr.region ?_ | refine Tr.cond_d rfl (fun _ => ?_) (fun _ => ?_) | refine Tr.skip ?_ | refine Tr.ret ?_ | refine sq_r ?_ | refine Tr.block ?_ | (refine RT.goK rfl rfl rfl rfl ?_; apply Nx.of; (first | exact S.move | exact S.assign | exact S.load1c rfl rfl rfl rfl | exact S.fieldAddr rfl rfl rfl | exact S.gtr | exact S.box)) | (refine RT.goK rfl rfl rfl rfl ?_; apply Nx.of; (first | exact S.len_sl rfl rfl rfl (by assumption))))
  · (first | refine rt_go rfl ?_)
    refine dB_no fun h => ?_
    unfold cksOk at h
    omega
  · refine Tr.loop (fun k : Nat => stL Try.f92.ntmps [] [(0, bk B a1 a2), (1, .ptr 2 0), (2, .bool false), (10, a2), (11, .int .i64 B.nc), (12, .int .i64 k)] [(2, some (.cells (bk B a1 a2).cells)), (0, some (oSt B)), (1, some (oCk B))] 3) (fun k => k ≤ B.nc ∧ ∀ i, i < k → ckOk B (B.ck i) (B.rd i) (B.er i)) (fun k => B.nc - k) 0 ⟨Nat.zero_le _, fun i hi => absurd hi (Nat.not_lt_zero i)⟩ (by (refine Wk.same (by decide) (by decide) (by decide) (by decide) ?_ ?_ rfl; all_goals ((try simp only [allL, allM]); (repeat' (first | exact trivial | refine And.intro ?_ ?_)); all_goals (first | rfl | exact IsSl.ren (by assumption) (nm_lt (by decide)) | exact ren_ro _ _ _ | exact bk_ren h1 h2 (nm_lt (by decide)) (nm_lt (by decide)) | exact bkc_ren h1 h2 (nm_lt (by decide)) (nm_lt (by decide)) | decide)))) (fun k hk => ?_)
    obtain ⟨hk, hall⟩ := hk
    repeat' (first | refine RT.nil ?_ | refine sq_n ?_ | refine Tr.seq ?_ | refine Tr.region ?_ | refine Tr.cond_d rfl (fun _ => ?_) (fun _ => ?_) | refine Tr.skip ?_ | refine Tr.ret ?_ | refine sq_r ?_ | refine Tr.exit ?_ | refine sq_x ?_ | refine Tr.block ?_ | refine blk_n ?_ | refine blk_r ?_ | refine blk_hit rfl ?_ | refine lp_r ?_ | refine lp_x ?_ | (refine RT.call rfl rfl rfl (isClock_at ⟨by assumption, by assumption, rfl, rfl, by decide⟩ (by assumption) _ _ _ _) rfl rfl (Nat.le_refl _) ?_) | (refine RT.goK rfl rfl rfl rfl ?_; apply Nx.of; (first | exact S.move | exact S.assign | exact S.loadNc rfl rfl rfl rfl | exact S.lss | exact S.not_d | exact S.alloc rfl | exact S.add_one (by omega))) | (refine RT.goK0 rfl rfl rfl ?_; apply Nx.of; (first | exact S.store rfl rfl rfl rfl rfl rfl)) | (refine RT.goK rfl rfl rfl rfl ?_; apply Nx.of; (first | exact S.idx_sl rfl rfl rfl (by assumption) (by omega) | exact S.rowN0 rfl rfl rfl (fun _ => rfl) (range_at (by omega)) rfl)))
    · (first | refine rt_go rfl ?_)
      refine dB_no fun h => ?_
      exact absurd (h.2 k (by omega)) (by assumption)
    · refine lp_n (k + 1) ⟨by omega, fun i hi => ?_⟩ (by omega) (by (refine Wk.same (by decide) (by decide) (by decide) (by decide) ?_ ?_ rfl; all_goals ((try simp only [allL, allM]); (repeat' (first | exact trivial | refine And.intro ?_ ?_)); all_goals (first | rfl | exact IsSl.ren (by assumption) (nm_lt (by decide)) | exact ren_ro _ _ _ | exact bk_ren h1 h2 (nm_lt (by decide)) (nm_lt (by decide)) | exact bkc_ren h1 h2 (nm_lt (by decide)) (nm_lt (by decide)) | decide))))
      rcases Nat.lt_succ_iff_lt_or_eq.1 hi with h | rfl
      · exact hall i h
      · exact Classical.not_not.1 (by assumption)
    · (first | refine rt_go rfl ?_)
      exact dB_yes ⟨by omega, fun i hi => hall i (by omega)⟩
theorem areClocks_at {B : CBook} {a1 a2 : AV} {m : List (Nat × Option AObj)} {c : Nat} (h : BkIn B a1 a2 m c) (hn : B.ns ≤ 9223372036854775807) (fl : Nat) : OkAt 0 Try.prog fl 92 [bk B a1 a2] (ofM m) c (.bool (dB (cksOk B))) (ofM m) c :=
  (areClocks_can B a1 a2 h.h1 h.h2 hn).pure (.bool _) (h.entry _ fun _ => rfl) fl
def stsOk (B : CBook) : Prop := (1 ≤ B.ns ∧ B.ns ≤ 3) ∧ ∀ i, i < B.ns → stOk B i
def bkOk (B : CBook) : Prop := stsOk B ∧ weaOk B ∧ cksOk B ∧ 0 ≤ B.rate ∧ B.rate ≤ 99
set_option maxRecDepth 100000 in
theorem isBook_can (B : CBook) (a1 a2 : AV) (h1 : IsSl a1 B.ns 0) (h2 : IsSl a2 B.nc 1) (hn : B.ns ≤ 9223372036854775807) : CanS 0 Try.prog 52 2 [bk B a1 a2] [(0, some (oSt B)), (1, some (oCk B))] 2 fun v _ _ => v = .bool (dB (bkOk B)) := by
  refine CanS.mk Try.func52 rfl rfl rfl ?_
  repeat' (first | refine RT.nil ?_ | refine sq_n ?_ | refine Tr.seq ?_ | refine Tr.region ?_ | refine Tr.ret ?_ | (refine RT.splitd rfl rfl (fun _ => ?_) (fun _ => ?_)) | (refine RT.call rfl rfl rfl (areStages_at B _ (by assumption) rfl (by decide) _) rfl rfl (Nat.le_refl _) ?_) | (refine RT.call rfl rfl rfl (areWeathers_at ⟨by assumption, by assumption, rfl, rfl, by decide⟩ _) rfl rfl (Nat.le_refl _) ?_) | (refine RT.call rfl rfl rfl (areClocks_at ⟨by assumption, by assumption, rfl, rfl, by decide⟩ (by assumption) _) rfl rfl (Nat.le_refl _) ?_) | (refine RT.call rfl rfl rfl (isWithin_at _ _ _ _ _ _) rfl rfl (Nat.le_refl _) ?_) | (refine RT.goK rfl rfl rfl rfl ?_; apply Nx.of; (first | exact S.move | exact S.assign | exact S.load1c rfl rfl rfl rfl | exact S.loadNc rfl rfl rfl rfl | exact S.fieldAddr rfl rfl rfl | exact S.pick_tt | exact S.pick_ff | exact S.box)) | (refine RT.no rfl rfl rfl ?_))
  all_goals (first | refine rt_go rfl ?_)
  all_goals first | exact dB_no fun h => (by unfold bkOk stsOk at h; simp_all) | (refine dB_iff ?_; unfold bkOk stsOk; simp_all)
theorem isBook_at {B : CBook} {a1 a2 : AV} {m : List (Nat × Option AObj)} {c : Nat} (h : BkIn B a1 a2 m c) (hn : B.ns ≤ 9223372036854775807) (fl : Nat) : OkAt 0 Try.prog fl 52 [bk B a1 a2] (ofM m) c (.bool (dB (bkOk B))) (ofM m) c :=
  (isBook_can B a1 a2 h.h1 h.h2 hn).pure (.bool _) (h.entry _ fun _ => rfl) fl
noncomputable def ckV (B : CBook) : Int := bif dB (bkOk B) then 0 else 60
set_option maxRecDepth 100000 in
theorem Check_can (B : CBook) (a1 a2 : AV) (h1 : IsSl a1 B.ns 0) (h2 : IsSl a2 B.nc 1) (hn : B.ns ≤ 9223372036854775807) : CanS 0 Try.prog 11 2 [bk B a1 a2] [(0, some (oSt B)), (1, some (oCk B))] 2 fun v _ _ => v = .int .i64 (ckV B) := by
  refine CanS.mk Try.func11 rfl rfl rfl ?_
  repeat' (first | refine RT.nil ?_ | refine sq_n ?_ | refine Tr.seq ?_ | refine Tr.region ?_ | refine Tr.cond_d rfl (fun _ => ?_) (fun _ => ?_) | refine Tr.skip ?_ | refine Tr.ret ?_ | refine sq_r ?_ | (refine RT.call rfl rfl rfl (isBook_at ⟨by assumption, by assumption, rfl, rfl, by decide⟩ (by assumption) _) rfl rfl (Nat.le_refl _) ?_) | (refine RT.goK rfl rfl rfl rfl ?_; apply Nx.of; (first | exact S.assign | exact S.loadNc rfl rfl rfl rfl | exact S.not_d | exact S.box)))
  all_goals (first | refine rt_go rfl ?_)
  all_goals (unfold ckV dB; simp_all [retV])
theorem Check_at {B : CBook} {a1 a2 : AV} {m : List (Nat × Option AObj)} {c : Nat} (h : BkIn B a1 a2 m c) (hn : B.ns ≤ 9223372036854775807) (fl : Nat) : OkAt 0 Try.prog fl 11 [bk B a1 a2] (ofM m) c (.int .i64 (ckV B)) (ofM m) c :=
  (Check_can B a1 a2 h.h1 h.h2 hn).pure (.int _ _) (h.entry _ fun _ => rfl) fl
end Go.Proofs.Ytlnmcadbmpiopaa
/- Entries under other names; maps; heavy operations of open regions. -/
namespace Go.Ev
open Go
def tau (xs : List Nat) (c y : Nat) : Nat := match xs[y]? with
  | some x => x
  | none => c + (y - xs.length)
theorem tau_ge {xs : List Nat} {c y : Nat} (h : xs.length ≤ y) : tau xs c y = c + (y - xs.length) := by
  unfold tau; rw [List.getElem?_eq_none_iff.2 h]
section
variable {G : Nat} {P : Program} {fl cb c c' : Nat} {m m' : List (Nat × Option AObj)} {l : List (Nat × AV)} {n : Nat} {dfs : List Nat} {y z : Ty} {t : Nat} {x1 x2 x3 : Operand} {v : AV}
theorem Entry.ren {H : T AObj} {m0 : List (Nat × Option AObj)} {c0 : Nat} {args0 : List AV} (τ : Nat → Nat) (hg : ∀ g, g < G → τ g = g) (hf : ∀ y, c0 ≤ y → c ≤ τ y) (hm : allM (fun y o => H.get (τ y) = some (o.ren τ)) m0)
    (hi : ∀ x y o o', lookM m0 x = some o → lookM m0 y = some o' → x ≠ y → τ x ≠ τ y ∨ ∃ n m, o.share = some (false, n) ∧ o'.share = some (false, m)) : Entry G H c (AV.rens τ args0) m0 c0 args0 := by
  intro ρ w us hH hv
  refine ⟨fun x => ρ (τ x), hH.ren τ (fun x o hx => allM_look hm x o (by rw [← ofM_get]; exact hx)) (fun x y o o' hx hy => hi x y o o' (by rw [← ofM_get]; exact hx) (by rw [← ofM_get]; exact hy)) (fun x hx => hf x hx) hg, (VRs_ren ρ τ args0 us).1 hv⟩
abbrev Wnd := Nat × Nat × Option Nat
def winR (ρ : Rho) (W : List Wnd) : Rho := fun y => match W[y]? with
  | some (x, off, cp) => (ρ x).map fun p => ⟨p.b, p.o + off, cp.getD p.k⟩
  | none => none
def winM : List (List AV) → Nat → List (Nat × Option AObj)
  | [], _ => []
  | cs :: CS, i => (i, some (.ro cs)) :: winM CS (i + 1)
def winOk (H : T AObj) : List Wnd → List (List AV) → Prop
  | [], [] => True
  | (x, off, _) :: W, cs :: CS => (∃ o, H.get x = some o ∧ (cs = [] ∨ ∃ ca, cellsOf o = some ca ∧ cut ca off cs.length = some cs)) ∧ Pls cs ∧ winOk H W CS
  | _, _ => False
theorem winM_look : ∀ {CS : List (List AV)} {i y : Nat} {o : AObj}, lookM (winM CS i) y = some o → ∃ j cs, y = i + j ∧ CS[j]? = some cs ∧ o = .ro cs
  | [], i, y, o, h => by cases h
  | cs :: CS, i, y, o, h => by
    rw [winM, lookM, Bool.cond_eq_ite] at h
    split at h
    · rename_i e
      have e' : y = i := by simpa using e
      cases h
      exact ⟨0, cs, by omega, rfl, rfl⟩
    · obtain ⟨j, cs', h1, h2, h3⟩ := winM_look h
      exact ⟨j + 1, cs', by omega, by simpa using h2, h3⟩
theorem winOk_at {H : T AObj} : ∀ {W : List Wnd} {CS : List (List AV)} {j : Nat} {cs : List AV}, winOk H W CS → CS[j]? = some cs → ∃ x off cp, W[j]? = some (x, off, cp) ∧ (∃ o, H.get x = some o ∧ (cs = [] ∨ ∃ ca, cellsOf o = some ca ∧ cut ca off cs.length = some cs)) ∧ Pls cs
  | [], [], j, cs, _, h => by simp at h
  | [], _ :: _, j, cs, h, _ => h.elim
  | _ :: _, [], j, cs, h, _ => h.elim
  | (x, off, cp) :: W, cs0 :: CS, 0, cs, h, hj => by
    simp only [List.getElem?_cons_zero, Option.some.injEq] at hj
    subst hj
    exact ⟨x, off, cp, rfl, h.1, h.2.1⟩
  | (x, off, cp) :: W, cs0 :: CS, j + 1, cs, h, hj => by
    obtain ⟨x', off', cp', h1, h2⟩ := winOk_at h.2.2 (show CS[j]? = some cs by simpa using hj)
    exact ⟨x', off', cp', by simpa using h1, h2⟩
theorem Pls.vrs {ρ ρ1 : Rho} (hf : ∃ x, ρ x = none) : ∀ {l : List AV} {us : List Value}, Pls l → VRs ρ l us → VRs ρ1 l us := fun {l us} hp h => by
  obtain ⟨x, hx⟩ := hf
  have h1 : VRs (fun _ => none) l us := by
    have := (VRs_ren ρ (fun _ => x) l us).1 (by rw [hp]; exact h)
    simpa only [hx] using this
  exact h1.mono (fun _ _ h => by cases h)
def ArgW (W : List Wnd) (v v0 : AV) : Prop := ∀ ρ u, (∃ x, ρ x = none) → VR ρ v u → VR (winR ρ W) v0 u
theorem ArgW.pl {W : List Wnd} {v : AV} (h : Pl v) : ArgW W v v := fun _ _ hf hv => h.vr hf hv
theorem ArgW.gs {W : List Wnd} {x y n : Nat} (h : W[y]? = some (x, 0, none)) : ArgW W (.gs x n) (.gs y n) := fun ρ u _ hv => by
  simp only [VR] at hv ⊢
  obtain ⟨p, h2, h3, h4⟩ := hv
  exact ⟨⟨p.b, p.o + 0, p.k⟩, by simp [winR, h, h2], h3, h4⟩
theorem ArgW.sl {W : List Wnd} {x y n off k : Nat} (h : W[y]? = some (x, off, some k)) (hk : n ≤ k) : ArgW W (.sl x off n k) (.gs y n) := fun ρ u _ hv => by
  simp only [VR] at hv ⊢
  obtain ⟨p, h2, h3⟩ := hv
  exact ⟨⟨p.b, p.o + off, k⟩, by simp [winR, h, h2], h3, hk⟩
def ArgsW (W : List Wnd) : List AV → List AV → Prop
  | [], [] => True
  | v :: l, v0 :: l0 => ArgW W v v0 ∧ ArgsW W l l0
  | _, _ => False
theorem ArgsW.vrs {W : List Wnd} {ρ : Rho} (hf : ∃ x, ρ x = none) : ∀ {l l0 : List AV} {us : List Value}, ArgsW W l l0 → VRs ρ l us → VRs (winR ρ W) l0 us
  | [], [], us, _, h => by simpa only [VRs] using h
  | [], _ :: _, us, h, _ => h.elim
  | _ :: _, [], us, h, _ => h.elim
  | v :: l, v0 :: l0, us, h, hv => by
    obtain ⟨u, us', rfl, h1, h2⟩ := hv.cons_inv
    exact .cons (h.1 ρ u hf h1) (ArgsW.vrs hf h.2 h2)
theorem ArgW.agg {W : List Wnd} {l l0 : List AV} (h : ArgsW W l l0) : ArgW W (.agg l) (.agg l0) := fun ρ u hf hv => by
  simp only [VR] at hv ⊢
  obtain ⟨us, h1, h2⟩ := hv
  exact ⟨us, h.vrs hf h1, h2⟩
theorem Entry.win {H : T AObj} {args args0 : List AV} {W : List Wnd} {CS : List (List AV)} (hl : W.length = CS.length) (hw : winOk H W CS) (ha : ArgsW W args args0) : Entry 0 H c args (winM CS 0) CS.length args0 := by
  intro ρ w us hH hv
  have hf : ∃ x, ρ x = none := ⟨c, hH.fresh c (Nat.le_refl _)⟩
  refine ⟨winR ρ W, ⟨fun y o hy => ?_, fun x y o o' p q hxy hx hy hp hq hb => ?_, fun x hx => ?_, fun x p hp => ?_, fun g hg => by omega⟩, ha.vrs hf hv⟩
  · rw [ofM_get] at hy
    obtain ⟨j, cs, rfl, hj, rfl⟩ := winM_look hy
    obtain ⟨x, off, cp, h1, ⟨o, h2, h3⟩, h4⟩ := winOk_at hw hj
    obtain ⟨p, hp, _⟩ := hH.obj x o h2
    refine ⟨⟨p.b, p.o + off, cp.getD p.k⟩, by simp [winR, h1, hp], ?_⟩
    rcases h3 with rfl | ⟨ca, h5, h6⟩
    · exact ⟨[], by simp only [VRs], fun j u hj => by simp at hj⟩
    · obtain ⟨us', g1, g2⟩ := hH.read h2 h5 hp
      obtain ⟨g3, _, _⟩ := g1.cut h6
      refine ⟨_, h4.vrs hf g3, fun i u hi => ?_⟩
      have : us'[off + i]? = some u := by
        rw [List.getElem?_take] at hi
        split at hi
        · rwa [List.getElem?_drop] at hi
        · cases hi
      have := g2 (off + i) u this
      rwa [show p.o + off + i = p.o + (off + i) by omega]
  · rw [ofM_get] at hx hy
    obtain ⟨_, _, _, _, rfl⟩ := winM_look hx
    obtain ⟨_, _, _, _, rfl⟩ := winM_look hy
    simp [Apart, AObj.share]
  · simp only [winR, List.getElem?_eq_none_iff.2 (show W.length ≤ x by omega)]
  · simp only [winR] at hp
    split at hp
    · rw [Option.map_eq_some_iff] at hp
      obtain ⟨p', h1, rfl⟩ := hp
      exact hH.lt _ p' h1
    · cases hp
section
variable {κ : Type} [DecidableEq κ] {kt : Nat} {enc : κ → AV} {encV : κ → Value} {f : κ → AV} {L : List κ} {k : κ}
structure Keys (P : Program) (kt : Nat) (enc : κ → AV) (encV : κ → Value) : Prop where
  plain : ∀ k, (enc k).plain = some (encV k)
  eq : ∀ k k', eqV P 100 kt (encV k) (encV k') = some (decide (k = k'))
  ok : ∀ k, keyOk P kt (encV k) = true
def mapOf (enc : κ → AV) (f : κ → AV) (L : List κ) : List (AV × AV) := L.map fun k => (enc k, f k)
theorem find_map (K : Keys P kt enc encV) : ∀ L : List κ, findA P kt (encV k) (mapOf enc f L) = some (if k ∈ L then some (f k) else none)
  | [] => rfl
  | k' :: L => by
    have ih := find_map K L
    show findA P kt (encV k) ((enc k', f k') :: mapOf enc f L) = _
    simp only [findA, K.plain, K.eq]
    by_cases h : k = k'
    · subst h; simp
    · simp [h, ih]
theorem set_map (K : Keys P kt enc encV) : ∀ L : List κ, k ∉ L → setA P kt (enc k) (encV k) v (mapOf enc f L) = some (mapOf enc f L ++ [(enc k, v)])
  | [], _ => rfl
  | k' :: L, h => by
    have hne : k ≠ k' := fun e => h (by rw [e]; exact List.mem_cons_self)
    have ih := set_map K L fun hm => h (List.mem_cons_of_mem _ hm)
    show setA P kt (enc k) (encV k) v ((enc k', f k') :: mapOf enc f L) = _
    simp only [setA, K.plain, K.eq, decide_eq_false hne, ih, Option.map_some]
    rfl
theorem S.look_hit [Tab P] {x : Nat} (K : Keys P y.len enc encV) (hy : ty P t = some y) (hk : y.kind = 8) (ho : lookM m x = some (.map (mapOf enc f L))) (h : k ∈ L) : OpE P fl (.lookup t x1 x2 true) [.map x, enc k] m c (.tup [f k, .bool true]) m c := by
  refine ⟨rfl, Nat.le_refl _, ?_⟩
  simp only [opA, oLookup, lookupA, ty_map hy hk, ofM_get, ho, K.plain, K.ok, cond_true, find_map K, if_pos h, opt1, Option.map_some]
theorem S.look_miss [Tab P] {x : Nat} (K : Keys P y.len enc encV) (hy : ty P t = some y) (hk : y.kind = 8) (hz : ty P y.elem = some z) (ho : lookM m x = some (.map (mapOf enc f L))) (h : k ∉ L) : OpE P fl (.lookup t x1 x2 true) [.map x, enc k] m c (.tup [z.zero, .bool false]) m c := by
  refine ⟨rfl, Nat.le_refl _, ?_⟩
  simp only [opA, oLookup, lookupA, ty_map hy hk, ofM_get, ho, K.plain, K.ok, cond_true, find_map K, if_neg h, opt1, Option.map_some, ty_zero hz]
theorem S.put_new [Tab P] {x : Nat} (K : Keys P y.len enc encV) (hy : ty P t = some y) (hk : y.kind = 8) (hf : Nat.ble fl x = true) (ho : lookM m x = some (.map (mapOf enc f L))) (h : k ∉ L) (hv : v = f k) : OpE P fl (.mapUpdate t x1 x2 x3) [.map x, enc k, v] m c undefA ((x, some (.map (mapOf enc f (L ++ [k])))) :: m) c := by
  refine ⟨rfl, Nat.le_refl _, ?_⟩
  subst hv
  simp only [opA, oUpdate, updateA, ty_map hy hk, K.plain, K.ok, hf, Bool.and_self, cond_true, ofM_get, ho, set_map K L h, Option.map_some]
  have : mapOf enc f L ++ [(enc k, f k)] = mapOf enc f (L ++ [k]) := by simp [mapOf]
  rw [this]
  rfl
end
variable {o : Oper} {call round : CallFn} {ops : List Oper} {is : List OpI} {rs us : List Rec} {un : List Nat} {wd : Bool} {vs : List AV} {d : Nat} {K : St → Prop}
theorem RD.wide0 [hP : PG P G] (hk : kindA o.op = .heavy) (hr : recL rs un = some us) (hw : wantedL ops o l = some true) (hv : operandsL G l (opArgs o.op) = some vs) (hd : o.dst = none)
    (hu : us.all (fun r => !r.heavy && r.st.isNone) = true) (hh : (us.flatMap fun r => (List.range (r.hi - r.lo)).map (r.lo + ·)) = [])
    (h : Nx P fl o.op vs m c fun v m' c' => us.all (sameR P (ofM m) (ofM m')) = true ∧ RD G P fl call round ops is (⟨true, none, c, c', none, some (ofM m, ofM m'), none⟩ :: rs) (stL n dfs l m' c') K) : RD G P fl call round ops (⟨o, un, true⟩ :: is) rs (stL n dfs l m c) K := by
  obtain ⟨v, m', c', h1, h2, h3⟩ := h.ex
  refine RD.step (v := v) (m' := m') (c' := c') (rc := ⟨true, none, c, c', none, some (ofM m, ofM m'), none⟩) hr hw hv ?_ (put_none hd) (by rw [hd]; exact h3)
  rw [hk]; unfold stD
  simp only [hu, hh, hideA, cond_true, h1.step call round, backA, List.foldl_nil, h2]
theorem RD.wide [hP : PG P G] (hk : kindA o.op = .heavy) (hr : recL rs un = some us) (hw : wantedL ops o l = some true) (hv : operandsL G l (opArgs o.op) = some vs) (hd : o.dst = some d) (hn : Nat.blt d n = true)
    (hu : us.all (fun r => !r.heavy && r.st.isNone) = true) (hh : (us.flatMap fun r => (List.range (r.hi - r.lo)).map (r.lo + ·)) = [])
    (h : Nx P fl o.op vs m c fun v m' c' => us.all (sameR P (ofM m) (ofM m')) = true ∧ RD G P fl call round ops is (⟨true, none, c, c', none, some (ofM m, ofM m'), none⟩ :: rs) (stL n dfs ((d, v) :: l) m' c') K) : RD G P fl call round ops (⟨o, un, true⟩ :: is) rs (stL n dfs l m c) K := by
  obtain ⟨v, m', c', h1, h2, h3⟩ := h.ex
  refine RD.step (v := v) (m' := m') (c' := c') (rc := ⟨true, none, c, c', none, some (ofM m, ofM m'), none⟩) hr hw hv ?_ (put_some hn hd) (by rw [hd]; exact h3)
  rw [hk]; unfold stD
  simp only [hu, hh, hideA, cond_true, h1.step call round, backA, List.foldl_nil, h2]
def usOk (x : Nat) : List Rec → Prop
  | [] => True
  | r :: us => (offRec x r = true ∧ (r.was = none ∨ ∃ H H' o, r.was = some (H, H') ∧ H.get x = some o ∧ H'.get x = some o ∧ rfO o = true)) ∧ usOk x us
theorem us_all {x : Nat} : ∀ {us : List Rec}, usOk x us → us.all (fun r => offRec x r && offWas x r) = true
  | [], _ => rfl
  | r :: us, h => by
    obtain ⟨⟨h1, h2⟩, h3⟩ := h
    have h4 : offWas x r = true := by
      unfold offWas
      rcases h2 with h2 | ⟨H, H', o, h2, h5, h6, h7⟩
      · rw [h2]
      · rw [h2]; exact same_get h5 h6 h7
    simp only [List.all_cons, h1, h4, Bool.and_self, Bool.true_and]
    exact us_all h3
theorem getM {x : Nat} {ob : AObj} (h : lookM m x = some ob) : (ofM m).get x = some ob := by rw [ofM_get]; exact h
theorem was_same {x : Nat} {W : Option (T AObj × T AObj)} {mm : List (Nat × Option AObj)} (h : W = some (ofM mm, ofM mm)) (ho : ∃ ob, lookM mm x = some ob ∧ rfO ob = true) : ∃ H H' o, W = some (H, H') ∧ H.get x = some o ∧ H'.get x = some o ∧ rfO o = true :=
  let ⟨ob, h1, h2⟩ := ho
  ⟨_, _, ob, h, getM h1, getM h1, h2⟩
noncomputable def famA {α : Type} (f : Nat) (args : α → List AV) (val : α → AV) (ok : α → T AObj → Nat → Prop) : CallFn := fam f fun ags _ H c v => ∃ a, ok a H c ∧ ags = args a ∧ v = val a
theorem famA_calm {α : Type} {f : Nat} {args : α → List AV} {val : α → AV} {ok : α → T AObj → Nat → Prop} (h : ∀ a fl H c, ok a H c → OkAt G P fl f (args a) H c (val a) H c) : CalmC G P (famA f args val ok) :=
  fam_calm fun ags fl H c v ⟨a, h1, h2, h3⟩ => by subst h2 h3; exact h a fl H c h1
theorem famA_at {α : Type} {f : Nat} {args : α → List AV} {val : α → AV} {ok : α → T AObj → Nat → Prop} {H : T AObj} (fl0 : Nat) (a : α) (h : ok a H c) (inj : ∀ b, args a = args b → val b = val a) : famA f args val ok fl0 f (args a) H c = some (val a, H, c) :=
  fam_at ⟨a, h, rfl, rfl⟩ fun v' ⟨b, _, h2, h3⟩ => by rw [h3]; exact inj b h2
theorem famA_ne {α : Type} {f f1 : Nat} {args : α → List AV} {val : α → AV} {ok : α → T AObj → Nat → Prop} {H : T AObj} {ags : List AV} (fl0 : Nat) (h : f1 ≠ f) : famA f args val ok fl0 f1 ags H c = none := by
  unfold famA fam; rw [dif_neg (fun hh => h hh.1)]
theorem alts_hd {g : CallFn} {fs : List CallFn} {fl0 f : Nat} {ags : List AV} {H : T AObj} {r : AV × T AObj × Nat} (h : g fl0 f ags H c = some r) : alts (g :: fs) fl0 f ags H c = some r := by unfold alts; rw [h]
theorem alts_tl {g : CallFn} {fs : List CallFn} {fl0 f : Nat} {ags : List AV} {H : T AObj} (h : g fl0 f ags H c = none) : alts (g :: fs) fl0 f ags H c = alts fs fl0 f ags H c := by conv => lhs; unfold alts; rw [h]
theorem alts_calm {fs : List CallFn} (h : ∀ f ∈ fs, CalmC G P f) : CalmC G P (alts fs) := ⟨alts_ok fun f hf => (h f hf).ok, alts_good fun f hf => (h f hf).good⟩
theorem S.shl {i : Nat} {a : Int} {s : Nat} (h : i ≤ 62) (hb : In64 (a * 2 ^ i)) : OpE P fl (.binOp .shl t x1 x2 s) [.int .i64 a, .int .i64 (i : Int)] m c (.int .i64 (a * 2 ^ i)) m c := by
  refine ⟨rfl, Nat.le_refl _, ?_⟩
  show opt1 (shiftOp .shl .i64 a (i : Int)) (ofM m) c = _
  have h1 : ¬ ((i : Int) < 0) := by omega
  have h2 : min ((i : Int).toNat) IntKind.i64.bits = i := by
    have : IntKind.i64.bits = 64 := rfl
    rw [this, Int.toNat_natCast]; omega
  simp only [shiftOp, decide_eq_false h1, cond_false, h2, wrap_in hb, opt1, Option.map_some]
theorem S.shr {i : Nat} {a : Int} {s : Nat} (h : i ≤ 62) : OpE P fl (.binOp .shr t x1 x2 s) [.int .i64 a, .int .i64 (i : Int)] m c (.int .i64 (a.fdiv (2 ^ i))) m c := by
  refine ⟨rfl, Nat.le_refl _, ?_⟩
  show opt1 (shiftOp .shr .i64 a (i : Int)) (ofM m) c = _
  have h1 : ¬ ((i : Int) < 0) := by omega
  have h2 : min ((i : Int).toNat) IntKind.i64.bits = i := by
    have : IntKind.i64.bits = 64 := rfl
    rw [this, Int.toNat_natCast]; omega
  simp only [shiftOp, decide_eq_false h1, cond_false, h2, opt1, Option.map_some]
def orI (a b : Int) : Int := IntKind.i64.wrap (BitVec.ofInt 64 a ||| BitVec.ofInt 64 b).toNat
def andI (a b : Int) : Int := IntKind.i64.wrap (BitVec.ofInt 64 a &&& BitVec.ofInt 64 b).toNat
theorem S.or {a b : Int} {s : Nat} : OpE P fl (.binOp .or t x1 x2 s) [.int .i64 a, .int .i64 b] m c (.int .i64 (orI a b)) m c := ⟨rfl, Nat.le_refl _, rfl⟩
theorem S.and {a b : Int} {s : Nat} : OpE P fl (.binOp .and t x1 x2 s) [.int .i64 a, .int .i64 b] m c (.int .i64 (andI a b)) m c := ⟨rfl, Nat.le_refl _, rfl⟩
theorem S.load1r [Tab P] {a : Operand} {x off : Nat} {cs : List AV} (ht : ty P t = some y) (hg : y.agg = false) (ho : lookM m x = some (.ro cs)) (hv : cs[off]? = some v) : OpE P fl (.load t a) [.ptr x off] m c v m c := S.load1 ht hg ho rfl hv
theorem S.buildSlice [Tab P] {ps : Array (Nat × Operand)} {len : Nat} {cs : List AV} (ht : ty P t = some y) (hk : y.kind = 5) (he : ty P y.elem = some z) (h0 : Nat.beq len 0 = false) (hl : Nat.ble (len * z.size) 16777216 = true) (hz : (Nat.beq z.zero.cells.length z.size && Nat.ble 1 z.size) = true) (hf : fillA (fun i => some (i * z.size, z.size)) (zerosA z.zero.cells len) ((ps.toList.map (·.1)).zip vs) = some cs) : OpE P fl (.buildSlice t len ps) vs m c (.sl c 0 len len) ((c, some (.cells cs)) :: m) (c + 1) := by
  refine ⟨rfl, Nat.le_succ _, ?_⟩
  simp only [opA, oBuildSlice, ty_slice ht hk, ty_size he, show (2 : Nat) ^ 24 = 16777216 from rfl, hl, cond_true, h0, cond_false, rowA, ty_zero he, hz, hf]
  rfl
noncomputable def one1 (f : Nat) (args : List AV) (v : AV) (ok : T AObj → Nat → Prop) : CallFn := famA (α := Unit) f (fun _ => args) (fun _ => v) fun _ => ok
theorem one1_calm {f : Nat} {args : List AV} {v : AV} {ok : T AObj → Nat → Prop} (h : ∀ fl H c, ok H c → OkAt G P fl f args H c v H c) : CalmC G P (one1 f args v ok) := famA_calm fun _ fl H c hk => h fl H c hk
theorem one1_at {f : Nat} {args : List AV} {v : AV} {ok : T AObj → Nat → Prop} {H : T AObj} (h : ok H c) (fl0 : Nat) : one1 f args v ok fl0 f args H c = some (v, H, c) := famA_at fl0 () h fun _ _ => rfl
end
end Go.Ev
/- The truths of package claim: moment, nearest, isRight, departs, smooth, has. -/
namespace Go.Proofs.Ytlnmcadbmpiopaa
open Go Go.Ev
structure Tru where
  w : Int
  r0 : Int
  r1 : Int
  r2 : Int
  c0 : Int
  c1 : Int
  c2 : Int
deriving DecidableEq
def truE (t : Tru) : List Int := [t.w, t.r0, t.r1, t.r2, t.c0, t.c1, t.c2]
abbrev trV (t : Tru) : AV := .agg [.int .i64 t.w, .int .i64 t.r0, .int .i64 t.r1, .int .i64 t.r2, .int .i64 t.c0, .int .i64 t.c1, .int .i64 t.c2]
def Tru.c (t : Tru) (i : Nat) : Int := if i = 0 then t.c0 else if i = 1 then t.c1 else t.c2
def Tru.r (t : Tru) (i : Nat) : Int := if i = 0 then t.r0 else if i = 1 then t.r1 else t.r2
abbrev moV (s mi : Int) : AV := .agg [.int .i64 s, .int .i64 mi]
set_option maxRecDepth 100000 in
set_option maxHeartbeats 4000000 in
theorem moment_can (t : Tru) (i : Nat) (hi : i < 3) : CanS 0 Try.prog 103 0 [trV t, .int .i64 (i : Int)] [] 0 fun v _ _ => v = moV i (t.c i) := by
  obtain rfl | rfl | rfl : i = 0 ∨ i = 1 ∨ i = 2 := by omega
  all_goals
    refine CanS.mk Try.func103 rfl rfl rfl ?_
    repeat' (first | refine RT.nil ?_ | refine sq_n ?_ | refine Tr.seq ?_ | refine Tr.region ?_ | refine Tr.ret ?_ | (refine RT.goK rfl rfl rfl rfl ?_; apply Nx.of; (first | exact S.move | exact S.load1c rfl rfl rfl rfl | exact S.fieldAddr rfl rfl rfl | exact S.box | exact S.alloc rfl | exact S.build rfl rfl rfl)) | (refine RT.goK0 rfl rfl rfl ?_; apply Nx.of; (first | exact S.store rfl rfl rfl rfl rfl rfl)) | (refine RT.goK rfl rfl rfl rfl ?_; apply Nx.of; (first | exact S.idx_arrI rfl rfl rfl (by decide) (by decide))))
    (first | refine rt_go rfl ?_)
    rfl
theorem moment_at (fl : Nat) (t : Tru) (i : Nat) (hi : i < 3) (H : T AObj) (c : Nat) : OkAt 0 Try.prog fl 103 [trV t, .int .i64 (i : Int)] H c (moV i (t.c i)) H c :=
  (moment_can t i hi).pure (fun _ => rfl) (.plain fun _ => rfl) fl
set_option maxRecDepth 100000 in
set_option maxHeartbeats 4000000 in
theorem nearest_can (s r e n : Int) (hr : 0 ≤ r ∧ r ≤ 600) (he : 0 ≤ e ∧ e ≤ 5) : CanS 0 Try.prog 104 0 [.agg [.int .i64 s, .int .i64 r, .int .i64 e], .int .i64 n] [] 0 fun v _ _ => v = moV s (max (r - e) (min n (r + e))) := by
  refine CanS.mk Try.func104 rfl rfl rfl ?_
  repeat' (first | refine RT.nil ?_ | refine sq_n ?_ | refine Tr.seq ?_ | refine Tr.region ?_ | refine Tr.ret ?_ | (refine RT.goK rfl rfl rfl rfl ?_; apply Nx.of; (first | exact S.move | exact S.load1c rfl rfl rfl rfl | exact S.fieldAddr rfl rfl rfl | exact S.box | exact S.alloc rfl | exact S.add (by unfold In64; omega) | exact S.sub (by unfold In64; omega) | exact S.min2 | exact S.max2 | exact S.build rfl rfl rfl)) | (refine RT.goK0 rfl rfl rfl ?_; apply Nx.of; (first | exact S.store rfl rfl rfl rfl rfl rfl)))
  (first | refine rt_go rfl ?_)
  rfl
theorem nearest_at (fl : Nat) (s r e n : Int) (hr : 0 ≤ r ∧ r ≤ 600) (he : 0 ≤ e ∧ e ≤ 5) (H : T AObj) (c : Nat) : OkAt 0 Try.prog fl 104 [.agg [.int .i64 s, .int .i64 r, .int .i64 e], .int .i64 n] H c (moV s (max (r - e) (min n (r + e)))) H c :=
  (nearest_can s r e n hr he).pure (fun _ => rfl) (.plain fun _ => rfl) fl
theorem eqMo (a b e d : Int) : eqA Try.prog 121 (moV a b) (moV e d) = some (decide (a = e ∧ b = d)) := by
  have : eqA Try.prog 121 (moV a b) (moV e d) = andV (some (decide (a = e))) (andV (some (decide (b = d))) (some true)) := by kernel_rfl
  rw [this, andV1, andV2]
noncomputable def nearF : CallFn := famA (α := Int × Int × Int × Int) 104 (fun a => [.agg [.int .i64 a.1, .int .i64 a.2.1, .int .i64 a.2.2.1], .int .i64 a.2.2.2]) (fun a => moV a.1 (max (a.2.1 - a.2.2.1) (min a.2.2.2 (a.2.1 + a.2.2.1)))) fun a _ _ => (0 ≤ a.2.1 ∧ a.2.1 ≤ 600) ∧ (0 ≤ a.2.2.1 ∧ a.2.2.1 ≤ 5)
theorem nearF_calm : CalmC 0 Try.prog nearF := famA_calm fun a fl H c h => nearest_at fl _ _ _ _ h.1 h.2 H c
theorem nearF_inj {a : Int × Int × Int × Int} (b : Int × Int × Int × Int) (h : ([.agg [.int .i64 a.1, .int .i64 a.2.1, .int .i64 a.2.2.1], .int .i64 a.2.2.2] : List AV) = [.agg [.int .i64 b.1, .int .i64 b.2.1, .int .i64 b.2.2.1], .int .i64 b.2.2.2]) : moV b.1 (max (b.2.1 - b.2.2.1) (min b.2.2.2 (b.2.1 + b.2.2.1))) = moV a.1 (max (a.2.1 - a.2.2.1) (min a.2.2.2 (a.2.1 + a.2.2.1))) := by
  simp only [List.cons.injEq, AV.agg.injEq, AV.int.injEq, true_and, and_true] at h
  obtain ⟨⟨h1, h2, h3⟩, h4⟩ := h
  rw [h1, h2, h3, h4]
set_option maxRecDepth 100000 in
set_option maxHeartbeats 4000000 in
theorem isRight_can (t : Tru) (i : Nat) (hi : i < 3) (r e : Int) (hr : 0 ≤ r ∧ r ≤ 600) (he : 0 ≤ e ∧ e ≤ 5) : CanS 0 Try.prog 80 0 [.agg [.int .i64 (i : Int), .int .i64 r, .int .i64 e], trV t] [] 0 fun v _ _ => v = .bool (dB (r - e ≤ t.c i ∧ t.c i ≤ r + e)) := by
  refine CanS.mk Try.func80 rfl rfl rfl ?_
  repeat' (first | refine RT.nil ?_ | refine sq_n ?_ | refine Tr.seq ?_ | refine Tr.region ?_ | (refine RT.call rfl rfl rfl (moment_at _ _ _ hi _ _) rfl rfl (Nat.le_refl _) ?_) | (refine RT.goK rfl rfl rfl rfl ?_; apply Nx.of; (first | exact S.assign | exact S.load1c rfl rfl rfl rfl | exact S.loadNc rfl rfl rfl rfl | exact S.fieldAddr rfl rfl rfl | exact S.box | exact S.alloc rfl)) | (refine RT.goK0 rfl rfl rfl ?_; apply Nx.of; (first | exact S.store rfl rfl rfl rfl rfl rfl)))
  refine Tr.openK un80_2 (by kernel_rfl) (by kernel_rfl) nearF nearF_calm ?_
  repeat' (first | (refine RD.free rfl rfl rfl rfl rfl rfl ?_; apply Nx.of; (first | exact S.assign | exact S.fieldAddr rfl rfl rfl | exact S.eqlA (eqMo _ _ _ _))) | (refine RD.load rfl rfl rfl rfl rfl rfl rfl rfl ?_; apply Nx.of; (first | exact S.load1c rfl rfl rfl rfl | exact S.loadNc rfl rfl rfl rfl)) | (refine RD.load rfl rfl rfl rfl rfl rfl rfl (by refine us_all ?_; simp only [usOk, cond_true, cond_false]; (repeat' (first | exact trivial | refine And.intro ?_ ?_)); all_goals (first | rfl | exact .inl trivial | (refine Or.inr (was_same rfl ?_); (first | (exact ⟨_, rfl, rfl⟩))))) ?_; apply Nx.of; (first | exact S.loadNc rfl rfl rfl rfl)) | (refine RD.callN rfl rfl rfl rfl rfl rfl rfl rfl rfl (fun fl' => famA_at (α := Int × Int × Int × Int) fl' ((i : Int), r, e, t.c i) ⟨hr, he⟩ nearF_inj) (fun _ => rfl) ?_) | refine RD.nil ⟨Nat.le_of_ble_eq_true rfl, ?_⟩ | refine sq_n ?_ | refine Tr.ret ?_)
  (first | refine rt_go rfl ?_)
  refine dB_iff ?_
  show ((i : Int) = i ∧ max (r - e) (min (t.c i) (r + e)) = t.c i) ↔ _
  omega
theorem isRight_at (fl : Nat) (t : Tru) (i : Nat) (hi : i < 3) (r e : Int) (hr : 0 ≤ r ∧ r ≤ 600) (he : 0 ≤ e ∧ e ≤ 5) (H : T AObj) (c : Nat) : OkAt 0 Try.prog fl 80 [.agg [.int .i64 (i : Int), .int .i64 r, .int .i64 e], trV t] H c (.bool (dB (r - e ≤ t.c i ∧ t.c i ≤ r + e))) H c :=
  (isRight_can t i hi r e hr he).pure (.bool _) (.plain fun _ => rfl) fl
def pbC (B : CBook) (a1 a2 : AV) (q : Nat) : List AV := [a1, .int .i64 B.wea, .int .i64 (B.cost 0), .int .i64 (B.cost 1), .int .i64 (B.cost 2), a2, .int .i64 B.rate, .map q]
structure PbIn (B : CBook) (a1 a2 : AV) (p q : Nat) (m : List (Nat × Option AObj)) (c : Nat) : Prop where
  h1 : IsSl a1 B.ns 0
  h2 : IsSl a2 B.nc 1
  m1 : lookM m 0 = some (oSt B)
  m2 : lookM m 1 = some (oCk B)
  m3 : lookM m p = some (.cells (pbC B a1 a2 q))
  hc : 2 ≤ c
  hp : p < c
  hq : q < c
theorem PbIn.entry {B : CBook} {a1 a2 : AV} {p q : Nat} {m : List (Nat × Option AObj)} {c : Nat} (h : PbIn B a1 a2 p q m c) (vs : List AV) (hv : Pls vs) : Entry 0 (ofM m) c (.ptr p 0 :: vs) [(0, some (oSt B)), (1, some (oCk B)), (2, some (.cells (pbC B a1 a2 3)))] 4 (.ptr 2 0 :: vs) := by
  have e0 : tau [0, 1, p, q] c 0 = 0 := rfl
  have e1 : tau [0, 1, p, q] c 1 = 1 := rfl
  have e2 : tau [0, 1, p, q] c 2 = p := rfl
  have e3 : tau [0, 1, p, q] c 3 = q := rfl
  have hp0 : p ≠ 0 := fun e => by have := h.m3; rw [e, h.m1] at this; cases this
  have hp1 : p ≠ 1 := fun e => by have := h.m3; rw [e, h.m2] at this; cases this
  have ha : AV.rens (tau [0, 1, p, q] c) (.ptr 2 0 :: vs) = .ptr p 0 :: vs := by
    show AV.ren _ _ :: AV.rens _ vs = _
    rw [hv]; rfl
  rw [← ha]
  refine Entry.ren _ (fun g hg => by omega) (fun y hy => by rw [tau_ge hy]; omega) ⟨?_, ?_, ?_, trivial⟩ (fun x y o o' hx hy hxy => ?_)
  · show (ofM m).get (tau [0, 1, p, q] c 0) = some _
    rw [e0, ren_ro]; exact getM h.m1
  · show (ofM m).get (tau [0, 1, p, q] c 1) = some _
    rw [e1, ren_ro]; exact getM h.m2
  · show (ofM m).get (tau [0, 1, p, q] c 2) = some _
    rw [e2]
    have : (AObj.cells (pbC B a1 a2 3)).ren (tau [0, 1, p, q] c) = .cells (pbC B a1 a2 q) := by simp only [pbC, AObj.ren, AV.ren, AV.rens, h.h1.ren e0, h.h2.ren e1, e3]
    rw [this]; exact getM h.m3
  · refine .inl ?_
    have low : ∀ {z : Nat} {ob : AObj}, lookM [(0, some (oSt B)), (1, some (oCk B)), (2, some (.cells (pbC B a1 a2 3)))] z = some ob → z = 0 ∨ z = 1 ∨ z = 2 := fun {z ob} hz => by
      rcases Nat.lt_or_ge z 3 with h3 | h3
      · omega
      · exfalso
        simp only [lookM, Bool.cond_eq_ite] at hz
        rw [if_neg (by simp; omega), if_neg (by simp; omega), if_neg (by simp; omega)] at hz
        cases hz
    rcases low hx with rfl | rfl | rfl <;> rcases low hy with rfl | rfl | rfl <;> simp only [e0, e1, e2] <;> omega
theorem eqMin (a b e d f g : Int) : eqA Try.prog 73 (.agg [.int .i64 a, .int .i64 b, .int .i64 e]) (.agg [.int .i64 d, .int .i64 f, .int .i64 g]) = some (decide (a = d ∧ b = f ∧ e = g)) := by
  have : eqA Try.prog 73 (.agg [.int .i64 a, .int .i64 b, .int .i64 e]) (.agg [.int .i64 d, .int .i64 f, .int .i64 g]) = andV (some (decide (a = d))) (andV (some (decide (b = f))) (andV (some (decide (e = g))) (some true))) := by kernel_rfl
  rw [this, andV1, andV2, andV2]
end Go.Proofs.Ytlnmcadbmpiopaa
/- The truths of package claim: departs, has, sum, smooth. -/
namespace Go.Proofs.Ytlnmcadbmpiopaa
open Go Go.Ev
def depL (B : CBook) (t : Tru) (i : Nat) : Int := if t.c0 = 0 ∧ t.c1 = 0 ∧ t.c2 = 0 then 0 else t.c (i - 1) + B.sl (i - 1)
def depH (B : CBook) (t : Tru) (i : Nat) : Int := if t.c0 = 0 ∧ t.c1 = 0 ∧ t.c2 = 0 then 0 else t.c (i - 1) + B.sh (i - 1)
def truOk (t : Tru) (i : Nat) : Prop := (t.c0 = 0 ∧ t.c1 = 0 ∧ t.c2 = 0) ∨ (1 ≤ i ∧ 0 ≤ t.c (i - 1) ∧ t.c (i - 1) ≤ 1000)
theorem trV_c {t : Tru} {i : Nat} (hi : i < 3) : (trV t).cells[0 + 4 + i * 1]? = some (.int .i64 (t.c i)) := by
  obtain rfl | rfl | rfl : i = 0 ∨ i = 1 ∨ i = 2 := by omega
  all_goals rfl
set_option maxRecDepth 100000 in
set_option maxHeartbeats 4000000 in
theorem departs_can (B : CBook) (a1 a2 : AV) (h1 : IsSl a1 B.ns 0) (h2 : IsSl a2 B.nc 1) (hok : stsOk B) (t : Tru) (i : Nat) (hi : i < B.ns) (ht : truOk t i) : CanS 0 Try.prog 123 4 [.ptr 2 0, .int .i64 (i : Int), trV t] [(0, some (oSt B)), (1, some (oCk B)), (2, some (.cells (pbC B a1 a2 3)))] 4 fun v _ _ => v = .agg [.int .i64 (depL B t i), .int .i64 (depH B t i)] := by
  obtain ⟨hn, hst⟩ := hok
  have hs := hst (i - 1) (by omega)
  unfold stOk at hs
  refine CanS.mk Try.func123 rfl rfl rfl ?_
  repeat' (first | refine RT.nil ?_ | refine sq_n ?_ | refine Tr.seq ?_ | refine Tr.region ?_ | refine Tr.cond_d rfl (fun _ => ?_) (fun _ => ?_) | refine Tr.skip ?_ | refine Tr.ret ?_ | refine sq_r ?_ | (refine RT.goK rfl rfl rfl rfl ?_; apply Nx.of; (first | exact S.loadNc rfl rfl rfl rfl | exact S.fieldAddr rfl rfl rfl | exact S.box | exact S.alloc rfl | exact S.build rfl rfl rfl | exact S.buildA rfl rfl rfl rfl | exact S.eqlA (eqMin _ _ _ _ _ _))) | (refine RT.goK0 rfl rfl rfl ?_; apply Nx.of; (first | exact S.store rfl rfl rfl rfl rfl rfl)))
  · (first | refine rt_go rfl ?_)
    have hz : t.c0 = 0 ∧ t.c1 = 0 ∧ t.c2 = 0 := by assumption
    simp only [depL, depH, if_pos hz]
    rfl
  · have hz : ¬ (t.c0 = 0 ∧ t.c1 = 0 ∧ t.c2 = 0) := by assumption
    rcases ht with ht | ⟨hi1, ht⟩
    · exact absurd ht hz
    refine Tr.openK un123_3 (by kernel_rfl) (by kernel_rfl) noCall noCall_calm ?_
    repeat' (first | (refine RD.free rfl rfl rfl rfl rfl rfl ?_; apply Nx.of; (first | exact S.move | exact S.assign | exact S.fieldAddr rfl rfl rfl | exact S.sub_one (by omega) (by omega) | exact S.nilCheck | exact S.idx_sl rfl rfl rfl (by assumption) (by omega))) | (refine RD.new rfl rfl rfl rfl rfl rfl ?_; apply Nx.of; (first | exact S.alloc rfl)) | (refine RD.load rfl rfl rfl rfl rfl rfl rfl rfl ?_; apply Nx.of; (first | exact S.load1c rfl rfl rfl rfl | exact S.rowN rfl rfl rfl (fun _ => rfl) (range_at (by omega)) rfl)) | (refine RD.store rfl rfl rfl rfl rfl rfl rfl ?_; apply Nx.of; (first | exact S.store rfl rfl rfl rfl rfl rfl)) | (refine RD.load rfl rfl rfl rfl rfl rfl rfl rfl ?_; (refine Nx.of (S.load1c rfl rfl rfl (trV_c (by omega))) ?_)) | (refine RD.free rfl rfl rfl rfl rfl rfl ?_; (refine Nx.of (S.idx_arr rfl rfl rfl (show _ < 3 by omega)) ?_)) | refine RD.nil ⟨Nat.le_of_ble_eq_true rfl, ?_⟩)
    repeat' (first | refine RT.nil ?_ | refine sq_n ?_ | refine Tr.seq ?_ | refine Tr.region ?_ | refine Tr.ret ?_ | (refine RT.goK rfl rfl rfl rfl ?_; apply Nx.of; (first | exact S.move | exact S.load1c rfl rfl rfl rfl | exact S.fieldAddr rfl rfl rfl | exact S.add (by unfold In64; omega) | exact S.build rfl rfl rfl)) | (refine RT.goK0 rfl rfl rfl ?_; apply Nx.of; (first | exact S.store rfl rfl rfl rfl rfl rfl)))
    (first | refine rt_go rfl ?_)
    simp only [depL, depH, if_neg hz]
    rfl
theorem departs_at {B : CBook} {a1 a2 : AV} {p q : Nat} {m : List (Nat × Option AObj)} {c : Nat} (h : PbIn B a1 a2 p q m c) (hok : stsOk B) (t : Tru) (i : Nat) (hi : i < B.ns) (ht : truOk t i) (fl : Nat) : OkAt 0 Try.prog fl 123 [.ptr p 0, .int .i64 (i : Int), trV t] (ofM m) c (.agg [.int .i64 (depL B t i), .int .i64 (depH B t i)]) (ofM m) c :=
  (departs_can B a1 a2 h.h1 h.h2 hok t i hi ht).pure (fun _ => rfl) (h.entry _ fun _ => rfl) fl
def hasP (s : Int) (n : Nat) : Prop := andI (s.fdiv (2 ^ n)) 1 = 1
set_option maxRecDepth 100000 in
theorem has_can (s : Int) (n : Nat) (h : n ≤ 62) : CanS 0 Try.prog 111 0 [.int .i64 s, .int .i64 (n : Int)] [] 0 fun v _ _ => v = .bool (dB (hasP s n)) := by
  refine CanS.mk Try.func111 rfl rfl rfl ?_
  repeat' (first | refine RT.nil ?_ | refine sq_n ?_ | refine Tr.seq ?_ | refine Tr.region ?_ | refine Tr.ret ?_ | (refine RT.goK rfl rfl rfl rfl ?_; apply Nx.of; (first | exact S.shr h | exact S.and)) | (refine RT.goK rfl rfl rfl rfl ?_; apply Nx.of; (first | exact S.move | exact S.assign | exact S.eql)))
  (first | refine rt_go rfl ?_)
  exact dB_iff Iff.rfl
theorem has_at (s : Int) (n : Nat) (h : n ≤ 62) (H : T AObj) (c fl : Nat) : OkAt 0 Try.prog fl 111 [.int .i64 s, .int .i64 (n : Int)] H c (.bool (dB (hasP s n))) H c :=
  (has_can s n h).pure (.bool _) (.plain fun _ => rfl) fl
def In6 (a : Int) : Prop := -1000000 ≤ a ∧ a ≤ 1000000
set_option maxRecDepth 100000 in
set_option maxHeartbeats 4000000 in
theorem sum3_can (a b d : Int) (ha : In6 a) (hb : In6 b) (hd : In6 d) : CanS 0 Try.prog 119 1 [.gs 0 3] [(0, some (.ro [.int .i64 a, .int .i64 b, .int .i64 d]))] 1 fun v _ _ => v = .int .i64 (a + b + d) := by
  unfold In6 at ha hb hd
  refine CanS.mk Try.func119 rfl rfl rfl ?_
  repeat' (first | refine RT.nil ?_ | refine sq_n ?_ | refine Tr.seq ?_ | refine Tr.region ?_ | refine Tr.block ?_ | (refine RT.goK rfl rfl rfl rfl ?_; apply Nx.of; (first | exact S.len_sl rfl rfl rfl (IsSl.gs 0 3))) | (refine RT.goK rfl rfl rfl rfl ?_; apply Nx.of; (first | exact S.move | exact S.assign)))
  refine Tr.unroll 4 ?_
  repeat' (first | refine RT.nil ?_ | refine sq_n ?_ | refine Tr.seq ?_ | refine Tr.region ?_ | refine Tr.cond_t rfl ?_ | refine Tr.cond_f rfl ?_ | refine Tr.skip ?_ | refine Tr.ret ?_ | refine Tr.exit ?_ | refine sq_x ?_ | refine Tr.block ?_ | refine blk_n ?_ | refine blk_hit rfl ?_ | refine un_n ?_ | refine un_x ?_ | (refine RT.goK rfl rfl rfl rfl ?_; apply Nx.of; (first | exact S.idx_slI rfl rfl rfl (IsSl.gs 0 3) (by decide) (by decide) | exact S.load1r rfl rfl rfl rfl)) | (refine RT.goK rfl rfl rfl rfl ?_; apply Nx.of; (first | exact S.lss_t (by decide) | exact S.lss_f (by decide))) | (refine RT.goK rfl rfl rfl rfl ?_; apply Nx.of; (first | exact S.move | exact S.assign | exact S.add (by unfold In64; omega))))
  (first | refine rt_go rfl ?_)
  refine congrArg (AV.int .i64) ?_
  omega
theorem sum3_at {H : T AObj} {x : Nat} {a b d : Int} (hx : H.get x = some (.cells [.int .i64 a, .int .i64 b, .int .i64 d])) (ha : In6 a) (hb : In6 b) (hd : In6 d) (c fl : Nat) : OkAt 0 Try.prog fl 119 [.sl x 0 3 3] H c (.int .i64 (a + b + d)) H c :=
  (sum3_can a b d ha hb hd).pure (.int _ _) (Entry.win (W := [(x, 0, some 3)]) (CS := [[.int .i64 a, .int .i64 b, .int .i64 d]]) rfl ⟨⟨_, hx, .inr ⟨_, rfl, rfl⟩⟩, fun _ => rfl, trivial⟩ (show ArgsW [(x, 0, some 3)] [.sl x 0 3 3] [.gs 0 3] from ⟨ArgW.sl rfl (Nat.le_refl _), trivial⟩)) fl
def smL (B : CBook) (t : Tru) (i : Nat) : Int := depL B t i + B.dl i + B.cost t.w.toNat
def smH (B : CBook) (t : Tru) (i : Nat) : Int := depH B t i + B.dh i + B.cost t.w.toNat
theorem pb_cost {B : CBook} {a1 a2 : AV} {q i : Nat} (h : i < 3) : (pbC B a1 a2 q)[0 + 0 + 2 + i * 1]? = some (.int .i64 (B.cost i)) := by
  obtain rfl | rfl | rfl : i = 0 ∨ i = 1 ∨ i = 2 := by omega
  all_goals rfl
noncomputable def sumF : CallFn := fam 119 fun ar _ H _ v => ∃ x a b d, ar = [.sl x 0 3 3] ∧ H.get x = some (.cells [.int .i64 a, .int .i64 b, .int .i64 d]) ∧ In6 a ∧ In6 b ∧ In6 d ∧ v = .int .i64 (a + b + d)
theorem sumF_calm : CalmC 0 Try.prog sumF := fam_calm fun ar fl H c v ⟨x, a, b, d, h1, h2, h3, h4, h5, h6⟩ => by subst h1 h6; exact sum3_at h2 h3 h4 h5 c fl
theorem sumF_at {H : T AObj} {x c : Nat} {a b d : Int} (hx : H.get x = some (.cells [.int .i64 a, .int .i64 b, .int .i64 d])) (ha : In6 a) (hb : In6 b) (hd : In6 d) (fl0 : Nat) : sumF fl0 119 [.sl x 0 3 3] H c = some (.int .i64 (a + b + d), H, c) :=
  fam_at ⟨x, a, b, d, rfl, hx, ha, hb, hd, rfl⟩ fun v' ⟨x', a', b', d', h1, h2, _, _, _, h6⟩ => by
    cases h1
    rw [hx] at h2
    cases h2
    exact h6
noncomputable def depF (B : CBook) (a1 a2 : AV) (t : Tru) (i : Nat) : CallFn := one1 123 [.ptr 2 0, .int .i64 (i : Int), trV t] (.agg [.int .i64 (depL B t i), .int .i64 (depH B t i)]) fun H c => ∃ m, H = ofM m ∧ PbIn B a1 a2 2 3 m c
theorem depF_calm {B : CBook} {a1 a2 : AV} (hok : stsOk B) (t : Tru) (i : Nat) (hi : i < B.ns) (ht : truOk t i) : CalmC 0 Try.prog (depF B a1 a2 t i) :=
  one1_calm fun fl H c ⟨m, hm, h⟩ => by subst hm; exact departs_at h hok t i hi ht fl
set_option maxRecDepth 100000 in
set_option maxHeartbeats 4000000 in
theorem smooth_can (B : CBook) (a1 a2 : AV) (h1 : IsSl a1 B.ns 0) (h2 : IsSl a2 B.nc 1) (hok : stsOk B) (hw : weaOk B) (t : Tru) (i : Nat) (hi : i < B.ns) (ht : truOk t i) (hwt : 0 ≤ t.w ∧ t.w < 3) : CanS 0 Try.prog 109 4 [.ptr 2 0, .int .i64 (i : Int), trV t] [(0, some (oSt B)), (1, some (oCk B)), (2, some (.cells (pbC B a1 a2 3)))] 4 fun v _ _ => v = .agg [.int .i64 (smL B t i), .int .i64 (smH B t i)] := by
  obtain ⟨hn, hst⟩ := hok
  have hs := hst (i - 1) (by omega)
  have hs' := hst i hi
  unfold stOk at hs hs'
  unfold weaOk at hw
  have hc : 0 ≤ B.cost t.w.toNat ∧ B.cost t.w.toNat ≤ 30 := by
    obtain h | h | h : t.w.toNat = 0 ∨ t.w.toNat = 1 ∨ t.w.toNat = 2 := by omega
    all_goals (rw [h]; omega)
  have hd : (0 ≤ depL B t i ∧ depL B t i ≤ 1020) ∧ 0 ≤ depH B t i ∧ depH B t i ≤ 1020 := by
    unfold depL depH
    rcases ht with ht | ⟨_, ht⟩
    · rw [if_pos ht, if_pos ht]; omega
    · split <;> omega
  have g1 : In6 (B.cost t.w.toNat) := by unfold In6; omega
  have g2 : In6 (depL B t i) := by unfold In6; omega
  have g3 : In6 (depH B t i) := by unfold In6; omega
  have g4 : In6 (B.dl i) := by unfold In6; omega
  have g5 : In6 (B.dh i) := by unfold In6; omega
  refine CanS.mk Try.func109 rfl rfl rfl ?_
  repeat' (first | refine RT.nil ?_ | refine sq_n ?_ | refine Tr.seq ?_ | refine Tr.region ?_ | (refine RT.goK rfl rfl rfl rfl ?_; apply Nx.of; (first | exact S.box | exact S.alloc rfl)))
  refine Tr.openK un109_1 (by kernel_rfl) (by kernel_rfl) (depF B a1 a2 t i) (depF_calm ⟨hn, hst⟩ t i hi ht) ?_
  repeat' (first | (refine RD.free rfl rfl rfl rfl rfl rfl ?_; apply Nx.of; (first | exact S.move | exact S.assign | exact S.fieldAddr rfl rfl rfl | exact S.nilCheck | exact S.idx_sl rfl rfl rfl (by assumption) (by omega))) | (refine RD.new rfl rfl rfl rfl rfl rfl ?_; apply Nx.of; (first | exact S.alloc rfl)) | (refine RD.load rfl rfl rfl rfl rfl rfl rfl rfl ?_; apply Nx.of; (first | exact S.load1c rfl rfl rfl rfl | exact S.loadNc rfl rfl rfl rfl | exact S.rowN rfl rfl rfl (fun _ => rfl) (range_at (by omega)) rfl)) | (refine RD.store rfl rfl rfl rfl rfl rfl rfl ?_; apply Nx.of; (first | exact S.store rfl rfl rfl rfl rfl rfl)) | (refine RD.callN rfl rfl rfl rfl rfl rfl rfl rfl rfl (one1_at ⟨_, rfl, h1, h2, rfl, rfl, rfl, by decide, by decide, by decide⟩) (fun _ => rfl) ?_) | (refine RD.free rfl rfl rfl rfl rfl rfl ?_; (refine Nx.of (S.idx_arrI rfl rfl rfl hwt.1 hwt.2) ?_)) | (refine RD.load rfl rfl rfl rfl rfl rfl rfl rfl ?_; (refine Nx.of (S.load1c rfl rfl rfl (pb_cost (by omega))) ?_)) | refine RD.nil ⟨Nat.le_of_ble_eq_true rfl, ?_⟩)
  repeat' (first | refine sq_n ?_ | refine Tr.seq ?_)
  refine Tr.openK un109_2 (by kernel_rfl) (by kernel_rfl) sumF sumF_calm ?_
  repeat' (first | (refine RD.free rfl rfl rfl rfl rfl rfl ?_; apply Nx.of; (first | exact S.move | exact S.fieldAddr rfl rfl rfl | exact S.build rfl rfl rfl)) | (refine RD.load rfl rfl rfl rfl rfl rfl rfl rfl ?_; apply Nx.of; (first | exact S.load1c rfl rfl rfl rfl)) | (refine RD.store rfl rfl rfl rfl rfl rfl rfl ?_; apply Nx.of; (first | exact S.store rfl rfl rfl rfl rfl rfl)) | (refine RD.callN rfl rfl rfl rfl rfl rfl rfl rfl rfl (sumF_at (getM rfl) (by assumption) (by assumption) (by assumption)) (fun _ => rfl) ?_) | (refine RD.new rfl rfl rfl rfl rfl rfl ?_; (refine Nx.of (S.buildSlice rfl rfl rfl rfl rfl rfl rfl) ?_)) | refine RD.nil ⟨Nat.le_of_ble_eq_true rfl, ?_⟩)
  repeat' (first | refine sq_n ?_ | refine Tr.ret ?_)
  (first | refine rt_go rfl ?_)
  rfl
theorem smooth_at {B : CBook} {a1 a2 : AV} {p q : Nat} {m : List (Nat × Option AObj)} {c : Nat} (h : PbIn B a1 a2 p q m c) (hok : stsOk B) (hw : weaOk B) (t : Tru) (i : Nat) (hi : i < B.ns) (ht : truOk t i) (hwt : 0 ≤ t.w ∧ t.w < 3) (fl : Nat) : OkAt 0 Try.prog fl 109 [.ptr p 0, .int .i64 (i : Int), trV t] (ofM m) c (.agg [.int .i64 (smL B t i), .int .i64 (smH B t i)]) (ofM m) c :=
  (smooth_can B a1 a2 h.h1 h.h2 hok hw t i hi ht hwt).pure (fun _ => rfl) (h.entry _ fun _ => rfl) fl
end Go.Proofs.Ytlnmcadbmpiopaa
/- Calls that write one object. -/
namespace Go.Ev
open Go
section
variable {G : Nat} {P : Program} {ρ ρ1 : Rho} {fl c c' : Nat} {w w' : World}
theorem ObjR.plain {ob : AObj} {p : Win} (hob : ∀ σ, ob.ren σ = ob) (hf : ∃ x, ρ x = none) (h : ObjR ρ w p ob) : ObjR ρ1 w p ob := by
  obtain ⟨x, hx⟩ := hf
  have h1 : ObjR (fun _ => none) w p ob := by
    have := (ObjR_ren ρ (fun _ => x) w p ob).1 (by rw [hob]; exact h)
    simpa only [hx] using this
  exact h1.mono fun _ _ h => by cases h
theorem CanS.write {f q fl0 : Nat} {args0 : List AV} {m0 : List (Nat × Option AObj)} {v0 : AV} {ob o0 : AObj} {H : T AObj} (h : CanS G P f fl0 args0 m0 (fl0 + 1) fun v H1 _ => v = v0 ∧ H1.get fl0 = some ob) (hv : Pl v0) (hob : ∀ σ, ob.ren σ = ob) (hsh : ob.share = none)
    (τ : Nat → Nat) (hG : G ≤ fl0) (hτg : ∀ g, g < G → τ g = g) (hτ2 : ∀ y, fl0 + 1 ≤ y → c ≤ τ y) (hobj : ∀ y o, lookM m0 y = some o → H.get (τ y) = some (o.ren τ))
    (hinj : ∀ x y o o', lookM m0 x = some o → lookM m0 y = some o' → x ≠ y → τ x ≠ τ y ∨ ∃ n m, o.share = some (false, n) ∧ o'.share = some (false, m))
    (hq : τ fl0 = q) (hfl : fl ≤ q) (ho0 : lookM m0 fl0 = some o0) (hs0 : o0.share = none) : OkAt G P fl f (AV.rens τ args0) H c v0 (H.set q ob) c := by
  refine ⟨h.1, fun ρ w us hH hargs r n => ?_⟩
  have h0 : Holds G (fun x => ρ (τ x)) (ofM m0) (fl0 + 1) w := hH.ren τ (fun x o hx => hobj x o (by rw [← ofM_get]; exact hx)) (fun x y o o' hx hy => hinj x y o o' (by rw [← ofM_get]; exact hx) (by rw [← ofM_get]; exact hy)) hτ2 hτg
  refine (h.2 _ w us h0 ((VRs_ren ρ τ args0 us).1 hargs) r n).mono ?_
  rintro e w' ⟨u, v1, H1, c1, ρ1, rfl, ⟨rfl, hq1⟩, h3, h4, h5, h6, h7⟩
  have hfr : ∃ x, ρ1 x = none := ⟨c1, h4.fresh c1 (Nat.le_refl _)⟩
  have hqo : H.get q = some (o0.ren τ) := by rw [← hq]; exact hobj _ _ ho0
  have hqs : (o0.ren τ).share = none := by rw [AObj.ren_share]; exact hs0
  obtain ⟨pq, hpq, hobq⟩ := h4.obj _ _ hq1
  have hρq : ρ q = some pq := by
    have := h6.1 fl0 (by omega)
    rw [hpq] at this
    rw [← hq]; exact this.symm
  have hown : ∀ y t, fl0 ≤ y → ρ (τ y) = some t → y = fl0 := fun y t hy ht => by
    rcases Nat.lt_or_ge y (fl0 + 1) with h | h
    · omega
    · have := h0.fresh y h
      replace this : ρ (τ y) = none := this
      rw [this] at ht; cases ht
  have hap : ∀ x o p, H.get x = some o → ρ x = some p → x ≠ q → p.b ≠ pq.b := fun x o p hx hp hn hb => by
    have := (hH.sep x q o _ p pq hn hx hqo hp hρq hb).ro
    unfold AObj.isRo at this
    rw [hqs] at this
    simp at this
  have hkeep : ∀ b, b < w.heap.size → b ≠ pq.b → w'.heap[b]? = w.heap[b]? := fun b hb hne => h7.keep b hb fun y t hy ht => by
    have e := hown y t hy ht
    subst e
    rw [hq] at ht
    rw [hρq] at ht
    cases ht
    exact fun e => hne e.symm
  refine ⟨u, rfl, ρ, hv.vr hfr h3, ⟨fun x o hx => ?_, fun x y o o' p p' hxy hx hy hp hp' hb => ?_, hH.fresh, fun x p hp => Nat.lt_of_lt_of_le (hH.lt x p hp) h7.size, hH.glob⟩, .refl _ _ _ _, ⟨h7.os, h7.tape, h7.output, h7.size, fun b hb hn => hkeep b hb fun e => hn q pq hfl hρq e.symm⟩⟩
  · rw [T.get_set] at hx
    split at hx
    · rename_i e
      subst e
      cases hx
      exact ⟨pq, hρq, hobq.plain hob hfr⟩
    · rename_i e
      obtain ⟨p, h1, h2⟩ := hH.obj x o hx
      exact ⟨p, h1, h2.world (hkeep p.b (hH.lt x p h1) (hap x o p hx h1 e))⟩
  · rw [T.get_set] at hx hy
    split at hx
    · rename_i e
      subst e
      cases hx
      split at hy
      · rename_i e; exact absurd e.symm hxy
      · exact (hH.sep x y _ o' p p' hxy hqo hy hp hp' hb).congr (by rw [hqs, hsh]) rfl
    · split at hy
      · rename_i e e'
        subst e'
        cases hy
        exact (hH.sep x y o _ p p' hxy hx hqo hp hp' hb).congr rfl (by rw [hqs, hsh])
      · exact hH.sep x y o o' p p' hxy hx hy hp hp' hb
theorem dB_tt {p : Prop} (h : p) : dB p = true := @decide_eq_true p (Classical.propDecidable p) h
theorem dB_ff {p : Prop} (h : ¬ p) : dB p = false := @decide_eq_false p (Classical.propDecidable p) h
end
end Go.Ev
/- The truths of package claim: wrongAt. -/
namespace Go.Proofs.Ytlnmcadbmpiopaa
open Go Go.Ev
abbrev moE (k : Int × Int) : AV := moV k.1 k.2
abbrev moW (k : Int × Int) : Value := .agg #[.int .i64 k.1, .int .i64 k.2]
theorem moKeys : Keys Try.prog 121 moE moW where
  plain := fun k => rfl
  eq := fun k k' => by
    have : eqV Try.prog 100 121 (moW k) (moW k') = andV (some (k.1 == k'.1)) (andV (some (k.2 == k'.2)) (some true)) := by kernel_rfl
    rw [this]
    obtain ⟨a, b⟩ := k
    obtain ⟨e, d⟩ := k'
    by_cases h1 : a = e <;> by_cases h2 : b = d <;> simp [andV, h1, h2]
  ok := fun k => by kernel_rfl
noncomputable def wrS (B : CBook) (s mi : Int) : Nat → Int
  | 0 => 0
  | k + 1 => bif dB (B.ck k = s ∧ ¬ (B.rd k - B.er k ≤ mi ∧ mi ≤ B.rd k + B.er k)) then orI (wrS B s mi k) (1 * 2 ^ k) else wrS B s mi k
noncomputable def wrV (B : CBook) (k : Int × Int) : Int := wrS B k.1 k.2 B.nc
noncomputable def wrA (B : CBook) (k : Int × Int) : AV := .int .i64 (wrV B k)
def insL (L : List (Int × Int)) (k : Int × Int) : List (Int × Int) := if k ∈ L then L else L ++ [k]
noncomputable abbrev oMap (B : CBook) (L : List (Int × Int)) : AObj := .map (mapOf moE (wrA B) L)
theorem ren_mapA (B : CBook) (L : List (Int × Int)) (σ : Nat → Nat) : (oMap B L).ren σ = oMap B L := by
  have : ∀ L : List (Int × Int), renE σ (mapOf moE (wrA B) L) = mapOf moE (wrA B) L := fun L => by
    induction L with
    | nil => rfl
    | cons k L ih =>
      show (_, _) :: renE σ (mapOf moE (wrA B) L) = _
      rw [ih]
      rfl
  show AObj.map _ = _
  rw [this]
theorem pbc_ren {B : CBook} {a1 a2 : AV} {q : Nat} (h1 : IsSl a1 B.ns 0) (h2 : IsSl a2 B.nc 1) {σ : Nat → Nat} (e1 : σ 0 = 0) (e2 : σ 1 = 1) (e3 : σ q = q) : (AObj.cells (pbC B a1 a2 q)).ren σ = .cells (pbC B a1 a2 q) := by simp only [pbC, AObj.ren, AV.ren, AV.rens, h1.ren e1, h2.ren e2, e3]
theorem isRight_at' (fl : Nat) (t : Tru) (i : Nat) (hi : i < 3) (s r e : Int) (hs : s = i) (hr : 0 ≤ r ∧ r ≤ 600) (he : 0 ≤ e ∧ e ≤ 5) (H : T AObj) (c : Nat) : OkAt 0 Try.prog fl 80 [.agg [.int .i64 s, .int .i64 r, .int .i64 e], trV t] H c (.bool (dB (r - e ≤ t.c i ∧ t.c i ≤ r + e))) H c := by
  subst hs; exact isRight_at fl t i hi r e hr he H c
set_option maxRecDepth 100000 in
set_option maxHeartbeats 4000000 in
theorem wrongAt_can (B : CBook) (a1 a2 : AV) (h1 : IsSl a1 B.ns 0) (h2 : IsSl a2 B.nc 1) (hck : cksOk B) (L : List (Int × Int)) (t : Tru) (i : Nat) (hi : i < 3) : CanS 0 Try.prog 110 3 [.ptr 2 0, .int .i64 (i : Int), trV t] [(0, some (oSt B)), (1, some (oCk B)), (2, some (.cells (pbC B a1 a2 3))), (3, some (oMap B L))] 4 fun v H1 _ => v = .int .i64 (wrV B (i, t.c i)) ∧ H1.get 3 = some (oMap B (insL L (i, t.c i))) := by
  refine CanS.mk Try.func110 rfl rfl rfl ?_
  repeat' (first | refine RT.nil ?_ | refine sq_n ?_ | refine Tr.seq ?_ | refine Tr.region ?_ | (refine RT.call rfl rfl rfl (moment_at _ _ _ hi _ _) rfl rfl (Nat.le_refl _) ?_) | (refine RT.goK rfl rfl rfl rfl ?_; apply Nx.of; (first | exact S.move | exact S.assign | exact S.loadNc rfl rfl rfl rfl | exact S.box | exact S.alloc rfl)) | (refine RT.goK0 rfl rfl rfl ?_; apply Nx.of; (first | exact S.store rfl rfl rfl rfl rfl rfl)))
  refine Tr.openK un110_2 (by kernel_rfl) (by kernel_rfl) noCall noCall_calm ?_
  by_cases hL : ((i : Int), t.c i) ∈ L
  · repeat' (first | (refine RD.free rfl rfl rfl rfl rfl rfl ?_; apply Nx.of; (first | exact S.move | exact S.assign | exact S.fieldAddr rfl rfl rfl | exact S.nilCheck | exact S.extract rfl)) | (refine RD.load rfl rfl rfl rfl rfl rfl rfl rfl ?_; apply Nx.of; (first | exact S.load1c rfl rfl rfl rfl | exact S.loadNc rfl rfl rfl rfl)) | (refine RD.load rfl rfl rfl rfl rfl rfl rfl (by refine us_all ?_; simp only [usOk, cond_true, cond_false]; (repeat' (first | exact trivial | refine And.intro ?_ ?_)); all_goals (first | rfl | exact .inl trivial | exact .inl rfl | (refine Or.inr (was_same rfl ?_); (first | (exact ⟨_, rfl, rfl⟩) | (exact ⟨_, rfl, by simp [rfO, rfVs, rfV, rfVs_flat]⟩))))) ?_; (refine Nx.of (S.look_hit (enc := moE) (f := wrA B) (L := L) (k := ((i : Int), t.c i)) moKeys rfl rfl rfl hL) ?_)) | refine RD.nil ⟨Nat.le_of_ble_eq_true rfl, ?_⟩)
    repeat' (first | refine RT.nil ?_ | refine sq_n ?_ | refine Tr.seq ?_ | refine Tr.region ?_ | refine Tr.cond_t rfl ?_ | refine Tr.ret ?_ | refine sq_r ?_ | (refine RT.goK rfl rfl rfl rfl ?_; apply Nx.of; (first | exact S.move | exact S.assign)))
    (first | refine rt_go rfl ?_)
    refine ⟨rfl, ?_⟩
    rw [insL, if_pos hL]
    exact getM rfl
  · repeat' (first | (refine RD.free rfl rfl rfl rfl rfl rfl ?_; apply Nx.of; (first | exact S.move | exact S.assign | exact S.fieldAddr rfl rfl rfl | exact S.nilCheck | exact S.extract rfl)) | (refine RD.load rfl rfl rfl rfl rfl rfl rfl rfl ?_; apply Nx.of; (first | exact S.load1c rfl rfl rfl rfl | exact S.loadNc rfl rfl rfl rfl)) | (refine RD.load rfl rfl rfl rfl rfl rfl rfl (by refine us_all ?_; simp only [usOk, cond_true, cond_false]; (repeat' (first | exact trivial | refine And.intro ?_ ?_)); all_goals (first | rfl | exact .inl trivial | exact .inl rfl | (refine Or.inr (was_same rfl ?_); (first | (exact ⟨_, rfl, rfl⟩) | (exact ⟨_, rfl, by simp [rfO, rfVs, rfV, rfVs_flat]⟩))))) ?_; (refine Nx.of (S.look_miss (enc := moE) (f := wrA B) (L := L) (k := ((i : Int), t.c i)) moKeys rfl rfl rfl rfl hL) ?_)) | refine RD.nil ⟨Nat.le_of_ble_eq_true rfl, ?_⟩)
    repeat' (first | refine RT.nil ?_ | refine sq_n ?_ | refine Tr.seq ?_ | refine Tr.region ?_ | refine Tr.cond_f rfl ?_ | refine Tr.skip ?_ | refine Tr.block ?_ | (refine RT.goK rfl rfl rfl rfl ?_; apply Nx.of; (first | exact S.move | exact S.load1c rfl rfl rfl rfl | exact S.fieldAddr rfl rfl rfl | exact S.nilCheck)) | (refine RT.goK rfl rfl rfl rfl ?_; apply Nx.of; (first | exact S.len_sl rfl rfl rfl (by assumption))))
    refine Tr.loop (fun k : Nat => stL Try.f110.ntmps [] [(0, .ptr 2 0), (1, .int .i64 (i : Int)), (5, .ptr 4 0), (7, .ptr 5 0), (8, .int .i64 (wrS B i (t.c i) k)), (30, a2), (31, .int .i64 B.nc), (32, .int .i64 k)] [(5, some (.cells [.int .i64 (i : Int), .int .i64 (t.c i)])), (4, some (.cells (trV t).cells)), (0, some (oSt B)), (1, some (oCk B)), (2, some (.cells (pbC B a1 a2 3))), (3, some (oMap B L))] 6) (fun k => k ≤ B.nc) (fun k => B.nc - k) 0 (Nat.zero_le _) (by (refine Wk.same (by decide) (by decide) (by decide) (by decide) ?_ ?_ rfl; all_goals ((try simp only [allL, allM]); (repeat' (first | exact trivial | refine And.intro ?_ ?_)); all_goals (first | rfl | exact IsSl.ren (by assumption) (nm_lt (by decide)) | exact ren_ro _ _ _ | exact ren_mapA _ _ _ | exact pbc_ren h1 h2 (nm_lt (by decide)) (nm_lt (by decide)) (nm_lt (by decide)) | decide)))) (fun k hk => ?_)
    have hk4 : k < B.nc → ckOk B (B.ck k) (B.rd k) (B.er k) := fun h => hck.2 k h
    have hnc := hck.1
    have hsh : k < B.nc → In64 (1 * 2 ^ k) := fun h => by
      obtain rfl | rfl | rfl | rfl : k = 0 ∨ k = 1 ∨ k = 2 ∨ k = 3 := by omega
      all_goals (unfold In64; decide)
    by_cases hkn : k < B.nc
    · have hsh := hsh hkn
      obtain ⟨_, hr, he⟩ := hk4 hkn
      repeat' (first | refine RT.nil ?_ | refine sq_n ?_ | refine Tr.seq ?_ | refine Tr.region ?_ | refine Tr.cond_f rfl ?_ | refine Tr.cond_d rfl (fun _ => ?_) (fun _ => ?_) | refine Tr.skip ?_ | refine Tr.exit ?_ | refine sq_x ?_ | refine Tr.block ?_ | refine blk_n ?_ | refine blk_hit rfl ?_ | refine lp_x ?_ | (refine RT.splitd rfl rfl (fun _ => ?_) (fun _ => ?_)) | (refine RT.call rfl rfl rfl (isRight_at' _ _ _ hi _ _ _ (by assumption) (by assumption) (by assumption) _ _) rfl rfl (Nat.le_refl _) ?_) | (refine RT.goK rfl rfl rfl rfl ?_; apply Nx.of; (first | exact S.move | exact S.assign | exact S.load1c rfl rfl rfl rfl | exact S.loadNc rfl rfl rfl rfl | exact S.fieldAddr rfl rfl rfl | exact S.lss | exact S.eql | exact S.not_d | exact S.pick_tt | exact S.pick_ff | exact S.alloc rfl | exact S.add_one (by omega))) | (refine RT.goK0 rfl rfl rfl ?_; apply Nx.of; (first | exact S.store rfl rfl rfl rfl rfl rfl)) | (refine RT.goK rfl rfl rfl rfl ?_; apply Nx.of; (first | exact S.idx_sl rfl rfl rfl (by assumption) (by omega) | exact S.rowN0 rfl rfl rfl (fun _ => rfl) (range_at (by omega)) rfl)) | (refine RT.goK rfl rfl rfl rfl ?_; apply Nx.of; (first | exact S.shl (by omega) hsh | exact S.or)) | (refine RT.no rfl rfl rfl ?_))
      · have e1 : wrS B (i : Int) (t.c i) (k + 1) = orI (wrS B (i : Int) (t.c i) k) (1 * 2 ^ k) := by
          rw [wrS, show dB (B.ck k = (i : Int) ∧ ¬ (B.rd k - B.er k ≤ t.c i ∧ t.c i ≤ B.rd k + B.er k)) = true from dB_tt ⟨by assumption, by assumption⟩]; rfl
        exact lp_n (k + 1) (by omega) (by omega) (by (refine Wk.same (by decide) (by decide) (by decide) (by decide) ?_ ?_ rfl; all_goals ((try simp only [allL, allM]); (repeat' (first | exact trivial | refine And.intro ?_ ?_)); all_goals (first | rfl | exact congrArg some (congrArg (AV.int .i64) (by omega)) | exact IsSl.ren (by assumption) (nm_lt (by decide)) | exact ren_ro _ _ _ | exact ren_mapA _ _ _ | exact pbc_ren h1 h2 (nm_lt (by decide)) (nm_lt (by decide)) (nm_lt (by decide)) | decide))))
      · have e1 : wrS B (i : Int) (t.c i) (k + 1) = wrS B (i : Int) (t.c i) k := by
          rw [wrS, show dB (B.ck k = (i : Int) ∧ ¬ (B.rd k - B.er k ≤ t.c i ∧ t.c i ≤ B.rd k + B.er k)) = false from dB_ff fun h => absurd h.2 (by assumption)]; rfl
        exact lp_n (k + 1) (by omega) (by omega) (by (refine Wk.same (by decide) (by decide) (by decide) (by decide) ?_ ?_ rfl; all_goals ((try simp only [allL, allM]); (repeat' (first | exact trivial | refine And.intro ?_ ?_)); all_goals (first | rfl | exact congrArg some (congrArg (AV.int .i64) (by omega)) | exact IsSl.ren (by assumption) (nm_lt (by decide)) | exact ren_ro _ _ _ | exact ren_mapA _ _ _ | exact pbc_ren h1 h2 (nm_lt (by decide)) (nm_lt (by decide)) (nm_lt (by decide)) | decide))))
      · have e1 : wrS B (i : Int) (t.c i) (k + 1) = wrS B (i : Int) (t.c i) k := by
          rw [wrS, show dB (B.ck k = (i : Int) ∧ ¬ (B.rd k - B.er k ≤ t.c i ∧ t.c i ≤ B.rd k + B.er k)) = false from dB_ff fun h => absurd h.1 (by assumption)]; rfl
        exact lp_n (k + 1) (by omega) (by omega) (by (refine Wk.same (by decide) (by decide) (by decide) (by decide) ?_ ?_ rfl; all_goals ((try simp only [allL, allM]); (repeat' (first | exact trivial | refine And.intro ?_ ?_)); all_goals (first | rfl | exact congrArg some (congrArg (AV.int .i64) (by omega)) | exact IsSl.ren (by assumption) (nm_lt (by decide)) | exact ren_ro _ _ _ | exact ren_mapA _ _ _ | exact pbc_ren h1 h2 (nm_lt (by decide)) (nm_lt (by decide)) (nm_lt (by decide)) | decide))))
      · exfalso; omega
    · have hkn' : k = B.nc := by omega
      repeat' (first | refine RT.nil ?_ | refine sq_n ?_ | refine Tr.seq ?_ | refine Tr.region ?_ | refine Tr.cond_d rfl (fun _ => ?_) (fun _ => ?_) | refine Tr.skip ?_ | refine Tr.exit ?_ | refine sq_x ?_ | refine Tr.block ?_ | refine blk_hit rfl ?_ | refine lp_x ?_ | (refine RT.goK rfl rfl rfl rfl ?_; apply Nx.of; (first | exact S.move | exact S.lss)))
      · exfalso; omega
      refine Tr.openK un110_11 (by kernel_rfl) (by kernel_rfl) noCall noCall_calm ?_
      repeat' (first | (refine RD.free rfl rfl rfl rfl rfl rfl ?_; apply Nx.of; (first | exact S.move | exact S.fieldAddr rfl rfl rfl | exact S.nilCheck)) | (refine RD.load rfl rfl rfl rfl rfl rfl rfl rfl ?_; apply Nx.of; (first | exact S.load1c rfl rfl rfl rfl | exact S.loadNc rfl rfl rfl rfl)) | (refine RD.wide0 rfl rfl rfl rfl rfl rfl rfl ?_; (refine Nx.of (S.put_new (enc := moE) (f := wrA B) (L := L) (k := ((i : Int), t.c i)) moKeys rfl rfl rfl rfl hL (by rw [hkn']; rfl)) ⟨rfl, ?_⟩)) | refine RD.nil ⟨Nat.le_of_ble_eq_true rfl, ?_⟩)
      repeat' (first | refine RT.nil ?_ | refine sq_n ?_ | refine Tr.seq ?_ | refine Tr.region ?_ | refine Tr.ret ?_ | (refine RT.goK rfl rfl rfl rfl ?_; apply Nx.of; (first | exact S.move | exact S.assign)))
      (first | refine rt_go rfl ?_)
      refine ⟨by rw [hkn']; rfl, ?_⟩
      rw [insL, if_neg hL]
      exact getM rfl
theorem wrongAt_at {B : CBook} {a1 a2 : AV} {p q : Nat} {m : List (Nat × Option AObj)} {c : Nat} {L : List (Int × Int)} (h : PbIn B a1 a2 p q m c) (hm : lookM m q = some (oMap B L)) (hck : cksOk B) (t : Tru) (i : Nat) (hi : i < 3) (fl : Nat) (hfl : fl ≤ q) : OkAt 0 Try.prog fl 110 [.ptr p 0, .int .i64 (i : Int), trV t] (ofM m) c (.int .i64 (wrV B (i, t.c i))) (ofM ((q, some (oMap B (insL L (i, t.c i)))) :: m)) c := by
  have e0 : tau [0, 1, p, q] c 0 = 0 := rfl
  have e1 : tau [0, 1, p, q] c 1 = 1 := rfl
  have e2 : tau [0, 1, p, q] c 2 = p := rfl
  have e3 : tau [0, 1, p, q] c 3 = q := rfl
  have hp0 : p ≠ 0 := fun e => by have := h.m3; rw [e, h.m1] at this; cases this
  have hp1 : p ≠ 1 := fun e => by have := h.m3; rw [e, h.m2] at this; cases this
  have hq0 : q ≠ 0 := fun e => by rw [e, h.m1] at hm; cases hm
  have hq1 : q ≠ 1 := fun e => by rw [e, h.m2] at hm; cases hm
  have hqp : q ≠ p := fun e => by rw [e, h.m3] at hm; cases hm
  have ha : AV.rens (tau [0, 1, p, q] c) [.ptr 2 0, .int .i64 (i : Int), trV t] = [.ptr p 0, .int .i64 (i : Int), trV t] := rfl
  rw [← ha]
  have low : ∀ {z : Nat} {ob : AObj}, lookM [(0, some (oSt B)), (1, some (oCk B)), (2, some (.cells (pbC B a1 a2 3))), (3, some (oMap B L))] z = some ob → z = 0 ∨ z = 1 ∨ z = 2 ∨ z = 3 := fun {z ob} hz => by
    rcases Nat.lt_or_ge z 4 with h3 | h3
    · omega
    · exfalso
      simp only [lookM, Bool.cond_eq_ite] at hz
      rw [if_neg (by simp; omega), if_neg (by simp; omega), if_neg (by simp; omega), if_neg (by simp; omega)] at hz
      cases hz
  refine CanS.write (o0 := oMap B L) (wrongAt_can B a1 a2 h.h1 h.h2 hck L t i hi) (.int _ _) (ren_mapA _ _) rfl (tau [0, 1, p, q] c) (Nat.zero_le _) (fun g hg => by omega) (fun y hy => by rw [tau_ge hy]; omega) (fun y o hy => ?_) (fun x y o o' hx hy hxy => ?_) rfl hfl rfl rfl
  · rcases low hy with rfl | rfl | rfl | rfl
    · cases hy
      rw [e0, ren_ro]; exact getM h.m1
    · cases hy
      rw [e1, ren_ro]; exact getM h.m2
    · cases hy
      have : (AObj.cells (pbC B a1 a2 3)).ren (tau [0, 1, p, q] c) = .cells (pbC B a1 a2 q) := by simp only [pbC, AObj.ren, AV.ren, AV.rens, h.h1.ren e0, h.h2.ren e1, e3]
      rw [e2, this]; exact getM h.m3
    · cases hy
      rw [e3, ren_mapA]; exact getM hm
  · refine .inl ?_
    rcases low hx with rfl | rfl | rfl | rfl <;> rcases low hy with rfl | rfl | rfl | rfl <;> simp only [e0, e1, e2, e3] <;> omega
end Go.Proofs.Ytlnmcadbmpiopaa
/- Code that hands things to a consumer: what holds of the world beside the memory at hand goes along. -/
namespace Go.Ev
open Go
structure Cons where
  γ : Type
  J : γ → (Nat → Prop) → World → Prop
  Rd : Nat → Prop
  keep : ∀ s F w w', J s F w → w.heap.size ≤ w'.heap.size → (∀ b, F b ∨ Rd b → w'.heap[b]? = w.heap[b]?) → J s F w'
  lt : ∀ s F w b, J s F w → F b ∨ Rd b → b < w.heap.size
  lb : Nat
  ok : γ → List AV → Prop
  step : γ → List AV → γ × Bool
  lv : Nat → γ → Prop
  live : ∀ k s args, lv (k + 1) s → (step s args).2 = true → lv k (step s args).1
structure FrJ (ρ : Rho) (fl : Nat) (F : Nat → Prop) (w w' : World) : Prop where
  os : w'.os = w.os
  tape : w'.tape = w.tape
  output : w'.output = w.output
  size : w.heap.size ≤ w'.heap.size
  keep : ∀ b, b < w.heap.size → (∀ x p, fl ≤ x → ρ x = some p → p.b ≠ b) → ¬ F b → w'.heap[b]? = w.heap[b]?
structure Beside (C : Cons) (ρ : Rho) (l fl : Nat) (F : Nat → Prop) (s : C.γ) (w : World) : Prop where
  j : C.J s F w
  d : ∀ x p, x ≠ l → ρ x = some p → ¬ F p.b
  rd : ∀ x p, fl ≤ x → ρ x = some p → ¬ C.Rd p.b
  lb : ∃ p, ρ l = some p ∧ p.b = C.lb
section
variable {G : Nat} {P : Program} {C : Cons} {ρ ρ1 ρ2 : Rho} {fl cb c c' lo : Nat} {w w1 w2 : World} {F F1 F2 : Nat → Prop} {s s' : C.γ}
theorem FrJ.of (h : Fr ρ fl w w1) : FrJ ρ fl F w w1 := ⟨h.os, h.tape, h.output, h.size, fun b hb hn _ => h.keep b hb hn⟩
theorem FrJ.refl : FrJ ρ fl F w w := .of (.refl _ _ _)
theorem FrJ.trans (h : FrJ ρ fl F w w1) (e : ExtB ρ ρ1 fl cb w) (hF : ∀ b, F1 b → F b ∨ w.heap.size ≤ b) (k : FrJ ρ1 fl F1 w1 w2) : FrJ ρ fl F w w2 := by
  refine ⟨k.os.trans h.os, k.tape.trans h.tape, k.output.trans h.output, Nat.le_trans h.size k.size, fun b hb hn hf => ?_⟩
  refine (k.keep b (Nat.lt_of_lt_of_le hb h.size) (fun x p hx hp hpb => ?_) fun hf1 => ?_).trans (h.keep b hb hn hf)
  · rcases e.2 x p hx hp with h1 | ⟨y, q, hy, hq, hqb⟩
    · omega
    · exact hn y q hy hq (hqb.trans hpb)
  · rcases hF b hf1 with h1 | h1
    · exact hf h1
    · omega
theorem Beside.stab (h : Beside C ρ lo fl F s w) (h1 : lo < fl) (h2 : fl ≤ cb) (hE : ExtB ρ ρ1 fl cb w) (hF : Fr ρ fl w w1) : Beside C ρ1 lo fl F s w1 := by
  refine ⟨C.keep s F w w1 h.j hF.size fun b hb => hF.keep b (C.lt _ _ _ _ h.j hb) fun x p hx hp e => hb.elim (fun hb => h.d x p (by omega) hp (e ▸ hb)) fun hb => h.rd x p hx hp (e ▸ hb), fun x p hx hp hf => ?_, fun x p hx hp hf => ?_, ?_⟩
  · by_cases hc : x < cb
    · rw [hE.1 x hc] at hp; exact h.d x p hx hp hf
    · rcases hE.2 x p (by omega) hp with h3 | ⟨y, q, hy, hq, hb⟩
      · have := C.lt _ _ _ _ h.j (.inl hf); omega
      · exact h.d y q (by omega) hq (hb ▸ hf)
  · rcases hE.2 x p hx hp with h3 | ⟨y, q, hy, hq, hb⟩
    · have := C.lt _ _ _ _ h.j (.inr hf); omega
    · exact h.rd y q hy hq (hb ▸ hf)
  · obtain ⟨p, h3, h4⟩ := h.lb
    exact ⟨p, by rw [hE.1 lo (by omega)]; exact h3, h4⟩
def PostJ (G : Nat) (C : Cons) (ρ : Rho) (fl cb lo : Nat) (F : Nat → Prop) (w : World) (Q : AExit → St → C.γ → Prop) : Exit → Act → World → Prop := fun e' a' w' =>
  ∃ e st' ρ' s' F', e' = e.conc ∧ Q e st' s' ∧ SR G ρ' st' a' w' ∧ cb ≤ st'.c ∧ ExtB ρ ρ' fl cb w ∧ FrJ ρ fl F w w' ∧ Beside C ρ' lo fl F' s' w' ∧ ∀ b, F' b → F b ∨ w.heap.size ≤ b
structure TrJ (G : Nat) (P : Program) (C : Cons) (fl cb lo : Nat) (code : Code) (st : St) (s : C.γ) (Q : AExit → St → C.γ → Prop) : Prop where
  run : ∀ ρ a w F n, lo < fl → fl ≤ cb → SR G ρ st a w → cb ≤ st.c → Beside C ρ lo fl F s w → code.wpIn (FR none) n P (PostJ G C ρ fl cb lo F w Q) a w
variable {code x y : Code} {st st' st2 : St} {Q Q' : AExit → St → C.γ → Prop}
theorem PostJ.trans {e' : Exit} {a' : Act} {w' : World} (he : ExtB ρ ρ1 fl cb w) (hf : FrJ ρ fl F w w1) (hF : ∀ b, F1 b → F b ∨ w.heap.size ≤ b) (h : PostJ G C ρ1 fl cb lo F1 w1 Q e' a' w') : PostJ G C ρ fl cb lo F w Q e' a' w' := by
  obtain ⟨e, st', ρ', s', F', h1, h2, h3, h4, h5, h6, h7, h8⟩ := h
  refine ⟨e, st', ρ', s', F', h1, h2, h3, h4, he.trans hf.size h5, hf.trans he hF h6, h7, fun b hb => ?_⟩
  rcases h8 b hb with h9 | h9
  · exact hF b h9
  · exact .inr (Nat.le_trans hf.size h9)
theorem PostJ.of_T {e' : Exit} {a' : Act} {w' : World} (h1 : lo < fl) (h2 : fl ≤ cb) (hb : Beside C ρ lo fl F s w) (h : PostT G ρ fl cb w (fun e st => Q e st s) e' a' w') : PostJ G C ρ fl cb lo F w Q e' a' w' := by
  obtain ⟨e, st', ρ', g1, g2, g3, g4, g5, g6⟩ := h
  exact ⟨e, st', ρ', s, F, g1, g2, g3, g4, g5, .of g6, hb.stab h1 h2 g5 g6, fun b hb => .inl hb⟩
theorem TrJ.lift (h : Tr G P fl cb none code st (fun e st' => Q e st' s)) : TrJ G P C fl cb lo code st s Q :=
  ⟨fun ρ a w F n h1 h2 hs hc hb => wpIn_mono (h.run ρ a w none n hs hc (fun l hl => by cases hl) trivial) fun _ _ _ hp => .of_T h1 h2 hb hp⟩
def sqJ0 (G : Nat) (P : Program) (C : Cons) (fl cb lo : Nat) (y : Code) (Q : AExit → St → C.γ → Prop) : AExit → St → C.γ → Prop
  | .normal, st, s => TrJ G P C fl cb lo y st s Q
  | e, st, s => Q e st s
structure sqJ (G : Nat) (P : Program) (C : Cons) (fl cb lo : Nat) (y : Code) (Q : AExit → St → C.γ → Prop) (e : AExit) (st : St) (s : C.γ) : Prop where
  go : sqJ0 G P C fl cb lo y Q e st s
theorem sqJ_n (h : TrJ G P C fl cb lo y st s Q) : sqJ G P C fl cb lo y Q .normal st s := ⟨h⟩
theorem sqJ_r (h : Q .ret st s) : sqJ G P C fl cb lo y Q .ret st s := ⟨h⟩
theorem sqJ_x {id : Nat} (h : Q (.exit id) st s) : sqJ G P C fl cb lo y Q (.exit id) st s := ⟨h⟩
theorem TrJ.seq (h : TrJ G P C fl cb lo x st s (sqJ G P C fl cb lo y Q)) : TrJ G P C fl cb lo (.seq x y) st s Q := by
  refine ⟨fun ρ a w F n h1 h2 hs hc hb => ?_⟩
  refine wpIn_seq (wpIn_mono (h.run ρ a w F n h1 h2 hs hc hb) fun e1 a1 w1 hp => ?_)
  obtain ⟨e, st1, ρ1, s1, F1, rfl, ⟨hq⟩, hs1, hc1, he1, hf1, hb1, hF1⟩ := hp
  cases e with
  | normal => exact wpIn_mono (TrJ.run hq ρ1 a1 w1 F1 n h1 h2 hs1 hc1 hb1) fun _ _ _ hp2 => hp2.trans he1 hf1 hF1
  | exit id => exact ⟨.exit id, st1, ρ1, s1, F1, rfl, hq, hs1, hc1, he1, hf1, hb1, hF1⟩
  | goto l => exact ⟨.goto l, st1, ρ1, s1, F1, rfl, hq, hs1, hc1, he1, hf1, hb1, hF1⟩
  | ret => exact ⟨.ret, st1, ρ1, s1, F1, rfl, hq, hs1, hc1, he1, hf1, hb1, hF1⟩
theorem TrJ.skip (h : Q .normal st s) : TrJ G P C fl cb lo .skip st s Q := .lift (.skip h)
theorem TrJ.label {l : Nat} (h : Q .normal st s) : TrJ G P C fl cb lo (.label l) st s Q := .lift (.label h)
theorem TrJ.exit {id : Nat} (h : Q (.exit id) st s) : TrJ G P C fl cb lo (.exit id) st s Q := .lift (.exit h)
theorem TrJ.ret (h : Q .ret st s) : TrJ G P C fl cb lo .ret st s Q := .lift (.ret h)
theorem TrJ.cond {n : Nat} {dfs : List Nat} {l : List (Nat × AV)} {m : List (Nat × Option AObj)} {t : Nat} {v : Bool} (hv : look l t = some (.bool v))
    (h : if v then TrJ G P C fl cb lo x (stL n dfs l m c) s Q else TrJ G P C fl cb lo y (stL n dfs l m c) s Q) : TrJ G P C fl cb lo (.cond (.tmp t) x y) (stL n dfs l m c) s Q := by
  refine ⟨fun ρ a w F k h1 h2 hs hc hb => ?_⟩
  have := hs.env.2 t (.bool v) (by rw [← hv]; exact ofL_get l t)
  simp only [VR] at this
  refine wpIn_cond (t := v) this.2 ?_
  cases v with
  | true => exact h.run ρ a w F k h1 h2 hs hc hb
  | false => exact h.run ρ a w F k h1 h2 hs hc hb
theorem TrJ.cond_t {n : Nat} {dfs : List Nat} {l : List (Nat × AV)} {m : List (Nat × Option AObj)} {t : Nat} (hv : look l t = some (.bool true)) (h : TrJ G P C fl cb lo x (stL n dfs l m c) s Q) : TrJ G P C fl cb lo (.cond (.tmp t) x y) (stL n dfs l m c) s Q := TrJ.cond hv h
theorem TrJ.cond_f {n : Nat} {dfs : List Nat} {l : List (Nat × AV)} {m : List (Nat × Option AObj)} {t : Nat} (hv : look l t = some (.bool false)) (h : TrJ G P C fl cb lo y (stL n dfs l m c) s Q) : TrJ G P C fl cb lo (.cond (.tmp t) x y) (stL n dfs l m c) s Q := TrJ.cond hv h
theorem TrJ.cond_d {n : Nat} {dfs : List Nat} {l : List (Nat × AV)} {m : List (Nat × Option AObj)} {t : Nat} {p : Prop} {inst : Decidable p} (hv : look l t = some (.bool (@decide p inst)))
    (h1 : p → TrJ G P C fl cb lo x (stL n dfs l m c) s Q) (h2 : ¬ p → TrJ G P C fl cb lo y (stL n dfs l m c) s Q) : TrJ G P C fl cb lo (.cond (.tmp t) x y) (stL n dfs l m c) s Q := by
  refine TrJ.cond hv ?_
  by_cases hp : p
  · rw [if_pos (by simpa using hp)]; exact h1 hp
  · rw [if_neg (by simpa using hp)]; exact h2 hp
def blkJ0 (C : Cons) (id : Nat) (Q : AExit → St → C.γ → Prop) : AExit → St → C.γ → Prop
  | .exit id', st, s => bif Nat.beq id' id then Q .normal st s else Q (.exit id') st s
  | e, st, s => Q e st s
structure blkJ (C : Cons) (id : Nat) (Q : AExit → St → C.γ → Prop) (e : AExit) (st : St) (s : C.γ) : Prop where
  go : blkJ0 C id Q e st s
theorem blkJ_n {id : Nat} (h : Q .normal st s) : blkJ C id Q .normal st s := ⟨h⟩
theorem blkJ_r {id : Nat} (h : Q .ret st s) : blkJ C id Q .ret st s := ⟨h⟩
theorem blkJ_hit {id id' : Nat} (e : Nat.beq id' id = true) (h : Q .normal st s) : blkJ C id Q (.exit id') st s := ⟨by show (bif Nat.beq id' id then Q .normal st s else Q (.exit id') st s); rw [e]; exact h⟩
theorem TrJ.block {id : Nat} (h : TrJ G P C fl cb lo x st s (blkJ C id Q)) : TrJ G P C fl cb lo (.block id x) st s Q := by
  refine ⟨fun ρ a w F n h1 h2 hs hc hb => ?_⟩
  refine wpIn_block (wpIn_mono (h.run ρ a w F n h1 h2 hs hc hb) fun e1 a1 w1 hp => ?_)
  obtain ⟨e, st1, ρ1, s1, F1, rfl, ⟨hq⟩, hs1, hc1, he1, hf1, hb1, hF1⟩ := hp
  cases e with
  | normal => exact ⟨.normal, st1, ρ1, s1, F1, rfl, hq, hs1, hc1, he1, hf1, hb1, hF1⟩
  | exit id' =>
    simp only [AExit.conc, Exit.inBlock]
    simp only [blkJ0, Bool.cond_eq_ite] at hq
    by_cases hid : id' = id
    · rw [if_pos (by simp [hid])] at hq
      rw [if_pos hid]
      exact ⟨.normal, st1, ρ1, s1, F1, rfl, hq, hs1, hc1, he1, hf1, hb1, hF1⟩
    · rw [if_neg (by simp [hid])] at hq
      rw [if_neg hid]
      exact ⟨.exit id', st1, ρ1, s1, F1, rfl, hq, hs1, hc1, he1, hf1, hb1, hF1⟩
  | goto l => exact ⟨.goto l, st1, ρ1, s1, F1, rfl, hq, hs1, hc1, he1, hf1, hb1, hF1⟩
  | ret => exact ⟨.ret, st1, ρ1, s1, F1, rfl, hq, hs1, hc1, he1, hf1, hb1, hF1⟩
def scpJ0 (C : Cons) (Q : AExit → St → C.γ → Prop) : AExit → St → C.γ → Prop
  | .goto _, _, _ => False
  | e, st, s => Q e st s
structure scpJ (C : Cons) (Q : AExit → St → C.γ → Prop) (e : AExit) (st : St) (s : C.γ) : Prop where
  go : scpJ0 C Q e st s
theorem scpJ_n (h : Q .normal st s) : scpJ C Q .normal st s := ⟨h⟩
theorem scpJ_r (h : Q .ret st s) : scpJ C Q .ret st s := ⟨h⟩
theorem TrJ.scope (h : TrJ G P C fl cb lo x st s (scpJ C Q)) : TrJ G P C fl cb lo (.scope x) st s Q := by
  refine ⟨fun ρ a w F n h1 h2 hs hc hb => ?_⟩
  refine wpIn_scope_straight (wpIn_mono (h.run ρ a w F n h1 h2 hs hc hb) fun e1 a1 w1 hp => ?_)
  obtain ⟨e, st1, ρ1, s1, F1, rfl, ⟨hq⟩, hs1, hc1, he1, hf1, hb1, hF1⟩ := hp
  cases e with
  | normal => exact ⟨by simp [AExit.conc], .normal, st1, ρ1, s1, F1, rfl, hq, hs1, hc1, he1, hf1, hb1, hF1⟩
  | exit id => exact ⟨by simp [AExit.conc], .exit id, st1, ρ1, s1, F1, rfl, hq, hs1, hc1, he1, hf1, hb1, hF1⟩
  | goto l => exact hq.elim
  | ret => exact ⟨by simp [AExit.conc], .ret, st1, ρ1, s1, F1, rfl, hq, hs1, hc1, he1, hf1, hb1, hF1⟩
def lpJ0 {α : Type} (G : Nat) (C : Cons) (fl cb : Nat) (S : α → St) (I : α → C.γ → Prop) (μ : α → Nat) (i : α) (Q : AExit → St → C.γ → Prop) : AExit → St → C.γ → Prop
  | .normal, st, s => ∃ j, I j s ∧ μ j < μ i ∧ Wk G fl cb st (S j)
  | e, st, s => Q e st s
structure lpJ {α : Type} (G : Nat) (C : Cons) (fl cb : Nat) (S : α → St) (I : α → C.γ → Prop) (μ : α → Nat) (i : α) (Q : AExit → St → C.γ → Prop) (e : AExit) (st : St) (s : C.γ) : Prop where
  go : lpJ0 G C fl cb S I μ i Q e st s
section
variable {α : Type} {S : α → St} {I : α → C.γ → Prop} {μ : α → Nat} {i : α}
theorem lpJ_r (h : Q .ret st s) : lpJ G C fl cb S I μ i Q .ret st s := ⟨h⟩
theorem lpJ_x {id : Nat} (h : Q (.exit id) st s) : lpJ G C fl cb S I μ i Q (.exit id) st s := ⟨h⟩
theorem lpJ_n (j : α) (h1 : I j s) (h2 : μ j < μ i) (h3 : Wk G fl cb st (S j)) : lpJ G C fl cb S I μ i Q .normal st s := ⟨⟨j, h1, h2, h3⟩⟩
end
theorem TrJ.loop {α : Type} (S : α → St) (I : α → C.γ → Prop) (μ : α → Nat) (i0 : α) (h0 : I i0 s) (hw : Wk G fl cb st (S i0))
    (h : ∀ i s, I i s → TrJ G P C fl cb lo x (S i) s (lpJ G C fl cb S I μ i Q)) : TrJ G P C fl cb lo (.loop x) st s Q := by
  refine ⟨fun ρ a w F n h1 h2 hs hc hb => ?_⟩
  refine wpIn_loop_fuel (fun g a1 w1 => ∃ i ρ1 s1 F1, I i s1 ∧ μ i = g ∧ SR G ρ1 (S i) a1 w1 ∧ cb ≤ (S i).c ∧ ExtB ρ ρ1 fl cb w ∧ FrJ ρ fl F w w1 ∧ Beside C ρ1 lo fl F1 s1 w1 ∧ ∀ b, F1 b → F b ∨ w.heap.size ≤ b) (μ i0) ?_ ?_
  · obtain ⟨ρ1, hs1, he1⟩ := hw.sr hs
    exact ⟨i0, ρ1, s, F, h0, rfl, hs1, hw.c, he1, .refl, hb.stab h1 h2 he1 (.refl _ _ _), fun b hb => .inl hb⟩
  · rintro g a1 w1 ⟨i, ρ1, s1, F1, hi, rfl, hs1, hc1, he1, hf1, hb1, hF1⟩
    refine wpIn_mono ((h i s1 hi).run ρ1 a1 w1 F1 n h1 h2 hs1 hc1 hb1) fun e1 a2 w2 hp => ?_
    obtain ⟨e, st2, ρ2, s2, F2, rfl, ⟨hq⟩, hs2, hc2, he2, hf2, hb2, hF2⟩ := hp
    have hE := he1.trans hf1.size he2
    have hF := hf1.trans he1 hF1 hf2
    have hFF : ∀ b, F2 b → F b ∨ w.heap.size ≤ b := fun b hb => (hF2 b hb).elim (hF1 b) fun h => .inr (Nat.le_trans hf1.size h)
    cases e with
    | normal =>
      obtain ⟨j, hj, hlt, hwk⟩ := hq
      obtain ⟨ρ3, hs3, he3⟩ := hwk.sr hs2
      exact ⟨μ j, hlt, j, ρ3, s2, F2, hj, rfl, hs3, hwk.c, hE.trans hF.size he3, hF, hb2.stab h1 h2 he3 (.refl _ _ _), hFF⟩
    | exit id => exact ⟨.exit id, st2, ρ2, s2, F2, rfl, hq, hs2, hc2, hE, hF, hb2, hFF⟩
    | goto l => exact ⟨.goto l, st2, ρ2, s2, F2, rfl, hq, hs2, hc2, hE, hF, hb2, hFF⟩
    | ret => exact ⟨.ret, st2, ρ2, s2, F2, rfl, hq, hs2, hc2, hE, hF, hb2, hFF⟩
def unJ0 (G : Nat) (P : Program) (C : Cons) (fl cb lo : Nat) (x : Code) (Q : AExit → St → C.γ → Prop) : Nat → AExit → St → C.γ → Prop
  | _, .exit id, st, s => Q (.exit id) st s
  | _, .goto id, st, s => Q (.goto id) st s
  | _, .ret, st, s => Q .ret st s
  | 0, .normal, _, _ => False
  | k + 1, .normal, st, s => TrJ G P C fl cb lo x st s (unJ0 G P C fl cb lo x Q k)
structure unJ (G : Nat) (P : Program) (C : Cons) (fl cb lo : Nat) (x : Code) (Q : AExit → St → C.γ → Prop) (k : Nat) (e : AExit) (st : St) (s : C.γ) : Prop where
  go : unJ0 G P C fl cb lo x Q k e st s
end
end Go.Ev
/- Consumers: regions that hand over or call on; contracts. -/
namespace Go.Ev
open Go
section
variable {G : Nat} {P : Program} {C : Cons} {ρ ρ1 ρ2 : Rho} {fl cb c c' lo : Nat} {w w1 w2 : World} {F F1 F2 : Nat → Prop} {s s' : C.γ}
variable {code x y : Code} {st st' st2 : St} {Q Q' : AExit → St → C.γ → Prop} {ops : Array Oper} {rest : List Oper} {o : Oper} {n d : Nat} {dfs : List Nat} {l : List (Nat × AV)} {m m' : List (Nat × Option AObj)} {v : AV} {vs : List AV}
structure RTJ (G : Nat) (P : Program) (C : Cons) (fl cb lo : Nat) (ops : Array Oper) (rest : List Oper) (st : St) (s : C.γ) (Q : AExit → St → C.γ → Prop) : Prop where
  run : ∀ ρ a w F k (K : Exit → Act → World → Prop), lo < fl → fl ≤ cb → SR G ρ st a w → cb ≤ st.c → Beside C ρ lo fl F s w → (∀ a' w', PostJ G C ρ fl cb lo F w Q .normal a' w' → K .normal a' w') → wpListIn (FR none) k P ops K rest a w
theorem TrJ.region {id : Nat} (h : RTJ G P C fl cb lo ops ops.toList st s Q) : TrJ G P C fl cb lo (.region id ops false) st s Q :=
  ⟨fun ρ a w F n h1 h2 hs hc hb => wpIn_region_list (h.run ρ a w F n _ h1 h2 hs hc hb fun a' w' hp => hp)⟩
theorem RTJ.nil (h : Q .normal st s) : RTJ G P C fl cb lo ops [] st s Q := ⟨fun ρ _ _ F _ _ h1 h2 hs hc hb hK => hK _ _ ⟨.normal, st, ρ, s, F, rfl, h, hs, hc, .refl _ _ _ _, .refl, hb, fun b hb => .inl hb⟩⟩
theorem RTJ.cons [hP : PG P G] {call round : CallFn} (hcall : CallOK G P call) (hround : RoundOK G P round) (e : sOp P call round fl ops.toList o st = some st2) (hc2 : cb ≤ st2.c)
    (h : RTJ G P C fl cb lo ops rest st2 s Q) : RTJ G P C fl cb lo ops (o :: rest) st s Q := by
  refine ⟨fun ρ a w F k K h1 h2 hs hc hb hK => ?_⟩
  exact sOp_sound hP.size hcall hround hs e fun a' w' hg => by
    obtain ⟨ρ1, hs1, he1, hf1⟩ := hg
    have hE := ExtB.of_ext he1 hc
    exact h.run ρ1 a' w' F k K h1 h2 hs1 hc2 (hb.stab h1 h2 hE hf1) fun a2 w2 hp => hK a2 w2 (hp.trans hE (.of hf1) fun b hb => .inl hb)
theorem RTJ.low {st : St} (h : cb ≤ st.c → RTJ G P C fl cb lo ops rest st s Q) : RTJ G P C fl cb lo ops rest st s Q := ⟨fun ρ a w F k K h1 h2 hs hc hb hK => (h hc).run ρ a w F k K h1 h2 hs hc hb hK⟩
theorem RTJ.goK [hP : PG P G] (hw : wantedL ops.toList o l = some true) (hv : operandsL G l (opArgs o.op) = some vs) (hd : o.dst = some d) (hn : Nat.blt d n = true)
    (h : Nx P fl o.op vs m c fun v m' c' => RTJ G P C fl cb lo ops rest (stL n dfs ((d, v) :: l) m' c') s Q) : RTJ G P C fl cb lo ops (o :: rest) (stL n dfs l m c) s Q := by
  obtain ⟨v, m', c', hs, h⟩ := h.ex
  refine RTJ.low fun hcb => RTJ.cons noCall_ok noRound_ok (st2 := stL n dfs ((d, v) :: l) m' c') ?_ (Nat.le_trans hcb hs.le) h
  unfold sOp
  have h1 : wantedA ops.toList o (stL n dfs l m c).env = some true := by rw [← hw]; exact wantedL_eq _ _ _
  have h2 : operandsA P.globals.size (stL n dfs l m c).env (opArgs o.op) = some vs := by rw [hP.size, ← hv]; exact operandsL_eq _ _ _
  have h3 : stepA P noCall noCall fl o.op vs (stL n dfs l m c).H (stL n dfs l m c).c = some (v, ofM m', c') := hs.step noCall noCall
  simp only [h1, h2, sRun, h3, sDone, putA, hd]
  have h4 : Nat.blt d (stL n dfs l m c).n = true := hn
  rw [h4]
  rfl
theorem RTJ.goK0 [hP : PG P G] (hw : wantedL ops.toList o l = some true) (hv : operandsL G l (opArgs o.op) = some vs) (hd : o.dst = none)
    (h : Nx P fl o.op vs m c fun _ m' c' => RTJ G P C fl cb lo ops rest (stL n dfs l m' c') s Q) : RTJ G P C fl cb lo ops (o :: rest) (stL n dfs l m c) s Q := by
  obtain ⟨v, m', c', hs, h⟩ := h.ex
  refine RTJ.low fun hcb => RTJ.cons noCall_ok noRound_ok (st2 := stL n dfs l m' c') ?_ (Nat.le_trans hcb hs.le) h
  unfold sOp
  have h1 : wantedA ops.toList o (stL n dfs l m c).env = some true := by rw [← hw]; exact wantedL_eq _ _ _
  have h2 : operandsA P.globals.size (stL n dfs l m c).env (opArgs o.op) = some vs := by rw [hP.size, ← hv]; exact operandsL_eq _ _ _
  have h3 : stepA P noCall noCall fl o.op vs (stL n dfs l m c).H (stL n dfs l m c).c = some (v, ofM m', c') := hs.step noCall noCall
  simp only [h1, h2, sRun, h3, sDone, putA, hd]
  rfl
theorem RTJ.no [PG P G] (hw : wantedL ops.toList o l = some false) (hd : o.dst = some d) (hn : Nat.blt d n = true) (h : RTJ G P C fl cb lo ops rest (stL n dfs ((d, undefA) :: l) m c) s Q) : RTJ G P C fl cb lo ops (o :: rest) (stL n dfs l m c) s Q := by
  refine RTJ.low fun hcb => RTJ.cons noCall_ok noRound_ok (st2 := stL n dfs ((d, undefA) :: l) m c) ?_ hcb h
  unfold sOp
  have h1 : wantedA ops.toList o (stL n dfs l m c).env = some false := by rw [← hw]; exact wantedL_eq _ _ _
  simp only [h1, putA, hd]
  have h4 : Nat.blt d (stL n dfs l m c).n = true := hn
  rw [h4]
  rfl
theorem RTJ.call [hP : PG P G] {f : Nat} {first cap args : List AV} (hw : wantedL ops.toList o l = some true) (hk : isCall o.op = true) (hv : operandsL G l (opArgs o.op) = some (.fn f first cap :: args)) (hs : OkAt G P fl f (first ++ args ++ cap) (ofM m) c v (ofM m') c')
    (hd : o.dst = some d) (hn : Nat.blt d n = true) (hc : c ≤ c') (h : RTJ G P C fl cb lo ops rest (stL n dfs ((d, v) :: l) m' c') s Q) : RTJ G P C fl cb lo ops (o :: rest) (stL n dfs l m c) s Q := by
  refine RTJ.low fun hcb => RTJ.cons (one_ok hs) noRound_ok (st2 := stL n dfs ((d, v) :: l) m' c') ?_ (Nat.le_trans hcb hc) h
  unfold sOp
  have h1 : wantedA ops.toList o (stL n dfs l m c).env = some true := by rw [← hw]; exact wantedL_eq _ _ _
  have h2 : operandsA P.globals.size (stL n dfs l m c).env (opArgs o.op) = some (.fn f first cap :: args) := by rw [hP.size, ← hv]; exact operandsL_eq _ _ _
  have h3 : stepA P (oneS fl f (first ++ args ++ cap) (ofM m) c v (ofM m') c') noCall fl o.op (.fn f first cap :: args) (stL n dfs l m c).H (stL n dfs l m c).c = some (v, ofM m', c') := by
    unfold stepA
    rw [hk]
    exact one_at _ _ _ _ _ _ _ _
  simp only [h1, h2, sRun, h3, sDone, putA, hd]
  have h4 : Nat.blt d (stL n dfs l m c).n = true := hn
  rw [h4]
  rfl
theorem RTJ.env {l' : List (Nat × AV)} (h : ∀ t, look l' t = look l t) (k : RTJ G P C fl cb lo ops rest (stL n dfs l' m c) s Q) : RTJ G P C fl cb lo ops rest (stL n dfs l m c) s Q := by
  refine ⟨fun ρ a w F j K h1 h2 hs hc hb hK => k.run ρ a w F j K h1 h2 ⟨⟨hs.env.1, fun t v ht => hs.env.2 t v ?_⟩, hs.mem, hs.dfs⟩ hc hb hK⟩
  show (ofL l).get t = _
  rw [ofL_get, ← h]
  have : (ofL l').get t = some v := ht
  rwa [ofL_get] at this
theorem RTJ.splitd {d0 : Nat} {p : Prop} {inst : Decidable p} (hg : gtmp ops.toList o = some d0) (hv : look l d0 = some (.bool (@decide p inst))) (h1 : p → RTJ G P C fl cb lo ops (o :: rest) (stL n dfs ((d0, .bool true) :: l) m c) s Q) (h2 : ¬ p → RTJ G P C fl cb lo ops (o :: rest) (stL n dfs ((d0, .bool false) :: l) m c) s Q) :
    RTJ G P C fl cb lo ops (o :: rest) (stL n dfs l m c) s Q := by
  by_cases hp : p
  · exact RTJ.env (look_put hv (by rw [decide_eq_true hp])) (h1 hp)
  · exact RTJ.env (look_put hv (by rw [decide_eq_false hp])) (h2 hp)
def YldOK (P : Program) (C : Cons) : Prop := ∀ s F w us args, C.J s F w → C.ok s args → VRs (fun _ => none) args us → ∃ fn tmps assign body, (Instr.yield C.lb us.toArray).run P w = .ok (.round C.lb fn tmps assign body) w ∧
  ∀ r n, RoundIn (FR r) n P C.lb fn tmps assign body w fun e w' => ∃ F', e = .returned (.bool (C.step s args).2) ∧ C.J (C.step s args).1 F' w' ∧ w'.os = w.os ∧ w'.tape = w.tape ∧ w'.output = w.output ∧ w.heap.size ≤ w'.heap.size ∧
    (∀ b, b < w.heap.size → ¬ F b → w'.heap[b]? = w.heap[b]?) ∧ ∀ b, F' b → F b ∨ w.heap.size ≤ b
structure OkJ (G : Nat) (P : Program) (C : Cons) (fl lo f : Nat) (args : List AV) (m : List (Nat × Option AObj)) (c : Nat) (s : C.γ) (R : AV → List (Nat × Option AObj) → C.γ → Prop) : Prop where
  enter : ∀ us w, (callFunc f us).run P w = .ok (.enter f us) w
  run : ∀ ρ w F us, Holds G ρ (ofM m) c w → VRs ρ args us → Beside C ρ lo fl F s w → ∀ r n, CallsIn (FR r) n P f us.toArray w fun e w' =>
    ∃ u v m' s' F', e = .returned u ∧ R v m' s' ∧ VR ρ v u ∧ Holds G ρ (ofM m') c w' ∧ FrJ ρ fl F w w' ∧ Beside C ρ lo fl F' s' w' ∧ ∀ b, F' b → F b ∨ w.heap.size ≤ b
theorem wantedT {a : Act} (he : EnvR ρ (ofL l) n a.tmps) (hw : wantedL ops.toList o l = some true) : Region.wanted o (yielded ops a.tmps) = true := wanted_sound he (by rw [wantedL_eq]; exact hw)
theorem RTJ.callJ [hP : PG P G] {f : Nat} {first cap args : List AV} {R : AV → List (Nat × Option AObj) → C.γ → Prop} (hw : wantedL ops.toList o l = some true) (hk : isCall o.op = true) (hv : operandsL G l (opArgs o.op) = some (.fn f first cap :: args)) (hs : OkJ G P C fl lo f (first ++ args ++ cap) m c s R)
    (hd : o.dst = some d) (hn : Nat.blt d n = true) (h : ∀ v m' s', R v m' s' → RTJ G P C fl cb lo ops rest (stL n dfs ((d, v) :: l) m' c) s' Q) : RTJ G P C fl cb lo ops (o :: rest) (stL n dfs l m c) s Q := by
  refine ⟨fun ρ a w F k K h1 h2 hs0 hc hb hK => ?_⟩
  show (if Region.wanted o (yielded ops a.tmps) then _ else _)
  rw [wantedT hs0.env hw, if_pos rfl]
  have hvs := operands_sound (G := G) hs0.mem hs0.env (xs := opArgs o.op) (vs := .fn f first cap :: args) (by rw [← hv]; exact operandsL_eq _ _ _)
  refine ⟨fun f _ => FR_fn none f, ?_⟩
  obtain ⟨dst, op, type, pos, after, guard⟩ := o
  simp only at hk hvs hd ⊢
  subst hd
  cases op <;> simp only [isCall, Bool.false_eq_true] at hk
  rename_i kk
  obtain ⟨callee, cargs, argTypes⟩ := kk
  cases callee <;> simp only [Bool.false_eq_true] at hk
  rename_i g
  rw [semAt_eq (r := (FR none).round) (by intro k h; cases h)]
  have hv' : VRs ρ (.fn f first cap :: args) (a.eval g :: (cargs.map a.eval).toList) := by simpa [opArgs, Op.operands, Call.operands] using hvs
  obtain ⟨u, us, e0, g1, g2⟩ := hv'.cons_inv
  simp only [List.cons.injEq] at e0
  obtain ⟨e1, e2⟩ := e0
  simp only [VR] at g1
  obtain ⟨fs, cs, hf, hc2, rfl⟩ := g1
  have hex : (execOp a.eval { dst := some d, op := .call { callee := .value g, args := cargs, argTypes := argTypes }, type := type, pos := pos, after := after, guard := guard }).run P w = .ok (.enter f (fs.toArray ++ cargs.map a.eval ++ cs.toArray)) w := by
    simp only [execOp, resolve, e1, Deferred.ofValue, Sem.run_bind, Sem.run_pure, Result.andThen_ok, invoke, hs.enter]
  rw [hex]
  simp only [Oper.uponIn_enter]
  refine ⟨fun h => (by rw [FR_depth] at h; cases h), ?_⟩
  have := hs.run ρ w F _ hs0.mem ((hf.append g2).append hc2) hb none (k - 1)
  rw [show (fs ++ us ++ cs).toArray = fs.toArray ++ cargs.map a.eval ++ cs.toArray by rw [← e2]; simp] at this
  refine this.mono fun e' w' hh => ?_
  obtain ⟨u, v, m', s', F', rfl, hR, hvu, hw', hfr, hb', hFF⟩ := hh
  exact (h v m' s' hR).run ρ (a.put (some d) u) w' F' k K h1 h2 ⟨put_sound hs0.env hvu (put_some (o := ⟨some d, .call ⟨.value g, cargs, argTypes⟩, type, pos, after, guard⟩) hn rfl), hw', by rw [put_defers]; exact hs0.dfs⟩ hc hb'
    fun a2 w2 hp => hK a2 w2 (hp.trans (.refl _ _ _ _) hfr hFF)
theorem RTJ.yield [hP : PG P G] {args : List AV} (hY : YldOK P C) (hw : wantedL ops.toList o l = some true) (hk : isCall o.op = true) (hv : operandsL G l (opArgs o.op) = some (.yld lo :: args)) (hp : Pls args) (hok : C.ok s args) (hlo : lookM m lo = none)
    (hd : o.dst = some d) (hn : Nat.blt d n = true) (h : RTJ G P C fl cb lo ops rest (stL n dfs ((d, .bool (C.step s args).2) :: l) m c) (C.step s args).1 Q) : RTJ G P C fl cb lo ops (o :: rest) (stL n dfs l m c) s Q := by
  refine ⟨fun ρ a w F k K h1 h2 hs0 hc hb hK => ?_⟩
  show (if Region.wanted o (yielded ops a.tmps) then _ else _)
  rw [wantedT hs0.env hw, if_pos rfl]
  have hvs := operands_sound (G := G) hs0.mem hs0.env (xs := opArgs o.op) (vs := .yld lo :: args) (by rw [← hv]; exact operandsL_eq _ _ _)
  refine ⟨fun f _ => FR_fn none f, ?_⟩
  obtain ⟨dst, op, type, pos, after, guard⟩ := o
  simp only at hk hvs hd ⊢
  subst hd
  cases op <;> simp only [isCall, Bool.false_eq_true] at hk
  rename_i kk
  obtain ⟨callee, cargs, argTypes⟩ := kk
  cases callee <;> simp only [Bool.false_eq_true] at hk
  rename_i g
  rw [semAt_eq (r := (FR none).round) (by intro k h; cases h)]
  have hv' : VRs ρ (.yld lo :: args) (a.eval g :: (cargs.map a.eval).toList) := by simpa [opArgs, Op.operands, Call.operands] using hvs
  obtain ⟨u, us, e0, g1, g2⟩ := hv'.cons_inv
  simp only [List.cons.injEq] at e0
  obtain ⟨e1, e2⟩ := e0
  simp only [VR] at g1
  obtain ⟨p, hpl, rfl⟩ := g1
  obtain ⟨p', hp1, hp2⟩ := hb.lb
  rw [hpl] at hp1
  cases hp1
  have hno : ∃ x, ρ x = none := ⟨c, hs0.mem.fresh c (Nat.le_refl _)⟩
  obtain ⟨fn, tmps, assign, body, hy, hr⟩ := hY s F w us args hb.j hok (hp.vrs hno g2)
  rw [← hp2] at hy hr
  have hex : (execOp a.eval { dst := some d, op := .call { callee := .value g, args := cargs, argTypes := argTypes }, type := type, pos := pos, after := after, guard := guard }).run P w = .ok (.round p.b fn tmps assign body) w := by
    have : #[] ++ cargs.map a.eval = us.toArray := by rw [← e2, Array.toArray_toList]; exact Array.empty_append
    simp only [execOp, resolve, e1, Deferred.ofValue, Sem.run_bind, Sem.run_pure, Result.andThen_ok, invoke, this, hy]
  rw [hex]
  simp only [Oper.uponIn_round]
  refine ⟨fun h => (by rw [FR_depth] at h; cases h), (hr none (k - 1)).mono fun e' w' hh => ?_⟩
  obtain ⟨F', rfl, hJ, q1, q2, q3, q4, q5, q6⟩ := hh
  have hmem : Holds G ρ (ofM m) c w' := by
    refine ⟨fun x ob hx => ?_, hs0.mem.sep, hs0.mem.fresh, fun x p hp => Nat.lt_of_lt_of_le (hs0.mem.lt x p hp) q4, hs0.mem.glob⟩
    obtain ⟨px, hx1, hx2⟩ := hs0.mem.obj x ob hx
    have hne : x ≠ lo := fun e => by (have hx0 : (ofM m).get x = some ob := hx; rw [e, ofM_get, hlo] at hx0; cases hx0)
    exact ⟨px, hx1, hx2.world (q5 px.b (hs0.mem.lt x px hx1) (hb.d x px hne hx1))⟩
  exact h.run ρ (a.put (some d) (.bool (C.step s args).2)) w' F' k K h1 h2 ⟨put_sound hs0.env (by simp only [VR]) (put_some (o := ⟨some d, .call ⟨.value g, cargs, argTypes⟩, type, pos, after, guard⟩) hn rfl), hmem, by rw [put_defers]; exact hs0.dfs⟩ hc
    ⟨hJ, fun x px hx hpx hf => (q6 px.b hf).elim (hb.d x px hx hpx) fun h => by (have := hs0.mem.lt x px hpx); omega, hb.rd, ⟨p, hpl, hp2⟩⟩
    fun a2 w2 hp => hK a2 w2 (hp.trans (.refl _ _ _ _) ⟨q1, q2, q3, q4, fun b hb _ hf => q5 b hb hf⟩ q6)
structure CanJ (G : Nat) (P : Program) (C : Cons) (fl lo f : Nat) (args : List AV) (m : List (Nat × Option AObj)) (c : Nat) (s : C.γ) (Qf : AV → T AObj → C.γ → Prop) : Prop where
  enter : ∀ us w, (callFunc f us).run P w = .ok (.enter f us) w
  run : ∀ ρ w F us, Holds G ρ (ofM m) c w → VRs ρ args us → Beside C ρ lo fl F s w → ∀ r n, CallsIn (FR r) n P f us.toArray w fun e w' =>
    ∃ u v H' c' ρ' s' F', e = .returned u ∧ Qf v H' s' ∧ VR ρ' v u ∧ Holds G ρ' H' c' w' ∧ c ≤ c' ∧ ExtB ρ ρ' fl c w ∧ FrJ ρ fl F w w' ∧ Beside C ρ' lo fl F' s' w' ∧ ∀ b, F' b → F b ∨ w.heap.size ≤ b
structure rtJ (P : Program) (C : Cons) (fl : Nat) (rs : List ResultVar) (Qf : AV → T AObj → C.γ → Prop) (e : AExit) (st : St) (s : C.γ) : Prop where
  go : rtQ P fl rs (fun v H _ => Qf v H s) e st
theorem CanJ.mk' {f : Nat} {fn : Func} {args : List AV} {Qf : AV → T AObj → C.γ → Prop}
    (h1 : P.funcs[f]? = some fn) (h2 : fn.body = some code) (h3 : (fn.name == "runtime.NumGoroutine") = false) (hn : args.length + (fn.ntmps - args.length) = n) (hlo : lo < fl) (hfl : fl ≤ c)
    (h : TrJ G P C fl c lo code (stL n [] (argL args 0) m c) s (rtJ P C fl fn.results.toList Qf)) : CanJ G P C fl lo f args m c s Qf := by
  refine ⟨fun us w => ?_, fun ρ w F us hH hv hb b k => ?_⟩
  · simp only [callFunc, Sem.run_bind, run_program, Result.andThen_ok, h1, h3, Bool.false_eq_true, if_false, h2, Option.isNone_some]
    rfl
  · have he := env_args hv fn.ntmps
    have hs : SR G ρ (stL n [] (argL args 0) m c) { tmps := us.toArray ++ Array.replicate (fn.ntmps - us.toArray.size) undef, defers := [] } w :=
      ⟨⟨by rw [← hn]; exact he.1, fun t v ht => by
        have h4 : look (argL args 0) t = some v := by rw [← ofL_get]; exact ht
        have := he.2 t v (argL_get h4)
        rw [hn] at this
        exact this⟩, hH, rfl⟩
    have fin : ∀ st1 a' w' s1 F1, (∃ H' v, leaveA fl st1.H st1.dfs = some H' ∧ resultsA P st1.env H' fn.results.toList = some v ∧ Qf v H' s1) → (∃ ρ1, SR G ρ1 st1 a' w' ∧ c ≤ st1.c ∧ ExtB ρ ρ1 fl c w ∧ FrJ ρ fl F w w' ∧ Beside C ρ1 lo fl F1 s1 w' ∧ ∀ b, F1 b → F b ∨ w.heap.size ≤ b) →
        LeavesInM (FR none) k P fn a'.tmps (fun e w' => ∃ u v H' c' ρ' s' F', e = .returned u ∧ Qf v H' s' ∧ VR ρ' v u ∧ Holds G ρ' H' c' w' ∧ c ≤ c' ∧ ExtB ρ ρ' fl c w ∧ FrJ ρ fl F w w' ∧ Beside C ρ' lo fl F' s' w' ∧ ∀ b, F' b → F b ∨ w.heap.size ≤ b) a'.defers .returning w' := by
      rintro st1 a' w' s1 F1 ⟨H', v, hl, hv', hq⟩ ⟨ρ1, hs1, hc1, he1, hf1, hb1, hF1⟩
      refine leave_sound (b := none) hs1.mem hs1.dfs hl fun w2 hw2 hf2 => ?_
      obtain ⟨u, hu, hvu⟩ := results_sound (P := P) hw2 hs1.env hv'
      exact ⟨u, hu, u, v, H', st1.c, ρ1, s1, F1, rfl, hq, hvu, hw2, hc1, he1, hf1.trans he1 hF1 (.of hf2), hb1.stab hlo hfl (.refl _ _ _ _) hf2, hF1⟩
    have main : CallsIn (FR none) k P f us.toArray w fun e w' => ∃ u v H' c' ρ' s' F', e = .returned u ∧ Qf v H' s' ∧ VR ρ' v u ∧ Holds G ρ' H' c' w' ∧ c ≤ c' ∧ ExtB ρ ρ' fl c w ∧ FrJ ρ fl F w w' ∧ Beside C ρ' lo fl F' s' w' ∧ ∀ b, F' b → F b ∨ w.heap.size ≤ b := by
      refine callsIn_of_wp_marks h1 h2 trivial ?_
      refine wpIn_mono (h.run ρ _ w F k hlo hfl hs (Nat.le_refl _) hb) fun e1 a1 w1 hp => ?_
      obtain ⟨e, st1, ρ1, s1, F1, rfl, ⟨⟨hq⟩⟩, hs1, hc1, he1, hf1, hb1, hF1⟩ := hp
      cases e with
      | normal => exact fin st1 a1 w1 s1 F1 hq ⟨ρ1, hs1, hc1, he1, hf1, hb1, hF1⟩
      | ret => exact fin st1 a1 w1 s1 F1 hq ⟨ρ1, hs1, hc1, he1, hf1, hb1, hF1⟩
      | exit id => exact hq.elim
      | goto l => exact hq.elim
    cases b with
    | none => exact main
    | some l => exact main
theorem CanJ.write {f q fl0 lo0 : Nat} {args0 : List AV} {m0 : List (Nat × Option AObj)} {o0 : AObj} {R : AV → AObj → C.γ → Prop} (h : CanJ G P C fl0 lo0 f args0 m0 (fl0 + 1) s fun v H1 s' => ∃ ob, R v ob s' ∧ H1.get fl0 = some ob) (hR : ∀ v ob s', R v ob s' → Pl v ∧ (∀ σ, ob.ren σ = ob) ∧ ob.share = none)
    (τ : Nat → Nat) (hG : G ≤ fl0) (hτg : ∀ g, g < G → τ g = g) (hτ2 : ∀ y, fl0 + 1 ≤ y → c ≤ τ y) (hobj : ∀ y o, lookM m0 y = some o → lookM m (τ y) = some (o.ren τ))
    (hinj : ∀ x y o o', lookM m0 x = some o → lookM m0 y = some o' → x ≠ y → τ x ≠ τ y ∨ ∃ n m, o.share = some (false, n) ∧ o'.share = some (false, m))
    (hq : τ fl0 = q) (hfl : fl ≤ q) (ho0 : lookM m0 fl0 = some o0) (hs0 : o0.share = none) (hlo0 : lo0 < fl0) (hτl : τ lo0 = lo) (hτi : ∀ x, x < fl0 + 1 → τ x = lo → x = lo0) (hml : lookM m lo = none) : OkJ G P C fl lo f (AV.rens τ args0) m c s fun v m' s' => ∃ ob, R v ob s' ∧ m' = (q, some ob) :: m := by
  refine ⟨h.enter, fun ρ w F us hH hargs hb r n => ?_⟩
  have h0 : Holds G (fun x => ρ (τ x)) (ofM m0) (fl0 + 1) w := hH.ren τ (fun x o hx => by rw [ofM_get]; exact hobj x o (by rw [← ofM_get]; exact hx)) (fun x y o o' hx hy => hinj x y o o' (by rw [← ofM_get]; exact hx) (by rw [← ofM_get]; exact hy)) hτ2 hτg
  have hlow : ∀ y t, ρ (τ y) = some t → y < fl0 + 1 := fun y t ht => by
    rcases Nat.lt_or_ge y (fl0 + 1) with h | h
    · exact h
    · have := h0.fresh y h
      replace this : ρ (τ y) = none := this
      rw [this] at ht; cases ht
  have hb0 : Beside C (fun x => ρ (τ x)) lo0 fl0 F s w := ⟨hb.j, fun x p hx hp => hb.d (τ x) p (fun e => hx (hτi x (hlow x p hp) e)) hp, fun x p hx hp => hb.rd (τ x) p (by
    have := hlow x p hp
    have e : x = fl0 := by omega
    rw [e, hq]; exact hfl) hp, by
    obtain ⟨p, h1, h2⟩ := hb.lb
    exact ⟨p, by show ρ (τ lo0) = _; rw [hτl]; exact h1, h2⟩⟩
  refine (h.run _ w F us h0 ((VRs_ren ρ τ args0 us).1 hargs) hb0 r n).mono ?_
  rintro e w' ⟨u, v1, H1, c1, ρ1, s1, F1, rfl, ⟨ob, hRv, hq1⟩, h3, h4, h5, h6, h7, h8, h9⟩
  obtain ⟨hv, hob, hsh⟩ := hR _ _ _ hRv
  have hfr : ∃ x, ρ1 x = none := ⟨c1, h4.fresh c1 (Nat.le_refl _)⟩
  have hqo : (ofM m).get q = some (o0.ren τ) := by rw [← hq, ofM_get]; exact hobj _ _ ho0
  have hqs : (o0.ren τ).share = none := by rw [AObj.ren_share]; exact hs0
  obtain ⟨pq, hpq, hobq⟩ := h4.obj _ _ hq1
  have hρq : ρ q = some pq := by
    have := h6.1 fl0 (by omega)
    rw [hpq] at this
    rw [← hq]; exact this.symm
  have hown : ∀ y t, fl0 ≤ y → ρ (τ y) = some t → y = fl0 := fun y t hy ht => by have := hlow y t ht; omega
  have hap : ∀ x o p, (ofM m).get x = some o → ρ x = some p → x ≠ q → p.b ≠ pq.b := fun x o p hx hp hn hb => by
    have := (hH.sep x q o _ p pq hn hx hqo hp hρq hb).ro
    unfold AObj.isRo at this
    rw [hqs] at this
    simp at this
  have hkeep : ∀ b, b < w.heap.size → b ≠ pq.b → ¬ F b → w'.heap[b]? = w.heap[b]? := fun b hb hne hF => h7.keep b hb (fun y t hy ht => by
    have e := hown y t hy ht
    replace ht : ρ (τ y) = some t := ht
    rw [e, hq, hρq] at ht
    cases ht
    exact fun e => hne e.symm) hF
  refine ⟨u, v1, (q, some ob) :: m, s1, F1, rfl, ⟨ob, hRv, rfl⟩, hv.vr hfr h3, ⟨fun x o hx => ?_, fun x y o o' p p' hxy hx hy hp hp' hb => ?_, hH.fresh, fun x p hp => Nat.lt_of_lt_of_le (hH.lt x p hp) h7.size, hH.glob⟩,
    ⟨h7.os, h7.tape, h7.output, h7.size, fun b hb hn hF => hkeep b hb (fun e => hn q pq hfl hρq e.symm) hF⟩, ⟨h8.j, fun x p hx hp hf => (h9 p.b hf).elim (hb.d x p hx hp) fun h => by have := hH.lt x p hp; omega, hb.rd, hb.lb⟩, h9⟩
  · replace hx : ((ofM m).set q ob).get x = some o := hx
    rw [T.get_set] at hx
    split at hx
    · rename_i e
      subst e
      cases hx
      exact ⟨pq, hρq, hobq.plain hob hfr⟩
    · rename_i e
      obtain ⟨p, h1, h2⟩ := hH.obj x o hx
      have hne : x ≠ lo := fun e => by rw [e, ofM_get, hml] at hx; cases hx
      exact ⟨p, h1, h2.world (hkeep p.b (hH.lt x p h1) (hap x o p hx h1 e) (hb.d x p hne h1))⟩
  · replace hx : ((ofM m).set q ob).get x = some o := hx
    replace hy : ((ofM m).set q ob).get y = some o' := hy
    rw [T.get_set] at hx hy
    split at hx
    · rename_i e
      subst e
      cases hx
      split at hy
      · rename_i e; exact absurd e.symm hxy
      · exact (hH.sep x y _ o' p p' hxy hqo hy hp hp' hb).congr (by rw [hqs, hsh]) rfl
    · split at hy
      · rename_i e e'
        subst e'
        cases hy
        exact (hH.sep x y o _ p p' hxy hx hqo hp hp' hb).congr rfl (by rw [hqs, hsh])
      · exact hH.sep x y o o' p p' hxy hx hy hp hp' hb
end
end Go.Ev
/- The truths of package claim: one by one. -/
namespace Go.Proofs.Ytlnmcadbmpiopaa
open Go Go.Ev
def Tru.setR (t : Tru) (i : Nat) (a : Int) : Tru := if i = 0 then { t with r0 := a } else if i = 1 then { t with r1 := a } else { t with r2 := a }
def Tru.setC (t : Tru) (i : Nat) (a : Int) : Tru := if i = 0 then { t with c0 := a } else if i = 1 then { t with c1 := a } else { t with c2 := a }
def tru2 (t : Tru) (i : Nat) (a b : Int) : Tru := (t.setR i a).setC i b
def ints (a b : Int) : List Int := (List.range (b - a + 1).toNat).map fun k : Nat => a + (k : Int)
theorem ints_cons {a b : Int} (h : a ≤ b) : ints a b = a :: ints (a + 1) b := by
  unfold ints
  obtain ⟨n, hn⟩ : ∃ n, (b - a + 1).toNat = n + 1 := ⟨(b - a).toNat, by omega⟩
  rw [hn, show (b - (a + 1) + 1).toNat = n by omega, List.range_succ_eq_map, List.map_cons, List.map_map]
  refine congr (congrArg _ (by simp)) ?_
  refine List.map_congr_left fun k _ => ?_
  show a + ((k + 1 : Nat) : Int) = a + 1 + k
  omega
theorem ints_nil {a b : Int} (h : b < a) : ints a b = [] := by
  unfold ints
  rw [show (b - a + 1).toNat = 0 by omega]; rfl
noncomputable def trs (B : CBook) : Nat → Nat → Tru → List Tru
  | 0, _, t => [t]
  | k + 1, i, t => (ints (B.rl i) (B.rh i)).flatMap fun r => (ints (smL B t i + r) (smH B t i + r)).flatMap fun mi => if wrV B (i, mi) = 0 then trs B k (i + 1) (tru2 t i r mi) else []
def foldC (C : Cons) : C.γ → List Tru → C.γ × Bool
  | s, [] => (s, true)
  | s, t :: ts => if (C.step s [trV t]).2 then foldC C (C.step s [trV t]).1 ts else ((C.step s [trV t]).1, false)
theorem foldC_append (C : Cons) : ∀ (s : C.γ) (xs ys : List Tru), foldC C s (xs ++ ys) = if (foldC C s xs).2 then foldC C (foldC C s xs).1 ys else ((foldC C s xs).1, false)
  | s, [], ys => by simp [foldC]
  | s, t :: xs, ys => by
    simp only [List.cons_append, foldC]
    split
    · exact foldC_append C _ xs ys
    · rfl
theorem foldC_live (C : Cons) (r : Nat) : ∀ (s : C.γ) (xs : List Tru), C.lv (r + xs.length) s → (foldC C s xs).2 = true → C.lv r (foldC C s xs).1
  | s, [], h, _ => h
  | s, t :: xs, h, e => by
    simp only [foldC] at e ⊢
    split
    · rename_i g
      rw [if_pos g] at e
      exact foldC_live C r _ xs (C.live _ s _ h g) e
    · rename_i g
      rw [if_neg g] at e
      cases e
theorem trV_setr {t : Tru} {i : Nat} {a : Int} (hi : i < 3) : Ev.splice (trV t).cells (0 + 1 + i * 1) (AV.int .i64 a).cells = some (trV (t.setR i a)).cells := by
  obtain rfl | rfl | rfl : i = 0 ∨ i = 1 ∨ i = 2 := by omega
  all_goals rfl
theorem trV_setc {t : Tru} {i : Nat} {a : Int} (hi : i < 3) : Ev.splice (trV t).cells (0 + 4 + i * 1) (AV.int .i64 a).cells = some (trV (t.setC i a)).cells := by
  obtain rfl | rfl | rfl : i = 0 ∨ i = 1 ∨ i = 2 := by omega
  all_goals rfl
theorem tru2_self {t : Tru} {i : Nat} (hi : i < 3) : tru2 t i (t.r i) (t.c i) = t := by
  obtain rfl | rfl | rfl : i = 0 ∨ i = 1 ∨ i = 2 := by omega
  all_goals rfl
theorem tru2_r {t : Tru} {i : Nat} {a b r : Int} (hi : i < 3) : (tru2 t i a b).setR i r = tru2 t i r b := by
  obtain rfl | rfl | rfl : i = 0 ∨ i = 1 ∨ i = 2 := by omega
  all_goals rfl
theorem tru2_c {t : Tru} {i : Nat} {a b r : Int} (hi : i < 3) : (tru2 t i a b).setC i r = tru2 t i a r := by
  obtain rfl | rfl | rfl : i = 0 ∨ i = 1 ∨ i = 2 := by omega
  all_goals rfl
theorem tru2_at {t : Tru} {i : Nat} {a b : Int} (hi : i < 3) : (tru2 t i a b).c i = b := by
  obtain rfl | rfl | rfl : i = 0 ∨ i = 1 ∨ i = 2 := by omega
  all_goals rfl
theorem tru2_w {t : Tru} {i : Nat} {a b : Int} (hi : i < 3) : (tru2 t i a b).w = t.w := by
  obtain rfl | rfl | rfl : i = 0 ∨ i = 1 ∨ i = 2 := by omega
  all_goals rfl
def drvOk (t : Tru) (i : Nat) : Prop := (i = 0 ∧ t.c0 = 0 ∧ t.c1 = 0 ∧ t.c2 = 0) ∨ (1 ≤ i ∧ 1 ≤ t.c (i - 1) ∧ t.c (i - 1) ≤ 170 * i)
theorem drvOk.tru {t : Tru} {i : Nat} (h : drvOk t i) (hi : i ≤ 3) : truOk t i := by
  unfold drvOk at h
  unfold truOk
  omega
structure DrvIn (B : CBook) (a1 a2 : AV) (lo p x y z q : Nat) (L : List (Int × Int)) (m : List (Nat × Option AObj)) (c : Nat) : Prop where
  pb : PbIn B a1 a2 p q m c
  hl : lookM m lo = none
  hx : lookM m x = some (.cells [.ptr p 0])
  hy : lookM m y = some (.cells [.yld lo])
  hz : lookM m z = some (.cells [.fn 108 [] [.ptr x 0, .ptr y 0, .ptr z 0]])
  hq : lookM m q = some (oMap B L)
def drvR (B : CBook) (C : Cons) (s : C.γ) (ts : List Tru) (v : AV) (ob : AObj) (s' : C.γ) : Prop := ∃ L, v = .bool (foldC C s ts).2 ∧ s' = (foldC C s ts).1 ∧ ob = oMap B L
theorem drive_ok {B : CBook} {C : Cons} {a1 a2 : AV} {lo p x y z q : Nat} {L : List (Int × Int)} {m : List (Nat × Option AObj)} {c i : Nat} {t : Tru} {s : C.γ} {ts : List Tru} (h : DrvIn B a1 a2 lo p x y z q L m c)
    (hc : CanJ 0 Try.prog C 7 2 108 [.int .i64 (i : Int), trV t, .ptr 4 0, .ptr 5 0, .ptr 6 0] [(0, some (oSt B)), (1, some (oCk B)), (3, some (.cells (pbC B a1 a2 7))), (4, some (.cells [.ptr 3 0])), (5, some (.cells [.yld 2])), (6, some (.cells [.fn 108 [] [.ptr 4 0, .ptr 5 0, .ptr 6 0]])), (7, some (oMap B L))] 8 s fun v H1 s' => ∃ ob, drvR B C s ts v ob s' ∧ H1.get 7 = some ob) (fl : Nat) (hfl : fl ≤ q) :
    OkJ 0 Try.prog C fl lo 108 [.int .i64 (i : Int), trV t, .ptr x 0, .ptr y 0, .ptr z 0] m c s fun v m' s' => ∃ ob, drvR B C s ts v ob s' ∧ m' = (q, some ob) :: m := by
  have e0 : tau [0, 1, lo, p, x, y, z, q] c 0 = 0 := rfl
  have e1 : tau [0, 1, lo, p, x, y, z, q] c 1 = 1 := rfl
  have e2 : tau [0, 1, lo, p, x, y, z, q] c 2 = lo := rfl
  have e3 : tau [0, 1, lo, p, x, y, z, q] c 3 = p := rfl
  have e4 : tau [0, 1, lo, p, x, y, z, q] c 4 = x := rfl
  have e5 : tau [0, 1, lo, p, x, y, z, q] c 5 = y := rfl
  have e6 : tau [0, 1, lo, p, x, y, z, q] c 6 = z := rfl
  have e7 : tau [0, 1, lo, p, x, y, z, q] c 7 = q := rfl
  have ha : AV.rens (tau [0, 1, lo, p, x, y, z, q] c) [.int .i64 (i : Int), trV t, .ptr 4 0, .ptr 5 0, .ptr 6 0] = [.int .i64 (i : Int), trV t, .ptr x 0, .ptr y 0, .ptr z 0] := rfl
  rw [← ha]
  have low : ∀ {u : Nat} {ob : AObj}, lookM [(0, some (oSt B)), (1, some (oCk B)), (3, some (.cells (pbC B a1 a2 7))), (4, some (.cells [.ptr 3 0])), (5, some (.cells [.yld 2])), (6, some (.cells [.fn 108 [] [.ptr 4 0, .ptr 5 0, .ptr 6 0]])), (7, some (oMap B L))] u = some ob → u = 0 ∨ u = 1 ∨ u = 3 ∨ u = 4 ∨ u = 5 ∨ u = 6 ∨ u = 7 := fun {u ob} hz => by
    simp only [lookM, Bool.cond_eq_ite, Nat.beq_eq] at hz
    by_cases g : u = 0 ∨ u = 1 ∨ u = 3 ∨ u = 4 ∨ u = 5 ∨ u = 6 ∨ u = 7
    · exact g
    · exfalso
      rw [if_neg (by omega), if_neg (by omega), if_neg (by omega), if_neg (by omega), if_neg (by omega), if_neg (by omega), if_neg (by omega)] at hz
      cases hz
  have hobj : ∀ u o, lookM [(0, some (oSt B)), (1, some (oCk B)), (3, some (.cells (pbC B a1 a2 7))), (4, some (.cells [.ptr 3 0])), (5, some (.cells [.yld 2])), (6, some (.cells [.fn 108 [] [.ptr 4 0, .ptr 5 0, .ptr 6 0]])), (7, some (oMap B L))] u = some o → lookM m (tau [0, 1, lo, p, x, y, z, q] c u) = some (o.ren (tau [0, 1, lo, p, x, y, z, q] c)) := fun u o hu => by
    rcases low hu with rfl | rfl | rfl | rfl | rfl | rfl | rfl
    · cases hu; rw [e0, ren_ro]; exact h.pb.m1
    · cases hu; rw [e1, ren_ro]; exact h.pb.m2
    · cases hu
      have : (AObj.cells (pbC B a1 a2 7)).ren (tau [0, 1, lo, p, x, y, z, q] c) = .cells (pbC B a1 a2 q) := by simp only [pbC, AObj.ren, AV.ren, AV.rens, h.pb.h1.ren e0, h.pb.h2.ren e1, e7]
      rw [e3, this]; exact h.pb.m3
    · cases hu; exact h.hx
    · cases hu; exact h.hy
    · cases hu; exact h.hz
    · cases hu; rw [e7, ren_mapA]; exact h.hq
  refine CanJ.write (o0 := oMap B L) (R := drvR B C s ts) hc (fun v ob s' ⟨L', h1, _, h3⟩ => by subst h1 h3; exact ⟨.bool _, ren_mapA _ _, rfl⟩) (tau [0, 1, lo, p, x, y, z, q] c) (Nat.zero_le _) (fun g hg => by omega) (fun u hu => by rw [tau_ge hu]; omega) hobj (fun u u' o o' hu hu' hne => .inl fun e => ?_) rfl hfl rfl rfl (by decide) rfl (fun u hu e => ?_) h.hl
  · have g1 := hobj u o hu
    have g2 := hobj u' o' hu'
    rw [e] at g1
    rw [g1] at g2
    rcases low hu with rfl | rfl | rfl | rfl | rfl | rfl | rfl <;> rcases low hu' with rfl | rfl | rfl | rfl | rfl | rfl | rfl <;> first | exact absurd rfl hne | exact absurd (show (0 : Nat) = 1 from e) (by decide) | exact absurd (show (1 : Nat) = 0 from e) (by decide) | (cases hu; cases hu'; simp [AObj.ren, AV.rens, AV.ren, pbC, oSt, oCk] at g2)
  · rcases (by omega : u = 0 ∨ u = 1 ∨ u = 2 ∨ u = 3 ∨ u = 4 ∨ u = 5 ∨ u = 6 ∨ u = 7) with rfl | rfl | rfl | rfl | rfl | rfl | rfl | rfl
    · have := hobj 0 _ rfl; rw [e, h.hl] at this; cases this
    · have := hobj 1 _ rfl; rw [e, h.hl] at this; cases this
    · rfl
    · have := hobj 3 _ rfl; rw [e, h.hl] at this; cases this
    · have := hobj 4 _ rfl; rw [e, h.hl] at this; cases this
    · have := hobj 5 _ rfl; rw [e, h.hl] at this; cases this
    · have := hobj 6 _ rfl; rw [e, h.hl] at this; cases this
    · have := hobj 7 _ rfl; rw [e, h.hl] at this; cases this
end Go.Proofs.Ytlnmcadbmpiopaa
