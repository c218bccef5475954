/- Texts of one kind, one behind the other: Cr, Cs, Ct, Cu, Cv, SyX, Cw, SyY, Cx, Cy, Cz, SyZ, Da, Db, Dc, SyNr, SyOi, Dd, De, SyW2, Df, Dg, Dh, Di, Dj. -/
import Derived.Test.YtlnmcadbmpiopaaQk3
set_option linter.unusedVariables false
set_option linter.unusedSimpArgs false
/- Package claim: where; the weathers, the blame, what is paid, the first stage. -/
namespace Go.Proofs.Ytlnmcadbmpiopaa
open Go Go.Ev
abbrev exV : AV := .agg [.int .i64 2, .fn 116 [] [], .int .i64 1, .fn 117 [] [], .int .i64 0, .fn 118 [] []]
set_option maxRecDepth 100000 in
set_option maxHeartbeats 4000000 in
theorem extents_can : CanS 0 Try.prog 99 0 [] [] 0 fun v _ _ => v = exV := by
  refine CanS.mk Try.func99 rfl rfl rfl ?_
  repeat' (first | refine RT.nil ?_ | refine sq_n ?_ | refine Tr.seq ?_ | refine Tr.region ?_ | refine Tr.ret ?_ | (refine RT.goK rfl rfl rfl rfl ?_; apply Nx.of; (first | exact S.alloc rfl | exact S.build rfl rfl rfl | exact S.buildA rfl rfl rfl rfl)) | (refine RT.goK0 rfl rfl rfl ?_; apply Nx.of; (first | exact S.store rfl rfl rfl rfl rfl rfl)))
  (first | refine rt_go rfl ?_)
  rfl
theorem extents_at (H : T AObj) (c fl : Nat) : OkAt 0 Try.prog fl 99 [] H c exV H c := extents_can.pure (fun _ => rfl) (.plain fun _ => rfl) fl
noncomputable def whV (B : CBook) (pr : Tru → Prop) : Int := bif dB (∀ t ∈ Ws B, pr t) then 2 else bif dB (∃ t ∈ Ws B, pr t) then 1 else 0
theorem whV_2 {B : CBook} {pr : Tru → Prop} (h : ∀ t ∈ Ws B, pr t) : whV B pr = 2 := by unfold whV; rw [dB_tt h]; rfl
theorem whV_1 {B : CBook} {pr : Tru → Prop} (h : ¬ ∀ t ∈ Ws B, pr t) (h' : ∃ t ∈ Ws B, pr t) : whV B pr = 1 := by unfold whV; rw [dB_ff h, dB_tt h']; rfl
theorem whV_0 {B : CBook} {pr : Tru → Prop} (h : ¬ ∀ t ∈ Ws B, pr t) (h' : ¬ ∃ t ∈ Ws B, pr t) : whV B pr = 0 := by unfold whV; rw [dB_ff h, dB_ff h']; rfl
section
variable {B : CBook} {g x p : Nat} {first cap : List AV} {m : List (Nat × Option AObj)} {c : Nat} {pr : Tru → Prop}
theorem sub_hx {m' : List (Nat × Option AObj)} {c' : Nat} (h : Sub m c m' c') (hxc : x < c) (hx : lookM m x = some (oWs B)) : lookM m' x = some (oWs B) ∧ x < c' := ⟨(h.eq x hxc).trans hx, Nat.lt_of_lt_of_le hxc h.le⟩
theorem each_at' {m' : List (Nat × Option AObj)} {c' : Nat} (h : Sub m c m' c') (hx : lookM m x = some (oWs B)) (hxc : x < c) (hlen : (Ws B).length ≤ 5184) (hp : PrOK B g first cap m c pr) (fl : Nat) : OkAt 0 Try.prog fl 116 [.agg [.ptr p 0, .gs x (wths B 0).length], .fn g first cap] (ofM m') c' (.bool (dB (∀ t ∈ Ws B, pr t))) (ofM m') c' := each_at (sub_hx h hxc hx).1 (sub_hx h hxc hx).2 hlen (hp.sub h) fl
theorem some_at' {m' : List (Nat × Option AObj)} {c' : Nat} (h : Sub m c m' c') (hx : lookM m x = some (oWs B)) (hxc : x < c) (hlen : (Ws B).length ≤ 5184) (hp : PrOK B g first cap m c pr) (fl : Nat) : OkAt 0 Try.prog fl 117 [.agg [.ptr p 0, .gs x (wths B 0).length], .fn g first cap] (ofM m') c' (.bool (dB (∃ t ∈ Ws B, pr t))) (ofM m') c' := some_at (sub_hx h hxc hx).1 (sub_hx h hxc hx).2 hlen (hp.sub h) fl
theorem none_at' {m' : List (Nat × Option AObj)} {c' : Nat} (h : Sub m c m' c') (hx : lookM m x = some (oWs B)) (hxc : x < c) (hlen : (Ws B).length ≤ 5184) (hp : PrOK B g first cap m c pr) (fl : Nat) : OkAt 0 Try.prog fl 118 [.agg [.ptr p 0, .gs x (wths B 0).length], .fn g first cap] (ofM m') c' (.bool (dB (¬ ∃ t ∈ Ws B, pr t))) (ofM m') c' := none_at (sub_hx h hxc hx).1 (sub_hx h hxc hx).2 hlen (hp.sub h) fl
set_option maxRecDepth 100000 in
set_option maxHeartbeats 4000000 in
theorem where_at (hx : lookM m x = some (oWs B)) (hxc : x < c) (hlen : (Ws B).length ≤ 5184) (hp : PrOK B g first cap m c pr) (fl : Nat) : OkAt 0 Try.prog fl 73 [.agg [.ptr p 0, .gs x (wths B 0).length], .fn g first cap] (ofM m) c (.int .i64 (whV B pr)) (ofM m) c := by
  refine CanS.here (CanS.mk Try.func73 rfl rfl rfl ?_) (.int _ _) fl
  repeat' (first | refine RT.nil ?_ | refine sq_n ?_ | refine Tr.seq ?_ | refine Tr.region ?_ | refine Tr.block ?_ | (refine RT.call rfl rfl rfl (extents_at _ _ _) rfl rfl (Nat.le_refl _) ?_) | (refine RT.goK rfl rfl rfl rfl ?_; apply Nx.of; (first | exact S.move | exact S.assign | exact S.box)))
  refine Tr.unroll 4 ?_
  repeat' (first | refine RT.nil ?_ | refine sq_n ?_ | refine Tr.seq ?_ | refine Tr.region ?_ | refine Tr.cond_t rfl ?_ | refine Tr.cond_f rfl ?_ | refine Tr.cond_d rfl (fun _ => ?_) (fun _ => ?_) | refine Tr.skip ?_ | refine Tr.ret ?_ | refine sq_r ?_ | refine Tr.exit ?_ | refine sq_x ?_ | refine Tr.block ?_ | refine blk_n ?_ | refine blk_r ?_ | refine blk_hit rfl ?_ | refine un_n ?_ | refine un_r ?_ | refine un_x ?_ | (refine RT.call rfl rfl rfl (each_at' (by repeat' (first | exact Sub.refl | refine Sub.cons ?_ (by omega) (Nat.le_succ _) | refine Sub.cons ?_ (by omega) (Nat.le_refl _))) hx hxc hlen hp _) rfl rfl (Nat.le_refl _) ?_) | (refine RT.call rfl rfl rfl (some_at' (by repeat' (first | exact Sub.refl | refine Sub.cons ?_ (by omega) (Nat.le_succ _) | refine Sub.cons ?_ (by omega) (Nat.le_refl _))) hx hxc hlen hp _) rfl rfl (Nat.le_refl _) ?_) | (refine RT.call rfl rfl rfl (none_at' (by repeat' (first | exact Sub.refl | refine Sub.cons ?_ (by omega) (Nat.le_succ _) | refine Sub.cons ?_ (by omega) (Nat.le_refl _))) hx hxc hlen hp _) rfl rfl (Nat.le_refl _) ?_) | (refine RT.goK rfl rfl rfl rfl ?_; apply Nx.of; (first | exact S.l1_0 rfl rfl rfl | exact S.lN_2 rfl rfl rfl (by omega) (by omega) | exact S.lN_4 rfl rfl rfl (by omega) (by omega) (by omega) (by omega) | exact S.lN_6 rfl rfl rfl (by omega) (by omega) (by omega) (by omega) (by omega) (by omega))) | (refine RT.goK0 rfl rfl rfl ?_; apply Nx.of; (first | exact S.st_0 rfl rfl rfl rfl (by omega))) | (refine RT.goK rfl rfl rfl rfl ?_; apply Nx.of; (first | exact S.lss_t (by decide) | exact S.lss_f (by decide))) | (refine RT.goK rfl rfl rfl rfl ?_; apply Nx.of; (first | exact S.move | exact S.assign | exact S.fieldAddr rfl rfl rfl | exact S.alloc rfl | exact S.add (by unfold In64; omega) | exact S.indexN rfl rfl rfl rfl (by decide) (by decide) rfl)))
  all_goals (first | refine rt_go rfl ?_)
  · exact congrArg (AV.int .i64) (whV_2 (by assumption)).symm
  · exact congrArg (AV.int .i64) (whV_1 (by assumption) (by assumption)).symm
  · exact congrArg (AV.int .i64) (whV_0 (by assumption) (by assumption)).symm
  · exact congrArg (AV.int .i64) (whV_0 (by assumption) (by assumption)).symm
end
end Go.Proofs.Ytlnmcadbmpiopaa
/- Package claim: the weathers, what is paid, the first stage: what is known answers. -/
namespace Go.Proofs.Ytlnmcadbmpiopaa
open Go Go.Ev
section
variable {B : CBook} {a1 a2 : AV} {p q : Nat} {m : List (Nat × Option AObj)} {c : Nat}
theorem right1_ok (hok : stsOk B) {s r e : Int} (h : ckOk B s r e) : PrOK B 80 [.agg [.int .i64 s, .int .i64 r, .int .i64 e]] [] m c (fun t => r - e ≤ t.c s.toNat ∧ t.c s.toNat ≤ r + e) := fun t ht m' c' hs fl => by
  have := hok.1
  unfold ckOk at h
  exact isRight_at' fl t s.toNat (by omega) s r e (by omega) h.2.1 h.2.2 _ _
end
theorem whV_ne {B : CBook} {pr : Tru → Prop} (hW : Ws B ≠ []) : whV B pr ≠ 0 ↔ ∃ t ∈ Ws B, pr t := by
  by_cases h : ∀ t ∈ Ws B, pr t
  · rw [whV_2 h]
    obtain ⟨t, ht⟩ := List.exists_mem_of_ne_nil _ hW
    exact ⟨fun _ => ⟨t, ht, h t ht⟩, fun _ => by decide⟩
  · by_cases h' : ∃ t ∈ Ws B, pr t
    · rw [whV_1 h h']; exact ⟨fun _ => h', fun _ => by decide⟩
    · rw [whV_0 h h']; exact ⟨fun k => absurd rfl k, fun k => absurd k h'⟩
noncomputable def setV (p : Nat → Prop) : Nat → Int
  | 0 => 0
  | k + 1 => bif dB (p k) then orI (setV p k) (1 * 2 ^ k) else setV p k
def weaP (B : CBook) (k : Nat) : Prop := ∃ t ∈ Ws B, t.w = k
end Go.Proofs.Ytlnmcadbmpiopaa
/- Package claim: Weather, Blame, Pays, First, Fits, Right. -/
namespace Go.Proofs.Ytlnmcadbmpiopaa
open Go Go.Ev
noncomputable def paV (B : CBook) : Int := if whV B (blP B) = 2 then spL (owV B) (Ws B) else 0
def fsP (B : CBook) (i : Nat) : Prop := ∀ t ∈ Ws B, 0 < ltV B i t
noncomputable def fsN (B : CBook) : Nat := fstN (fsP B) B.ns B.ns
noncomputable def fsV (B : CBook) : Int := if fsN B < B.ns then fsN B else 0
noncomputable def fsE (B : CBook) : Int := if fsN B < B.ns then 0 else 4
noncomputable def numA (B : CBook) (n : Int) : AV := if ansE B True = 0 then .tup [.int .i64 n, .int .i64 0] else .tup [.int .i64 0, .int .i64 (ansE B True)]
noncomputable def fsA (B : CBook) : AV := if ansE B True = 0 then .tup [.int .i64 (fsV B), .int .i64 (fsE B)] else .tup [.int .i64 0, .int .i64 (ansE B True)]
end Go.Proofs.Ytlnmcadbmpiopaa
/- What the laws on package claim share: the base's small functions, and whether there is a book. -/
namespace Go.Proofs.Ytlnmcadbmpiopaa
open Go Go.Ev
set_option maxRecDepth 100000 in
theorem Amid_can (n lo hi : Int) : CanS 0 Try.prog 39 0 [.int .i64 n, .int .i64 lo, .int .i64 hi] [] 0 fun v _ _ => v = .bool (decide (lo ≤ n ∧ n ≤ hi)) := by
  refine CanS.mk Try.func39 rfl rfl rfl ?_
  repeat' (first | refine RT.nil ?_ | refine sq_n ?_ | refine Tr.seq ?_ | refine Tr.region ?_ | refine Tr.ret ?_ | (refine RT.splitd rfl rfl (fun _ => ?_) (fun _ => ?_)) | (refine RT.goK rfl rfl rfl rfl ?_; apply Nx.of; (first | exact S.move | exact S.assign | exact S.leq | exact S.pick_tt | exact S.pick_ff)) | (refine RT.no rfl rfl rfl ?_))
  all_goals
    (first | refine rt_go rfl ?_)
    simp [*, retV]
theorem Amid_at (n lo hi : Int) (H : T AObj) (c fl : Nat) : OkAt 0 Try.prog fl 39 [.int .i64 n, .int .i64 lo, .int .i64 hi] H c (.bool (decide (lo ≤ n ∧ n ≤ hi))) H c :=
  (Amid_can n lo hi).pure (.bool _) (.plain fun _ => rfl) fl
def wrapV (n k : Int) : Int := if k ≤ 0 then 0 else if n.tmod k < 0 then n.tmod k + k else n.tmod k
set_option maxRecDepth 100000 in
theorem Sane_can (lo hi a b d : Int) (h : -100000 ≤ a ∧ b ≤ 100000) : CanS 0 Try.prog 53 0 [.agg [.int .i64 lo, .int .i64 hi], .int .i64 a, .int .i64 b, .int .i64 d] [] 0 fun v _ _ => v = .bool (decide (a ≤ lo ∧ lo ≤ hi ∧ hi ≤ b ∧ hi - lo ≤ d)) := by
  refine CanS.mk Try.func53 rfl rfl rfl ?_
  repeat' (first | refine RT.nil ?_ | refine sq_n ?_ | refine Tr.seq ?_ | refine Tr.region ?_ | refine Tr.ret ?_ | (refine RT.splitd rfl rfl (fun _ => ?_) (fun _ => ?_)) | (refine RT.goK rfl rfl rfl rfl ?_; apply Nx.of; (first | exact S.move | exact S.assign | exact S.load1c rfl rfl rfl rfl | exact S.fieldAddr rfl rfl rfl | exact S.leq | exact S.pick_tt | exact S.pick_ff | exact S.box | exact S.sub (by unfold In64; omega))) | (refine RT.no rfl rfl rfl ?_))
  all_goals
    (first | refine rt_go rfl ?_)
    simp [*, retV]
theorem Sane_at (lo hi a b d : Int) (h : -100000 ≤ a ∧ b ≤ 100000) (H : T AObj) (c fl : Nat) : OkAt 0 Try.prog fl 53 [.agg [.int .i64 lo, .int .i64 hi], .int .i64 a, .int .i64 b, .int .i64 d] H c (.bool (decide (a ≤ lo ∧ lo ≤ hi ∧ hi ≤ b ∧ hi - lo ≤ d))) H c :=
  (Sane_can lo hi a b d h).pure (.bool _) (.plain fun _ => rfl) fl
end Go.Proofs.Ytlnmcadbmpiopaa
/- Whether there is a book of claims, as the laws ask it. -/
namespace Go.Proofs.Ytlnmcadbmpiopaa
open Go Go.Ev
end Go.Proofs.Ytlnmcadbmpiopaa
/- Lists that are copied and changed: append to an empty list, stores into rows that have grown; slices as windows. -/
namespace Go.Ev
open Go
section
variable {P : Program} {fl c : Nat} {m : List (Nat × Option AObj)} {y y' z : Ty} {t t' : Nat} {x1 x2 : Operand} {v : AV}
theorem S.buildSlice0 [Tab P] (ht : ty P t = some y) (hk : y.kind = 5) (he : ty P y.elem = some z) : OpE P fl (.buildSlice t 0 #[]) [] m c (.sl c 0 0 0) ((c, some (.cells [])) :: m) (c + 1) := by
  refine ⟨rfl, Nat.le_succ _, ?_⟩
  have h0 : Nat.ble (0 * z.size) (2 ^ 24) = true := by simp
  simp only [opA, oBuildSlice, ty_slice ht hk, ty_size he, h0, cond_true, Nat.beq_refl, List.map_nil, List.zip_nil_left, fillA]
  rfl
theorem cut_all {cs : List AV} {k : Nat} (h : cs.length = k) : cut cs 0 k = some cs := by
  unfold cut
  simp only [List.drop_zero, List.take_of_length_le (Nat.le_of_eq h), h, Nat.beq_refl, cond_true]
theorem S.append_e [Tab P] {ats : Array Nat} {x w n : Nat} {news : List AV} {ob : AObj} (hat : ats.toList = [t, t']) (ht : ty P t = some y) (hk : y.kind = 5) (ht' : ty P t' = some y') (hk' : y'.kind = 5) (hz : ty P y.elem = some z) (hzk : z.kind = 3) (hzz : (Nat.beq z.zero.cells.length z.size && Nat.ble 1 z.size) = true)
    (hb : Nat.ble z.bytes 10000 = true) (hx : lookM m x = some (.cells [])) (hv : IsSl v n w) (ho : lookM m w = some ob) (hcs : cellsOf ob = some news) (hl : news.length = n * z.size) (hn : n ≤ 1000000) (h0 : 0 < n) :
    OpE P fl (.call ⟨.builtin .append, #[x1, x2], ats⟩) [.sl x 0 0 0, v] m c (.gs c n) ((c, some (.grown news z.size)) :: m) (c + 1) := by
  obtain ⟨i, h1, h2, h3⟩ := info_sz hz
  have hb' : z.bytes ≤ 10000 := Nat.le_of_ble_eq_true hb
  have hbb : (Nat.ble ((2 * n + 1000) * i.bytes) (2 ^ 48) && Nat.ble n (2 ^ 62)) = true := by
    rw [h2]
    simp only [Bool.and_eq_true, Nat.ble_eq]
    refine ⟨?_, by omega⟩
    calc (2 * n + 1000) * z.bytes ≤ 3000000 * 10000 := Nat.mul_le_mul (by omega) hb'
      _ ≤ 2 ^ 48 := by decide
  rcases hv with rfl | ⟨rfl, rfl⟩
  · have hc0 : Nat.ble n 0 = false := Bool.eq_false_iff.2 fun h => by have := Nat.le_of_ble_eq_true h; omega
    have hn0 : Nat.beq n 0 = false := Bool.eq_false_iff.2 fun h => by have := Nat.eq_of_beq_eq_true h; omega
    have hcut0 : cut ([] : List AV) 0 (0 * z.size) = some [] := by rw [Nat.zero_mul]; rfl
    have hcut : cut news 0 (n * z.size) = some news := cut_all hl
    have hce : cellsOf (.cells []) = some [] := rfl
    rw [← h3] at hcut0 hcut
    refine ⟨rfl, Nat.le_succ _, ?_⟩
    show opA P (ofM m) c fl _ _ = _
    simp only [opA, oCall, builtinA, hat, appendA, ty_slice ht hk, ty_slice ht' hk', h1, rowT hz hzz, sliceCells, getCells, ofM_get, hx, ho, hcs, hce, Option.bind_some, hcut0, hcut, Option.map_some, hn0, cond_false, hbb, cond_true, hc0, keptF hz hzk, growA, Nat.zero_add, List.nil_append]
    rw [h3]
    rfl
  · omega
theorem S.append_e0 [Tab P] {ats : Array Nat} {x w : Nat} {ob : AObj} {news : List AV} (hat : ats.toList = [t, t']) (ht : ty P t = some y) (hk : y.kind = 5) (ht' : ty P t' = some y') (hk' : y'.kind = 5) (hz : ty P y.elem = some z) (hzz : (Nat.beq z.zero.cells.length z.size && Nat.ble 1 z.size) = true)
    (hx : lookM m x = some (.cells [])) (hv : IsSl v 0 w) (ho : lookM m w = some ob) (hcs : cellsOf ob = some news) : OpE P fl (.call ⟨.builtin .append, #[x1, x2], ats⟩) [.sl x 0 0 0, v] m c (.sl x 0 0 0) m c := by
  obtain ⟨i, h1, h2, h3⟩ := info_sz hz
  have hcut0 : ∀ cs : List AV, cut cs 0 (0 * i.size) = some [] := fun cs => by rw [Nat.zero_mul]; rfl
  have hce : cellsOf (.cells []) = some [] := rfl
  refine ⟨rfl, Nat.le_refl _, ?_⟩
  show opA P (ofM m) c fl _ _ = _
  rcases hv with rfl | ⟨rfl, _⟩
  · simp only [opA, oCall, builtinA, hat, appendA, ty_slice ht hk, ty_slice ht' hk', h1, rowT hz hzz, sliceCells, getCells, ofM_get, hx, ho, hcs, hce, Option.bind_some, hcut0, Option.map_some, Nat.beq_refl, cond_true]
    rfl
  · simp only [opA, oCall, builtinA, hat, appendA, ty_slice ht hk, ty_slice ht' hk', h1, rowT hz hzz, sliceCells, getCells, ofM_get, hx, hce, Option.bind_some, hcut0, Option.map_some, Nat.beq_refl, cond_true]
    rfl
theorem S.append_e1 [Tab P] {ats : Array Nat} {x w : Nat} {news : List AV} (hat : ats.toList = [t, t']) (ht : ty P t = some y) (hk : y.kind = 5) (ht' : ty P t' = some y') (hk' : y'.kind = 5) (hz : ty P y.elem = some z) (hzk : z.kind = 3) (hzz : (Nat.beq z.zero.cells.length z.size && Nat.ble 1 z.size) = true)
    (hb : Nat.ble z.bytes 10000 = true) (hx : lookM m x = some (.cells [])) (ho : lookM m w = some (.cells news)) (hc : cut news 0 (1 * z.size) = some news) : OpE P fl (.call ⟨.builtin .append, #[x1, x2], ats⟩) [.sl x 0 0 0, .sl w 0 1 1] m c (.gs c 1) ((c, some (.grown news z.size)) :: m) (c + 1) := by
  obtain ⟨i, h1, h2, h3⟩ := info_sz hz
  have hb' : z.bytes ≤ 10000 := Nat.le_of_ble_eq_true hb
  have hbb : (Nat.ble ((2 * (0 + 1) + 1000) * i.bytes) (2 ^ 48) && Nat.ble (0 + 1) (2 ^ 62)) = true := by
    rw [h2]
    simp only [Bool.and_eq_true, Nat.ble_eq]
    omega
  have hcut0 : cut ([] : List AV) 0 (0 * i.size) = some [] := by rw [Nat.zero_mul]; rfl
  refine ⟨rfl, Nat.le_succ _, ?_⟩
  show opA P (ofM m) c fl _ _ = _
  simp only [opA, oCall, builtinA, hat, appendA, ty_slice ht hk, ty_slice ht' hk', h1, rowT hz hzz, sliceCells, getCells, ofM_get, hx, ho, cellsOf, Option.bind_some, h3, hc, hcut0, Option.map_some, show Nat.beq 1 0 = false from rfl, cond_false, hbb, cond_true, keptF hz hzk, growA, show Nat.ble (0 + 1) 0 = false from rfl, List.nil_append]
  have hcut1 : cut ([] : List AV) 0 (0 * z.size) = some [] := by rw [Nat.zero_mul]; rfl
  simp only [hcut1, Option.map_some, List.nil_append, show Nat.beq 1 0 = false from rfl, cond_false, hbb, cond_true, show Nat.ble (0 + 1) 0 = false from rfl]
  rfl
theorem ArgsW.pls {W : List Wnd} : ∀ {l : List AV}, Pls l → ArgsW W l l
  | [], _ => trivial
  | v :: l, h => by
    have h1 : Pl v := fun σ => by have := h σ; rw [AV.rens] at this; exact (List.cons.inj this).1
    have h2 : Pls l := fun σ => by have := h σ; rw [AV.rens] at this; exact (List.cons.inj this).2
    exact ⟨.pl h1, ArgsW.pls h2⟩
end
end Go.Ev
/- Package claim: books whose lists lie elsewhere. -/
namespace Go.Proofs.Ytlnmcadbmpiopaa
open Go Go.Ev
structure BkX (B : CBook) (v1 v2 : AV) (m : List (Nat × Option AObj)) (c : Nat) : Prop where
  ex : ∃ (W : List Wnd) (a1 a2 : AV), W.length = 2 ∧ winOk (ofM m) W [flat (stE B) (List.range B.ns), flat (ckE B) (List.range B.nc)] ∧ ArgW W v1 a1 ∧ ArgW W v2 a2 ∧ IsSl a1 B.ns 0 ∧ IsSl a2 B.nc 1
theorem pls_flat {τ : Type} (enc : τ → List Int) (L : List τ) : Pls (flat enc L) := fun σ => rens_flat enc σ L
abbrev LiesAt (m : List (Nat × Option AObj)) (v : AV) (n x : Nat) (cs : List AV) : Prop := IsSl v n x ∧ ∃ o, lookM m x = some o ∧ (cs = [] ∨ cellsOf o = some cs)
theorem BkX.of {B : CBook} {v1 v2 : AV} {m : List (Nat × Option AObj)} {c x1 x2 : Nat} (h1 : LiesAt m v1 B.ns x1 (flat (stE B) (List.range B.ns))) (h2 : LiesAt m v2 B.nc x2 (flat (ckE B) (List.range B.nc))) : BkX B v1 v2 m c := by
  obtain ⟨i1, o1, g1, k1⟩ := h1
  obtain ⟨i2, o2, g2, k2⟩ := h2
  have arg : ∀ {v : AV} {n x y : Nat}, IsSl v n x → [((x1, 0, none) : Wnd), (x2, 0, none)][y]? = some (x, 0, none) → ∃ a, ArgW [(x1, 0, none), (x2, 0, none)] v a ∧ IsSl a n y := fun {v n x y} hi hy => by
    rcases hi with rfl | ⟨rfl, rfl⟩
    · exact ⟨.gs y n, .gs hy, .gs y n⟩
    · exact ⟨.nils, .pl Pl.nils, .nils y⟩
  obtain ⟨a1, b1, d1⟩ := arg (y := 0) i1 rfl
  obtain ⟨a2, b2, d2⟩ := arg (y := 1) i2 rfl
  have win : ∀ {o : AObj} {cs : List AV}, (cs = [] ∨ cellsOf o = some cs) → cs = [] ∨ ∃ ca, cellsOf o = some ca ∧ cut ca 0 cs.length = some cs := fun {o cs} h => h.imp id fun h => ⟨cs, h, cut_all rfl⟩
  exact ⟨[(x1, 0, none), (x2, 0, none)], a1, a2, rfl, ⟨⟨o1, getM g1, win k1⟩, pls_flat _ _, ⟨o2, getM g2, win k2⟩, pls_flat _ _, trivial⟩, b1, b2, d1, d2⟩
theorem BkX.use {B : CBook} {v1 v2 : AV} {m : List (Nat × Option AObj)} {c f : Nat} (h : BkX B v1 v2 m c) (vs : List AV) (hv : Pls vs) {v : AV} (hp : Pl v) (k : ∀ a1 a2, IsSl a1 B.ns 0 → IsSl a2 B.nc 1 → CanS 0 Try.prog f 2 (bk B a1 a2 :: vs) [(0, some (oSt B)), (1, some (oCk B))] 2 fun u _ _ => u = v) (fl : Nat) : OkAt 0 Try.prog fl f (bk B v1 v2 :: vs) (ofM m) c v (ofM m) c := by
  obtain ⟨W, a1, a2, hl, hw, g1, g2, i1, i2⟩ := h.ex
  have he : ArgsW W (bk B v1 v2 :: vs) (bk B a1 a2 :: vs) := ⟨ArgW.agg (show ArgsW W [v1, .int .i64 B.wea, .int .i64 (B.cost 0), .int .i64 (B.cost 1), .int .i64 (B.cost 2), v2, .int .i64 B.rate] [a1, .int .i64 B.wea, .int .i64 (B.cost 0), .int .i64 (B.cost 1), .int .i64 (B.cost 2), a2, .int .i64 B.rate] from ⟨g1, .pl (.int _ _), .pl (.int _ _), .pl (.int _ _), .pl (.int _ _), g2, .pl (.int _ _), trivial⟩), .pls hv⟩
  exact (k a1 a2 i1 i2).pure hp (Entry.win (CS := [flat (stE B) (List.range B.ns), flat (ckE B) (List.range B.nc)]) hl hw he) fl
section
variable {B : CBook} {v1 v2 : AV} {m : List (Nat × Option AObj)} {c : Nat}
end
end Go.Proofs.Ytlnmcadbmpiopaa
/- Calls that spoil one object; calls that leave new names behind, in regions whose order is open. -/
namespace Go.Ev
open Go
section
variable {G : Nat} {P : Program} {ρ ρ1 : Rho} {fl c c' : Nat} {w w' : World}
theorem del_get {m : List (Nat × Option AObj)} {q x : Nat} {o : AObj} (h : (ofM ((q, none) :: m)).get x = some o) : x ≠ q ∧ (ofM m).get x = some o := by
  rw [ofM_get] at h ⊢
  by_cases e : x = q
  · subst e; rw [lookM_hd] at h; cases h
  · rw [lookM_tl e] at h; exact ⟨e, h⟩
theorem Good.cons {H : T AObj} {m : List (Nat × Option AObj)} {c1 c2 d : Nat} {o : AObj} (h : Good fl c H c1 (ofM m)) (hd : c ≤ d) (hd2 : d < c2) (hc : c1 ≤ c2) : Good fl c H c2 (ofM ((d, some o) :: m)) := by
  refine ⟨Nat.le_trans h.count hc, fun x h1 h2 => ?_, fun hdm x hx => ?_⟩
  · have := h.keep x h1 h2
    rw [ofM_get] at this ⊢
    rw [lookM_tl (by omega)]
    exact this
  · by_cases e : x = d
    · omega
    · have := h.dom hdm x (by rw [ofM_get] at hx ⊢; rwa [lookM_tl e] at hx)
      omega
open Classical in
noncomputable def pinX (f : Nat) (args : List AV) (m : List (Nat × Option AObj)) (c : Nat) (v : AV) (m' : List (Nat × Option AObj)) (c' : Nat) : CallFn := fun _ f1 args1 H1 c1 =>
  if f1 = f ∧ args1 = args ∧ H1 = ofM m ∧ c1 = c then some (v, ofM m', c') else none
theorem pinX_at (f : Nat) (args : List AV) (m : List (Nat × Option AObj)) (c : Nat) (v : AV) (m' : List (Nat × Option AObj)) (c' fl : Nat) : pinX f args m c v m' c' fl f args (ofM m) c = some (v, ofM m', c') := by
  unfold pinX; rw [if_pos ⟨rfl, rfl, rfl, rfl⟩]
theorem pinX_calm {f : Nat} {args : List AV} {m m' : List (Nat × Option AObj)} {v : AV} (h : ∀ fl, OkAt G P fl f args (ofM m) c v (ofM m') c') (hg : ∀ fl, Good fl c (ofM m) c' (ofM m')) : CalmC G P (pinX f args m c v m' c') := by
  refine ⟨fun fl f1 args1 H1 c1 v' H' c2 e => ?_, fun fl f1 args1 H1 c1 v' H' c2 e => ?_⟩
  · unfold pinX at e
    split at e
    · rename_i hh
      obtain ⟨rfl, rfl, rfl, rfl⟩ := hh
      simp only [Option.some.injEq, Prod.mk.injEq] at e
      obtain ⟨rfl, rfl, rfl⟩ := e
      exact h _
    · cases e
  · unfold pinX at e
    split at e
    · rename_i hh
      obtain ⟨rfl, rfl, rfl, rfl⟩ := hh
      simp only [Option.some.injEq, Prod.mk.injEq] at e
      obtain ⟨rfl, rfl, rfl⟩ := e
      exact hg _
    · cases e
variable {n : Nat} {dfs : List Nat} {l : List (Nat × AV)} {o : Oper} {call round : CallFn} {ops : List Oper} {is : List OpI} {rs us : List Rec} {un : List Nat} {wd : Bool} {v : AV} {d : Nat} {K : St → Prop} {m m' : List (Nat × Option AObj)}
theorem RD.callX [hP : PG P G] {f : Nat} {first cap args : List AV} (hk : kindA o.op = .heavy) (hc : isCall o.op = true) (hr : recL rs un = some us) (hw : wantedL ops o l = some true) (hv : operandsL G l (opArgs o.op) = some (.fn f first cap :: args)) (hd : o.dst = some d) (hn : Nat.blt d n = true)
    (hu : us.all (fun r => !r.heavy && r.st.isNone) = true) (hh : (us.flatMap fun r => (List.range (r.hi - r.lo)).map (r.lo + ·)) = [])
    (hs : ∀ fl', call fl' f (first ++ args ++ cap) (ofM m) c = some (v, ofM m', c')) (hsame : wd = true → us.all (sameR P (ofM m) (ofM m')) = true)
    (h : RD G P fl call round ops is (⟨true, none, c, c', none, bif wd then some (ofM m, ofM m') else none, none⟩ :: rs) (stL n dfs ((d, v) :: l) m' c') K) : RD G P fl call round ops (⟨o, un, wd⟩ :: is) rs (stL n dfs l m c) K := by
  refine RD.step (v := v) (m' := m') (c' := c') (rc := ⟨true, none, c, c', none, bif wd then some (ofM m, ofM m') else none, none⟩) hr hw hv ?_ (put_some hn hd) (by rw [hd]; exact h)
  rw [hk]; unfold stD
  have hst : ∀ fl', stepA P call round fl' o.op (.fn f first cap :: args) (ofM m) c = some (v, ofM m', c') := fun fl' => by
    unfold stepA; rw [hc]; exact hs fl'
  simp only [hu, hh, hideA, cond_true]
  cases wd with
  | true => simp only [cond_true, hst, backA, List.foldl_nil, hsame rfl]
  | false => simp only [cond_false, hst, backA, List.foldl_nil]
def srOkX (m m' : List (Nat × Option AObj)) : List Rec → Prop
  | [] => True
  | r :: us => (match r.reads with | none => True | some x => ∃ ob, lookM m x = some ob ∧ lookM m' x = some ob ∧ rfO ob = true) ∧ srOkX m m' us
theorem srOkX_all : ∀ {us : List Rec}, srOkX m m' us → us.all (sameR P (ofM m) (ofM m')) = true
  | [], _ => rfl
  | r :: us, h => by
    obtain ⟨h1, h2⟩ := h
    have h3 : sameR P (ofM m) (ofM m') r = true := by
      unfold sameR
      split at h1
      · rename_i e; rw [e]
      · rename_i x e
        obtain ⟨ob, h4, h4', h5⟩ := h1
        rw [e]
        simp only [same_get (getM h4) (getM h4') h5, Bool.true_or]
    rw [List.all_cons, h3, srOkX_all h2]
    rfl
end
end Go.Ev
/- Package claim: Right, Fits. -/
namespace Go.Proofs.Ytlnmcadbmpiopaa
open Go Go.Ev
noncomputable def rtV (B : CBook) : AV := if dB (bkOk B) = true then .tup [.bool (dB (Ws B ≠ [])), .int .i64 0] else .tup [.bool false, .int .i64 60]
def ftP (B : CBook) (s r e : Int) : Prop := ∃ t ∈ Ws B, r - e ≤ t.c s.toNat ∧ t.c s.toNat ≤ r + e
noncomputable def ftV (B : CBook) (s r e : Int) : AV := if ansE B (ckOk B s r e) = 0 then .tup [.bool (dB (ftP B s r e)), .int .i64 0] else .tup [.bool false, .int .i64 (ansE B (ckOk B s r e))]
theorem ftV_err {B : CBook} {s r e x : Int} (h : ansE B (ckOk B s r e) = x) (hx : x ≠ 0) : ftV B s r e = .tup [.bool false, .int .i64 x] := by unfold ftV; rw [h, if_neg hx]
theorem ftV_ok {B : CBook} {s r e : Int} (h : ansE B (ckOk B s r e) = 0) : ftV B s r e = .tup [.bool (dB (ftP B s r e)), .int .i64 0] := by unfold ftV; rw [if_pos h]
noncomputable def clF (B : CBook) (a1 a2 : AV) (s r e : Int) (v : Bool) : CallFn := one1 79 [bk B a1 a2, .agg [.int .i64 s, .int .i64 r, .int .i64 e]] (.bool v) fun H c => ∃ m, H = ofM m ∧ BkIn B a1 a2 m c
noncomputable def lnF (B : CBook) (a1 a2 : AV) (q : Bool) (x : Int) : CallFn := one1 71 [bk B a1 a2, .bool q] (.tup [.agg [.nilp, .nils], .int .i64 x]) fun H c => ∃ m, H = ofM m ∧ BkIn B a1 a2 m c
theorem clF_calm {B : CBook} {a1 a2 : AV} (hn : B.ns ≤ 9223372036854775807) (s r e : Int) (v : Bool) (hv : dB (ckOk B s r e) = v) : CalmC 0 Try.prog (clF B a1 a2 s r e v) := one1_calm fun fl H c ⟨m, hm, h⟩ => by subst hm hv; exact isClock_at h hn s r e fl
set_option maxRecDepth 100000 in
set_option maxHeartbeats 4000000 in
theorem Fits_can (B : CBook) (a1 a2 : AV) (h1 : IsSl a1 B.ns 0) (h2 : IsSl a2 B.nc 1) (hn : B.ns ≤ 9223372036854775807) (s r e : Int) : CanS 0 Try.prog 30 2 [bk B a1 a2, .agg [.int .i64 s, .int .i64 r, .int .i64 e]] [(0, some (oSt B)), (1, some (oCk B))] 2 fun v _ _ => v = ftV B s r e := by
  refine CanS.mk Try.func30 rfl rfl rfl ?_
  by_cases hB : bkOk B
  · by_cases hq : ckOk B s r e
    · by_cases hW : Ws B = []
      · rw [ftV_err (ansE_false hB hq hW) (by decide)]
        repeat' (first | refine RT.nil ?_ | refine sq_n ?_ | refine Tr.seq ?_ | refine Tr.region ?_ | (refine RT.goK rfl rfl rfl rfl ?_; apply Nx.of; (first | exact S.assign | exact S.box)))
        refine Tr.openK un30_1 (by kernel_rfl) (by kernel_rfl) (alts [clF B a1 a2 s r e true, lnF B a1 a2 true 62]) (alts_calm fun g hg => by
          simp only [List.mem_cons, List.not_mem_nil, or_false] at hg
          rcases hg with rfl | rfl
          · exact clF_calm hn s r e _ (dB_tt hq)
          · exact one1_calm fun fl H c ⟨m, hm, h⟩ => by subst hm; exact learn_false_at h hn hB hW fl) ?_
        repeat' (first | (refine RD.free rfl rfl rfl rfl rfl rfl ?_; apply Nx.of; (first | exact S.move | exact S.assign | exact S.extract rfl)) | (refine RD.new rfl rfl rfl rfl rfl rfl ?_; apply Nx.of; (first | exact S.alloc rfl)) | (refine RD.load rfl rfl rfl rfl rfl rfl rfl rfl ?_; apply Nx.of; (first | exact S.loadNc rfl rfl rfl rfl)) | (refine RD.store rfl rfl rfl rfl rfl rfl rfl ?_; apply Nx.of; (first | exact S.store rfl rfl rfl rfl rfl rfl)) | (refine RD.callN rfl rfl rfl rfl rfl rfl rfl rfl rfl (fun fl' => alts_hd (one1_at ⟨_, rfl, ⟨h1, h2, rfl, rfl, by decide⟩⟩ fl')) (fun _ => by refine srOk_all ?_; simp only [srOk]; (repeat' (first | exact trivial | refine And.intro ?_ ?_)); all_goals (first | (refine ⟨_, rfl, ?_⟩; (first | (simp [bk, AV.cells, pbC, rfO, rfVs, rfV, h1.rf, h2.rf]; done))))) ?_) | (refine RD.callN rfl rfl rfl rfl rfl rfl rfl rfl rfl (fun fl' => (alts_tl (famA_ne _ (by decide))).trans (alts_hd (one1_at ⟨_, rfl, ⟨h1, h2, rfl, rfl, by decide⟩⟩ fl'))) (fun _ => by refine srOk_all ?_; simp only [srOk]; (repeat' (first | exact trivial | refine And.intro ?_ ?_)); all_goals (first | exact trivial | (refine ⟨_, rfl, ?_⟩; (first | rfl | (simp [rfO, rfVs, rfV, rfVs_flat]; done) | (simp [bk, AV.cells, pbC, rfO, rfVs, rfV, h1.rf, h2.rf]; done))))) ?_) | refine RD.nil ⟨Nat.le_of_ble_eq_true rfl, ?_⟩)
        repeat' (first | refine RT.nil ?_ | refine sq_n ?_ | refine Tr.seq ?_ | refine Tr.region ?_ | refine Tr.cond_t rfl ?_ | refine Tr.ret ?_ | refine sq_r ?_ | (refine RT.goK rfl rfl rfl rfl ?_; apply Nx.of; (first | exact S.neq_t (by decide))) | (refine RT.goK rfl rfl rfl rfl ?_; apply Nx.of; (first | exact S.move | exact S.assign)))
        (first | refine rt_go rfl ?_)
        rfl
      · rw [ftV_ok (ansE_ok hB hq hW)]
        repeat' (first | refine RT.nil ?_ | refine sq_n ?_ | refine Tr.seq ?_ | refine Tr.region ?_ | (refine RT.goK rfl rfl rfl rfl ?_; apply Nx.of; (first | exact S.assign | exact S.box)))
        refine Tr.openK un30_1 (by kernel_rfl) (by kernel_rfl) (alts [clF B a1 a2 s r e true, pinX 71 [bk B a1 a2, .bool true] [(3, some (.cells [.int .i64 s, .int .i64 r, .int .i64 e])), (2, some (.cells (bk B a1 a2).cells)), (0, some (oSt B)), (1, some (oCk B))] 4 (.tup [.agg [.ptr 7 0, .gs 12 (wths B 0).length], .int .i64 0]) ((7, some (.cells (pbC B a1 a2 8))) :: (12, some (oWs B)) :: [(3, some (.cells [.int .i64 s, .int .i64 r, .int .i64 e])), (2, some (.cells (bk B a1 a2).cells)), (0, some (oSt B)), (1, some (oCk B))]) 13]) (alts_calm fun g hg => by
          simp only [List.mem_cons, List.not_mem_nil, or_false] at hg
          rcases hg with rfl | rfl
          · exact clF_calm hn s r e _ (dB_tt hq)
          · exact pinX_calm (fun fl => learn_at (c := 4) ⟨h1, h2, rfl, rfl, by decide⟩ (fun x o hx => by have := lookM_mem hx; simp at this; omega) hn hB hW fl) (fun fl => ((Good.refl fl 4 (ofM [(3, some (.cells [.int .i64 s, .int .i64 r, .int .i64 e])), (2, some (.cells (bk B a1 a2).cells)), (0, some (oSt B)), (1, some (oCk B))])).cons (c2 := 13) (by decide) (by decide) (by decide)).cons (by decide) (by decide) (by decide))) ?_
        repeat' (first | (refine RD.free rfl rfl rfl rfl rfl rfl ?_; apply Nx.of; (first | exact S.move | exact S.assign | exact S.extract rfl)) | (refine RD.new rfl rfl rfl rfl rfl rfl ?_; apply Nx.of; (first | exact S.alloc rfl)) | (refine RD.load rfl rfl rfl rfl rfl rfl rfl rfl ?_; apply Nx.of; (first | exact S.loadNc rfl rfl rfl rfl)) | (refine RD.store rfl rfl rfl rfl rfl rfl rfl ?_; apply Nx.of; (first | exact S.store rfl rfl rfl rfl rfl rfl)) | (refine RD.callN rfl rfl rfl rfl rfl rfl rfl rfl rfl (fun fl' => alts_hd (one1_at ⟨_, rfl, ⟨h1, h2, rfl, rfl, by decide⟩⟩ fl')) (fun _ => by refine srOk_all ?_; simp only [srOk]; (repeat' (first | exact trivial | refine And.intro ?_ ?_)); all_goals (first | (refine ⟨_, rfl, ?_⟩; (first | (simp [bk, AV.cells, pbC, rfO, rfVs, rfV, h1.rf, h2.rf]; done))))) ?_) | (refine RD.callX rfl rfl rfl rfl rfl rfl rfl rfl rfl (fun fl' => (alts_tl (famA_ne _ (by decide))).trans (alts_hd (pinX_at _ _ _ _ _ _ _ fl'))) (fun _ => by refine srOkX_all ?_; simp only [srOkX]; (repeat' (first | exact trivial | refine And.intro ?_ ?_)); all_goals (first | exact trivial | (refine ⟨_, rfl, rfl, ?_⟩; (first | rfl | (simp [rfO, rfVs, rfV, rfVs_flat]; done) | (simp [bk, AV.cells, pbC, rfO, rfVs, rfV, h1.rf, h2.rf]; done))))) ?_) | refine RD.nil ⟨Nat.le_of_ble_eq_true rfl, ?_⟩)
        repeat' (first | refine RT.nil ?_ | refine sq_n ?_ | refine Tr.seq ?_ | refine Tr.region ?_ | refine Tr.cond_f rfl ?_ | refine Tr.skip ?_ | refine Tr.ret ?_ | (refine RT.call rfl rfl rfl (where_at (p := 7) (x := 12) rfl (by decide) (wths_len hB.1) (right1_ok hB.1 hq) _) rfl rfl (Nat.le_refl _) ?_) | (refine RT.goK rfl rfl rfl rfl ?_; apply Nx.of; (first | exact S.neq_f (by decide))) | (refine RT.goK rfl rfl rfl rfl ?_; apply Nx.of; (first | exact S.move | exact S.assign | exact S.loadNc rfl rfl rfl rfl | exact S.neq | exact S.makeFunc)))
        (first | refine rt_go rfl ?_)
        refine congrArg (fun v => AV.tup [v, .int .i64 0]) ?_
        exact dB_iff (whV_ne hW)
    · rw [ftV_err (ansE_ask hB hq) (by decide)]
      repeat' (first | refine RT.nil ?_ | refine sq_n ?_ | refine Tr.seq ?_ | refine Tr.region ?_ | (refine RT.goK rfl rfl rfl rfl ?_; apply Nx.of; (first | exact S.assign | exact S.box)))
      refine Tr.openK un30_1 (by kernel_rfl) (by kernel_rfl) (alts [clF B a1 a2 s r e false, lnF B a1 a2 false 61]) (alts_calm fun g hg => by
        simp only [List.mem_cons, List.not_mem_nil, or_false] at hg
        rcases hg with rfl | rfl
        · exact clF_calm hn s r e _ (dB_ff hq)
        · exact one1_calm fun fl H c ⟨m, hm, h⟩ => by subst hm; exact learn_ask_at h hn hB fl) ?_
      repeat' (first | (refine RD.free rfl rfl rfl rfl rfl rfl ?_; apply Nx.of; (first | exact S.move | exact S.assign | exact S.extract rfl)) | (refine RD.new rfl rfl rfl rfl rfl rfl ?_; apply Nx.of; (first | exact S.alloc rfl)) | (refine RD.load rfl rfl rfl rfl rfl rfl rfl rfl ?_; apply Nx.of; (first | exact S.loadNc rfl rfl rfl rfl)) | (refine RD.store rfl rfl rfl rfl rfl rfl rfl ?_; apply Nx.of; (first | exact S.store rfl rfl rfl rfl rfl rfl)) | (refine RD.callN rfl rfl rfl rfl rfl rfl rfl rfl rfl (fun fl' => alts_hd (one1_at ⟨_, rfl, ⟨h1, h2, rfl, rfl, by decide⟩⟩ fl')) (fun _ => by refine srOk_all ?_; simp only [srOk]; (repeat' (first | exact trivial | refine And.intro ?_ ?_)); all_goals (first | (refine ⟨_, rfl, ?_⟩; (first | (simp [bk, AV.cells, pbC, rfO, rfVs, rfV, h1.rf, h2.rf]; done))))) ?_) | (refine RD.callN rfl rfl rfl rfl rfl rfl rfl rfl rfl (fun fl' => (alts_tl (famA_ne _ (by decide))).trans (alts_hd (one1_at ⟨_, rfl, ⟨h1, h2, rfl, rfl, by decide⟩⟩ fl'))) (fun _ => by refine srOk_all ?_; simp only [srOk]; (repeat' (first | exact trivial | refine And.intro ?_ ?_)); all_goals (first | exact trivial | (refine ⟨_, rfl, ?_⟩; (first | rfl | (simp [rfO, rfVs, rfV, rfVs_flat]; done) | (simp [bk, AV.cells, pbC, rfO, rfVs, rfV, h1.rf, h2.rf]; done))))) ?_) | refine RD.nil ⟨Nat.le_of_ble_eq_true rfl, ?_⟩)
      repeat' (first | refine RT.nil ?_ | refine sq_n ?_ | refine Tr.seq ?_ | refine Tr.region ?_ | refine Tr.cond_t rfl ?_ | refine Tr.ret ?_ | refine sq_r ?_ | (refine RT.goK rfl rfl rfl rfl ?_; apply Nx.of; (first | exact S.neq_t (by decide))) | (refine RT.goK rfl rfl rfl rfl ?_; apply Nx.of; (first | exact S.move | exact S.assign)))
      (first | refine rt_go rfl ?_)
      rfl
  · rw [ftV_err (ansE_no hB) (by decide)]
    repeat' (first | refine RT.nil ?_ | refine sq_n ?_ | refine Tr.seq ?_ | refine Tr.region ?_ | (refine RT.goK rfl rfl rfl rfl ?_; apply Nx.of; (first | exact S.assign | exact S.box)))
    refine Tr.openK un30_1 (by kernel_rfl) (by kernel_rfl) (alts [clF B a1 a2 s r e (dB (ckOk B s r e)), lnF B a1 a2 (dB (ckOk B s r e)) 60]) (alts_calm fun g hg => by
      simp only [List.mem_cons, List.not_mem_nil, or_false] at hg
      rcases hg with rfl | rfl
      · exact clF_calm hn s r e _ rfl
      · exact one1_calm fun fl H c ⟨m, hm, h⟩ => by subst hm; exact learn_no_at h hn hB _ fl) ?_
    repeat' (first | (refine RD.free rfl rfl rfl rfl rfl rfl ?_; apply Nx.of; (first | exact S.move | exact S.assign | exact S.extract rfl)) | (refine RD.new rfl rfl rfl rfl rfl rfl ?_; apply Nx.of; (first | exact S.alloc rfl)) | (refine RD.load rfl rfl rfl rfl rfl rfl rfl rfl ?_; apply Nx.of; (first | exact S.loadNc rfl rfl rfl rfl)) | (refine RD.store rfl rfl rfl rfl rfl rfl rfl ?_; apply Nx.of; (first | exact S.store rfl rfl rfl rfl rfl rfl)) | (refine RD.callN rfl rfl rfl rfl rfl rfl rfl rfl rfl (fun fl' => alts_hd (one1_at ⟨_, rfl, ⟨h1, h2, rfl, rfl, by decide⟩⟩ fl')) (fun _ => by refine srOk_all ?_; simp only [srOk]; (repeat' (first | exact trivial | refine And.intro ?_ ?_)); all_goals (first | (refine ⟨_, rfl, ?_⟩; (first | (simp [bk, AV.cells, pbC, rfO, rfVs, rfV, h1.rf, h2.rf]; done))))) ?_) | (refine RD.callN rfl rfl rfl rfl rfl rfl rfl rfl rfl (fun fl' => (alts_tl (famA_ne _ (by decide))).trans (alts_hd (one1_at ⟨_, rfl, ⟨h1, h2, rfl, rfl, by decide⟩⟩ fl'))) (fun _ => by refine srOk_all ?_; simp only [srOk]; (repeat' (first | exact trivial | refine And.intro ?_ ?_)); all_goals (first | exact trivial | (refine ⟨_, rfl, ?_⟩; (first | rfl | (simp [rfO, rfVs, rfV, rfVs_flat]; done) | (simp [bk, AV.cells, pbC, rfO, rfVs, rfV, h1.rf, h2.rf]; done))))) ?_) | refine RD.nil ⟨Nat.le_of_ble_eq_true rfl, ?_⟩)
    repeat' (first | refine RT.nil ?_ | refine sq_n ?_ | refine Tr.seq ?_ | refine Tr.region ?_ | refine Tr.cond_t rfl ?_ | refine Tr.ret ?_ | refine sq_r ?_ | (refine RT.goK rfl rfl rfl rfl ?_; apply Nx.of; (first | exact S.neq_t (by decide))) | (refine RT.goK rfl rfl rfl rfl ?_; apply Nx.of; (first | exact S.move | exact S.assign)))
    (first | refine rt_go rfl ?_)
    rfl
theorem ftV_pl (B : CBook) (s r e : Int) : Pl (ftV B s r e) := by unfold ftV; split <;> exact fun _ => rfl
theorem Fits_x {B : CBook} {v1 v2 : AV} {m : List (Nat × Option AObj)} {c : Nat} (h : BkX B v1 v2 m c) (hn : B.ns ≤ 9223372036854775807) (s r e : Int) (fl : Nat) : OkAt 0 Try.prog fl 30 [bk B v1 v2, .agg [.int .i64 s, .int .i64 r, .int .i64 e]] (ofM m) c (ftV B s r e) (ofM m) c := h.use [.agg [.int .i64 s, .int .i64 r, .int .i64 e]] (fun _ => rfl) (ftV_pl B s r e) (fun a1 a2 i1 i2 => Fits_can B a1 a2 i1 i2 hn s r e) fl
end Go.Proofs.Ytlnmcadbmpiopaa
/- What the laws on package claim share, beside the book: spans compared, Reach, Just, Wrap in open regions; a book whose road is smooth. -/
namespace Go.Proofs.Ytlnmcadbmpiopaa
open Go Go.Ev
theorem val_is {u v : AV} {H : T AObj} {c fl f : Nat} {args : List AV} (e : u = v) (h : OkAt 0 Try.prog fl f args H c u H c) : OkAt 0 Try.prog fl f args H c v H c := e ▸ h
abbrev BillOK : Prop := CanS 0 Try.prog 19 0 [] [] 0 fun v _ _ => v = .bool true
noncomputable def reachF : CallFn := famA (α := Int × Int) 68 (fun a => [.int .i64 a.1, .int .i64 a.2]) (fun a => .agg [.int .i64 a.1, .int .i64 a.2]) fun _ _ _ => True
noncomputable def justF : CallFn := famA (α := Int) 95 (fun a => [.int .i64 a]) (fun a => .agg [.int .i64 a, .int .i64 a]) fun _ _ _ => True
noncomputable def wrapF : CallFn := famA (α := Int × Int) 43 (fun a => [.int .i64 a.1, .int .i64 a.2]) (fun a => .int .i64 (wrapV a.1 a.2)) fun a _ _ => a.2 ≤ 1000000
theorem bk_one {B : CBook} {a1 a2 : AV} (h1 : IsSl a1 B.ns 0) (h2 : IsSl a2 B.nc 1) : ((bk B a1 a2).cells.all AV.one) = true := by
  simp only [bk, AV.cells, List.all_cons, List.all_nil, h1.one.1, h2.one.1]
  rfl
def smB (B : CBook) (k : Nat) : CBook := { B with rl := fun i => if i < k then 0 else B.rl i, rh := fun i => if i < k then 0 else B.rh i }
end Go.Proofs.Ytlnmcadbmpiopaa
/- A book whose road is smooth: where it lies, and what its truths are. -/
namespace Go.Proofs.Ytlnmcadbmpiopaa
open Go Go.Ev
def ncB (B : CBook) : CBook := { B with nc := 0 }
theorem before_nc (B : CBook) (i : Nat) : before (ncB B) i = before B i := by cases i <;> rfl
theorem ncB_stOk {B : CBook} {i : Nat} (h : stOk B i) : stOk (ncB B) i := by
  unfold stOk at h ⊢
  rw [before_nc]
  exact h
theorem ncB_ok {B : CBook} (h : bkOk B) : bkOk (ncB B) := ⟨⟨h.1.1, fun i hi => ncB_stOk (h.1.2 i hi)⟩, h.2.1, ⟨Nat.zero_le _, fun i hi => absurd hi (Nat.not_lt_zero i)⟩, h.2.2.2⟩
theorem wrV_nc (B : CBook) (q : Int × Int) : wrV (ncB B) q = 0 := rfl
def toT (w : Int) (n : Nat) (r c : Nat → Int) : Tru := ⟨w, if 0 < n then r 0 else 0, if 1 < n then r 1 else 0, if 2 < n then r 2 else 0, if 0 < n then c 0 else 0, if 1 < n then c 1 else 0, if 2 < n then c 2 else 0⟩
theorem toT_r {w : Int} {n i : Nat} {r c : Nat → Int} (h : i < 3) : (toT w n r c).r i = if i < n then r i else 0 := by
  obtain rfl | rfl | rfl : i = 0 ∨ i = 1 ∨ i = 2 := by omega
  all_goals rfl
theorem toT_c {w : Int} {n i : Nat} {r c : Nat → Int} (h : i < 3) : (toT w n r c).c i = if i < n then c i else 0 := by
  obtain rfl | rfl | rfl : i = 0 ∨ i = 1 ∨ i = 2 := by omega
  all_goals rfl
theorem toT_is {B : CBook} {w : Int} {r c : Nat → Int} (hn : B.ns ≤ 3) (hw : 0 ≤ w ∧ w < 3 ∧ hasP B.wea w.toNat)
    (h : ∀ i, i < B.ns → (B.rl i ≤ r i ∧ r i ≤ B.rh i) ∧ (((if i = 0 then 0 else c (i - 1) + B.sl (i - 1)) + B.dl i + B.cost w.toNat + r i ≤ c i) ∧ c i ≤ (if i = 0 then 0 else c (i - 1) + B.sh (i - 1)) + B.dh i + B.cost w.toNat + r i) ∧ wrV B (i, c i) = 0) : IsT B (toT w B.ns r c) := by
  refine ⟨hw, fun i hi => ?_, fun i h1 h2 => ?_⟩
  · have e1 : (toT w B.ns r c).r i = r i := by rw [toT_r (by omega), if_pos hi]
    have e2 : (toT w B.ns r c).c i = c i := by rw [toT_c (by omega), if_pos hi]
    have e3 : ∀ s : Nat → Int, (if i = 0 then 0 else (toT w B.ns r c).c (i - 1) + s (i - 1)) = if i = 0 then 0 else c (i - 1) + s (i - 1) := fun s => by
      by_cases h0 : i = 0
      · rw [if_pos h0, if_pos h0]
      · rw [if_neg h0, if_neg h0, toT_c (by omega), if_pos (by omega)]
    unfold StT dlo dhi
    rw [e1, e2, e3 B.sl, e3 B.sh]
    exact h i hi
  · rw [toT_r h2, toT_c h2, if_neg (by omega), if_neg (by omega)]
    exact ⟨rfl, rfl⟩
def sumN (f : Nat → Int) : Nat → Int
  | 0 => 0
  | k + 1 => sumN f k + f k
def chn (B : CBook) (w : Nat) : Nat → Int
  | 0 => B.dl 0 + B.cost w + B.rl 0
  | k + 1 => chn B w k + B.sl k + B.dl (k + 1) + B.cost w + B.rl (k + 1)
theorem some_wea {B : CBook} (hw : weaOk B) : ∃ w : Nat, w < 3 ∧ hasP B.wea w := by
  obtain ⟨⟨h1, h2⟩, _⟩ := hw
  unfold hasP
  obtain e | e | e | e | e | e | e : B.wea = 1 ∨ B.wea = 2 ∨ B.wea = 3 ∨ B.wea = 4 ∨ B.wea = 5 ∨ B.wea = 6 ∨ B.wea = 7 := by omega
  all_goals rw [e]
  all_goals first | exact ⟨0, by decide, by decide⟩ | exact ⟨1, by decide, by decide⟩ | exact ⟨2, by decide, by decide⟩
theorem ne_nc {B : CBook} (h : bkOk B) (hz : ∀ q, wrV B q = 0) : Ws B ≠ [] := by
  obtain ⟨w, hw, hp⟩ := some_wea h.2.1
  have : toT (w : Int) B.ns B.rl (chn B w) ∈ Ws B := by
    refine (mem_Ws h.1 h.2.1).2 (toT_is h.1.1.2 ⟨by omega, by omega, by rw [Int.toNat_natCast]; exact hp⟩ fun i hi => ?_)
    rw [Int.toNat_natCast]
    have hs := h.1.2 i hi
    unfold stOk at hs
    refine ⟨by omega, ?_, hz _⟩
    cases i with
    | zero => simp only [chn, if_pos]; omega
    | succ i =>
      have hs' := h.1.2 i (by omega)
      unfold stOk at hs'
      rw [if_neg (by omega), if_neg (by omega), Nat.add_sub_cancel]
      simp only [chn]
      omega
  intro e
  rw [e] at this
  cases this
end Go.Proofs.Ytlnmcadbmpiopaa
/- Heavy operations that are not calls, whose order beside others is open; and-not. -/
namespace Go.Ev
open Go
section
variable {G : Nat} {P : Program} {fl c c' : Nat} {n : Nat} {dfs : List Nat} {l : List (Nat × AV)} {o : Oper} {call round : CallFn} {ops : List Oper} {is : List OpI} {rs us : List Rec} {un : List Nat} {v : AV} {vs : List AV} {d : Nat} {K : St → Prop} {m m' : List (Nat × Option AObj)}
def andnI (a b : Int) : Int := IntKind.i64.wrap (BitVec.ofInt 64 a &&& ~~~(BitVec.ofInt 64 b)).toNat
theorem S.neqB_f {t s : Nat} {x1 x2 : Operand} {b : Bool} (h : eqA P t (.bool b) (.bool b) = some true) : OpE P fl (.binOp .neq t x1 x2 s) [.bool b, .bool b] m c (.bool false) m c := by
  refine ⟨rfl, Nat.le_refl _, ?_⟩
  show opt1 ((eqA P t (.bool b) (.bool b)).map fun b => .bool (!b)) (ofM m) c = _
  rw [h]; rfl
theorem S.gtr_f {t s : Nat} {x1 x2 : Operand} {a b : Int} (h : ¬ b < a) : OpE P fl (.binOp .gtr t x1 x2 s) [.int .i64 a, .int .i64 b] m c (.bool false) m c := by
  have := S.gtr (P := P) (fl := fl) (m := m) (c := c) (t := t) (yt := s) (x1 := x1) (x2 := x2) (a := a) (b := b)
  rwa [decide_eq_false h] at this
end
end Go.Ev
/- A book with a further clock: where it lies. -/
namespace Go.Proofs.Ytlnmcadbmpiopaa
open Go Go.Ev
set_option maxRecDepth 100000 in
theorem In_can (s : Int) (n : Nat) (h : n ≤ 62) : CanS 0 Try.prog 38 0 [.int .i64 s, .int .i64 (n : Int)] [] 0 fun v _ _ => v = .bool (dB (hasP s n)) := by
  refine CanS.mk Try.func38 rfl rfl rfl ?_
  repeat' (first | refine RT.nil ?_ | refine sq_n ?_ | refine Tr.seq ?_ | refine Tr.region ?_ | refine Tr.ret ?_ | (refine RT.goK rfl rfl rfl rfl ?_; refine Nx.of (S.shr h) ?_) | (refine RT.goK rfl rfl rfl rfl ?_; apply Nx.of; (first | exact S.move | exact S.assign | exact S.eql | exact S.and)))
  (first | refine rt_go rfl ?_)
  exact dB_iff Iff.rfl
theorem In_at (s : Int) (n : Nat) (h : n ≤ 62) (H : T AObj) (c fl : Nat) : OkAt 0 Try.prog fl 38 [.int .i64 s, .int .i64 (n : Int)] H c (.bool (dB (hasP s n))) H c :=
  (In_can s n h).pure (.bool _) (.plain fun _ => rfl) fl
def wiB (B : CBook) (s r e : Int) : CBook := { B with nc := B.nc + 1, ck := fun i => if i < B.nc then B.ck i else s, rd := fun i => if i < B.nc then B.rd i else r, er := fun i => if i < B.nc then B.er i else e }
theorem flat_wi (B : CBook) (s r e : Int) : flat (ckE (wiB B s r e)) (List.range (B.nc + 1)) = flat (ckE B) (List.range B.nc) ++ [.int .i64 s, .int .i64 r, .int .i64 e] := by
  rw [List.range_succ, flat_append, flat_one]
  refine congr (congrArg _ ?_) ?_
  · unfold flat
    refine congrArg List.flatten (List.map_congr_left fun i hi => ?_)
    have hi := List.mem_range.1 hi
    simp only [ckE, wiB, if_pos hi]
  · simp only [ckE, wiB, if_neg (Nat.lt_irrefl _)]
    rfl
theorem bkc_one {B : CBook} {a1 : AV} {q n : Nat} (h1 : IsSl a1 B.ns 0) : ((bk B a1 (.gs q n)).cells.all AV.one) = true := by
  simp only [bk, AV.cells, List.all_cons, List.all_nil, h1.one.1]
  rfl
def wiX (B : CBook) : Nat := if B.nc = 0 then 8 else 9
end Go.Proofs.Ytlnmcadbmpiopaa
/- A book with a further clock, a book with one weather: their truths. -/
namespace Go.Proofs.Ytlnmcadbmpiopaa
open Go Go.Ev
theorem before_wi (B : CBook) (s r e : Int) (i : Nat) : before (wiB B s r e) i = before B i := by cases i <;> rfl
def weB (B : CBook) (w : Nat) : CBook := { B with wea := 1 * 2 ^ w }
end Go.Proofs.Ytlnmcadbmpiopaa
/- Package claim: wrongIn, numbers: what fewest holds against a truth. -/
namespace Go.Proofs.Ytlnmcadbmpiopaa
open Go Go.Ev
noncomputable def wnS (B : CBook) (t : Tru) : Nat → Int
  | 0 => 0
  | k + 1 => orI (wnS B t k) (wrV B ((k : Int), t.c k))
def lsS (t : Tru) (L : List (Int × Int)) : Nat → List (Int × Int)
  | 0 => L
  | k + 1 => insL (lsS t L k) ((k : Int), t.c k)
set_option maxRecDepth 100000 in
set_option maxHeartbeats 4000000 in
theorem wrongIn_can (B : CBook) (a1 a2 : AV) (h1 : IsSl a1 B.ns 0) (h2 : IsSl a2 B.nc 1) (hns : B.ns ≤ 3) (hck : cksOk B) (L : List (Int × Int)) (t : Tru) : CanS 0 Try.prog 106 3 [.ptr 2 0, trV t] [(0, some (oSt B)), (1, some (oCk B)), (2, some (.cells (pbC B a1 a2 3))), (3, some (oMap B L))] 4 fun v H1 _ => v = .int .i64 (wnS B t B.ns) ∧ H1.get 3 = some (oMap B (lsS t L B.ns)) := by
  refine CanS.mk Try.func106 rfl rfl rfl ?_
  repeat' (first | refine RT.nil ?_ | refine sq_n ?_ | refine Tr.seq ?_ | refine Tr.region ?_ | refine Tr.block ?_ | (refine RT.goK rfl rfl rfl rfl ?_; apply Nx.of; (first | exact S.move | exact S.assign | exact S.load1c rfl rfl rfl rfl | exact S.fieldAddr rfl rfl rfl | exact S.box | exact S.nilCheck)) | (refine RT.goK rfl rfl rfl rfl ?_; apply Nx.of; (first | exact S.len_sl rfl rfl rfl (by assumption))))
  refine Tr.loop (fun k : Nat => stL Try.f106.ntmps [] [(0, .ptr 2 0), (3, .ptr 4 0), (5, .int .i64 (wnS B t k)), (12, .int .i64 B.ns), (13, .int .i64 k)] [(4, some (.cells (trV t).cells)), (0, some (oSt B)), (1, some (oCk B)), (2, some (.cells (pbC B a1 a2 3))), (3, some (oMap B (lsS t L k)))] 5) (fun k => k ≤ B.ns) (fun k => B.ns - k) 0 (Nat.zero_le _) (by (refine Wk.same (by decide) (by decide) (by decide) (by decide) ?_ ?_ rfl; all_goals ((try simp only [allL, allM]); (repeat' (first | exact trivial | refine And.intro ?_ ?_)); all_goals (first | rfl | exact ren_ro _ _ _ | exact ren_mapA _ _ _ | exact pbc_ren h1 h2 (nm_lt (by decide)) (nm_lt (by decide)) (nm_lt (by decide)) | decide)))) (fun k hk => ?_)
  by_cases hlt : k < B.ns
  · have hlt' : (k : Int) < B.ns := by omega
    repeat' (first | refine RT.nil ?_ | refine sq_n ?_ | refine Tr.seq ?_ | refine Tr.region ?_ | refine Tr.cond_t rfl ?_ | refine Tr.skip ?_ | refine Tr.block ?_ | refine blk_n ?_ | (refine RT.goK rfl rfl rfl rfl ?_; refine Nx.of (S.lss_t hlt') ?_) | (refine RT.call rfl rfl rfl (wrongAt_at (p := 2) (q := 3) (L := lsS t L k) ⟨h1, h2, rfl, rfl, rfl, by decide, by decide, by decide⟩ rfl hck t k (by omega) _ (by decide)) rfl rfl (Nat.le_refl _) ?_) | (refine RT.goK rfl rfl rfl rfl ?_; apply Nx.of; (first | exact S.move | exact S.assign | exact S.loadNc rfl rfl rfl rfl | exact S.add_one (by omega) | exact S.or)))
    refine lp_n (k + 1) hlt (by omega) (by (refine Wk.same (by decide) (by decide) (by decide) (by decide) ?_ ?_ rfl; all_goals ((try simp only [allL, allM]); (repeat' (first | exact trivial | refine And.intro ?_ ?_)); all_goals (first | rfl | exact ren_ro _ _ _ | exact ren_mapA _ _ _ | exact pbc_ren h1 h2 (nm_lt (by decide)) (nm_lt (by decide)) (nm_lt (by decide)) | decide))))
  · obtain rfl : k = B.ns := by omega
    have hlt' : ¬ (B.ns : Int) < B.ns := by omega
    repeat' (first | refine RT.nil ?_ | refine sq_n ?_ | refine Tr.seq ?_ | refine Tr.region ?_ | refine Tr.cond_f rfl ?_ | refine Tr.ret ?_ | refine Tr.exit ?_ | refine sq_x ?_ | refine blk_hit rfl ?_ | refine lp_x ?_ | (refine RT.goK rfl rfl rfl rfl ?_; refine Nx.of (S.lss_f hlt') ?_) | (refine RT.goK rfl rfl rfl rfl ?_; apply Nx.of; (first | exact S.move | exact S.assign)))
    (first | refine rt_go rfl ?_)
    exact ⟨rfl, getM rfl⟩
end Go.Proofs.Ytlnmcadbmpiopaa
/- A range over a function whose rounds also read what lies beneath: Tr.range, but that the rounds' memory may name things below their floor. -/
namespace Go.Ev
open Go
def upM (f : Nat) (m : List (Nat × Option AObj)) : List (Nat × Option AObj) := m.filter fun e => Nat.ble f e.1
theorem upM_look {f x : Nat} {o : AObj} : ∀ {m : List (Nat × Option AObj)}, lookM (upM f m) x = some o → f ≤ x ∧ lookM m x = some o
  | [], h => by cases h
  | (d, v) :: l, h => by
    unfold upM at h
    rw [List.filter_cons] at h
    by_cases hd : Nat.ble f d = true
    · rw [if_pos hd, lookM, Bool.cond_eq_ite] at h
      rw [lookM, Bool.cond_eq_ite]
      by_cases e : Nat.beq x d = true
      · rw [if_pos e] at h ⊢
        have e' : x = d := by simpa using e
        exact ⟨by rw [e']; exact Nat.le_of_ble_eq_true hd, h⟩
      · rw [if_neg e] at h ⊢
        exact upM_look h
    · rw [if_neg hd] at h
      obtain ⟨h1, h2⟩ := upM_look h
      refine ⟨h1, ?_⟩
      rw [lookM, Bool.cond_eq_ite, if_neg]
      · exact h2
      · intro e
        have e' : x = d := by simpa using e
        exact hd (by rw [← e']; exact Nat.ble_eq_true_of_le h1)
section
variable {P : Program} {ρ : Rho} {fl cb c cc n p : Nat} {w : World} {l lC : List (Nat × AV)} {ags bd : Code} {m memT : List (Nat × Option AObj)}
variable {σ : Type} {M : σ → List (Nat × Option AObj)} {ok : σ → List AV → Prop} {stp : σ → List AV → σ × Option Code}
theorem Tr.rangeR [hP : PG P 0] {room : Nat → σ → Prop} {hroom : ∀ k s args, room (k + 1) s → (stp s args).2 = none → room k (stp s args).1} {g : Operand} {gf flT flC : Nat} {first cap : List AV} {T NC : List Nat} {s0 : σ} {R : AV → List (Nat × Option AObj) → σ × Option Code → Prop} {Q : AExit → St → Prop}
    (hg : operandL 0 l g = some (.fn gf first cap)) (hpn : Nat.blt p n = true) (hflcb : fl ≤ cb) (hcbc : cb ≤ c) (hflf : fl ≤ flC) (hflC : flC ≤ c) (hflT : fl ≤ flT) (hcc : c + 2 ≤ cc)
    (hT : allM (fun x o => x ∈ T ∧ lookM m x = some o ∧ o.ren (keepN T c) = o) memT) (hTo : ∀ x ∈ T, x < c ∧ ∃ o, lookM m x = some o ∧ (flT ≤ x → o.share = none)) (ha : AV.rens (keepN T c) (first ++ [.yld (c + 1)] ++ cap) = first ++ [.yld (c + 1)] ++ cap)
    (hl : allL (fun t v => look l t = some v ∧ v.ren (keepN NC c) = v) lC)
    (hM : allM (fun y o => y ∈ NC ∧ (y = c ∧ o = .dfr ∨ lookM m y = some o ∧ y < c) ∧ o.ren (keepN NC c) = o) (M s0)) (hN : ∀ y ∈ NC, y = c ∨ (flC ≤ y ∧ y < c ∧ y ∉ T ∧ ∃ o, lookM m y = some o ∧ o.share = none) ∨ (y < flC ∧ y < flT ∧ ∃ o, lookM m y = some o)) (hNc : c ∈ NC)
    (hMg : ∀ s y o, lookM (M s) y = some o → y ≠ c + 1)
    (hrnd : RndOK 0 P flC (c + 2) cc (c + 1) c n p lC ags bd M ok stp)
    (hcall : ∀ (ρ0 : Rho) (lb : Nat) (h : flC ≤ c + 2), YldOK P (rndC 0 ρ0 lb flC (c + 2) cc (c + 1) c n p lC ags bd M ok stp room hroom h) → OkJ 0 P (rndC 0 ρ0 lb flC (c + 2) cc (c + 1) c n p lC ags bd M ok stp room hroom h) flT (c + 1) gf (first ++ [.yld (c + 1)] ++ cap) memT (c + 2) (s0, none) R)
    (hRl : ∀ v m' s', R v m' s' → lookM m' (c + 1) = none)
    (hQ : ∀ v m' s' j, R v m' (s', j) → match j with | none => Q .normal (stL n [c] l (m' ++ upM flC (M s')) cc) | some jc => Tr 0 P fl cb none jc (stL n [c] l (m' ++ upM flC (M s')) cc) Q) :
    Tr 0 P fl cb none (.rangeFunc g #[p] ags bd) (stL n [] l m c) Q := by
  refine ⟨fun ρ a w b k hs hc hr hb => ?_⟩
  cases b with
  | some _ => exact hb.elim
  | none =>
  have hgv := operand_sound (G := 0) hs.mem hs.env (x := g) (v := .fn gf first cap) (by rw [← hg]; exact operandL_eq _ _ _)
  simp only [VR] at hgv
  obtain ⟨fs, cs, hfs, hcs, hgv⟩ := hgv
  refine wpIn_rangeFunc fun fn _ => ?_
  rw [FR_round]
  have hmem : Holds 0 ρ (ofM m) c w := hs.mem
  have hent : ∃ (q : Win) (mark : List Deferred) (w1 : World) (ρ1 : Rho), (Instr.enterLoop fn a.tmps #[p] ags bd none).run P w = .ok (q.b, mark) w1 ∧ ρ1 (c + 1) = some q ∧ Holds 0 ρ1 (ofM ((c + 1, some (lpO n p c lC ags bd .ready none)) :: (c, some .dfr) :: m)) (c + 2) w1 ∧ Ext ρ ρ1 fl w c (c + 2) ∧ Fr ρ fl w w1 ∧
      DefR ρ1 [c] (mark ++ a.defers) ∧ w.heap.size ≤ q.b := by
    have hc0 := hmem.fresh c (Nat.le_refl _)
    have A1 := hmem.alloc 0 (.deferred (some [])) .dfr alloc_new
    have e1 : Ext ρ (upd ρ c ⟨w.heap.size, 0, 0⟩) fl w c (c + 1) := .upd hc0
    have hsz : (w.alloc (.deferred (some []))).heap.size = w.heap.size + 1 := by simp
    have hc1 := A1.fresh (c + 1) (Nat.le_refl _)
    have henv : EnvR ρ (ofL lC) n a.tmps := ⟨hs.env.1, fun t v ht => hs.env.2 t v (by
      show (ofL l).get t = _
      rw [ofL_get]
      exact (allL_look hl t v (by rw [← ofL_get]; exact ht)).1)⟩
    have A2 := A1.alloc 0 (.loop { state := .ready, pending := none, fn := fn, tmps := a.tmps, params := #[p], assign := ags, body := bd, defers := w.heap.size }) (lpO n p c lC ags bd .ready none)
      ⟨fn, a.tmps, w.heap.size, by rw [alloc_new], (henv.mono e1.le).mono (upd_le hc1), ⟨w.heap.size, 0, 0⟩, upd_le hc1 _ _ (upd_same _ _ _), rfl⟩
    have e2 : Ext (upd ρ c ⟨w.heap.size, 0, 0⟩) (upd (upd ρ c ⟨w.heap.size, 0, 0⟩) (c + 1) ⟨(w.alloc (.deferred (some []))).heap.size, 0, 0⟩) fl (w.alloc (.deferred (some []))) (c + 1) (c + 1 + 1) := .upd hc1
    refine ⟨⟨w.heap.size + 1, 0, 0⟩, _, _, _, run_enterLoop_outer _ _ _ _ _, by rw [← hsz]; exact upd_same _ _ _, A2, e1.trans (by simp) e2, (Fr.alloc ρ fl w _).trans e1 (Fr.alloc _ fl _ _), ?_, by show w.heap.size ≤ w.heap.size + 1; omega⟩
    exact ⟨⟨w.heap.size, 0, 0⟩, a.defers, upd_le hc1 _ _ (upd_same _ _ _), rfl, (hs.dfs.mono e1.le).mono (upd_le hc1)⟩
  obtain ⟨q, mark, w1, ρ1, hrun, hql, hH1, he1, hf1, hd1, hqn⟩ := hent
  have hlow : ∀ x, x < c → ρ1 x = ρ x := fun x hx => by
    cases h : ρ x with
    | some t => exact he1.le x t h
    | none =>
      cases h1 : ρ1 x with
      | none => rfl
      | some t => have := he1.low x t h h1; omega
  have hnone : ∀ x, c + 2 ≤ x → ρ1 x = none := hH1.fresh
  have hget : ∀ x o, x < c → lookM m x = some o → (ofM ((c + 1, some (lpO n p c lC ags bd .ready none)) :: (c, some .dfr) :: m)).get x = some o := fun x o hx ho => by
    rw [ofM_get, lookM, lookM, Bool.cond_eq_ite, if_neg (by simp; omega), Bool.cond_eq_ite, if_neg (by simp; omega)]
    exact ho
  have hgetc : (ofM ((c + 1, some (lpO n p c lC ags bd .ready none)) :: (c, some .dfr) :: m)).get c = some .dfr := by
    rw [ofM_get, lookM, lookM, Bool.cond_eq_ite, if_neg (by simp), Bool.cond_eq_ite, if_pos (by simp)]
  have hgetl : (ofM ((c + 1, some (lpO n p c lC ags bd .ready none)) :: (c, some .dfr) :: m)).get (c + 1) = some (lpO n p c lC ags bd .ready none) := by
    rw [ofM_get, lookM, Bool.cond_eq_ite, if_pos (by simp)]
  -- what the iterator finds
  have kT : ∀ x t, ρ1 (keepN T c x) = some t → (x ∈ T ∨ x = c + 1) ∧ ρ1 x = some t := fun x t h => by
    unfold keepN at h
    split at h
    · exact ⟨by assumption, h⟩
    · rw [hnone _ (by omega)] at h; cases h
  have kC : ∀ x t, ρ1 (keepN NC c x) = some t → (x ∈ NC ∨ x = c + 1) ∧ ρ1 x = some t := fun x t h => by
    unfold keepN at h
    split at h
    · exact ⟨by assumption, h⟩
    · rw [hnone _ (by omega)] at h; cases h
  have hHT : Holds 0 (fun x => ρ1 (keepN T c x)) (ofM memT) (c + 2) w1 := by
    refine hH1.ren (keepN T c) (fun x o hx => ?_) (fun x y o o' hx hy hxy => ?_) (fun x hx => ?_) (fun g hg => by omega)
    · obtain ⟨h1, h2, h3⟩ := allM_look hT x o (by rw [← ofM_get]; exact hx)
      rw [h3, show keepN T c x = x from if_pos (.inl h1)]
      exact hget x o (hTo x h1).1 h2
    · have h1 := (allM_look hT x o (by rw [← ofM_get]; exact hx)).1
      have h2 := (allM_look hT y o' (by rw [← ofM_get]; exact hy)).1
      rw [show keepN T c x = x from if_pos (.inl h1), show keepN T c y = y from if_pos (.inl h2)]
      exact .inl hxy
    · unfold keepN
      split
      · exact hx
      · omega
  -- what the rounds find
  have hobjC : ∀ x o, (ofM ((c + 1, some (lpO n p c lC ags bd .ready none)) :: M s0)).get x = some o → (x ∈ NC ∨ x = c + 1) ∧ (ofM ((c + 1, some (lpO n p c lC ags bd .ready none)) :: (c, some .dfr) :: m)).get x = some o ∧ (x ≠ c + 1 → o.ren (keepN NC c) = o) := fun x o hx => by
    rw [ofM_get, lookM, Bool.cond_eq_ite] at hx
    split at hx
    · rename_i e
      have e' : x = c + 1 := by simpa using e
      subst e'
      cases hx
      exact ⟨.inr rfl, hgetl, fun h => absurd rfl h⟩
    · obtain ⟨h1, h2, h3⟩ := allM_look hM x o hx
      refine ⟨.inl h1, ?_, fun _ => h3⟩
      rcases h2 with ⟨rfl, rfl⟩ | ⟨h2, h4⟩
      · exact hgetc
      · exact hget x o h4 h2
  have hHC : Holds 0 (fun x => ρ1 (keepN NC c x)) (ofM ((c + 1, some (lpO n p c lC ags bd .ready none)) :: M s0)) cc w1 := by
    have kk : ∀ x, x ∈ NC ∨ x = c + 1 → keepN NC c x = x := fun x h => if_pos h
    refine ⟨fun x o hx => ?_, fun x y o o' t t' hxy hx hy ht ht' => ?_, fun x hx => ?_, fun x t ht => hH1.lt _ t ht, fun g hg => by omega⟩
    · obtain ⟨h1, h2, h3⟩ := hobjC x o hx
      obtain ⟨t, h4, h5⟩ := hH1.obj x o h2
      refine ⟨t, by show ρ1 (keepN NC c x) = _; rw [kk x h1]; exact h4, ?_⟩
      by_cases e : x = c + 1
      · subst e
        rw [hgetl] at h2
        cases h2
        obtain ⟨f0, t0, d0, g1, g2, ⟨q0, g3, g4⟩⟩ := h5
        refine ⟨f0, t0, d0, g1, ⟨g2.1, fun tt vv hv => ⟨(g2.2 tt vv hv).1, ?_⟩⟩, ⟨q0, by show ρ1 (keepN NC c c) = _; rw [kk c (.inl hNc)]; exact g3, g4⟩⟩
        have := (g2.2 tt vv hv).2
        rw [← (allL_look hl tt vv (by rw [← ofL_get]; exact hv)).2] at this
        exact (VR_ren ρ1 (keepN NC c) vv _).1 this
      · rw [← h3 e] at h5
        exact (ObjR_ren ρ1 (keepN NC c) w1 t o).1 h5
    · obtain ⟨h1, h2, _⟩ := hobjC x o hx
      obtain ⟨h3, h4, _⟩ := hobjC y o' hy
      exact hH1.sep x y o o' t t' hxy h2 h4 (kC x t ht).2 (kC y t' ht').2
    · show ρ1 (keepN NC c x) = none
      have hx' : cc ≤ x := hx
      unfold keepN
      split
      · exact hnone x (by omega)
      · exact hnone _ (by omega)
  have hcb2 : flC ≤ c + 2 := by omega
  have hNo : ∀ y, flC ≤ y → y ∈ NC ∨ y = c + 1 → y ∉ T ∧ ∃ o, (ofM ((c + 1, some (lpO n p c lC ags bd .ready none)) :: (c, some .dfr) :: m)).get y = some o ∧ o.share = none := fun y hfy hy => by
    rcases hy with hy | rfl
    · rcases hN y hy with rfl | ⟨h1, h2, h3, o, h4, h5⟩ | ⟨h1, _⟩
      · exact ⟨fun h => by have := (hTo _ h).1; omega, _, hgetc, rfl⟩
      · exact ⟨h3, o, hget y o h2 h4, h5⟩
      · omega
    · exact ⟨fun h => by have := (hTo _ h).1; omega, _, hgetl, rfl⟩
  have hbes : Beside (rndC 0 (fun x => ρ1 (keepN NC c x)) q.b flC (c + 2) cc (c + 1) c n p lC ags bd M ok stp room hroom hcb2) (fun x => ρ1 (keepN T c x)) (c + 1) flT (fun b => ∃ x t, flC ≤ x ∧ ρ1 (keepN NC c x) = some t ∧ t.b = b) (s0, none) w1 := by
    refine ⟨⟨⟨fun x => ρ1 (keepN NC c x), fun _ _ => rfl, hHC, fun x t hx ht => ⟨x, t, hx, ht, rfl⟩⟩, fun b hb => ?_⟩, fun x t hx ht hf => ?_, fun x t hx ht hf => ?_, ⟨q, by show ρ1 (keepN T c (c + 1)) = _; rw [show keepN T c (c + 1) = c + 1 from if_pos (.inr rfl)]; exact hql, rfl⟩⟩
    · rcases hb with ⟨x, t, _, ht, rfl⟩ | ⟨x, t, _, ht, rfl⟩
      · exact hH1.lt _ t ht
      · exact hH1.lt _ t ht
    · obtain ⟨y, t', hy, ht', hb'⟩ := hf
      obtain ⟨h1, h2⟩ := kT x t ht
      obtain ⟨h3, h4⟩ := kC y t' ht'
      have hxT : x ∈ T := h1.resolve_right hx
      obtain ⟨g2, oy, g3, g4⟩ := hNo y hy h3
      obtain ⟨hxc, ox, hox, _⟩ := hTo x hxT
      have hxy : x ≠ y := fun e => g2 (e ▸ hxT)
      have := (hH1.sep x y ox oy t t' hxy (hget x ox hxc hox) g3 h2 h4 hb'.symm).ro.2
      unfold AObj.isRo at this
      rw [g4] at this
      simp at this
    · obtain ⟨y, t', hy, ht', hb'⟩ := hf
      obtain ⟨h1, h2⟩ := kT x t ht
      obtain ⟨h3, h4⟩ := kC y t' ht'
      have hyN : y ∈ NC := h3.resolve_right (by omega)
      rcases hN y hyN with rfl | ⟨g1, _⟩ | ⟨g1, g2, oy, g3⟩
      · omega
      · omega
      · have hyo := hget y oy (by omega) g3
        have hxo : ∃ ox, (ofM ((c + 1, some (lpO n p c lC ags bd .ready none)) :: (c, some .dfr) :: m)).get x = some ox ∧ ox.share = none := by
          rcases h1 with h1 | rfl
          · obtain ⟨hxc, ox, hox, hs⟩ := hTo x h1
            exact ⟨ox, hget x ox hxc hox, hs hx⟩
          · exact ⟨_, hgetl, rfl⟩
        obtain ⟨ox, hox, hxs⟩ := hxo
        have := (hH1.sep x y ox oy t t' (by omega) hox hyo h2 h4 hb'.symm).ro.1
        unfold AObj.isRo at this
        rw [hxs] at this
        simp at this
  have hY := rnd_yld (cap := room) (hcap := hroom) (P := P) (G := 0) (ρ0 := fun x => ρ1 (keepN NC c x)) (lb := q.b) hcb2 (Nat.zero_le _) (by omega) (by omega) ⟨q, by show ρ1 (keepN NC c (c + 1)) = _; rw [show keepN NC c (c + 1) = c + 1 from if_pos (.inr rfl)]; exact hql, rfl⟩ hpn hrnd hcc
  have hok := hcall _ _ hcb2 hY
  have hres : (resolve a.eval (rangeCall g q.b) 0).run P w1 = .ok { target := .fn (.func gf) cs.toArray, args := fs.toArray ++ #[.func (.yield q.b) #[] #[]] } w1 := by
    have hm : Array.map a.eval #[Operand.const (Value.func (.yield q.b) #[] #[])] = #[Value.func (.yield q.b) #[] #[]] := by simp [Act.eval]
    simp only [resolve, hgv, Deferred.ofValue, hm]
    rfl
  have hargs : VRs ρ1 (first ++ [.yld (c + 1)] ++ cap) (fs ++ [.func (.yield q.b) #[] #[]] ++ cs) :=
    ((hfs.mono he1.le).append (.cons (by simp only [VR]; exact ⟨q, hql, rfl⟩) .nil)).append (hcs.mono he1.le)
  have hargsT := (VRs_ren ρ1 (keepN T c) (first ++ [.yld (c + 1)] ++ cap) _).1 (by rw [ha]; exact hargs)
  refine ⟨q.b, mark, w1, _, w1, gf, (fs ++ [Value.func (.yield q.b) #[] #[]] ++ cs).toArray, w1, hrun, hres, (fun f' _ => FR_fn none f'), ?_, (fun h => by rw [FR_depth] at h; cases h), ?_⟩
  · simp only [invoke]
    rw [show (fs ++ [Value.func (.yield q.b) #[] #[]] ++ cs).toArray = fs.toArray ++ #[.func (.yield q.b) #[] #[]] ++ cs.toArray by simp]
    exact hok.enter _ _
  · refine (hok.run _ w1 _ _ hHT hargsT hbes none (k - 1)).mono fun e2 w2 h2 => ?_
    obtain ⟨u, v, m', ⟨s', j⟩, F', rfl, hR, hvu, hH', hfr, hb', hFF⟩ := h2
    obtain ⟨⟨ρ', r1, r2, r3⟩, r4⟩ := hb'.j
    have hl4 : (ofM ((c + 1, some (lpO n p c lC ags bd (lpS j) j)) :: M s')).get (c + 1) = some (lpO n p c lC ags bd (lpS j) j) := by rw [ofM_get, lookM]; simp
    have hq' : ρ' (c + 1) = some q := by
      rw [r1 (c + 1) (by omega)]
      show ρ1 (keepN NC c (c + 1)) = _
      rw [show keepN NC c (c + 1) = c + 1 from if_pos (.inr rfl)]; exact hql
    obtain ⟨q3, hq3, fn3, tmps3, d3, hh3, henv3, hdn3⟩ := r2.obj (c + 1) _ hl4
    rw [hq'] at hq3
    cases hq3
    have hne : lpS j ≠ .busy := by cases j <;> simp [lpS]
    obtain ⟨g1, g2⟩ := put_write (fl := flC) (ob := .loop { state := .exhausted, pending := j, fn := fn3, tmps := tmps3, params := [p].toArray, assign := ags, body := bd, defers := d3 })
      (o' := lpO n p c lC ags bd .exhausted j) r2 hl4 rfl hq' (by omega) ⟨fn3, tmps3, d3, World.putObj_heap_same (obj_lt hh3), henv3, hdn3⟩
    refine ⟨j, _, run_endLoop hh3 hne, ?_⟩
    -- all names again
    have hT1 : ∀ x t, ρ1 (keepN T c x) = some t → x < c + 2 ∧ ρ1 x = some t := fun x t h => by
      obtain ⟨h1, h2⟩ := kT x t h
      refine ⟨?_, h2⟩
      rcases h1 with h1 | rfl
      · have := (hTo x h1).1; omega
      · omega
    have hC1 : ∀ x t, x < c + 2 → ρ' x = some t → ρ1 x = some t := fun x t hx h => by
      rw [r1 x hx] at h
      exact (kC x t h).2
    have hgen : ∀ x t, fl ≤ x → ρ1 x = some t → w.heap.size ≤ t.b ∨ ∃ y t', fl ≤ y ∧ ρ y = some t' ∧ t'.b = t.b := fun x t hx ht => by
      cases h : ρ x with
      | some t0 =>
        have := he1.le x t0 h
        rw [ht] at this
        cases this
        exact .inr ⟨x, t, hx, h, rfl⟩
      | none => exact he1.new x t h ht
    have hsz : ∀ (o : Obj), (w2.putObj q.b o).heap.size = w2.heap.size := fun o => by simp
    have hg : ∀ x o, x ≠ c + 1 → lookM (M s') x = some o → ((ofM ((c + 1, some (lpO n p c lC ags bd (lpS j) j)) :: M s')).set (c + 1) (lpO n p c lC ags bd .exhausted j)).get x = some o := fun x o hx ho => by
      rw [Go.Ev.T.get_set, if_neg hx, ofM_get, lookM, Bool.cond_eq_ite, if_neg (by simpa using hx)]
      exact ho
    have hnew : Holds 0 (fun x => if x < c + 2 then ρ1 x else ρ' x) (ofM (m' ++ upM flC (M s'))) cc (w2.putObj q.b (.loop { state := .exhausted, pending := j, fn := fn3, tmps := tmps3, params := [p].toArray, assign := ags, body := bd, defers := d3 })) := by
      have leT : RLe (fun x => ρ1 (keepN T c x)) (fun x => if x < c + 2 then ρ1 x else ρ' x) := fun x t h => by
        obtain ⟨h1, h2⟩ := hT1 x t h
        show (if x < c + 2 then ρ1 x else ρ' x) = _
        rw [if_pos h1]; exact h2
      have leC : RLe ρ' (fun x => if x < c + 2 then ρ1 x else ρ' x) := fun x t h => by
        show (if x < c + 2 then ρ1 x else ρ' x) = _
        split
        · exact hC1 x t (by assumption) h
        · exact h
      have hT2 : ∀ x o, lookM m' x = some o → ∃ t, ρ1 (keepN T c x) = some t ∧ ObjR (fun x => ρ1 (keepN T c x)) w2 t o ∧ x ≠ c + 1 ∧ ¬ F' t.b := fun x o ho => by
        obtain ⟨t, h1, h2⟩ := hH'.obj x o (by rw [ofM_get]; exact ho)
        have hx : x ≠ c + 1 := fun e => by rw [e, hRl v m' _ hR] at ho; cases ho
        exact ⟨t, h1, h2, hx, hb'.d x t hx h1⟩
      have hC2 : ∀ x o, lookM (upM flC (M s')) x = some o → ∃ t, ρ' x = some t ∧ ObjR ρ' (w2.putObj q.b (.loop { state := .exhausted, pending := j, fn := fn3, tmps := tmps3, params := [p].toArray, assign := ags, body := bd, defers := d3 })) t o ∧ x ≠ c + 1 ∧ F' t.b := fun x o ho => by
        obtain ⟨h3, ho⟩ := upM_look ho
        have h4 := hMg s' x o ho
        obtain ⟨t, h1, h2⟩ := g1.obj x o (hg x o h4 ho)
        exact ⟨t, h1, h2, h4, r3 x t h3 h1⟩
      refine ⟨fun x o hx => ?_, fun x y o o' t t' hxy hx hy ht ht' hb => ?_, fun x hx => ?_, fun x t ht => ?_, fun g hg => by omega⟩
      · rw [ofM_get] at hx
        rcases lookM_append hx with hx | hx
        · obtain ⟨t, h1, h2, h3, h4⟩ := hT2 x o hx
          have : t.b ≠ q.b := fun e => h4 (e ▸ r3 (c + 1) q (by omega) hq')
          exact ⟨t, leT x t h1, (h2.mono leT).world (World.putObj_heap_other this)⟩
        · obtain ⟨t, h1, h2, _⟩ := hC2 x o hx
          exact ⟨t, leC x t h1, h2.mono leC⟩
      · rw [ofM_get] at hx hy
        rcases lookM_append hx with hx | hx <;> rcases lookM_append hy with hy | hy
        · obtain ⟨t1, h1, _⟩ := hT2 x o hx
          obtain ⟨t2, h2, _⟩ := hT2 y o' hy
          obtain rfl : t = t1 := Option.some.inj (ht.symm.trans (leT x t1 h1))
          obtain rfl : t' = t2 := Option.some.inj (ht'.symm.trans (leT y t2 h2))
          exact hH'.sep x y o o' t t' hxy (by rw [ofM_get]; exact hx) (by rw [ofM_get]; exact hy) h1 h2 hb
        · obtain ⟨t1, h1, _, _, h3⟩ := hT2 x o hx
          obtain ⟨t2, h2, _, _, h4⟩ := hC2 y o' hy
          obtain rfl : t = t1 := Option.some.inj (ht.symm.trans (leT x t1 h1))
          obtain rfl : t' = t2 := Option.some.inj (ht'.symm.trans (leC y t2 h2))
          exact absurd (hb ▸ h4) h3
        · obtain ⟨t1, h1, _, _, h3⟩ := hC2 x o hx
          obtain ⟨t2, h2, _, _, h4⟩ := hT2 y o' hy
          obtain rfl : t = t1 := Option.some.inj (ht.symm.trans (leC x t1 h1))
          obtain rfl : t' = t2 := Option.some.inj (ht'.symm.trans (leT y t2 h2))
          exact absurd (hb ▸ h3) h4
        · obtain ⟨t1, h1, _, n1, _⟩ := hC2 x o hx
          obtain ⟨t2, h2, _, n2, _⟩ := hC2 y o' hy
          obtain rfl : t = t1 := Option.some.inj (ht.symm.trans (leC x t1 h1))
          obtain rfl : t' = t2 := Option.some.inj (ht'.symm.trans (leC y t2 h2))
          exact g1.sep x y o o' t t' hxy (hg x o n1 (upM_look hx).2) (hg y o' n2 (upM_look hy).2) h1 h2 hb
      · have hx' : cc ≤ x := hx
        show (if x < c + 2 then ρ1 x else ρ' x) = none
        rw [if_neg (by omega)]
        exact r2.fresh x hx
      · replace ht : (if x < c + 2 then ρ1 x else ρ' x) = some t := ht
        split at ht
        · exact Nat.lt_of_lt_of_le (hH1.lt x t ht) (by rw [hsz]; exact hfr.size)
        · exact g1.lt x t ht
    have hE : ExtB ρ (fun x => if x < c + 2 then ρ1 x else ρ' x) fl cb w := by
      have hc' : cb ≤ c := by omega
      refine ⟨fun x hx => ?_, fun x t hx ht => ?_⟩
      · show (if x < c + 2 then ρ1 x else ρ' x) = _
        rw [if_pos (by omega)]
        exact hlow x (by omega)
      · replace ht : (if x < c + 2 then ρ1 x else ρ' x) = some t := ht
        split at ht
        · exact hgen x t hx ht
        · rcases hFF t.b (r3 x t (by omega) ht) with ⟨y, t', hy, ht', hb⟩ | h
          · rw [← hb]; exact hgen y t' (by omega) (kC y t' ht').2
          · exact .inl (Nat.le_trans hf1.size h)
    have hF : Fr ρ fl w (w2.putObj q.b (.loop { state := .exhausted, pending := j, fn := fn3, tmps := tmps3, params := [p].toArray, assign := ags, body := bd, defers := d3 })) := by
      refine ⟨hfr.os.trans hf1.os, hfr.tape.trans hf1.tape, hfr.output.trans hf1.output, by rw [hsz]; exact Nat.le_trans hf1.size hfr.size, fun b hb hn => ?_⟩
      have hno : ∀ x t, fl ≤ x → ρ1 x = some t → t.b ≠ b := fun x t hx ht e => by
        rcases hgen x t hx ht with h | ⟨y, t', hy, ht', hbb⟩
        · omega
        · exact hn y t' hy ht' (hbb.trans e)
      rw [World.putObj_heap_other (show b ≠ q.b by omega), hfr.keep b (Nat.lt_of_lt_of_le hb hf1.size) (fun x t hx ht => hno x t (by omega) (kT x t ht).2) fun ⟨y, t', hy, ht', hbb⟩ => hno y t' (by omega) (kC y t' ht').2 hbb]
      exact hf1.keep b hb hn
    have le1 : RLe ρ1 (fun x => if x < c + 2 then ρ1 x else ρ' x) := fun x t h => by
      show (if x < c + 2 then ρ1 x else ρ' x) = _
      have : x < c + 2 := by
        rcases Nat.lt_or_ge x (c + 2) with h1 | h1
        · exact h1
        · rw [hnone x h1] at h; cases h
      rw [if_pos this]; exact h
    have hsr : SR 0 (fun x => if x < c + 2 then ρ1 x else ρ' x) (stL n [c] l (m' ++ upM flC (M s')) cc) { a with defers := mark ++ a.defers } (w2.putObj q.b (.loop { state := .exhausted, pending := j, fn := fn3, tmps := tmps3, params := [p].toArray, assign := ags, body := bd, defers := d3 })) :=
      ⟨(hs.env.mono he1.le).mono le1, hnew, hd1.mono le1⟩
    have hcc' : cb ≤ (stL n [c] l (m' ++ upM flC (M s')) cc).c := by show cb ≤ cc; omega
    have hq2 := hQ v m' s' j hR
    cases j with
    | none => exact ⟨.normal, _, _, rfl, hq2, hsr, hcc', hE, hF⟩
    | some jc => exact wpIn_mono (Tr.run hq2 _ _ _ none k hsr hcc' hr trivial) fun _ _ _ hp => hp.trans hE hF
end
end Go.Ev
/- Lists of numbers: append, cut to their length. -/
namespace Go.Ev
open Go
section
variable {P : Program} {fl c : Nat} {m : List (Nat × Option AObj)} {y y' z : Ty} {t t' : Nat} {x1 x2 : Operand}
theorem keptI [Tab P] {e : Nat} (h : ty P e = some z) (hk : z.kind = 0) : keptA P e = false := by
  have h1 := ty_kind h
  unfold kindOk at h1
  rw [hk] at h1
  unfold keptA
  split
  · rename_i h2
    replace h1 : okInt P e = true := h1
    unfold okInt at h1
    rw [h2] at h1
    simp at h1
  · rfl
theorem S.append_nilI [Tab P] {ats : Array Nat} {x : Nat} {news : List AV} (hat : ats.toList = [t, t']) (ht : ty P t = some y) (hk : y.kind = 5) (ht' : ty P t' = some y') (hk' : y'.kind = 5) (hz : ty P y.elem = some z) (hzk : z.kind = 0) (hzz : (Nat.beq z.zero.cells.length z.size && Nat.ble 1 z.size) = true)
    (hb : Nat.ble z.bytes 10000 = true) (ho : lookM m x = some (.cells news)) (hc : cut news 0 (1 * z.size) = some news) : OpE P fl (.call ⟨.builtin .append, #[x1, x2], ats⟩) [.nils, .sl x 0 1 1] m c (.gs c 1) ((c, some (.grown news z.size)) :: m) (c + 1) := by
  obtain ⟨i, h1, h2, h3⟩ := info_sz hz
  have hb' : z.bytes ≤ 10000 := Nat.le_of_ble_eq_true hb
  have hbb : (Nat.ble ((2 * (0 + 1) + 1000) * i.bytes) (2 ^ 48) && Nat.ble (0 + 1) (2 ^ 62)) = true := by
    rw [h2]
    simp only [Bool.and_eq_true, Nat.ble_eq]
    omega
  refine ⟨rfl, Nat.le_succ _, ?_⟩
  show opA P (ofM m) c fl _ _ = _
  simp only [opA, oCall, builtinA, hat, appendA, ty_slice ht hk, ty_slice ht' hk', h1, rowT hz hzz, sliceCells, getCells, ofM_get, ho, cellsOf, Option.bind_some, h3, hc, Option.map_some, show Nat.beq 1 0 = false from rfl, cond_false, hbb, cond_true, keptI hz hzk, growA]
  rfl
theorem S.append_gsI [Tab P] {ats : Array Nat} {x a n : Nat} {olds news : List AV} (hat : ats.toList = [t, t']) (ht : ty P t = some y) (hk : y.kind = 5) (ht' : ty P t' = some y') (hk' : y'.kind = 5) (hz : ty P y.elem = some z) (hzk : z.kind = 0) (hzz : (Nat.beq z.zero.cells.length z.size && Nat.ble 1 z.size) = true)
    (hb : Nat.ble z.bytes 10000 = true) (ho : lookM m x = some (.cells news)) (hc : cut news 0 (1 * z.size) = some news) (ha : lookM m a = some (.grown olds z.size)) (hf : Nat.ble fl a = true) (hca : cut olds 0 (n * z.size) = some olds) (hn : n ≤ 1000000) (hone : news.all AV.one = true) :
    OpE P fl (.call ⟨.builtin .append, #[x1, x2], ats⟩) [.gs a n, .sl x 0 1 1] m c (.gs c (n + 1)) ((c, some (.grown (olds ++ news) z.size)) :: (a, none) :: m) (c + 1) := by
  obtain ⟨i, h1, h2, h3⟩ := info_sz hz
  have hb' : z.bytes ≤ 10000 := Nat.le_of_ble_eq_true hb
  have hbb : (Nat.ble ((2 * (n + 1) + 1000) * i.bytes) (2 ^ 48) && Nat.ble (n + 1) (2 ^ 62)) = true := by
    rw [h2]
    simp only [Bool.and_eq_true, Nat.ble_eq]
    refine ⟨?_, by omega⟩
    calc (2 * (n + 1) + 1000) * z.bytes ≤ 3000000 * 10000 := Nat.mul_le_mul (by omega) hb'
      _ ≤ 2 ^ 48 := by decide
  refine ⟨rfl, Nat.le_succ _, ?_⟩
  show opA P (ofM m) c fl _ _ = _
  simp only [opA, oCall, builtinA, hat, appendA, ty_slice ht hk, ty_slice ht' hk', h1, rowT hz hzz, sliceCells, getCells, ofM_get, ho, ha, cellsOf, Option.bind_some, h3, hc, hca, Option.map_some, show Nat.beq 1 0 = false from rfl, cond_false, hbb, cond_true, hf, hone, Nat.beq_refl, Bool.and_self]
  rfl
theorem S.cut_gs [Tab P] {x n : Nat} {x3 x4 : Operand} (hy : ty P t = some y) (hk : y.kind = 5) (hz : ty P y.elem = some z) : OpE P fl (.slice t x1 none (some x3) (some x4)) [.gs x n, .int .i64 (n : Int), .int .i64 (n : Int)] m c (.sl x 0 n n) m c := by
  refine ⟨rfl, Nat.le_refl _, ?_⟩
  have hb : boundsA n none none (some (.int .i64 (n : Int))) (some (.int .i64 (n : Int))) = some (0, n, some n) := by
    have h : Nat.ble n n = true := by simp
    unfold boundsA
    simp [natOf_nat, h]
  simp only [opA, oSlice, takeOpt, sliceA, ty_slice hy hk, ty_size hz, hb, opt1, Nat.sub_zero, Option.map_some, Nat.zero_mul, Bool.cond_self]
theorem S.cut_nils [Tab P] {x3 x4 : Operand} (hy : ty P t = some y) (hk : y.kind = 5) (hz : ty P y.elem = some z) : OpE P fl (.slice t x1 none (some x3) (some x4)) [.nils, .int .i64 0, .int .i64 0] m c .nils m c := by
  refine ⟨rfl, Nat.le_refl _, ?_⟩
  have hb : boundsA 0 (some 0) none (some (.int .i64 0)) (some (.int .i64 0)) = some (0, 0, some 0) := rfl
  simp only [opA, oSlice, takeOpt, sliceA, ty_slice hy hk, ty_size hz, hb, opt1]
  rfl
end
end Go.Ev
/- Package claim: the numbers of a set. -/
namespace Go.Proofs.Ytlnmcadbmpiopaa
open Go Go.Ev
noncomputable def numsL (s : Int) : Nat → List Nat
  | 0 => []
  | k + 1 => bif dB (hasP s k) then numsL s k ++ [k] else numsL s k
theorem numsL_len (s : Int) : ∀ k, (numsL s k).length ≤ k
  | 0 => Nat.le_refl _
  | k + 1 => by
    have := numsL_len s k
    rw [numsL]
    cases dB (hasP s k)
    · exact Nat.le_succ_of_le this
    · rw [cond_true, List.length_append]; exact Nat.succ_le_succ this
def natV (l : List Nat) : List AV := (l.map fun k : Nat => (k : Int)).map (AV.int .i64)
theorem natV_len (l : List Nat) : (natV l).length = l.length := by simp [natV]
theorem natV_ren (σ : Nat → Nat) (l : List Nat) (n : Nat) : (AObj.grown (natV l) n).ren σ = .grown (natV l) n := by
  show AObj.grown (AV.rens σ (natV l)) n = _
  unfold natV
  rw [rens_ints]
def grV (x : Nat) (l : List Nat) : AV := match l with | [] => .nils | _ :: _ => .gs x l.length
def grM (x : Nat) (l : List Nat) : List (Nat × Option AObj) := match l with | [] => [] | _ :: _ => [(x, some (.grown (natV l) 1))]
def fuV (x : Nat) (l : List Nat) : AV := match l with | [] => .nils | _ :: _ => .sl x 0 l.length l.length
theorem gr_wk {B : CBook} {a1 a2 : AV} (h1 : IsSl a1 B.ns 0) (h2 : IsSl a2 B.nc 1) {n c : Nat} {l : List (Nat × AV)} {m : List (Nat × Option AObj)} {s : Int} {k x : Nat} {L : List Nat} (hc : 4 ≤ c) (hx : x = 4 ∨ 5 ≤ x)
    (t0 : Go.Ev.look l 0 = some (AV.ptr 2 0)) (t1 : Go.Ev.look l 1 = some (AV.int .i64 s)) (t5 : Go.Ev.look l 5 = some (grV x L)) (t12 : Go.Ev.look l 12 = some (AV.int .i64 B.nc)) (t13 : Go.Ev.look l 13 = some (AV.int .i64 k))
    (g : L ≠ [] → lookM m x = some (.grown (natV L) 1)) (m0 : lookM m 0 = some (oSt B)) (m1 : lookM m 1 = some (oCk B)) (m2 : lookM m 2 = some (.cells (pbC B a1 a2 3))) : 
    Wk 0 4 4 (stL n [] l m c) (stL n [] [(0, .ptr 2 0), (1, .int .i64 s), (5, grV 4 L), (12, .int .i64 B.nc), (13, .int .i64 k)] (grM 4 L ++ [(0, some (oSt B)), (1, some (oCk B)), (2, some (.cells (pbC B a1 a2 3)))]) 5) := by
  let σ : Nat → Nat := fun y => if y < 4 then y else if y = 4 then x else c + y
  have s4 : σ 4 = x := rfl
  have p2 : (AObj.cells (pbC B a1 a2 3)).ren σ = .cells (pbC B a1 a2 3) := pbc_ren h1 h2 rfl rfl rfl
  have base : allM (fun x o => lookM m (σ x) = some (o.ren σ)) [(0, some (oSt B)), (1, some (oCk B)), (2, some (.cells (pbC B a1 a2 3)))] := ⟨m0.trans (congrArg some (ren_ro _ σ _).symm), m1.trans (congrArg some (ren_ro _ σ _).symm), m2.trans (congrArg some p2.symm), trivial⟩
  refine Wk.by σ (by omega) (by decide) (by decide) ⟨t0, t1, ?_, t12, t13, trivial⟩ ?_ rfl (fun u hu v hv huv e => ?_) (fun u hu => ?_) (fun u hu => ?_) (fun u hu => ?_)
  · refine t5.trans ?_
    cases L with
    | nil => rfl
    | cons a r => rfl
  · cases L with
    | nil => exact base
    | cons a r => exact ⟨(g (by simp)).trans (congrArg some (natV_ren σ _ _).symm), base⟩
  · have low : ∀ u, u ∈ (grM 4 L ++ [(0, some (oSt B)), (1, some (oCk B)), (2, some (.cells (pbC B a1 a2 3)))] : List (Nat × Option AObj)).map (fun e => e.1) → u = 4 ∨ u = 0 ∨ u = 1 ∨ u = 2 := fun u hu => by
      cases L <;> simp [grM] at hu <;> omega
    have q1 := low u hu
    have q2 := low v hv
    simp only [σ] at e
    (repeat' split at e) <;> omega
  all_goals (simp only [σ]; (repeat' split) <;> omega)
set_option maxRecDepth 100000 in
set_option maxHeartbeats 4000000 in
theorem numbers_can (B : CBook) (a1 a2 : AV) (h1 : IsSl a1 B.ns 0) (h2 : IsSl a2 B.nc 1) (hnc : B.nc ≤ 4) (s : Int) : CanS 0 Try.prog 105 4 [.ptr 2 0, .int .i64 s] [(0, some (oSt B)), (1, some (oCk B)), (2, some (.cells (pbC B a1 a2 3)))] 4 fun v H1 c1 => v = fuV 4 (numsL s B.nc) ∧ c1 = 5 ∧ (numsL s B.nc ≠ [] → H1.get 4 = some (.grown (natV (numsL s B.nc)) 1)) := by
  refine CanS.mk Try.func105 rfl rfl rfl ?_
  repeat' (first | refine RT.nil ?_ | refine sq_n ?_ | refine Tr.seq ?_ | refine Tr.region ?_ | refine Tr.block ?_ | (refine RT.goK rfl rfl rfl rfl ?_; apply Nx.of; (first | exact S.move | exact S.assign | exact S.load1c rfl rfl rfl rfl | exact S.fieldAddr rfl rfl rfl | exact S.nilCheck)) | (refine RT.goK rfl rfl rfl rfl ?_; apply Nx.of; (first | exact S.len_sl rfl rfl rfl (by assumption))))
  refine Tr.loop (fun k : Nat => stL Try.f105.ntmps [] [(0, .ptr 2 0), (1, .int .i64 s), (5, grV 4 (numsL s k)), (12, .int .i64 B.nc), (13, .int .i64 k)] (grM 4 (numsL s k) ++ [(0, some (oSt B)), (1, some (oCk B)), (2, some (.cells (pbC B a1 a2 3)))]) 5) (fun k => k ≤ B.nc) (fun k => B.nc - k) 0 (Nat.zero_le _) ?_ (fun k hk => ?_)
  · exact gr_wk h1 h2 (L := []) (x := 4) (by decide) (.inl rfl) rfl rfl rfl rfl rfl (fun h => absurd rfl h) rfl rfl rfl
  have hlen := numsL_len s k
  by_cases hlt : k < B.nc
  · have hlt' : (k : Int) < B.nc := by omega
    by_cases hp : hasP s k
    · have hv : AV.bool (dB (hasP s k)) = .bool true := by rw [dB_tt hp]
      have e1 : numsL s (k + 1) = numsL s k ++ [k] := by rw [numsL, dB_tt hp]; rfl
      cases hl : numsL s k with
      | nil =>
        repeat' (first | refine RT.nil ?_ | refine sq_n ?_ | refine Tr.seq ?_ | refine Tr.region ?_ | refine Tr.cond_t rfl ?_ | refine Tr.skip ?_ | refine Tr.block ?_ | refine blk_n ?_ | (refine RT.goK rfl rfl rfl rfl ?_; refine Nx.of (S.lss_t hlt') ?_) | (refine RT.call rfl rfl rfl (val_is hv (has_at s k (by omega) _ _ _)) rfl rfl (Nat.le_refl _) ?_) | (refine RT.goK rfl rfl rfl rfl ?_; apply Nx.of; (first | exact S.append_nilI rfl rfl rfl rfl rfl rfl rfl rfl rfl rfl rfl)) | (refine RT.goK rfl rfl rfl rfl ?_; apply Nx.of; (first | exact S.move | exact S.assign | exact S.add_one (by omega) | exact S.buildSlice rfl rfl rfl rfl rfl rfl rfl)))
        refine lp_n (k + 1) hlt (by omega) ?_
        rw [e1, hl]
        exact gr_wk h1 h2 (x := 6) (by decide) (.inr (by decide)) rfl rfl rfl rfl rfl (fun _ => rfl) rfl rfl rfl
      | cons a r =>
        have hcut : cut (natV (a :: r)) 0 ((a :: r).length * 1) = some (natV (a :: r)) := cut_all (by rw [natV_len, Nat.mul_one])
        rw [hl] at hlen
        repeat' (first | refine RT.nil ?_ | refine sq_n ?_ | refine Tr.seq ?_ | refine Tr.region ?_ | refine Tr.cond_t rfl ?_ | refine Tr.skip ?_ | refine Tr.block ?_ | refine blk_n ?_ | (refine RT.goK rfl rfl rfl rfl ?_; refine Nx.of (S.lss_t hlt') ?_) | (refine RT.call rfl rfl rfl (val_is hv (has_at s k (by omega) _ _ _)) rfl rfl (Nat.le_refl _) ?_) | (refine RT.goK rfl rfl rfl rfl ?_; apply Nx.of; (first | exact S.append_gsI rfl rfl rfl rfl rfl rfl rfl rfl rfl rfl rfl rfl rfl hcut (by omega) rfl)) | (refine RT.goK rfl rfl rfl rfl ?_; apply Nx.of; (first | exact S.move | exact S.assign | exact S.add_one (by omega) | exact S.buildSlice rfl rfl rfl rfl rfl rfl rfl)))
        refine lp_n (k + 1) hlt (by omega) ?_
        rw [e1, hl]
        refine gr_wk h1 h2 (x := 6) (by decide) (.inr (by decide)) rfl rfl ?_ rfl rfl (fun _ => ?_) rfl rfl rfl
        · show _ = some (AV.gs 6 ((r ++ [k]).length + 1))
          rw [List.length_append]; rfl
        · show _ = some (AObj.grown (natV ((a :: r) ++ [k])) 1)
          unfold natV
          rw [List.map_append, List.map_append]; rfl
    · have hv : AV.bool (dB (hasP s k)) = .bool false := by rw [dB_ff hp]
      have e1 : numsL s (k + 1) = numsL s k := by rw [numsL, dB_ff hp]; rfl
      cases hl : numsL s k with
      | nil =>
        repeat' (first | refine RT.nil ?_ | refine sq_n ?_ | refine Tr.seq ?_ | refine Tr.region ?_ | refine Tr.cond_t rfl ?_ | refine Tr.cond_f rfl ?_ | refine Tr.skip ?_ | refine Tr.block ?_ | refine blk_n ?_ | (refine RT.goK rfl rfl rfl rfl ?_; refine Nx.of (S.lss_t hlt') ?_) | (refine RT.call rfl rfl rfl (val_is hv (has_at s k (by omega) _ _ _)) rfl rfl (Nat.le_refl _) ?_) | (refine RT.goK rfl rfl rfl rfl ?_; apply Nx.of; (first | exact S.move | exact S.assign | exact S.add_one (by omega))))
        refine lp_n (k + 1) hlt (by omega) ?_
        rw [e1, hl]
        exact gr_wk h1 h2 (x := 4) (by decide) (.inl rfl) rfl rfl rfl rfl rfl (fun h => absurd rfl h) rfl rfl rfl
      | cons a r =>
        repeat' (first | refine RT.nil ?_ | refine sq_n ?_ | refine Tr.seq ?_ | refine Tr.region ?_ | refine Tr.cond_t rfl ?_ | refine Tr.cond_f rfl ?_ | refine Tr.skip ?_ | refine Tr.block ?_ | refine blk_n ?_ | (refine RT.goK rfl rfl rfl rfl ?_; refine Nx.of (S.lss_t hlt') ?_) | (refine RT.call rfl rfl rfl (val_is hv (has_at s k (by omega) _ _ _)) rfl rfl (Nat.le_refl _) ?_) | (refine RT.goK rfl rfl rfl rfl ?_; apply Nx.of; (first | exact S.move | exact S.assign | exact S.add_one (by omega))))
        refine lp_n (k + 1) hlt (by omega) ?_
        rw [e1, hl]
        exact gr_wk h1 h2 (x := 4) (by decide) (.inl rfl) rfl rfl rfl rfl rfl (fun _ => rfl) rfl rfl rfl
  · obtain rfl : k = B.nc := by omega
    have hlt' : ¬ (B.nc : Int) < B.nc := by omega
    cases hl : numsL s B.nc with
    | nil =>
      have hs := IsSl.nils 4
      repeat' (first | refine RT.nil ?_ | refine sq_n ?_ | refine Tr.seq ?_ | refine Tr.region ?_ | refine Tr.cond_f rfl ?_ | refine Tr.ret ?_ | refine Tr.exit ?_ | refine sq_x ?_ | refine blk_hit rfl ?_ | refine lp_x ?_ | (refine RT.goK rfl rfl rfl rfl ?_; first | refine Nx.of (S.lss_f hlt') ?_ | refine Nx.of (S.cut_nils rfl rfl rfl) ?_) | (refine RT.goK rfl rfl rfl rfl ?_; apply Nx.of; (first | exact S.move | exact S.assign)) | (refine RT.goK rfl rfl rfl rfl ?_; apply Nx.of; (first | exact S.len_sl rfl rfl rfl (by assumption))))
      (first | refine rt_go rfl ?_)
      exact ⟨rfl, rfl, fun h => absurd rfl h⟩
    | cons a r =>
      have hs := IsSl.gs 4 (r.length + 1)
      repeat' (first | refine RT.nil ?_ | refine sq_n ?_ | refine Tr.seq ?_ | refine Tr.region ?_ | refine Tr.cond_f rfl ?_ | refine Tr.ret ?_ | refine Tr.exit ?_ | refine sq_x ?_ | refine blk_hit rfl ?_ | refine lp_x ?_ | (refine RT.goK rfl rfl rfl rfl ?_; first | refine Nx.of (S.lss_f hlt') ?_ | refine Nx.of (S.cut_gs rfl rfl rfl) ?_) | (refine RT.goK rfl rfl rfl rfl ?_; apply Nx.of; (first | exact S.move | exact S.assign)) | (refine RT.goK rfl rfl rfl rfl ?_; apply Nx.of; (first | exact S.len_sl rfl rfl rfl (by assumption))))
      (first | refine rt_go rfl ?_)
      exact ⟨rfl, rfl, fun _ => getM rfl⟩
end Go.Proofs.Ytlnmcadbmpiopaa
/- Lists of numbers compared: by length, then in order. -/
namespace Go.Proofs.Ytlnmcadbmpiopaa
open Go Go.Ev
def cmpI (a b : Int) : Int := if a < b then -1 else if b < a then 1 else 0
set_option maxRecDepth 100000 in
theorem isNaN_can (a : Int) : CanS 0 Try.prog 126 0 [.int .i64 a] [] 0 fun v _ _ => v = .bool false := by
  refine CanS.mk Try.func126 rfl rfl rfl ?_
  repeat' (first | refine RT.nil ?_ | refine sq_n ?_ | refine Tr.seq ?_ | refine Tr.region ?_ | refine Tr.ret ?_ | (refine RT.goK rfl rfl rfl rfl ?_; refine Nx.of (S.neq_f rfl) ?_) | (refine RT.goK rfl rfl rfl rfl ?_; apply Nx.of; (first | exact S.move | exact S.assign)))
  (first | refine rt_go rfl ?_)
  rfl
theorem isNaN_at (a : Int) (H : T AObj) (c fl : Nat) : OkAt 0 Try.prog fl 126 [.int .i64 a] H c (.bool false) H c := (isNaN_can a).pure (.bool _) (.plain fun _ => rfl) fl
set_option maxRecDepth 100000 in
theorem Compare_can (a b : Int) : CanS 0 Try.prog 121 0 [.int .i64 a, .int .i64 b] [] 0 fun v _ _ => v = .int .i64 (cmpI a b) := by
  refine CanS.mk Try.func121 rfl rfl rfl ?_
  repeat' (first | refine RT.nil ?_ | refine sq_n ?_ | refine Tr.seq ?_ | refine Tr.region ?_ | refine Tr.cond_f rfl ?_ | refine Tr.cond_d rfl (fun _ => ?_) (fun _ => ?_) | refine Tr.skip ?_ | refine Tr.ret ?_ | refine sq_r ?_ | (refine RT.call rfl rfl rfl (isNaN_at _ _ _ _) rfl rfl (Nat.le_refl _) ?_) | (refine RT.goK rfl rfl rfl rfl ?_; apply Nx.of; (first | exact S.move | exact S.assign | exact S.lss | exact S.gtr)))
  all_goals (first | refine rt_go rfl ?_)
  all_goals
    refine congrArg (AV.int .i64) ?_
    unfold cmpI
    first | (rw [if_pos (by assumption)]) | (rw [if_neg (by assumption), if_pos (by assumption)]) | (rw [if_neg (by assumption), if_neg (by assumption)])
theorem Compare_at (a b : Int) (H : T AObj) (c fl : Nat) : OkAt 0 Try.prog fl 121 [.int .i64 a, .int .i64 b] H c (.int .i64 (cmpI a b)) H c := (Compare_can a b).pure (.int _ _) (.plain fun _ => rfl) fl
set_option maxRecDepth 100000 in
theorem Or_can (a b : Int) : CanS 0 Try.prog 120 1 [.gs 0 2] [(0, some (.ro [.int .i64 a, .int .i64 b]))] 1 fun v _ _ => v = .int .i64 (if a = 0 then b else a) := by
  refine CanS.mk Try.func120 rfl rfl rfl ?_
  repeat' (first | refine RT.nil ?_ | refine sq_n ?_ | refine Tr.seq ?_ | refine Tr.region ?_ | refine Tr.block ?_ | (refine RT.goK rfl rfl rfl rfl ?_; apply Nx.of; (first | exact S.len_sl rfl rfl rfl (IsSl.gs 0 2))) | (refine RT.goK rfl rfl rfl rfl ?_; apply Nx.of; (first | exact S.move | exact S.assign)))
  refine Tr.unroll 3 ?_
  repeat' (first | refine RT.nil ?_ | refine sq_n ?_ | refine Tr.seq ?_ | refine Tr.region ?_ | refine Tr.cond_t rfl ?_ | refine Tr.cond_f rfl ?_ | refine Tr.cond_d rfl (fun _ => ?_) (fun _ => ?_) | refine Tr.skip ?_ | refine Tr.ret ?_ | refine sq_r ?_ | refine Tr.exit ?_ | refine sq_x ?_ | refine Tr.block ?_ | refine blk_n ?_ | refine blk_r ?_ | refine blk_hit rfl ?_ | refine un_n ?_ | refine un_r ?_ | refine un_x ?_ | (refine RT.goK rfl rfl rfl rfl ?_; apply Nx.of; (first | exact S.idx_slI rfl rfl rfl (IsSl.gs 0 2) (by decide) (by decide) | exact S.load1r rfl rfl rfl rfl)) | (refine RT.goK rfl rfl rfl rfl ?_; apply Nx.of; (first | exact S.lss_t (by decide) | exact S.lss_f (by decide))) | (refine RT.goK rfl rfl rfl rfl ?_; apply Nx.of; (first | exact S.move | exact S.assign | exact S.neq | exact S.add (by unfold In64; omega))))
  all_goals (first | refine rt_go rfl ?_)
  all_goals
    refine congrArg (AV.int .i64) ?_
    split <;> simp_all
theorem Or_at {H : T AObj} {x : Nat} {a b : Int} (hx : H.get x = some (.cells [.int .i64 a, .int .i64 b])) (c fl : Nat) : OkAt 0 Try.prog fl 120 [.sl x 0 2 2] H c (.int .i64 (if a = 0 then b else a)) H c :=
  (Or_can a b).pure (.int _ _) (Entry.win (W := [(x, 0, some 2)]) (CS := [[.int .i64 a, .int .i64 b]]) rfl ⟨⟨_, hx, .inr ⟨_, rfl, rfl⟩⟩, fun _ => rfl, trivial⟩ (show ArgsW [(x, 0, some 2)] [.sl x 0 2 2] [.gs 0 2] from ⟨ArgW.sl rfl (Nat.le_refl _), trivial⟩)) fl
def lexC : List Nat → List Nat → Int
  | [], [] => 0
  | [], _ :: _ => -1
  | _ :: _, [] => 1
  | a :: r, b :: q => if cmpI a b = 0 then lexC r q else cmpI a b
theorem roN_ren (σ : Nat → Nat) (l : List Nat) : (AObj.ro (natV l)).ren σ = .ro (natV l) := by
  show AObj.ro (AV.rens σ (natV l)) = _
  unfold natV
  rw [rens_ints]
theorem natV_at {l : List Nat} {k : Nat} (h : k < l.length) : (natV l)[k * 1]? = some (.int .i64 ((l[k] : Nat) : Int)) := by
  rw [Nat.mul_one]
  simp [natV, List.getElem?_eq_getElem h]
set_option maxRecDepth 100000 in
set_option maxHeartbeats 4000000 in
theorem slCmp_can (l q : List Nat) (hl : l.length ≤ 1000) (a1 a2 : AV) (h1 : IsSl a1 l.length 0) (h2 : IsSl a2 q.length 1) : CanS 0 Try.prog 122 2 [a1, a2] [(0, some (.ro (natV l))), (1, some (.ro (natV q)))] 2 fun v _ _ => v = .int .i64 (lexC l q) := by
  refine CanS.mk Try.func122 rfl rfl rfl ?_
  repeat' (first | refine RT.nil ?_ | refine sq_n ?_ | refine Tr.seq ?_ | refine Tr.region ?_ | refine Tr.block ?_ | (refine RT.goK rfl rfl rfl rfl ?_; apply Nx.of; (first | exact S.move | exact S.assign)) | (refine RT.goK rfl rfl rfl rfl ?_; apply Nx.of; (first | exact S.len_sl rfl rfl rfl (by assumption))))
  refine Tr.loop (fun k : Nat => stL Try.f122.ntmps [] [(0, a1), (1, a2), (9, a1), (10, .int .i64 l.length), (11, .int .i64 k)] [(0, some (.ro (natV l))), (1, some (.ro (natV q)))] 2) (fun k => k ≤ l.length ∧ k ≤ q.length ∧ lexC l q = lexC (l.drop k) (q.drop k)) (fun k => l.length - k) 0 ⟨Nat.zero_le _, Nat.zero_le _, rfl⟩ (by (refine Wk.same (by decide) (by decide) (by decide) (by decide) ?_ ?_ rfl; all_goals ((try simp only [allL, allM]); (repeat' (first | exact trivial | refine And.intro ?_ ?_)); all_goals (first | rfl | exact IsSl.ren (by assumption) (nm_lt (by decide)) | exact roN_ren _ _ | decide)))) (fun k ⟨hk, hkq, he⟩ => ?_)
  by_cases hlt : k < l.length
  · have hlt' : (k : Int) < l.length := by omega
    have e1 : l.drop k = l[k] :: l.drop (k + 1) := List.drop_eq_getElem_cons hlt
    have x1 := natV_at hlt
    by_cases hq : k < q.length
    · have hq' : ¬ (k : Int) ≥ q.length := by omega
      have e2 : q.drop k = q[k] :: q.drop (k + 1) := List.drop_eq_getElem_cons hq
      have x2 := natV_at hq
      rw [e1, e2, lexC] at he
      repeat' (first | refine RT.nil ?_ | refine sq_n ?_ | refine Tr.seq ?_ | refine Tr.region ?_ | refine Tr.cond_t rfl ?_ | refine Tr.cond_d rfl (fun _ => ?_) (fun _ => ?_) | refine Tr.skip ?_ | refine Tr.ret ?_ | refine sq_r ?_ | refine Tr.block ?_ | refine blk_n ?_ | refine blk_r ?_ | refine lp_r ?_ | (refine RT.goK rfl rfl rfl rfl ?_; first | refine Nx.of (S.lss_t hlt') ?_ | refine Nx.of (S.load1r rfl rfl rfl x1) ?_ | refine Nx.of (S.load1r rfl rfl rfl x2) ?_) | (refine RT.call rfl rfl rfl (Compare_at _ _ _ _ _) rfl rfl (Nat.le_refl _) ?_) | (refine RT.goK rfl rfl rfl rfl ?_; apply Nx.of; (first | exact S.move | exact S.assign | exact S.neq | exact S.geq | exact S.add_one (by omega))) | (refine RT.goK rfl rfl rfl rfl ?_; apply Nx.of; (first | exact S.idx_sl rfl rfl rfl (by assumption) (by omega) | exact S.len_sl rfl rfl rfl (by assumption))))
      · exfalso; omega
      · (first | refine rt_go rfl ?_)
        rw [he, if_neg (by assumption)]
        rfl
      · rw [if_pos (Classical.not_not.1 (by assumption))] at he
        refine lp_n (k + 1) ⟨by omega, by omega, he⟩ (by omega) (by (refine Wk.same (by decide) (by decide) (by decide) (by decide) ?_ ?_ rfl; all_goals ((try simp only [allL, allM]); (repeat' (first | exact trivial | refine And.intro ?_ ?_)); all_goals (first | rfl | exact IsSl.ren (by assumption) (nm_lt (by decide)) | exact roN_ren _ _ | decide))))
    · have e2 : q.drop k = [] := List.drop_eq_nil_of_le (by omega)
      rw [e1, e2, lexC] at he
      repeat' (first | refine RT.nil ?_ | refine sq_n ?_ | refine Tr.seq ?_ | refine Tr.region ?_ | refine Tr.cond_t rfl ?_ | refine Tr.cond_d rfl (fun _ => ?_) (fun _ => ?_) | refine Tr.skip ?_ | refine Tr.ret ?_ | refine sq_r ?_ | refine Tr.block ?_ | refine blk_r ?_ | refine lp_r ?_ | (refine RT.goK rfl rfl rfl rfl ?_; first | refine Nx.of (S.lss_t hlt') ?_ | refine Nx.of (S.load1r rfl rfl rfl x1) ?_) | (refine RT.goK rfl rfl rfl rfl ?_; apply Nx.of; (first | exact S.move | exact S.assign | exact S.geq)) | (refine RT.goK rfl rfl rfl rfl ?_; apply Nx.of; (first | exact S.idx_sl rfl rfl rfl (by assumption) (by omega) | exact S.len_sl rfl rfl rfl (by assumption))))
      · (first | refine rt_go rfl ?_)
        rw [he]
        rfl
      all_goals (exfalso; omega)
  · have hlt' : ¬ (k : Int) < l.length := by omega
    have e1 : l.drop k = [] := List.drop_eq_nil_of_le (by omega)
    rw [e1] at he
    have hkl : k = l.length := by omega
    by_cases hq : k < q.length
    · have e2 : q.drop k = q[k] :: q.drop (k + 1) := List.drop_eq_getElem_cons hq
      rw [e2, lexC] at he
      repeat' (first | refine RT.nil ?_ | refine sq_n ?_ | refine Tr.seq ?_ | refine Tr.region ?_ | refine Tr.cond_f rfl ?_ | refine Tr.cond_d rfl (fun _ => ?_) (fun _ => ?_) | refine Tr.skip ?_ | refine Tr.ret ?_ | refine sq_r ?_ | refine Tr.exit ?_ | refine sq_x ?_ | refine blk_hit rfl ?_ | refine lp_x ?_ | (refine RT.goK rfl rfl rfl rfl ?_; refine Nx.of (S.lss_f hlt') ?_) | (refine RT.goK rfl rfl rfl rfl ?_; apply Nx.of; (first | exact S.move | exact S.assign | exact S.lss)) | (refine RT.goK rfl rfl rfl rfl ?_; apply Nx.of; (first | exact S.len_sl rfl rfl rfl (by assumption))))
      · (first | refine rt_go rfl ?_)
        rw [he]
        rfl
      · exfalso; omega
    · have e2 : q.drop k = [] := List.drop_eq_nil_of_le (by omega)
      rw [e2, lexC] at he
      repeat' (first | refine RT.nil ?_ | refine sq_n ?_ | refine Tr.seq ?_ | refine Tr.region ?_ | refine Tr.cond_f rfl ?_ | refine Tr.cond_d rfl (fun _ => ?_) (fun _ => ?_) | refine Tr.skip ?_ | refine Tr.ret ?_ | refine sq_r ?_ | refine Tr.exit ?_ | refine sq_x ?_ | refine blk_hit rfl ?_ | refine lp_x ?_ | (refine RT.goK rfl rfl rfl rfl ?_; refine Nx.of (S.lss_f hlt') ?_) | (refine RT.goK rfl rfl rfl rfl ?_; apply Nx.of; (first | exact S.move | exact S.assign | exact S.lss)) | (refine RT.goK rfl rfl rfl rfl ?_; apply Nx.of; (first | exact S.len_sl rfl rfl rfl (by assumption))))
      · exfalso; omega
      · (first | refine rt_go rfl ?_)
        rw [he]
        rfl
def cmpL (l q : List Nat) : Int := if cmpI l.length q.length = 0 then lexC l q else cmpI l.length q.length
def LiesF (m : List (Nat × Option AObj)) (x : Nat) (l : List Nat) : Prop := l = [] ∨ lookM m x = some (.grown (natV l) 1)
def winF (x z : Nat) (l : List Nat) : Wnd := match l with | [] => (z, 0, none) | _ :: _ => (x, 0, some l.length)
def argF (i : Nat) (l : List Nat) : AV := match l with | [] => .nils | _ :: _ => .gs i l.length
theorem argF_is (i : Nat) (l : List Nat) : IsSl (argF i l) l.length i := by
  cases l with
  | nil => exact IsSl.nils i
  | cons a r => exact IsSl.gs i _
theorem argF_w {W : List Wnd} {x z i : Nat} {l : List Nat} (h : W[i]? = some (winF x z l)) : ArgW W (fuV x l) (argF i l) := by
  cases l with
  | nil => exact .pl Pl.nils
  | cons a r => exact ArgW.sl h (Nat.le_refl _)
theorem winF_ok {m : List (Nat × Option AObj)} {x z : Nat} {l : List Nat} (hx : LiesF m x l) (hz : ∃ o, lookM m z = some o) : ∃ o, (ofM m).get (winF x z l).1 = some o ∧ (natV l = [] ∨ ∃ ca, cellsOf o = some ca ∧ cut ca (winF x z l).2.1 (natV l).length = some (natV l)) := by
  obtain ⟨o, ho⟩ := hz
  cases l with
  | nil => exact ⟨o, getM ho, .inl rfl⟩
  | cons a r =>
    rcases hx with h | h
    · cases h
    · exact ⟨_, getM h, .inr ⟨_, rfl, cut_all rfl⟩⟩
theorem pls_nat (l : List Nat) : Pls (natV l) := fun σ => by unfold natV; rw [rens_ints]
set_option maxRecDepth 100000 in
set_option maxHeartbeats 4000000 in
theorem cmpLists_can (l q : List Nat) (hl : l.length ≤ 1000) (a1 a2 : AV) (h1 : IsSl a1 l.length 0) (h2 : IsSl a2 q.length 1) : CanS 0 Try.prog 107 2 [a1, a2] [(0, some (.ro (natV l))), (1, some (.ro (natV q)))] 2 fun v _ _ => v = .int .i64 (cmpL l q) := by
  refine CanS.mk Try.func107 rfl rfl rfl ?_
  repeat' (first | refine RT.nil ?_ | refine sq_n ?_ | refine Tr.seq ?_ | refine Tr.region ?_ | refine Tr.ret ?_ | (refine RT.goK rfl rfl rfl rfl ?_; first | refine Nx.of (S.len_sl rfl rfl rfl h1) ?_ | refine Nx.of (S.len_sl rfl rfl rfl h2) ?_) | (refine RT.call rfl rfl rfl (Compare_at _ _ _ _ _) rfl rfl (Nat.le_refl _) ?_) | (refine RT.call rfl rfl rfl (CanS.here (slCmp_can l q hl _ _ h1 h2) (.int _ _) _) rfl rfl (Nat.le_refl _) ?_) | (refine RT.call rfl rfl rfl (Or_at (getM rfl) _ _) rfl rfl (Nat.le_refl _) ?_) | (refine RT.goK rfl rfl rfl rfl ?_; apply Nx.of; (first | exact S.move | exact S.assign | exact S.buildSlice rfl rfl rfl rfl rfl rfl rfl)))
  (first | refine rt_go rfl ?_)
  rfl
theorem cmpLists_at {m : List (Nat × Option AObj)} {x y z : Nat} {l q : List Nat} (hl : l.length ≤ 1000) (hx : LiesF m x l) (hy : LiesF m y q) (hz : ∃ o, lookM m z = some o) (c fl : Nat) : OkAt 0 Try.prog fl 107 [fuV x l, fuV y q] (ofM m) c (.int .i64 (cmpL l q)) (ofM m) c :=
  (cmpLists_can l q hl (argF 0 l) (argF 1 q) (argF_is 0 l) (argF_is 1 q)).pure (.int _ _) (Entry.win (W := [winF x z l, winF y z q]) (CS := [natV l, natV q]) rfl ⟨winF_ok hx hz, pls_nat l, winF_ok hy hz, pls_nat q, trivial⟩
    (show ArgsW [winF x z l, winF y z q] [fuV x l, fuV y q] [argF 0 l, argF 1 q] from ⟨argF_w rfl, argF_w rfl, trivial⟩)) fl
end Go.Proofs.Ytlnmcadbmpiopaa
/- A call that writes, in one memory, in a region whose order is open. -/
namespace Go.Ev
open Go
section
variable {G : Nat} {P : Program} {fl c c' : Nat} {n : Nat} {dfs : List Nat} {l : List (Nat × AV)} {o : Oper} {call round : CallFn} {ops : List Oper} {is : List OpI} {rs us : List Rec} {un : List Nat} {v : AV} {d : Nat} {K : St → Prop} {m m' : List (Nat × Option AObj)}
open Classical in
noncomputable def pinW (q f : Nat) (args : List AV) (m : List (Nat × Option AObj)) (c : Nat) (v : AV) (m' : List (Nat × Option AObj)) (c' : Nat) : CallFn := fun fl f1 args1 H1 c1 =>
  if f1 = f ∧ args1 = args ∧ H1 = ofM m ∧ c1 = c ∧ fl ≤ q then some (v, ofM m', c') else none
theorem pinW_at {q fl : Nat} (f : Nat) (args : List AV) (m : List (Nat × Option AObj)) (c : Nat) (v : AV) (m' : List (Nat × Option AObj)) (c' : Nat) (h : fl ≤ q) : pinW q f args m c v m' c' fl f args (ofM m) c = some (v, ofM m', c') := by
  unfold pinW; rw [if_pos ⟨rfl, rfl, rfl, rfl, h⟩]
theorem pinW_ne {q fl f f1 : Nat} {args args1 : List AV} {H : T AObj} {c1 : Nat} (h : f1 ≠ f) : pinW q f args m c v m' c' fl f1 args1 H c1 = none := by
  unfold pinW; rw [if_neg fun k => h k.1]
theorem pinW_calm {q f : Nat} {args : List AV} (h : ∀ fl, fl ≤ q → OkAt G P fl f args (ofM m) c v (ofM m') c') (hg : ∀ fl, fl ≤ q → Good fl c (ofM m) c' (ofM m')) : CalmC G P (pinW q f args m c v m' c') := by
  refine ⟨fun fl f1 args1 H1 c1 v' H' c2 e => ?_, fun fl f1 args1 H1 c1 v' H' c2 e => ?_⟩
  · unfold pinW at e
    split at e
    · rename_i hh
      obtain ⟨rfl, rfl, rfl, rfl, hf⟩ := hh
      simp only [Option.some.injEq, Prod.mk.injEq] at e
      obtain ⟨rfl, rfl, rfl⟩ := e
      exact h _ hf
    · cases e
  · unfold pinW at e
    split at e
    · rename_i hh
      obtain ⟨rfl, rfl, rfl, rfl, hf⟩ := hh
      simp only [Option.some.injEq, Prod.mk.injEq] at e
      obtain ⟨rfl, rfl, rfl⟩ := e
      exact hg _ hf
    · cases e
theorem RD.callW [hP : PG P G] {f : Nat} {first cap args : List AV} (hk : kindA o.op = .heavy) (hc : isCall o.op = true) (hr : recL rs un = some us) (hw : wantedL ops o l = some true) (hv : operandsL G l (opArgs o.op) = some (.fn f first cap :: args)) (hd : o.dst = some d) (hn : Nat.blt d n = true)
    (hu : us.all (fun r => !r.heavy && r.st.isNone) = true) (hh : (us.flatMap fun r => (List.range (r.hi - r.lo)).map (r.lo + ·)) = [])
    (hs : call fl f (first ++ args ++ cap) (ofM m) c = some (v, ofM m', c')) (hsame : us.all (sameR P (ofM m) (ofM m')) = true)
    (h : RD G P fl call round ops is (⟨true, none, c, c', none, some (ofM m, ofM m'), none⟩ :: rs) (stL n dfs ((d, v) :: l) m' c') K) : RD G P fl call round ops (⟨o, un, true⟩ :: is) rs (stL n dfs l m c) K := by
  refine RD.step (v := v) (m' := m') (c' := c') (rc := ⟨true, none, c, c', none, some (ofM m, ofM m'), none⟩) hr hw hv ?_ (put_some hn hd) (by rw [hd]; exact h)
  rw [hk]; unfold stD
  have hst : stepA P call round fl o.op (.fn f first cap :: args) (ofM m) c = some (v, ofM m', c') := by
    unfold stepA; rw [hc]; exact hs
  simp only [hu, hh, hideA, cond_true, hst, backA, List.foldl_nil, hsame]
end
end Go.Ev
/- Package claim: wrongIn and numbers at any memory. -/
namespace Go.Proofs.Ytlnmcadbmpiopaa
open Go Go.Ev
theorem wrongIn_at {B : CBook} {a1 a2 : AV} {p q : Nat} {m : List (Nat × Option AObj)} {c : Nat} {L : List (Int × Int)} (h : PbIn B a1 a2 p q m c) (hm : lookM m q = some (oMap B L)) (hck : cksOk B) (hns : B.ns ≤ 3) (t : Tru) (fl : Nat) (hfl : fl ≤ q) : OkAt 0 Try.prog fl 106 [.ptr p 0, trV t] (ofM m) c (.int .i64 (wnS B t B.ns)) (ofM ((q, some (oMap B (lsS t L B.ns))) :: m)) c := by
  have e0 : tau [0, 1, p, q] c 0 = 0 := rfl
  have e1 : tau [0, 1, p, q] c 1 = 1 := rfl
  have e2 : tau [0, 1, p, q] c 2 = p := rfl
  have e3 : tau [0, 1, p, q] c 3 = q := rfl
  have hp0 : p ≠ 0 := fun e => by have := h.m3; rw [e, h.m1] at this; cases this
  have hp1 : p ≠ 1 := fun e => by have := h.m3; rw [e, h.m2] at this; cases this
  have hq0 : q ≠ 0 := fun e => by rw [e, h.m1] at hm; cases hm
  have hq1 : q ≠ 1 := fun e => by rw [e, h.m2] at hm; cases hm
  have hqp : q ≠ p := fun e => by rw [e, h.m3] at hm; cases hm
  have ha : AV.rens (tau [0, 1, p, q] c) [.ptr 2 0, trV t] = [.ptr p 0, trV t] := rfl
  rw [← ha]
  have low : ∀ {z : Nat} {ob : AObj}, lookM [(0, some (oSt B)), (1, some (oCk B)), (2, some (.cells (pbC B a1 a2 3))), (3, some (oMap B L))] z = some ob → z = 0 ∨ z = 1 ∨ z = 2 ∨ z = 3 := fun {z ob} hz => by
    rcases Nat.lt_or_ge z 4 with h3 | h3
    · omega
    · exfalso
      simp only [lookM, Bool.cond_eq_ite] at hz
      rw [if_neg (by simp; omega), if_neg (by simp; omega), if_neg (by simp; omega), if_neg (by simp; omega)] at hz
      cases hz
  refine CanS.write (o0 := oMap B L) (wrongIn_can B a1 a2 h.h1 h.h2 hns hck L t) (.int _ _) (ren_mapA _ _) rfl (tau [0, 1, p, q] c) (Nat.zero_le _) (fun g hg => by omega) (fun y hy => by rw [tau_ge hy]; omega) (fun y o hy => ?_) (fun x y o o' hx hy hxy => ?_) rfl hfl rfl rfl
  · rcases low hy with rfl | rfl | rfl | rfl
    · cases hy
      rw [e0, ren_ro]; exact getM h.m1
    · cases hy
      rw [e1, ren_ro]; exact getM h.m2
    · cases hy
      have : (AObj.cells (pbC B a1 a2 3)).ren (tau [0, 1, p, q] c) = .cells (pbC B a1 a2 q) := by simp only [pbC, AObj.ren, AV.ren, AV.rens, h.h1.ren e0, h.h2.ren e1, e3]
      rw [e2, this]; exact getM h.m3
    · cases hy
      rw [e3, ren_mapA]; exact getM hm
  · refine .inl ?_
    rcases low hx with rfl | rfl | rfl | rfl <;> rcases low hy with rfl | rfl | rfl | rfl <;> simp only [e0, e1, e2, e3] <;> omega
theorem numbers_at {B : CBook} {a1 a2 : AV} {p q : Nat} {m : List (Nat × Option AObj)} {c : Nat} (h : PbIn B a1 a2 p q m c) (hm : ∀ x o, lookM m x = some o → x < c) (hnc : B.nc ≤ 4) (s : Int) (fl : Nat) : OkAt 0 Try.prog fl 105 [.ptr p 0, .int .i64 s] (ofM m) c (fuV c (numsL s B.nc)) (ofM (grM c (numsL s B.nc) ++ m)) (c + 1) := by
  let τ : Nat → Nat := fun y => if y = 0 then 0 else if y = 1 then 1 else if y = 2 then p else if y = 3 then q else c + (y - 4)
  have hc := h.hc
  have hp := h.hp
  have hq := h.hq
  have t0 : τ 0 = 0 := rfl
  have t1 : τ 1 = 1 := rfl
  have t2 : τ 2 = p := rfl
  have t3 : τ 3 = q := rfl
  have t4 : τ 4 = c := rfl
  have hp0 : p ≠ 0 := fun e => by have := h.m3; rw [e, h.m1] at this; cases this
  have hp1 : p ≠ 1 := fun e => by have := h.m3; rw [e, h.m2] at this; cases this
  have ha : AV.rens τ [.ptr 2 0, .int .i64 s] = [.ptr p 0, .int .i64 s] := rfl
  have low : ∀ {z : Nat} {ob : AObj}, lookM [(0, some (oSt B)), (1, some (oCk B)), (2, some (.cells (pbC B a1 a2 3)))] z = some ob → z = 0 ∨ z = 1 ∨ z = 2 := fun {z ob} hz => by
    have := lookM_mem hz
    simpa using this
  rw [← ha]
  refine CanS.inst (numbers_can B a1 a2 h.h1 h.h2 hnc s) (Nat.zero_le _) (Nat.le_refl _) τ (fun g hg => by omega) (fun y hy => by simp only [τ]; (repeat' split) <;> omega) (fun y hy => by simp only [τ]; rw [if_neg (by omega), if_neg (by omega), if_neg (by omega), if_neg (by omega)]) (fun y o hy => ?_) (fun x y o o' hx hy hxy => ?_) (fun y hy hy' => by omega) (fun v1 H1 c1 hk _ => ?_)
  · rcases low hy with rfl | rfl | rfl
    · cases hy; rw [t0, ren_ro]; exact getM h.m1
    · cases hy; rw [t1, ren_ro]; exact getM h.m2
    · cases hy
      have : (AObj.cells (pbC B a1 a2 3)).ren τ = .cells (pbC B a1 a2 q) := by simp only [pbC, AObj.ren, AV.ren, AV.rens, h.h1.ren t0, h.h2.ren t1, t3]
      rw [t2, this]; exact getM h.m3
  · refine .inl ?_
    rcases low hx with rfl | rfl | rfl <;> rcases low hy with rfl | rfl | rfl <;> simp only [t0, t1, t2] <;> omega
  · obtain ⟨rfl, rfl, g1⟩ := hk
    generalize hL : numsL s B.nc = L at g1
    refine ⟨?_, by omega, fun x o hx => ?_⟩
    · cases L with
      | nil => rfl
      | cons a r => rfl
    · rw [ofM_get] at hx
      cases L with
      | nil => exact .inl ⟨hm x o hx, fun y hy hy' => by omega, getM hx⟩
      | cons a r =>
        by_cases e1 : x = c
        · subst e1
          replace hx : lookM ((x, some (.grown (natV (a :: r)) 1)) :: m) x = some o := hx
          rw [lookM_hd] at hx
          cases hx
          exact .inr ⟨4, _, by omega, g1 (by simp), t4.symm, (natV_ren _ _ _).symm⟩
        · replace hx : lookM ((c, some (.grown (natV (a :: r)) 1)) :: m) x = some o := hx
          rw [lookM_tl e1] at hx
          exact .inl ⟨hm x o hx, fun y hy hy' => by omega, getM hx⟩
end Go.Proofs.Ytlnmcadbmpiopaa
/- Package claim: fewest. -/
namespace Go.Proofs.Ytlnmcadbmpiopaa
open Go Go.Ev
theorem bkn_ren {B : CBook} {a1 : AV} (h1 : IsSl a1 B.ns 0) {σ : Nat → Nat} (e1 : σ 0 = 0) : (AObj.cells (bk (ncB B) a1 .nils).cells).ren σ = .cells (bk (ncB B) a1 .nils).cells := by simp only [bk, AObj.ren, AV.cells, AV.ren, AV.rens, h1.ren e1]
theorem gr_good {fl c : Nat} {m : List (Nat × Option AObj)} (L : List Nat) : Go.Ev.Good fl c (ofM m) (c + 1) (ofM (grM c L ++ m)) := by
  cases L with
  | nil => exact ⟨Nat.le_succ _, fun _ _ _ => rfl, fun h x hx => Nat.lt_succ_of_lt (h x hx)⟩
  | cons a r => exact (Go.Ev.Good.refl fl c (ofM m)).cons (Nat.le_refl _) (Nat.lt_succ_self _) (Nat.le_succ _)
end Go.Proofs.Ytlnmcadbmpiopaa
/- Package claim: the book without its clocks, and its truths: its empty list of clocks lies under any name. -/
namespace Go.Proofs.Ytlnmcadbmpiopaa
open Go Go.Ev
structure PbZ (B : CBook) (a1 : AV) (z p q : Nat) (m : List (Nat × Option AObj)) (c : Nat) : Prop where
  h1 : IsSl a1 B.ns 0
  hn : B.nc = 0
  m1 : lookM m 0 = some (oSt B)
  m2 : lookM m z = some (oCk B)
  m3 : lookM m p = some (.cells (pbC B a1 .nils q))
  hc : 2 ≤ c
  hp : p < c
  hq : q < c
theorem PbZ.h2 {B : CBook} {a1 : AV} {z p q : Nat} {m : List (Nat × Option AObj)} {c : Nat} (h : PbZ B a1 z p q m c) : IsSl .nils B.nc 1 := by rw [h.hn]; exact IsSl.nils 1
theorem prepare_z {z : Nat} (hz0 : z ≠ 0) {B : CBook} {a1 : AV} {m : List (Nat × Option AObj)} {c : Nat} (h1 : IsSl a1 B.ns 0) (hn : B.nc = 0) (hc : z < c) (m1 : lookM m 0 = some (oSt B)) (m2 : lookM m z = some (oCk B)) (hm : ∀ x o, lookM m x = some o → x < c) (fl : Nat) : OkAt 0 Try.prog fl 49 [bk B a1 .nils] (ofM m) c (.ptr (c + 2) 0) (ofM ((c + 2, some (.cells (pbC B a1 .nils (c + 1)))) :: (c + 1, some (oMap B [])) :: m)) (c + 3) := by
  let τ : Nat → Nat := fun y => if y = 0 then 0 else if y = 1 then z else c + (y - 2)
  have t0 : τ 0 = 0 := rfl
  have t1 : τ 1 = z := rfl
  have t3 : τ 3 = c + 1 := rfl
  have t4 : τ 4 = c + 2 := rfl
  have ha : AV.rens τ [bk B a1 .nils] = [bk B a1 .nils] := by simp only [bk, AV.ren, AV.rens, h1.ren t0]
  rw [← ha]
  have low : ∀ {u : Nat} {ob : AObj}, lookM [(0, some (oSt B)), (1, some (oCk B))] u = some ob → u = 0 ∨ u = 1 := fun {u ob} hz => by
    have := lookM_mem hz
    simpa using this
  refine CanS.inst (prepare_can B a1 .nils h1 (by rw [hn]; exact IsSl.nils 1)) (Nat.zero_le _) (Nat.le_refl _) τ (fun g hg => by omega) (fun y hy => by simp only [τ]; (repeat' split) <;> omega) (fun y hy => by simp only [τ]; rw [if_neg (by omega), if_neg (by omega)]) (fun y o hy => ?_) (fun x y o o' hx hy hxy => ?_) (fun y hy hy' => by omega) (fun v1 H1 c1 ⟨g1, g2, g3, g4⟩ _ => ?_)
  · rcases low hy with rfl | rfl
    · cases hy; rw [t0, ren_ro]; exact getM m1
    · cases hy; rw [t1, ren_ro]; exact getM m2
  · refine .inl ?_
    rcases low hx with rfl | rfl <;> rcases low hy with rfl | rfl <;> simp only [t0, t1] <;> omega
  · subst g1 g2
    refine ⟨by show AV.ptr (τ 4) 0 = _; rw [t4], rfl, fun x o hx => ?_⟩
    rw [ofM_get, lookM, Bool.cond_eq_ite] at hx
    split at hx
    · rename_i e
      have e' : x = c + 2 := by simpa using e
      cases hx
      refine .inr ⟨4, _, by omega, g3, by rw [t4, e'], ?_⟩
      simp only [pbC, AObj.ren, AV.ren, AV.rens, h1.ren t0, t3]
    · rw [lookM, Bool.cond_eq_ite] at hx
      split at hx
      · rename_i e
        have e' : x = c + 1 := by simpa using e
        cases hx
        exact .inr ⟨3, _, by omega, g4, by rw [t3, e'], (ren_mapA _ _ _).symm⟩
      · exact .inl ⟨hm x o hx, fun y hy hy' => by omega, getM hx⟩
theorem truths_z {z : Nat} (hz0 : z ≠ 0) {B : CBook} {C : Cons} {a1 : AV} {lo p q : Nat} {L : List (Int × Int)} {m : List (Nat × Option AObj)} {c : Nat} {s : C.γ} (h : PbZ B a1 z p q m c) (hq : lookM m q = some (oMap B L)) (hlo : lookM m lo = none) (hok : stsOk B) (hw : weaOk B) (hck : cksOk B) (hY : YldOK Try.prog C) (hC : ∀ k s t, C.lv (k + 1) s → C.ok s [trV t]) (hl : C.lv (wths B 0).length s) (fl : Nat) (hfl : fl ≤ q) :
    OkJ 0 Try.prog C fl lo 88 [.ptr p 0, .yld lo] m c s fun v m' s' => ∃ ob, truR B C s v ob s' ∧ m' = (q, some ob) :: m := by
  have e0 : tau [0, z, lo, p, q] c 0 = 0 := rfl
  have e1 : tau [0, z, lo, p, q] c 1 = z := rfl
  have e2 : tau [0, z, lo, p, q] c 2 = lo := rfl
  have e3 : tau [0, z, lo, p, q] c 3 = p := rfl
  have e4 : tau [0, z, lo, p, q] c 4 = q := rfl
  have ha : AV.rens (tau [0, z, lo, p, q] c) [.ptr 3 0, .yld 2] = [.ptr p 0, .yld lo] := rfl
  rw [← ha]
  have low : ∀ {u : Nat} {ob : AObj}, lookM [(0, some (oSt B)), (1, some (oCk B)), (3, some (.cells (pbC B a1 .nils 4))), (4, some (oMap B L))] u = some ob → u = 0 ∨ u = 1 ∨ u = 3 ∨ u = 4 := fun {u ob} hz => by
    simp only [lookM, Bool.cond_eq_ite, Nat.beq_eq] at hz
    by_cases g : u = 0 ∨ u = 1 ∨ u = 3 ∨ u = 4
    · exact g
    · exfalso
      rw [if_neg (by omega), if_neg (by omega), if_neg (by omega), if_neg (by omega)] at hz
      cases hz
  have hobj : ∀ u o, lookM [(0, some (oSt B)), (1, some (oCk B)), (3, some (.cells (pbC B a1 .nils 4))), (4, some (oMap B L))] u = some o → lookM m (tau [0, z, lo, p, q] c u) = some (o.ren (tau [0, z, lo, p, q] c)) := fun u o hu => by
    rcases low hu with rfl | rfl | rfl | rfl
    · cases hu; rw [e0, ren_ro]; exact h.m1
    · cases hu; rw [e1, ren_ro]; exact h.m2
    · cases hu
      have : (AObj.cells (pbC B a1 .nils 4)).ren (tau [0, z, lo, p, q] c) = .cells (pbC B a1 .nils q) := by simp only [pbC, AObj.ren, AV.ren, AV.rens, h.h1.ren e0, e4]
      rw [e3, this]; exact h.m3
    · cases hu; rw [e4, ren_mapA]; exact hq
  refine CanJ.write (o0 := oMap B L) (R := truR B C s) (truths_can B a1 .nils h.h1 h.h2 hok hw hck C hY hC L s hl) (fun v ob s' ⟨L', h1, _, h3⟩ => by subst h1 h3; exact ⟨fun _ => rfl, ren_mapA _ _, rfl⟩) (tau [0, z, lo, p, q] c) (Nat.zero_le _) (fun g hg => by omega) (fun u hu => by rw [tau_ge hu]; omega) hobj (fun u u' o o' hu hu' hne => .inl fun e => ?_) rfl hfl rfl rfl (by decide) rfl (fun u hu e => ?_) hlo
  · have g1 := hobj u o hu
    have g2 := hobj u' o' hu'
    rw [e] at g1
    rw [g1] at g2
    rcases low hu with rfl | rfl | rfl | rfl <;> rcases low hu' with rfl | rfl | rfl | rfl <;> first | exact absurd rfl hne | exact absurd (show (0 : Nat) = z from e) (fun k => hz0 k.symm) | exact absurd (show z = 0 from e) hz0 | (cases hu; cases hu'; simp [AObj.ren, AV.rens, AV.ren, pbC, oSt, oCk] at g2)
  · rcases (by omega : u = 0 ∨ u = 1 ∨ u = 2 ∨ u = 3 ∨ u = 4) with rfl | rfl | rfl | rfl | rfl
    · have := hobj 0 _ rfl; rw [e, hlo] at this; cases this
    · have := hobj 1 _ rfl; rw [e, hlo] at this; cases this
    · rfl
    · have := hobj 3 _ rfl; rw [e, hlo] at this; cases this
    · have := hobj 4 _ rfl; rw [e, hlo] at this; cases this
end Go.Proofs.Ytlnmcadbmpiopaa
/- Package claim: fewest. -/
namespace Go.Proofs.Ytlnmcadbmpiopaa
open Go Go.Ev
theorem S.storeF [Tab Try.prog] {t fl c x y : Nat} {a b : Operand} {m : List (Nat × Option AObj)} {L : List Nat} {old : AV} {ti : Ty} (ht : ty Try.prog t = some ti) (hf : Nat.ble fl y = true) (hsz : ti.size = 1) (ho : lookM m y = some (.cells [old])) : OpE Try.prog fl (.store t a b) [.ptr y 0, fuV x L] m c undefA ((y, some (.cells [fuV x L])) :: m) c := by
  cases L with
  | nil => exact S.store ht hf rfl (by rw [hsz]; rfl) ho rfl
  | cons a r => exact S.store ht hf rfl (by rw [hsz]; rfl) ho rfl
abbrev FwS := Bool × List Nat × List (Int × Int)
def fwN (s : FwS) : Nat := if s.1 then 14 else 7
noncomputable def fwM (B : CBook) (a1 a2 : AV) (s : FwS) : List (Nat × Option AObj) := [(8, some (.cells [fuV (fwN s) s.2.1])), (5, some (.cells [.ptr 3 0])), (0, some (oSt B)), (1, some (oCk B)), (3, some (.cells (pbC B a1 a2 4))), (4, some (oMap B s.2.2)), (12, some .dfr)] ++ grM (fwN s) s.2.1
noncomputable def fwL (B : CBook) (t : Tru) : List Nat := numsL (wnS B t B.ns) B.nc
noncomputable def fwS (B : CBook) (s : FwS) (ags : List AV) : FwS × Option Code :=
  (if cmpL (fwL B (decT ags)) s.2.1 < 0 then (true, fwL B (decT ags), lsS (decT ags) s.2.2 B.ns) else (s.1, s.2.1, lsS (decT ags) s.2.2 B.ns), none)
theorem grM_names {x : Nat} {l : List Nat} {y : Nat} (h : y ∈ (grM x l : List (Nat × Option AObj)).map (fun e => e.1)) : y = x := by
  cases l <;> simp [grM] at h; exact h
theorem foldS_all {σ : Type} {stp : σ → List AV → σ × Option Code} (h : ∀ s a, (stp s a).2 = none) : ∀ (ts : List Tru) (s : σ), (foldS stp (s, none) ts).2 = none
  | [], _ => rfl
  | t :: ts, s => by
    rw [foldS]
    have h1 := h s [trV t]
    rw [if_pos (by rw [h1]; rfl)]
    have h2 : stp s [trV t] = ((stp s [trV t]).1, none) := by rw [← h1]
    rw [h2]
    exact foldS_all h ts _
section
variable {B : CBook} {a1 a2 : AV} {n c : Nat} {l : List (Nat × AV)} {m : List (Nat × Option AObj)} {t : Tru} {bs : Bool} {best W : List Nat} {asked : List (Int × Int)} {lo : AObj}
theorem fu_ren (σ : Nat → Nat) {x y : Nat} (h : σ x = y) (L : List Nat) : (fuV x L).ren σ = fuV y L := by
  cases L with
  | nil => rfl
  | cons a r => show AV.sl (σ x) 0 _ _ = _; rw [h]; rfl
theorem fw_wk (h1 : IsSl a1 B.ns 0) (h2 : IsSl a2 B.nc 1) {s : FwS} {z : Nat} (hz : z = fwN s ∧ z < 15 ∨ z = 16 ∧ fwN s = 14) (hc : 15 ≤ c) (hc17 : c ≤ 17) (hlo : ∀ σ : Nat → Nat, σ 5 = 5 → σ 8 = 8 → σ 12 = 12 → lo.ren σ = lo)
    (g13 : lookM m 13 = some lo) (g8 : lookM m 8 = some (.cells [fuV z s.2.1])) (gL : s.2.1 ≠ [] → lookM m z = some (.grown (natV s.2.1) 1)) (g5 : lookM m 5 = some (.cells [.ptr 3 0])) (g0 : lookM m 0 = some (oSt B)) (g1 : lookM m 1 = some (oCk B)) (g3 : lookM m 3 = some (.cells (pbC B a1 a2 4))) (g4 : lookM m 4 = some (oMap B s.2.2)) (g12 : lookM m 12 = some .dfr) :
    Wk 0 4 14 (stL n [] l m c) (stL n [] [] ((13, some lo) :: fwM B a1 a2 s) 15) := by
  let σ : Nat → Nat := fun y => if y = fwN s then z else if y < 15 then y else c + y
  have hN : fwN s = 7 ∨ fwN s = 14 := by unfold fwN; split <;> simp
  have sz : σ (fwN s) = z := by show (if fwN s = fwN s then z else _) = z; exact if_pos rfl
  have sl : ∀ y, y < 15 → y ≠ fwN s → σ y = y := fun y hy hne => by simp only [σ]; rw [if_neg hne, if_pos hy]
  have s0 : σ 0 = 0 := sl 0 (by omega) (by omega)
  have s1 : σ 1 = 1 := sl 1 (by omega) (by omega)
  have s3 : σ 3 = 3 := sl 3 (by omega) (by omega)
  have s4 : σ 4 = 4 := sl 4 (by omega) (by omega)
  have s5 : σ 5 = 5 := sl 5 (by omega) (by omega)
  have s8 : σ 8 = 8 := sl 8 (by omega) (by omega)
  have s12 : σ 12 = 12 := sl 12 (by omega) (by omega)
  have s13 : σ 13 = 13 := sl 13 (by omega) (by omega)
  have base : ∀ {y : Nat} {o o' : AObj}, σ y = y → lookM m y = some o' → o.ren σ = o' → lookM m (σ y) = some (o.ren σ) := fun e1 e2 e3 => by rw [e1, e2, e3]
  have hm : allM (fun x o => lookM m (σ x) = some (o.ren σ)) ((13, some lo) :: fwM B a1 a2 s) := by
    have hL : allM (fun x o => lookM m (σ x) = some (o.ren σ)) (grM (fwN s) s.2.1) := by
      generalize s.2.1 = L at gL
      cases L with
      | nil => trivial
      | cons a r => exact ⟨by show lookM m (σ (fwN s)) = some ((AObj.grown (natV (a :: r)) 1).ren σ); rw [sz, natV_ren]; exact gL (by simp), trivial⟩
    refine ⟨base s13 g13 (hlo σ s5 s8 s12), base s8 g8 (by show AObj.cells [(fuV (fwN s) s.2.1).ren σ] = _; rw [fu_ren σ sz]), base s5 g5 (by show AObj.cells [.ptr (σ 3) 0] = _; rw [s3]), base s0 g0 (ren_ro _ _ _), base s1 g1 (ren_ro _ _ _), base s3 g3 (pbc_ren h1 h2 s0 s1 s4), base s4 g4 (ren_mapA _ _ _), base s12 g12 rfl, hL⟩
  refine Wk.by σ (by decide) (by decide) (by decide) trivial hm rfl (fun x hx y hy hxy e => ?_) (fun x hx => ?_) (fun x hx => ?_) (fun x hx => ?_)
  · have low : ∀ x, x ∈ ((13, some lo) :: fwM B a1 a2 s : List (Nat × Option AObj)).map (fun e => e.1) → x < 15 ∧ (x ≠ 14 ∨ x = fwN s) := fun x hx => by
      simp only [fwM, List.map_cons, List.map_append, List.mem_cons, List.mem_append, List.map_nil, List.not_mem_nil, or_false, List.cons_append, List.nil_append] at hx
      repeat (rcases hx with hx | hx; · omega)
      have := grM_names hx
      omega
    have q1 := low x hx
    have q2 := low y hy
    simp only [σ] at e
    (repeat' split at e) <;> omega
  all_goals (simp only [σ]; (repeat' split) <;> omega)
end
noncomputable def fwE (B : CBook) (L0 : List (Int × Int)) : FwS := (foldS (fwS B) ((false, numsL (1 * 2 ^ B.nc - 1) B.nc, L0), none) (Ws (ncB B))).1
theorem fwS_yes {B : CBook} {t : Tru} {bs : Bool} {best W : List Nat} {asked : List (Int × Int)} (hW : numsL (wnS B t B.ns) B.nc = W) (h : cmpL W best < 0) : (fwS B (bs, best, asked) [trV t]).1 = (true, W, lsS t asked B.ns) := by
  show (if cmpL (fwL B t) best < 0 then ((true, fwL B t, lsS t asked B.ns) : FwS) else (bs, best, lsS t asked B.ns)) = _
  rw [show fwL B t = W from hW, if_pos h]
theorem fwS_no {B : CBook} {t : Tru} {bs : Bool} {best W : List Nat} {asked : List (Int × Int)} (hW : numsL (wnS B t B.ns) B.nc = W) (h : ¬ cmpL W best < 0) : (fwS B (bs, best, asked) [trV t]).1 = (bs, best, lsS t asked B.ns) := by
  show (if cmpL (fwL B t) best < 0 then ((true, fwL B t, lsS t asked B.ns) : FwS) else (bs, best, lsS t asked B.ns)) = _
  rw [show fwL B t = W from hW, if_neg h]
theorem fw_end {B : CBook} {a1 a2 : AV} {st : St} {n : Nat} {lo : AObj} {s s' : FwS} (e : s = s') (h : Wk 0 4 14 st (stL n [] [] ((13, some lo) :: fwM B a1 a2 s') 15)) : Wk 0 4 14 st (stL n [] [] ((13, some lo) :: fwM B a1 a2 s) 15) := e ▸ h
theorem Tr.openM {P : Program} {G fl cb c n : Nat} {dfs : List Nat} {l : List (Nat × AV)} {m : List (Nat × Option AObj)} {r : Option Nat} {Q : AExit → St → Prop} [hP : PG P G] {id : Nat} {ops : Array Oper} (call : List (Nat × Option AObj) → CallFn) (us : List (List Nat × Bool)) (hu : ((opIs ops.toList).map fun i => (i.un, i.wide)) = us) (hok : regOk ops.toList = true) (hc : CalmC G P (call m))
    (h : RD G P fl (call m) noCall ops.toList (zipO ops.toList us) [] (stL n dfs l m c) fun st2 => c ≤ st2.c ∧ Q .normal st2) : Tr G P fl cb r (.region id ops true) (stL n dfs l m c) Q := Tr.openK us hu hok (call m) hc h
set_option maxRecDepth 100000 in
set_option maxHeartbeats 4000000 in
theorem fewest_can (B : CBook) (a1 a2 : AV) (h1 : IsSl a1 B.ns 0) (h2 : IsSl a2 B.nc 1) (hB : bkOk B) (L0 : List (Int × Int)) : CanS 0 Try.prog 82 4 [.ptr 3 0] [(0, some (oSt B)), (1, some (oCk B)), (2, some (oCk (ncB B))), (3, some (.cells (pbC B a1 a2 4))), (4, some (oMap B L0))] 5 fun v H1 c1 => v = fuV (fwN (fwE B L0)) (fwE B L0).2.1 ∧ c1 = 15 ∧ ((fwE B L0).2.1 ≠ [] → H1.get (fwN (fwE B L0)) = some (.grown (natV (fwE B L0).2.1) 1)) := by
  have hnc := hB.2.2.1.1
  have hns := hB.1.1.2
  have hs64 : In64 (1 * 2 ^ B.nc) := by
    obtain h | h | h | h | h : B.nc = 0 ∨ B.nc = 1 ∨ B.nc = 2 ∨ B.nc = 3 ∨ B.nc = 4 := by omega
    all_goals (rw [h]; unfold In64; decide)
  have hb : 1 ≤ (2 : Int) ^ B.nc ∧ (2 : Int) ^ B.nc ≤ 16 := by
    obtain h | h | h | h | h : B.nc = 0 ∨ B.nc = 1 ∨ B.nc = 2 ∨ B.nc = 3 ∨ B.nc = 4 := by omega
    all_goals (rw [h]; decide)
  obtain ⟨L1, hL1⟩ : ∃ L1, numsL (1 * 2 ^ B.nc - 1) B.nc = L1 := ⟨_, rfl⟩
  refine CanS.mk Try.func82 rfl rfl rfl ?_
  repeat' (first | refine RT.nil ?_ | refine sq_n ?_ | refine Tr.seq ?_ | refine Tr.region ?_ | (refine RT.goK rfl rfl rfl rfl ?_; apply Nx.of; (first | exact S.assign | exact S.load1c rfl rfl rfl rfl | exact S.loadNc rfl rfl rfl rfl | exact S.fieldAddr rfl rfl rfl | exact S.box | exact S.alloc rfl | exact S.nilCheck)) | (refine RT.goK0 rfl rfl rfl ?_; apply Nx.of; (first | exact S.store rfl rfl rfl rfl rfl rfl | exact S.store rfl rfl (bk_one h1 h2) rfl rfl rfl)))
  refine Tr.wk (by (refine Wk.same (by decide) (by decide) (by decide) (by decide) ?_ ?_ rfl; all_goals ((try simp only [allL, allM]); (repeat' (first | exact trivial | refine And.intro ?_ ?_)); all_goals (first | rfl | exact ren_ro _ _ _ | exact bkn_ren h1 (nm_lt (by decide)) | exact ren_mapA _ _ _ | exact pbc_ren h1 h2 (nm_lt (by decide)) (nm_lt (by decide)) (nm_lt (by decide)) | decide))) : Wk 0 4 5 _ (stL Try.f82.ntmps [] [(1, .ptr 5 0), (2, .nils), (3, .ptr 6 0)] ((6, some (.cells (bk (ncB B) a1 .nils).cells)) :: (5, some (.cells [.ptr 3 0])) :: [(0, some (oSt B)), (1, some (oCk B)), (2, some (oCk (ncB B))), (3, some (.cells (pbC B a1 a2 4))), (4, some (oMap B L0))]) 7)) ?_
  refine Tr.openK un82_3 (by kernel_rfl) (by kernel_rfl) (pinX 105 [.ptr 3 0, .int .i64 (1 * 2 ^ B.nc - 1)] ((6, some (.cells (bk (ncB B) a1 .nils).cells)) :: (5, some (.cells [.ptr 3 0])) :: [(0, some (oSt B)), (1, some (oCk B)), (2, some (oCk (ncB B))), (3, some (.cells (pbC B a1 a2 4))), (4, some (oMap B L0))]) 7 (fuV 7 L1) (grM 7 L1 ++ ((6, some (.cells (bk (ncB B) a1 .nils).cells)) :: (5, some (.cells [.ptr 3 0])) :: [(0, some (oSt B)), (1, some (oCk B)), (2, some (oCk (ncB B))), (3, some (.cells (pbC B a1 a2 4))), (4, some (oMap B L0))])) 8) (pinX_calm (fun fl => hL1 ▸ numbers_at (q := 4) ⟨h1, h2, rfl, rfl, rfl, by decide, by decide, by decide⟩ (fun x o hx => by have := lookM_mem hx; simp at this; omega) hnc _ fl) (fun fl => gr_good _)) ?_
  repeat' (first | (refine RD.free rfl rfl rfl rfl rfl rfl ?_; apply Nx.of; (first | exact S.fieldAddr rfl rfl rfl | exact S.sub (by unfold In64; omega) | exact S.nilCheck | exact S.shl (by omega) hs64 | exact S.len_sl rfl rfl rfl (by assumption))) | (refine RD.new rfl rfl rfl rfl rfl rfl ?_; apply Nx.of; (first | exact S.alloc rfl)) | (refine RD.load rfl rfl rfl rfl rfl rfl rfl rfl ?_; apply Nx.of; (first | exact S.load1c rfl rfl rfl rfl)) | (refine RD.store rfl rfl rfl rfl rfl rfl rfl ?_; apply Nx.of; (first | exact S.storeF rfl rfl rfl rfl)) | (refine RD.callX rfl rfl rfl rfl rfl rfl rfl rfl rfl (fun fl' => pinX_at _ _ _ _ _ _ _ fl') (fun k => by cases k) ?_) | refine RD.nil ⟨Nat.le_of_ble_eq_true rfl, ?_⟩)
  refine sq_n ?_
  refine Tr.wk (?_ : Wk 0 4 5 _ (stL Try.f82.ntmps [] [(1, .ptr 5 0), (2, .nils), (3, .ptr 6 0), (4, .ptr 8 0)] ((8, some (.cells [fuV 7 L1])) :: ((6, some (.cells (bk (ncB B) a1 .nils).cells)) :: (5, some (.cells [.ptr 3 0])) :: [(0, some (oSt B)), (1, some (oCk B)), (2, some (oCk (ncB B))), (3, some (.cells (pbC B a1 a2 4))), (4, some (oMap B L0))]) ++ grM 7 L1) 9)) ?_
  · cases L1 with
    | nil =>
      show Wk 0 4 5 _ (stL _ [] _ ((8, some (.cells [.nils])) :: ((6, some (.cells (bk (ncB B) a1 .nils).cells)) :: (5, some (.cells [.ptr 3 0])) :: [(0, some (oSt B)), (1, some (oCk B)), (2, some (oCk (ncB B))), (3, some (.cells (pbC B a1 a2 4))), (4, some (oMap B L0))])) 9)
      (refine Wk.same (by decide) (by decide) (by decide) (by decide) ?_ ?_ rfl; all_goals ((try simp only [allL, allM]); (repeat' (first | exact trivial | refine And.intro ?_ ?_)); all_goals (first | rfl | exact ren_ro _ _ _ | exact bkn_ren h1 (nm_lt (by decide)) | exact ren_mapA _ _ _ | exact pbc_ren h1 h2 (nm_lt (by decide)) (nm_lt (by decide)) (nm_lt (by decide)) | decide)))
    | cons a r =>
      show Wk 0 4 5 _ (stL _ [] _ [(8, some (.cells [.sl 7 0 (a :: r).length (a :: r).length])), (6, some (.cells (bk (ncB B) a1 .nils).cells)), (5, some (.cells [.ptr 3 0])), (0, some (oSt B)), (1, some (oCk B)), (2, some (oCk (ncB B))), (3, some (.cells (pbC B a1 a2 4))), (4, some (oMap B L0)), (7, some (.grown (natV (a :: r)) 1))] 9)
      (refine Wk.same (by decide) (by decide) (by decide) (by decide) ?_ ?_ rfl; all_goals ((try simp only [allL, allM]); (repeat' (first | exact trivial | refine And.intro ?_ ?_)); all_goals (first | rfl | exact ren_ro _ _ _ | exact bkn_ren h1 (nm_lt (by decide)) | exact ren_mapA _ _ _ | exact pbc_ren h1 h2 (nm_lt (by decide)) (nm_lt (by decide)) (nm_lt (by decide)) | exact natV_ren _ _ _ | decide)))
  have lowm : ∀ x o, lookM ((8, some (.cells [fuV 7 L1])) :: ((6, some (.cells (bk (ncB B) a1 .nils).cells)) :: (5, some (.cells [.ptr 3 0])) :: [(0, some (oSt B)), (1, some (oCk B)), (2, some (oCk (ncB B))), (3, some (.cells (pbC B a1 a2 4))), (4, some (oMap B L0))]) ++ grM 7 L1) x = some o → x < 9 := fun x o hx => by
    have := lookM_mem hx
    cases L1 <;> simp [grM] at this <;> omega
  repeat' (first | refine RT.nil ?_ | refine sq_n ?_ | refine Tr.seq ?_ | refine Tr.region ?_ | refine Tr.block ?_ | (refine RT.call rfl rfl rfl (prepare_z (z := 2) (by decide) (B := ncB B) h1 rfl (by decide) rfl rfl lowm _) rfl rfl (by decide) ?_) | (refine RT.goK rfl rfl rfl rfl ?_; apply Nx.of; (first | exact S.loadNc rfl rfl rfl rfl | exact S.makeFunc)))
  refine Tr.rangeR (T := [0, 2, 10, 11]) (NC := [8, 5, 0, 1, 3, 4, 12] ++ (grM 7 L1).map (fun e => e.1)) (s0 := (false, L1, L0)) (M := fwM B a1 a2) (ok := anyT) (stp := fwS B) (room := fun _ _ => True) (hroom := fun _ _ _ _ _ => trivial) (lC := [(1, .ptr 5 0), (4, .ptr 8 0)]) (memT := [(0, some (oSt B)), (2, some (oCk (ncB B))), (11, some (.cells (pbC (ncB B) a1 .nils 10))), (10, some (oMap (ncB B) []))]) (flT := 4) (flC := 4) (cc := 15) (R := fun v m' s' => (∃ L', m' = (10, some (oMap (ncB B) L')) :: [(0, some (oSt B)), (2, some (oCk (ncB B))), (11, some (.cells (pbC (ncB B) a1 .nils 10))), (10, some (oMap (ncB B) []))]) ∧ s' = foldS (fwS B) ((false, L1, L0), none) (Ws (ncB B))) rfl rfl (by decide) (by decide) (by decide) (by decide) (by decide) (by decide) ?_ ?_ rfl ?_ ?_ ?_ (by simp) ?_ ?_ ?_ ?_ ?_
  · exact ⟨⟨by decide, rfl, ren_ro _ _ _⟩, ⟨by decide, rfl, ren_ro _ _ _⟩, ⟨by decide, rfl, by simp only [pbC, AObj.ren, AV.ren, AV.rens, h1.ren (σ := keepN [0, 2, 10, 11] 12) rfl]; rfl⟩, ⟨by decide, rfl, ren_mapA _ _ _⟩, trivial⟩
  · intro x hx
    simp only [List.mem_cons, List.not_mem_nil, or_false] at hx
    rcases hx with rfl | rfl | rfl | rfl
    all_goals exact ⟨by omega, _, rfl, fun h => by first | rfl | (exfalso; omega)⟩
  · exact ⟨⟨rfl, rfl⟩, ⟨rfl, rfl⟩, trivial⟩
  · cases L1 with
    | nil => exact ⟨⟨by simp, .inr ⟨rfl, by decide⟩, rfl⟩, ⟨by simp, .inr ⟨rfl, by decide⟩, rfl⟩, ⟨by simp, .inr ⟨rfl, by decide⟩, ren_ro _ _ _⟩, ⟨by simp, .inr ⟨rfl, by decide⟩, ren_ro _ _ _⟩, ⟨by simp, .inr ⟨rfl, by decide⟩, pbc_ren h1 h2 rfl rfl rfl⟩, ⟨by simp, .inr ⟨rfl, by decide⟩, ren_mapA _ _ _⟩, ⟨by simp, .inl ⟨rfl, rfl⟩, rfl⟩, trivial⟩
    | cons a r => exact ⟨⟨by simp, .inr ⟨rfl, by decide⟩, rfl⟩, ⟨by simp, .inr ⟨rfl, by decide⟩, rfl⟩, ⟨by simp, .inr ⟨rfl, by decide⟩, ren_ro _ _ _⟩, ⟨by simp, .inr ⟨rfl, by decide⟩, ren_ro _ _ _⟩, ⟨by simp, .inr ⟨rfl, by decide⟩, pbc_ren h1 h2 rfl rfl rfl⟩, ⟨by simp, .inr ⟨rfl, by decide⟩, ren_mapA _ _ _⟩, ⟨by simp, .inl ⟨rfl, rfl⟩, rfl⟩, ⟨by simp [grM, fwN], .inr ⟨rfl, (show (7 : Nat) < 12 by decide)⟩, natV_ren _ _ _⟩, trivial⟩
  · intro y hy
    have hy' : y = 8 ∨ y = 5 ∨ y = 0 ∨ y = 1 ∨ y = 3 ∨ y = 4 ∨ y = 12 ∨ (y = 7 ∧ L1 ≠ []) := by
      cases L1 <;> simp [grM] at hy <;> simp <;> omega
    rcases hy' with rfl | rfl | rfl | rfl | rfl | rfl | rfl | ⟨rfl, hne⟩
    · exact .inr (.inl ⟨by omega, by omega, by decide, _, rfl, rfl⟩)
    · exact .inr (.inl ⟨by omega, by omega, by decide, _, rfl, rfl⟩)
    · exact .inr (.inr ⟨by omega, by omega, _, rfl⟩)
    · exact .inr (.inr ⟨by omega, by omega, _, rfl⟩)
    · exact .inr (.inr ⟨by omega, by omega, _, rfl⟩)
    · exact .inr (.inl ⟨by omega, by omega, by decide, _, rfl, rfl⟩)
    · exact .inl rfl
    · cases L1 with
      | nil => exact absurd rfl hne
      | cons a r => exact .inr (.inl ⟨by omega, by omega, by decide, _, rfl, rfl⟩)
  · intro s y o h
    have := lookM_mem h
    have : y ∈ [8, 5, 0, 1, 3, 4, 12] ∨ y = fwN s := by
      unfold fwM at this
      rw [List.map_append] at this
      rcases List.mem_append.1 this with k | k
      · exact .inl (by simpa using k)
      · exact .inr (grM_names k)
    intro e
    subst e
    rcases this with k | k
    · exact absurd k (by decide)
    · unfold fwN at k
      split at k <;> omega
  · refine ⟨fun s args ⟨t, h⟩ => ⟨trV t, h, fun _ => rfl⟩, fun s v ⟨t, h⟩ => ?_⟩
    cases h
    obtain ⟨bs, best, asked⟩ := s
    have hWl := numsL_len (wnS B t B.ns) B.nc
    obtain ⟨W, hW⟩ : ∃ W, numsL (wnS B t B.ns) B.nc = W := ⟨_, rfl⟩
    rw [hW] at hWl
    repeat' (first | refine RT.nil ?_ | refine Tr.region ?_ | (refine RT.goK rfl rfl rfl rfl ?_; apply Nx.of; (first | exact S.alloc rfl)) | (refine RT.goK0 rfl rfl rfl ?_; apply Nx.of; (first | exact S.store rfl rfl rfl rfl rfl rfl)))
    refine ⟨rfl, _, _, _, rfl, rfl, ?_⟩
    refine Tr.block ?_
    refine Tr.seq ?_
    refine Tr.openM (fun mm => alts [pinW 4 106 [.ptr 3 0, trV t] mm 16 (.int .i64 (wnS B t B.ns)) ((4, some (oMap B (lsS t asked B.ns))) :: mm) 16, pinX 105 [.ptr 3 0, .int .i64 (wnS B t B.ns)] ((4, some (oMap B (lsS t asked B.ns))) :: mm) 16 (fuV 16 W) (grM 16 W ++ (4, some (oMap B (lsS t asked B.ns))) :: mm) 17]) un82_6 (by kernel_rfl) (by kernel_rfl) ?_ ?_
    · refine alts_calm fun g hg => ?_
      simp only [List.mem_cons, List.not_mem_nil, or_false] at hg
      have lowr : ∀ (M0 : List (Nat × Option AObj)) x o, (∀ y ∈ M0.map (fun e => e.1), y < 16) → lookM M0 x = some o → x < 16 := fun M0 x o h k => h x (lookM_mem k)
      rcases hg with rfl | rfl
      · exact pinW_calm (fun fl hfl => wrongIn_at (p := 3) (q := 4) (L := asked) ⟨h1, h2, rfl, rfl, rfl, by decide, by decide, by decide⟩ rfl hB.2.2.1 hns t fl hfl) (fun fl hfl => Go.Ev.Good.write (getM rfl) hfl)
      · exact pinX_calm (fun fl => hW ▸ numbers_at (p := 3) (q := 4) ⟨h1, h2, rfl, rfl, rfl, by decide, by decide, by decide⟩ (fun x o hx => by
          have := lookM_mem hx
          have h14 : fwN (bs, best, asked) < 16 := by unfold fwN; split <;> omega
          simp only [fwM, List.map_cons, List.map_append, List.mem_cons, List.mem_append, List.map_nil, List.not_mem_nil, or_false, List.cons_append, List.nil_append] at this
          repeat (rcases this with this | this; · omega)
          have := grM_names this
          omega) hnc _ fl) (fun fl => gr_good _)
    · repeat' (first | (refine RD.free rfl rfl rfl rfl rfl rfl ?_; apply Nx.of; (first | exact S.assign)) | (refine RD.load rfl rfl rfl rfl rfl rfl rfl rfl ?_; apply Nx.of; (first | exact S.load1c rfl rfl rfl rfl | exact S.loadNc rfl rfl rfl rfl)) | (refine RD.callW rfl rfl rfl rfl rfl rfl rfl rfl rfl (alts_hd (pinW_at _ _ _ _ _ _ _ (by decide))) (by refine srOkX_all ?_; simp only [srOkX]; (repeat' (first | exact trivial | refine And.intro ?_ ?_)); all_goals (first | (refine ⟨_, rfl, rfl, ?_⟩; rfl))) ?_) | (refine RD.callX rfl rfl rfl rfl rfl rfl rfl rfl rfl (fun fl' => (alts_tl (pinW_ne (by decide))).trans (alts_hd (pinX_at _ _ _ _ _ _ _ fl'))) (fun _ => rfl) ?_) | refine RD.nil ⟨Nat.le_of_ble_eq_true rfl, ?_⟩)
      cases W with
      | nil =>
        repeat' (first | refine RT.nil ?_ | refine sq_n ?_ | refine Tr.seq ?_ | refine Tr.region ?_ | refine Tr.cond_d rfl (fun _ => ?_) (fun _ => ?_) | refine Tr.skip ?_ | refine blk_n ?_ | (refine RT.call rfl rfl rfl (cmpLists_at (x := 16) (y := fwN (bs, best, asked)) (z := 8) (q := best) (by omega) (by first | exact .inl rfl) (by cases best with | nil => exact .inl rfl | cons a r => cases bs <;> exact .inr rfl) ⟨_, rfl⟩ _ _) rfl rfl (Nat.le_refl _) ?_) | (refine RT.goK rfl rfl rfl rfl ?_; apply Nx.of; (first | exact S.move | exact S.load1c rfl rfl rfl rfl | exact S.lss)) | (refine RT.goK0 rfl rfl rfl ?_; apply Nx.of; (first | exact S.store rfl rfl rfl rfl rfl rfl)))
        · refine ⟨rfl, ?_⟩
          exact fw_end (s' := (true, [], lsS t asked B.ns)) (fwS_yes hW (by assumption)) (fw_wk h1 h2 (s := (true, [], lsS t asked B.ns)) (z := 16) (.inr ⟨rfl, rfl⟩) (by decide) (by decide) (fun σ e5 e8 e12 => lpO_ren ⟨by show AV.ptr (σ 5) 0 = _; rw [e5], by show AV.ptr (σ 8) 0 = _; rw [e8], trivial⟩ e12) rfl rfl (fun h => absurd rfl h) rfl rfl rfl rfl rfl rfl)
        · refine ⟨rfl, ?_⟩
          exact fw_end (s' := (bs, best, lsS t asked B.ns)) (fwS_no hW (by assumption)) (fw_wk h1 h2 (s := (bs, best, lsS t asked B.ns)) (z := fwN (bs, best, asked)) (.inl ⟨rfl, by unfold fwN; split <;> omega⟩) (by decide) (by decide) (fun σ e5 e8 e12 => lpO_ren ⟨by show AV.ptr (σ 5) 0 = _; rw [e5], by show AV.ptr (σ 8) 0 = _; rw [e8], trivial⟩ e12) rfl rfl (fun h => by cases best with | nil => exact absurd rfl h | cons a r => cases bs <;> rfl) rfl rfl rfl rfl rfl rfl)
      | cons a r =>
        repeat' (first | refine RT.nil ?_ | refine sq_n ?_ | refine Tr.seq ?_ | refine Tr.region ?_ | refine Tr.cond_d rfl (fun _ => ?_) (fun _ => ?_) | refine Tr.skip ?_ | refine blk_n ?_ | (refine RT.call rfl rfl rfl (cmpLists_at (x := 16) (y := fwN (bs, best, asked)) (z := 8) (q := best) (by omega) (by first | exact .inr rfl) (by cases best with | nil => exact .inl rfl | cons a r => cases bs <;> exact .inr rfl) ⟨_, rfl⟩ _ _) rfl rfl (Nat.le_refl _) ?_) | (refine RT.goK rfl rfl rfl rfl ?_; apply Nx.of; (first | exact S.move | exact S.load1c rfl rfl rfl rfl | exact S.lss)) | (refine RT.goK0 rfl rfl rfl ?_; apply Nx.of; (first | exact S.store rfl rfl rfl rfl rfl rfl)))
        · refine ⟨rfl, ?_⟩
          exact fw_end (s' := (true, a :: r, lsS t asked B.ns)) (fwS_yes hW (by assumption)) (fw_wk h1 h2 (s := (true, a :: r, lsS t asked B.ns)) (z := 16) (.inr ⟨rfl, rfl⟩) (by decide) (by decide) (fun σ e5 e8 e12 => lpO_ren ⟨by show AV.ptr (σ 5) 0 = _; rw [e5], by show AV.ptr (σ 8) 0 = _; rw [e8], trivial⟩ e12) rfl rfl (fun _ => rfl) rfl rfl rfl rfl rfl rfl)
        · refine ⟨rfl, ?_⟩
          exact fw_end (s' := (bs, best, lsS t asked B.ns)) (fwS_no hW (by assumption)) (fw_wk h1 h2 (s := (bs, best, lsS t asked B.ns)) (z := fwN (bs, best, asked)) (.inl ⟨rfl, by unfold fwN; split <;> omega⟩) (by decide) (by decide) (fun σ e5 e8 e12 => lpO_ren ⟨by show AV.ptr (σ 5) 0 = _; rw [e5], by show AV.ptr (σ 8) 0 = _; rw [e8], trivial⟩ e12) rfl rfl (fun h => by cases best with | nil => exact absurd rfl h | cons a r => cases bs <;> rfl) rfl rfl rfl rfl rfl rfl)
  · intro ρ0 lb h hY
    refine OkJ.mono (truths_z (z := 2) (by decide) (B := ncB B) ⟨h1, rfl, rfl, rfl, rfl, by decide, by decide, by decide⟩ rfl rfl (ncB_ok hB).1 hB.2.1 (ncB_ok hB).2.2.1 hY (fun k s t hl => ⟨hl.1, t, rfl⟩) ?_ 4 (by decide)) ?_
    · exact ⟨rfl, trivial⟩
    rintro v m' s' ⟨ob, ⟨L', hv, hs, hob⟩, hm⟩
    subst hob hm
    exact ⟨⟨L', rfl⟩, by rw [hs, foldC_rnd]⟩
  · rintro v m' s' ⟨⟨L', rfl⟩, _⟩
    rfl
  · rintro v m' s' j ⟨⟨L', rfl⟩, hs⟩
    obtain rfl : j = none := by
      have := foldS_all (fun s a => rfl) (Ws (ncB B)) (false, L1, L0) (stp := fwS B)
      rw [← hs] at this
      exact this
    show blk _ _ _ _
    repeat' (first | refine RT.nil ?_ | refine sq_n ?_ | refine Tr.seq ?_ | refine Tr.region ?_ | refine Tr.ret ?_ | refine blk_n ?_ | (refine RT.goK rfl rfl rfl rfl ?_; apply Nx.of; (first | exact S.assign | exact S.load1c rfl rfl rfl rfl)))
    refine rt_goD rfl rfl rfl ?_
    have hE : fwE B L0 = s' := by
      unfold fwE
      rw [hL1, ← hs]
    rw [hE]
    refine ⟨rfl, rfl, fun h => ?_⟩
    obtain ⟨bs, best, asked⟩ := s'
    cases best with
    | nil => exact absurd rfl h
    | cons a r => cases bs <;> exact getM rfl
end Go.Proofs.Ytlnmcadbmpiopaa
/- Package claim: Wrong. -/
namespace Go.Proofs.Ytlnmcadbmpiopaa
open Go Go.Ev
theorem fewest_at {B : CBook} {a1 a2 : AV} {z p q : Nat} {m : List (Nat × Option AObj)} {c : Nat} {L0 : List (Int × Int)} (h : PbIn B a1 a2 p q m c) (hz : lookM m z = some (oCk (ncB B))) (hz2 : z ≠ 0 ∧ z ≠ 1 ∧ z < c) (hq : lookM m q = some (oMap B L0)) (hm : ∀ x o, lookM m x = some o → x < c) (hB : bkOk B) (fl : Nat) (hfl : fl ≤ q) :
    OkAt 0 Try.prog fl 82 [.ptr p 0] (ofM m) c (fuV (c + (fwN (fwE B L0) - 5)) (fwE B L0).2.1) (ofM (grM (c + (fwN (fwE B L0) - 5)) (fwE B L0).2.1 ++ (q, none) :: m)) (c + 10) := by
  let τ : Nat → Nat := fun y => if y = 0 then 0 else if y = 1 then 1 else if y = 2 then z else if y = 3 then p else if y = 4 then q else c + (y - 5)
  have hc := h.hc
  have hp := h.hp
  have hqc := h.hq
  have t0 : τ 0 = 0 := rfl
  have t1 : τ 1 = 1 := rfl
  have t2 : τ 2 = z := rfl
  have t3 : τ 3 = p := rfl
  have t4 : τ 4 = q := rfl
  have ha : AV.rens τ [.ptr 3 0] = [.ptr p 0] := rfl
  have low : ∀ {u : Nat} {ob : AObj}, lookM [(0, some (oSt B)), (1, some (oCk B)), (2, some (oCk (ncB B))), (3, some (.cells (pbC B a1 a2 4))), (4, some (oMap B L0))] u = some ob → u = 0 ∨ u = 1 ∨ u = 2 ∨ u = 3 ∨ u = 4 := fun {u ob} hu => by
    have := lookM_mem hu
    simpa using this
  have hobj : ∀ u o, lookM [(0, some (oSt B)), (1, some (oCk B)), (2, some (oCk (ncB B))), (3, some (.cells (pbC B a1 a2 4))), (4, some (oMap B L0))] u = some o → lookM m (τ u) = some (o.ren τ) := fun u o hu => by
    rcases low hu with rfl | rfl | rfl | rfl | rfl
    · cases hu; rw [t0, ren_ro]; exact h.m1
    · cases hu; rw [t1, ren_ro]; exact h.m2
    · cases hu; rw [t2, ren_ro]; exact hz
    · cases hu
      have : (AObj.cells (pbC B a1 a2 4)).ren τ = .cells (pbC B a1 a2 q) := by simp only [pbC, AObj.ren, AV.ren, AV.rens, h.h1.ren t0, h.h2.ren t1, t4]
      rw [t3, this]; exact h.m3
    · cases hu; rw [t4, ren_mapA]; exact hq
  have hN : fwN (fwE B L0) = 7 ∨ fwN (fwE B L0) = 14 := by unfold fwN; split <;> simp
  rw [← ha]
  refine CanS.inst (fewest_can B a1 a2 h.h1 h.h2 hB L0) (Nat.zero_le _) (by decide) τ (fun g hg => by omega) (fun y hy => by simp only [τ]; (repeat' split) <;> omega) (fun y hy => by simp only [τ]; rw [if_neg (by omega), if_neg (by omega), if_neg (by omega), if_neg (by omega), if_neg (by omega)]) (fun y o hy => getM (hobj y o hy)) (fun x y o o' hx hy hxy => .inl fun e => ?_) (fun y hy hy' => ?_) (fun v1 H1 c1 hk _ => ?_)
  · have g1 := hobj x o hx
    have g2 := hobj y o' hy
    rw [e] at g1
    rw [g1] at g2
    rcases low hx with rfl | rfl | rfl | rfl | rfl <;> rcases low hy with rfl | rfl | rfl | rfl | rfl <;> first | exact absurd rfl hxy | exact absurd (show (0 : Nat) = 1 from e) (by decide) | exact absurd (show (1 : Nat) = 0 from e) (by decide) | exact absurd (show 0 = z from e) (fun k => hz2.1 k.symm) | exact absurd (show z = 0 from e) hz2.1 | exact absurd (show 1 = z from e) (fun k => hz2.2.1 k.symm) | exact absurd (show z = 1 from e) hz2.2.1 | (cases hx; cases hy; simp [AObj.ren, AV.rens, AV.ren, pbC, oSt, oCk] at g2)
  · obtain rfl : y = 4 := by omega
    exact ⟨hfl, _, rfl, rfl⟩
  · obtain ⟨rfl, rfl, g1⟩ := hk
    have tN : τ (fwN (fwE B L0)) = c + (fwN (fwE B L0) - 5) := by simp only [τ]; rw [if_neg (by omega), if_neg (by omega), if_neg (by omega), if_neg (by omega), if_neg (by omega)]
    refine ⟨fu_ren τ tN _, by omega, fun x o hx => ?_⟩
    have old : ∀ {x : Nat} {o : AObj}, (ofM ((q, none) :: m)).get x = some o → (x < c ∧ (∀ y, 4 ≤ y → y < 5 → x ≠ τ y) ∧ (ofM m).get x = some o) := fun {x o} hx => by
      obtain ⟨e1, e2⟩ := del_get hx
      have e3 : lookM m x = some o := by rw [← ofM_get]; exact e2
      exact ⟨hm x o e3, fun y hy hy' => (show y = 4 by omega) ▸ e1, e2⟩
    generalize (fwE B L0).2.1 = L at g1 hx
    cases L with
    | nil => exact .inl (old hx)
    | cons a r =>
      by_cases e1 : x = c + (fwN (fwE B L0) - 5)
      · rw [ofM_get] at hx
        replace hx : lookM ((c + (fwN (fwE B L0) - 5), some (.grown (natV (a :: r)) 1)) :: (q, none) :: m) x = some o := hx
        subst e1
        rw [lookM_hd] at hx
        cases hx
        exact .inr ⟨fwN (fwE B L0), _, by omega, g1 (by simp), tN.symm, (natV_ren _ _ _).symm⟩
      · refine .inl (old ?_)
        rw [ofM_get] at hx ⊢
        replace hx : lookM ((c + (fwN (fwE B L0) - 5), some (.grown (natV (a :: r)) 1)) :: (q, none) :: m) x = some o := hx
        rwa [lookM_tl e1] at hx
noncomputable def wrongL (B : CBook) : List Nat := (fwE B []).2.1
set_option maxRecDepth 100000 in
set_option maxHeartbeats 4000000 in
theorem Wrong_yes (B : CBook) (a1 a2 : AV) (h1 : IsSl a1 B.ns 0) (h2 : IsSl a2 B.nc 1) (hn : B.ns ≤ 9223372036854775807) (hB : bkOk B) : CanS 0 Try.prog 32 3 [bk B a1 a2] [(0, some (oSt B)), (1, some (oCk B)), (2, some (oCk (ncB B)))] 3 fun v H1 c1 => c1 = 17 ∧ v = .tup [fuV (7 + (fwN (fwE B []) - 5)) (wrongL B), .int .i64 0] ∧ (wrongL B ≠ [] → H1.get (7 + (fwN (fwE B []) - 5)) = some (.grown (natV (wrongL B)) 1)) := by
  refine CanS.mk Try.func32 rfl rfl rfl ?_
  repeat' (first | refine RT.nil ?_ | refine sq_n ?_ | refine Tr.seq ?_ | refine Tr.region ?_ | refine Tr.cond_f rfl ?_ | refine Tr.skip ?_ | refine Tr.ret ?_ | (refine RT.call rfl rfl rfl (Check_ok ⟨h1, h2, rfl, rfl, by decide⟩ hn hB _) rfl rfl (Nat.le_refl _) ?_) | (refine RT.call rfl rfl rfl (prepare_at ⟨h1, h2, rfl, rfl, by decide⟩ (fun x o hx => by have := lookM_mem hx; simp at this; omega) _) rfl rfl (by decide) ?_) | (refine RT.call rfl rfl rfl (fewest_at (z := 2) (p := 6) (q := 5) (L0 := []) ⟨h1, h2, rfl, rfl, rfl, by decide, by decide, by decide⟩ rfl (by decide) rfl (fun x o hx => by have := lookM_mem hx; simp at this; omega) hB _ (by decide)) rfl rfl (by decide) ?_) | (refine RT.goK rfl rfl rfl rfl ?_; apply Nx.of; (first | exact S.neq_f (by decide))) | (refine RT.goK rfl rfl rfl rfl ?_; apply Nx.of; (first | exact S.move | exact S.assign | exact S.loadNc rfl rfl rfl rfl | exact S.box)))
  (first | refine rt_go rfl ?_)
  refine ⟨rfl, rfl, fun hne => getM ?_⟩
  show lookM (grM (7 + (fwN (fwE B []) - 5)) (wrongL B) ++ _) _ = _
  generalize wrongL B = L at hne
  cases L with
  | nil => exact absurd rfl hne
  | cons a r => exact lookM_hd
set_option maxRecDepth 100000 in
theorem Wrong_no (B : CBook) (a1 a2 : AV) (h1 : IsSl a1 B.ns 0) (h2 : IsSl a2 B.nc 1) (hn : B.ns ≤ 9223372036854775807) (hB : ¬ bkOk B) : CanS 0 Try.prog 32 3 [bk B a1 a2] [(0, some (oSt B)), (1, some (oCk B)), (2, some (oCk (ncB B)))] 3 fun v _ _ => v = .tup [.nils, .int .i64 60] := by
  refine CanS.mk Try.func32 rfl rfl rfl ?_
  repeat' (first | refine RT.nil ?_ | refine sq_n ?_ | refine Tr.seq ?_ | refine Tr.region ?_ | refine Tr.cond_t rfl ?_ | refine Tr.ret ?_ | refine sq_r ?_ | (refine RT.call rfl rfl rfl (Check_no ⟨h1, h2, rfl, rfl, by decide⟩ hn hB _) rfl rfl (Nat.le_refl _) ?_) | (refine RT.goK rfl rfl rfl rfl ?_; apply Nx.of; (first | exact S.neq_t (by decide))) | (refine RT.goK rfl rfl rfl rfl ?_; apply Nx.of; (first | exact S.move | exact S.assign | exact S.loadNc rfl rfl rfl rfl | exact S.box)))
  (first | refine rt_go rfl ?_)
  rfl
end Go.Proofs.Ytlnmcadbmpiopaa
