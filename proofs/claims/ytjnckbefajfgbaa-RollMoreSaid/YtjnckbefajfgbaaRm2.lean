/- Texts of one kind, one behind the other: SyH, SyI, SyJ, SyK, SyL, SyM, SyN, SyO, SyP, SyQ, SyR, SyS, SyU, SyV, SyX. -/
import Derived.Test.YtjnckbefajfgbaaRm1
import Derived.Test.YtjnckbefajfgbaaRmT
import Derived.Below
import Derived.Deep.Slices
import Derived.Deep.Strs
import Derived.ChangeSame
import Derived.OpenShut
import Derived.Handed
set_option linter.unusedVariables false
set_option linter.unusedSimpArgs false
/- What functions return; equality of structs; append. -/
namespace Go.Ev
open Go

section
variable {G : Nat} {P : Program} {fl cb c c' : Nat} {m m' : List (Nat × Option AObj)} {l : List (Nat × AV)} {n : Nat} {dfs : List Nat} {y z : Ty} {t yt : Nat} {x1 x2 x3 : Operand} {a b : Int} {v : AV} {Qf : AV → T AObj → Nat → Prop}

/-- One result, as it lies at a function's end. -/
def resL (P : Program) [Tab P] (l : List (Nat × AV)) (m : List (Nat × Option AObj)) : ResultVar → Option AV
  | .tmp t => look l t
  | .cell a t => match look l a, ty P t with
    | some (.ptr x off), some y => match lookM m x with
      | some o => match cellsOf o with
        | some cs => bif y.agg then (match cut cs off y.size with | some u => some (.agg u) | none => none) else cs[off]?
        | none => none
      | none => none
    | _, _ => none

theorem resL_ok [Tab P] {rv : ResultVar} (h : resL P l m rv = some v) : resultA P (ofL l) (ofM m) rv = some v := by
  cases rv with
  | tmp t => simp only [resL] at h; simp only [resultA, ofL_get, h]
  | cell a t =>
    simp only [resL] at h
    split at h
    · rename_i x off yy h1 h2
      split at h
      · rename_i o h3
        split at h
        · rename_i cs h4
          have h5 := ty_agg h2
          simp only [resultA, ofL_get, h1, loadA, ofM_get, h3, h4, Option.bind_some, partA, h5]
          cases hg : yy.agg with
          | true =>
            rw [hg] at h
            simp only [cond_true] at h
            simp only [ty_size h2]
            split at h
            · rename_i u hu; rw [hu]; simpa using h
            · cases h
          | false =>
            rw [hg] at h
            simpa using h
        · cases h
      · cases h
    · cases h

def ressL (P : Program) [Tab P] (l : List (Nat × AV)) (m : List (Nat × Option AObj)) : List ResultVar → Option (List AV)
  | [] => some []
  | r :: rs => match resL P l m r with
    | some v => match ressL P l m rs with
      | some vs => some (v :: vs)
      | none => none
    | none => none
theorem ressL_ok [Tab P] : ∀ {rs : List ResultVar} {vs : List AV}, ressL P l m rs = some vs → rs.mapM (resultA P (ofL l) (ofM m)) = some vs
  | [], vs, h => by simp only [ressL, Option.some.injEq] at h; subst h; rfl
  | r :: rs, vs, h => by
    simp only [ressL] at h
    split at h
    · rename_i v0 h0
      split at h
      · rename_i vs' h1
        simp only [Option.some.injEq] at h
        subst h
        simp only [List.mapM_cons, resL_ok h0, ressL_ok h1, Option.bind_eq_bind, Option.bind_some, Option.pure_def]
      · cases h
    · cases h

/-- What a list of results is, as one value. -/
def retV : List AV → AV
  | [v] => v
  | vs => .tup vs

theorem rt_go [Tab P] {rs : List ResultVar} {vs : List AV} (h : ressL P l m rs = some vs) (hq : Qf (retV vs) (ofM m) c) : rtQ P fl rs Qf .ret (stL n [] l m c) := by
  refine ⟨⟨ofM m, retV vs, rfl, ?_, hq⟩⟩
  show resultsA P (ofL l) (ofM m) rs = _
  have := ressL_ok h
  unfold resultsA
  rw [this]
  cases vs with
  | nil => rfl
  | cons v vs => cases vs <;> rfl
theorem rt_gon [Tab P] {rs : List ResultVar} {vs : List AV} (h : ressL P l m rs = some vs) (hq : Qf (retV vs) (ofM m) c) : rtQ P fl rs Qf .normal (stL n [] l m c) := ⟨(rt_go (fl := fl) (n := n) h hq).go⟩

theorem S.eqlA {l1 l2 : List AV} {q : Bool} (h : eqA P t (.agg l1) (.agg l2) = some q) : OpE P fl (.binOp .eql t x1 x2 yt) [.agg l1, .agg l2] m c (.bool q) m c := by
  refine ⟨rfl, Nat.le_refl _, ?_⟩
  show opt1 ((eqA P t (.agg l1) (.agg l2)).map .bool) (ofM m) c = _
  rw [h]; rfl
theorem andV2 {p q : Prop} [Decidable p] [Decidable q] : andV (some (decide p)) (some (decide q)) = some (decide (p ∧ q)) := by by_cases h1 : p <;> by_cases h2 : q <;> simp [andV, h1, h2]
theorem andV1 {p : Prop} [Decidable p] : andV (some (decide p)) (some true) = some (decide p) := by by_cases h1 : p <;> simp [andV, h1]

theorem S.index_arrI [Tab P] {i : Int} {cs : List AV} (hy : ty P t = some y) (hk : y.kind = 4) (hz : ty P y.elem = some z) (hg : z.agg = false) (h0 : 0 ≤ i) (hi : i < y.len) (hv : cs[i.toNat * z.size]? = some v) : OpE P fl (.index t x1 x2) [.agg cs, .int .i64 i] m c v m c := by
  obtain ⟨j, rfl⟩ : ∃ j : Nat, i = j := ⟨i.toNat, by omega⟩
  exact S.index_arr hy hk hz hg (by omega) hv
theorem S.idx_arrI [Tab P] {i : Int} {x off : Nat} (hy : ty P t = some y) (hk : y.kind = 4) (hz : ty P y.elem = some z) (h0 : 0 ≤ i) (hi : i < y.len) : OpE P fl (.indexAddr t x1 x2) [.ptr x off, .int .i64 i] m c (.ptr x (off + i.toNat * z.size)) m c := by
  obtain ⟨j, rfl⟩ : ∃ j : Nat, i = j := ⟨i.toNat, by omega⟩
  exact S.idx_arr hy hk hz (by omega)
theorem S.lss_t (h : a < b) : OpE P fl (.binOp .lss t x1 x2 yt) [.int .i64 a, .int .i64 b] m c (.bool true) m c := by have := S.lss (P := P) (fl := fl) (m := m) (c := c) (t := t) (yt := yt) (x1 := x1) (x2 := x2) (a := a) (b := b); rwa [decide_eq_true h] at this
theorem S.lss_f (h : ¬ a < b) : OpE P fl (.binOp .lss t x1 x2 yt) [.int .i64 a, .int .i64 b] m c (.bool false) m c := by have := S.lss (P := P) (fl := fl) (m := m) (c := c) (t := t) (yt := yt) (x1 := x1) (x2 := x2) (a := a) (b := b); rwa [decide_eq_false h] at this
theorem S.leq_t (h : a ≤ b) : OpE P fl (.binOp .leq t x1 x2 yt) [.int .i64 a, .int .i64 b] m c (.bool true) m c := by have := S.leq (P := P) (fl := fl) (m := m) (c := c) (t := t) (yt := yt) (x1 := x1) (x2 := x2) (a := a) (b := b); rwa [decide_eq_true h] at this
theorem S.leq_f (h : ¬ a ≤ b) : OpE P fl (.binOp .leq t x1 x2 yt) [.int .i64 a, .int .i64 b] m c (.bool false) m c := by have := S.leq (P := P) (fl := fl) (m := m) (c := c) (t := t) (yt := yt) (x1 := x1) (x2 := x2) (a := a) (b := b); rwa [decide_eq_false h] at this
theorem S.eql_t (h : a = b) : OpE P fl (.binOp .eql t x1 x2 yt) [.int .i64 a, .int .i64 b] m c (.bool true) m c := by have := S.eql (P := P) (fl := fl) (m := m) (c := c) (t := t) (yt := yt) (x1 := x1) (x2 := x2) (a := a) (b := b); rwa [decide_eq_true h] at this
theorem S.eql_f (h : ¬ a = b) : OpE P fl (.binOp .eql t x1 x2 yt) [.int .i64 a, .int .i64 b] m c (.bool false) m c := by have := S.eql (P := P) (fl := fl) (m := m) (c := c) (t := t) (yt := yt) (x1 := x1) (x2 := x2) (a := a) (b := b); rwa [decide_eq_false h] at this
theorem S.neq_t (h : ¬ a = b) : OpE P fl (.binOp .neq t x1 x2 yt) [.int .i64 a, .int .i64 b] m c (.bool true) m c := by have := S.neq (P := P) (fl := fl) (m := m) (c := c) (t := t) (yt := yt) (x1 := x1) (x2 := x2) (a := a) (b := b); rwa [decide_eq_true (show a ≠ b from h)] at this
theorem S.neq_f (h : a = b) : OpE P fl (.binOp .neq t x1 x2 yt) [.int .i64 a, .int .i64 b] m c (.bool false) m c := by have := S.neq (P := P) (fl := fl) (m := m) (c := c) (t := t) (yt := yt) (x1 := x1) (x2 := x2) (a := a) (b := b); rwa [decide_eq_false (show ¬ a ≠ b from fun k => k h)] at this

/-- A question's answer. -/
noncomputable def dB (p : Prop) : Bool := @decide p (Classical.propDecidable p)
theorem dB_no {p : Prop} (h : ¬ p) : AV.bool false = .bool (dB p) := bool_no h
theorem dB_yes {p : Prop} (h : p) : AV.bool true = .bool (dB p) := bool_yes h
theorem dB_iff {p q : Prop} {inst : Decidable p} (h : p ↔ q) : AV.bool (@decide p inst) = .bool (dB q) := by
  by_cases hp : p
  · rw [decide_eq_true hp]; exact dB_yes (h.1 hp)
  · rw [decide_eq_false hp]; exact dB_no fun hq => hp (h.2 hq)

/-! append -/
theorem flat_append {τ : Type} (enc : τ → List Int) (L L' : List τ) : flat enc (L ++ L') = flat enc L ++ flat enc L' := by simp [flat]
theorem flat_one {τ : Type} (enc : τ → List Int) (e : τ) : flat enc [e] = (enc e).map (AV.int .i64) := by simp [flat]
theorem flat_len {τ : Type} {enc : τ → List Int} {s : Nat} (hs : ∀ e, (enc e).length = s) : ∀ L : List τ, (flat enc L).length = L.length * s
  | [] => by simp [flat]
  | e :: L => by
    have h : flat enc (e :: L) = (enc e).map (AV.int .i64) ++ flat enc L := by simp [flat]
    rw [h, List.length_append, List.length_map, hs, flat_len hs L, List.length_cons, Nat.succ_mul]; omega
end
end Go.Ev

/- Entries under other names; maps; heavy operations of open regions. -/
namespace Go.Ev
open Go

/-- Names by a list: the callee's name y is the caller's name xs[y]. -/
def tau (xs : List Nat) (c y : Nat) : Nat := match xs[y]? with
  | some x => x
  | none => c + (y - xs.length)
theorem tau_ge {xs : List Nat} {c y : Nat} (h : xs.length ≤ y) : tau xs c y = c + (y - xs.length) := by
  unfold tau; rw [List.getElem?_eq_none_iff.2 h]
section
variable {G : Nat} {P : Program} {fl cb c c' : Nat} {m m' : List (Nat × Option AObj)} {l : List (Nat × AV)} {n : Nat} {dfs : List Nat} {y z : Ty} {t : Nat} {x1 x2 x3 : Operand} {v : AV}

theorem Entry.ren {H : T AObj} {m0 : List (Nat × Option AObj)} {c0 : Nat} {args0 : List AV} (τ : Nat → Nat) (hg : ∀ g, g < G → τ g = g) (hf : ∀ y, c0 ≤ y → c ≤ τ y) (hm : allM (fun y o => H.get (τ y) = some (o.ren τ)) m0)
    (hi : ∀ x y o o', lookM m0 x = some o → lookM m0 y = some o' → x ≠ y → τ x ≠ τ y ∨ ∃ n m, o.share = some (false, n) ∧ o'.share = some (false, m)) : Entry G H c (AV.rens τ args0) m0 c0 args0 := by
  intro ρ w us hH hv
  refine ⟨fun x => ρ (τ x), hH.ren τ (fun x o hx => allM_look hm x o (by rw [← ofM_get]; exact hx)) (fun x y o o' hx hy => hi x y o o' (by rw [← ofM_get]; exact hx) (by rw [← ofM_get]; exact hy)) (fun x hx => hf x hx) hg, (VRs_ren ρ τ args0 us).1 hv⟩

/-! Slices as windows -/
/-- A name, where in it a slice begins, and its capacity (none: what the name's own is). -/
abbrev Wnd := Nat × Nat × Option Nat
def winR (ρ : Rho) (W : List Wnd) : Rho := fun y => match W[y]? with
  | some (x, off, cp) => (ρ x).map fun p => ⟨p.b, p.o + off, cp.getD p.k⟩
  | none => none
def winM : List (List AV) → Nat → List (Nat × Option AObj)
  | [], _ => []
  | cs :: CS, i => (i, some (.ro cs)) :: winM CS (i + 1)
def winOk (H : T AObj) : List Wnd → List (List AV) → Prop
  | [], [] => True
  | (x, off, _) :: W, cs :: CS => (∃ o, H.get x = some o ∧ (cs = [] ∨ ∃ ca, cellsOf o = some ca ∧ cut ca off cs.length = some cs)) ∧ Pls cs ∧ winOk H W CS
  | _, _ => False

theorem winM_look : ∀ {CS : List (List AV)} {i y : Nat} {o : AObj}, lookM (winM CS i) y = some o → ∃ j cs, y = i + j ∧ CS[j]? = some cs ∧ o = .ro cs
  | [], i, y, o, h => by cases h
  | cs :: CS, i, y, o, h => by
    rw [winM, lookM, Bool.cond_eq_ite] at h
    split at h
    · rename_i e
      have e' : y = i := by simpa using e
      cases h
      exact ⟨0, cs, by omega, rfl, rfl⟩
    · obtain ⟨j, cs', h1, h2, h3⟩ := winM_look h
      exact ⟨j + 1, cs', by omega, by simpa using h2, h3⟩
theorem winOk_at {H : T AObj} : ∀ {W : List Wnd} {CS : List (List AV)} {j : Nat} {cs : List AV}, winOk H W CS → CS[j]? = some cs → ∃ x off cp, W[j]? = some (x, off, cp) ∧ (∃ o, H.get x = some o ∧ (cs = [] ∨ ∃ ca, cellsOf o = some ca ∧ cut ca off cs.length = some cs)) ∧ Pls cs
  | [], [], j, cs, _, h => by simp at h
  | [], _ :: _, j, cs, h, _ => h.elim
  | _ :: _, [], j, cs, h, _ => h.elim
  | (x, off, cp) :: W, cs0 :: CS, 0, cs, h, hj => by
    simp only [List.getElem?_cons_zero, Option.some.injEq] at hj
    subst hj
    exact ⟨x, off, cp, rfl, h.1, h.2.1⟩
  | (x, off, cp) :: W, cs0 :: CS, j + 1, cs, h, hj => by
    obtain ⟨x', off', cp', h1, h2⟩ := winOk_at h.2.2 (show CS[j]? = some cs by simpa using hj)
    exact ⟨x', off', cp', by simpa using h1, h2⟩

theorem Pls.vrs {ρ ρ1 : Rho} (hf : ∃ x, ρ x = none) : ∀ {l : List AV} {us : List Value}, Pls l → VRs ρ l us → VRs ρ1 l us := fun {l us} hp h => by
  obtain ⟨x, hx⟩ := hf
  have h1 : VRs (fun _ => none) l us := by
    have := (VRs_ren ρ (fun _ => x) l us).1 (by rw [hp]; exact h)
    simpa only [hx] using this
  exact h1.mono (fun _ _ h => by cases h)

/-- What a caller's argument is for a callee that knows its slices by windows. -/
def ArgW (W : List Wnd) (v v0 : AV) : Prop := ∀ ρ u, (∃ x, ρ x = none) → VR ρ v u → VR (winR ρ W) v0 u
theorem ArgW.pl {W : List Wnd} {v : AV} (h : Pl v) : ArgW W v v := fun _ _ hf hv => h.vr hf hv
theorem ArgW.gs {W : List Wnd} {x y n : Nat} (h : W[y]? = some (x, 0, none)) : ArgW W (.gs x n) (.gs y n) := fun ρ u _ hv => by
  simp only [VR] at hv ⊢
  obtain ⟨p, h2, h3, h4⟩ := hv
  exact ⟨⟨p.b, p.o + 0, p.k⟩, by simp [winR, h, h2], h3, h4⟩
def ArgsW (W : List Wnd) : List AV → List AV → Prop
  | [], [] => True
  | v :: l, v0 :: l0 => ArgW W v v0 ∧ ArgsW W l l0
  | _, _ => False
theorem ArgsW.vrs {W : List Wnd} {ρ : Rho} (hf : ∃ x, ρ x = none) : ∀ {l l0 : List AV} {us : List Value}, ArgsW W l l0 → VRs ρ l us → VRs (winR ρ W) l0 us
  | [], [], us, _, h => by simpa only [VRs] using h
  | [], _ :: _, us, h, _ => h.elim
  | _ :: _, [], us, h, _ => h.elim
  | v :: l, v0 :: l0, us, h, hv => by
    obtain ⟨u, us', rfl, h1, h2⟩ := hv.cons_inv
    exact .cons (h.1 ρ u hf h1) (ArgsW.vrs hf h.2 h2)
theorem ArgW.agg {W : List Wnd} {l l0 : List AV} (h : ArgsW W l l0) : ArgW W (.agg l) (.agg l0) := fun ρ u hf hv => by
  simp only [VR] at hv ⊢
  obtain ⟨us, h1, h2⟩ := hv
  exact ⟨us, h.vrs hf h1, h2⟩

theorem Entry.win {H : T AObj} {args args0 : List AV} {W : List Wnd} {CS : List (List AV)} (hl : W.length = CS.length) (hw : winOk H W CS) (ha : ArgsW W args args0) : Entry 0 H c args (winM CS 0) CS.length args0 := by
  intro ρ w us hH hv
  have hf : ∃ x, ρ x = none := ⟨c, hH.fresh c (Nat.le_refl _)⟩
  refine ⟨winR ρ W, ⟨fun y o hy => ?_, fun x y o o' p q hxy hx hy hp hq hb => ?_, fun x hx => ?_, fun x p hp => ?_, fun g hg => by omega⟩, ha.vrs hf hv⟩
  · rw [ofM_get] at hy
    obtain ⟨j, cs, rfl, hj, rfl⟩ := winM_look hy
    obtain ⟨x, off, cp, h1, ⟨o, h2, h3⟩, h4⟩ := winOk_at hw hj
    obtain ⟨p, hp, _⟩ := hH.obj x o h2
    refine ⟨⟨p.b, p.o + off, cp.getD p.k⟩, by simp [winR, h1, hp], ?_⟩
    rcases h3 with rfl | ⟨ca, h5, h6⟩
    · exact ⟨[], by simp only [VRs], fun j u hj => by simp at hj⟩
    · obtain ⟨us', g1, g2⟩ := hH.read h2 h5 hp
      obtain ⟨g3, _, _⟩ := g1.cut h6
      refine ⟨_, h4.vrs hf g3, fun i u hi => ?_⟩
      have : us'[off + i]? = some u := by
        rw [List.getElem?_take] at hi
        split at hi
        · rwa [List.getElem?_drop] at hi
        · cases hi
      have := g2 (off + i) u this
      rwa [show p.o + off + i = p.o + (off + i) by omega]
  · rw [ofM_get] at hx hy
    obtain ⟨_, _, _, _, rfl⟩ := winM_look hx
    obtain ⟨_, _, _, _, rfl⟩ := winM_look hy
    simp [Apart, AObj.share]
  · simp only [winR, List.getElem?_eq_none_iff.2 (show W.length ≤ x by omega)]
  · simp only [winR] at hp
    split at hp
    · rw [Option.map_eq_some_iff] at hp
      obtain ⟨p', h1, rfl⟩ := hp
      exact hH.lt _ p' h1
    · cases hp

/-! Maps -/
section
variable {κ : Type} [DecidableEq κ] {kt : Nat} {enc : κ → AV} {encV : κ → Value} {f : κ → AV} {L : List κ} {k : κ}

/-- What a map's keys are. -/
structure Keys (P : Program) (kt : Nat) (enc : κ → AV) (encV : κ → Value) : Prop where
  plain : ∀ k, (enc k).plain = some (encV k)
  eq : ∀ k k', eqV P 100 kt (encV k) (encV k') = some (decide (k = k'))
  ok : ∀ k, keyOk P kt (encV k) = true

def mapOf (enc : κ → AV) (f : κ → AV) (L : List κ) : List (AV × AV) := L.map fun k => (enc k, f k)

theorem find_map (K : Keys P kt enc encV) : ∀ L : List κ, findA P kt (encV k) (mapOf enc f L) = some (if k ∈ L then some (f k) else none)
  | [] => rfl
  | k' :: L => by
    have ih := find_map K L
    show findA P kt (encV k) ((enc k', f k') :: mapOf enc f L) = _
    simp only [findA, K.plain, K.eq]
    by_cases h : k = k'
    · subst h; simp
    · simp [h, ih]

theorem set_map (K : Keys P kt enc encV) : ∀ L : List κ, k ∉ L → setA P kt (enc k) (encV k) v (mapOf enc f L) = some (mapOf enc f L ++ [(enc k, v)])
  | [], _ => rfl
  | k' :: L, h => by
    have hne : k ≠ k' := fun e => h (by rw [e]; exact List.mem_cons_self)
    have ih := set_map K L fun hm => h (List.mem_cons_of_mem _ hm)
    show setA P kt (enc k) (encV k) v ((enc k', f k') :: mapOf enc f L) = _
    simp only [setA, K.plain, K.eq, decide_eq_false hne, ih, Option.map_some]
    rfl

end

variable {o : Oper} {call round : CallFn} {ops : List Oper} {is : List OpI} {rs us : List Rec} {un : List Nat} {wd : Bool} {vs : List AV} {d : Nat} {K : St → Prop}

/-- A heavy operation that is no call, beside which nothing is hidden. -/
theorem RD.wide0 [hP : PG P G] (hk : kindA o.op = .heavy) (hr : recL rs un = some us) (hw : wantedL ops o l = some true) (hv : operandsL G l (opArgs o.op) = some vs) (hd : o.dst = none)
    (hu : us.all (fun r => !r.heavy && r.st.isNone) = true) (hh : (us.flatMap fun r => (List.range (r.hi - r.lo)).map (r.lo + ·)) = [])
    (h : Nx P fl o.op vs m c fun v m' c' => us.all (sameR P (ofM m) (ofM m')) = true ∧ RD G P fl call round ops is (⟨true, none, c, c', none, some (ofM m, ofM m'), none⟩ :: rs) (stL n dfs l m' c') K) : RD G P fl call round ops (⟨o, un, true⟩ :: is) rs (stL n dfs l m c) K := by
  obtain ⟨v, m', c', h1, h2, h3⟩ := h.ex
  refine RD.step (v := v) (m' := m') (c' := c') (rc := ⟨true, none, c, c', none, some (ofM m, ofM m'), none⟩) hr hw hv ?_ (put_none hd) (by rw [hd]; exact h3)
  rw [hk]; unfold stD
  simp only [hu, hh, hideA, cond_true, h1.step call round, backA, List.foldl_nil, h2]
theorem RD.wide [hP : PG P G] (hk : kindA o.op = .heavy) (hr : recL rs un = some us) (hw : wantedL ops o l = some true) (hv : operandsL G l (opArgs o.op) = some vs) (hd : o.dst = some d) (hn : Nat.blt d n = true)
    (hu : us.all (fun r => !r.heavy && r.st.isNone) = true) (hh : (us.flatMap fun r => (List.range (r.hi - r.lo)).map (r.lo + ·)) = [])
    (h : Nx P fl o.op vs m c fun v m' c' => us.all (sameR P (ofM m) (ofM m')) = true ∧ RD G P fl call round ops is (⟨true, none, c, c', none, some (ofM m, ofM m'), none⟩ :: rs) (stL n dfs ((d, v) :: l) m' c') K) : RD G P fl call round ops (⟨o, un, true⟩ :: is) rs (stL n dfs l m c) K := by
  obtain ⟨v, m', c', h1, h2, h3⟩ := h.ex
  refine RD.step (v := v) (m' := m') (c' := c') (rc := ⟨true, none, c, c', none, some (ofM m, ofM m'), none⟩) hr hw hv ?_ (put_some hn hd) (by rw [hd]; exact h3)
  rw [hk]; unfold stD
  simp only [hu, hh, hideA, cond_true, h1.step call round, backA, List.foldl_nil, h2]



/-! What an unordered operation may not have changed -/
def usOk (x : Nat) : List Rec → Prop
  | [] => True
  | r :: us => (offRec x r = true ∧ (r.was = none ∨ ∃ H H' o, r.was = some (H, H') ∧ H.get x = some o ∧ H'.get x = some o ∧ rfO o = true)) ∧ usOk x us
theorem us_all {x : Nat} : ∀ {us : List Rec}, usOk x us → us.all (fun r => offRec x r && offWas x r) = true
  | [], _ => rfl
  | r :: us, h => by
    obtain ⟨⟨h1, h2⟩, h3⟩ := h
    have h4 : offWas x r = true := by
      unfold offWas
      rcases h2 with h2 | ⟨H, H', o, h2, h5, h6, h7⟩
      · rw [h2]
      · rw [h2]; exact same_get h5 h6 h7
    simp only [List.all_cons, h1, h4, Bool.and_self, Bool.true_and]
    exact us_all h3
theorem getM {x : Nat} {ob : AObj} (h : lookM m x = some ob) : (ofM m).get x = some ob := by rw [ofM_get]; exact h

theorem was_same {x : Nat} {W : Option (T AObj × T AObj)} {mm : List (Nat × Option AObj)} (h : W = some (ofM mm, ofM mm)) (ho : ∃ ob, lookM mm x = some ob ∧ rfO ob = true) : ∃ H H' o, W = some (H, H') ∧ H.get x = some o ∧ H'.get x = some o ∧ rfO o = true :=
  let ⟨ob, h1, h2⟩ := ho
  ⟨_, _, ob, h, getM h1, getM h1, h2⟩

/-- Calls of one function that leave memory as it was. -/
noncomputable def famA {α : Type} (f : Nat) (args : α → List AV) (val : α → AV) (ok : α → T AObj → Nat → Prop) : CallFn := fam f fun ags _ H c v => ∃ a, ok a H c ∧ ags = args a ∧ v = val a
theorem famA_calm {α : Type} {f : Nat} {args : α → List AV} {val : α → AV} {ok : α → T AObj → Nat → Prop} (h : ∀ a fl H c, ok a H c → OkAt G P fl f (args a) H c (val a) H c) : CalmC G P (famA f args val ok) :=
  fam_calm fun ags fl H c v ⟨a, h1, h2, h3⟩ => by subst h2 h3; exact h a fl H c h1
theorem famA_at {α : Type} {f : Nat} {args : α → List AV} {val : α → AV} {ok : α → T AObj → Nat → Prop} {H : T AObj} (fl0 : Nat) (a : α) (h : ok a H c) (inj : ∀ b, args a = args b → val b = val a) : famA f args val ok fl0 f (args a) H c = some (val a, H, c) :=
  fam_at ⟨a, h, rfl, rfl⟩ fun v' ⟨b, _, h2, h3⟩ => by rw [h3]; exact inj b h2
theorem famA_ne {α : Type} {f f1 : Nat} {args : α → List AV} {val : α → AV} {ok : α → T AObj → Nat → Prop} {H : T AObj} {ags : List AV} (fl0 : Nat) (h : f1 ≠ f) : famA f args val ok fl0 f1 ags H c = none := by
  unfold famA fam; rw [dif_neg (fun hh => h hh.1)]
theorem alts_hd {g : CallFn} {fs : List CallFn} {fl0 f : Nat} {ags : List AV} {H : T AObj} {r : AV × T AObj × Nat} (h : g fl0 f ags H c = some r) : alts (g :: fs) fl0 f ags H c = some r := by unfold alts; rw [h]
theorem alts_tl {g : CallFn} {fs : List CallFn} {fl0 f : Nat} {ags : List AV} {H : T AObj} (h : g fl0 f ags H c = none) : alts (g :: fs) fl0 f ags H c = alts fs fl0 f ags H c := by conv => lhs; unfold alts; rw [h]
theorem alts_calm {fs : List CallFn} (h : ∀ f ∈ fs, CalmC G P f) : CalmC G P (alts fs) := ⟨alts_ok fun f hf => (h f hf).ok, alts_good fun f hf => (h f hf).good⟩

/-! Numbers of a set -/
theorem S.shl {i : Nat} {a : Int} {s : Nat} (h : i ≤ 62) (hb : In64 (a * 2 ^ i)) : OpE P fl (.binOp .shl t x1 x2 s) [.int .i64 a, .int .i64 (i : Int)] m c (.int .i64 (a * 2 ^ i)) m c := by
  refine ⟨rfl, Nat.le_refl _, ?_⟩
  show opt1 (shiftOp .shl .i64 a (i : Int)) (ofM m) c = _
  have h1 : ¬ ((i : Int) < 0) := by omega
  have h2 : min ((i : Int).toNat) IntKind.i64.bits = i := by
    have : IntKind.i64.bits = 64 := rfl
    rw [this, Int.toNat_natCast]; omega
  simp only [shiftOp, decide_eq_false h1, cond_false, h2, wrap_in hb, opt1, Option.map_some]
theorem S.shr {i : Nat} {a : Int} {s : Nat} (h : i ≤ 62) : OpE P fl (.binOp .shr t x1 x2 s) [.int .i64 a, .int .i64 (i : Int)] m c (.int .i64 (a.fdiv (2 ^ i))) m c := by
  refine ⟨rfl, Nat.le_refl _, ?_⟩
  show opt1 (shiftOp .shr .i64 a (i : Int)) (ofM m) c = _
  have h1 : ¬ ((i : Int) < 0) := by omega
  have h2 : min ((i : Int).toNat) IntKind.i64.bits = i := by
    have : IntKind.i64.bits = 64 := rfl
    rw [this, Int.toNat_natCast]; omega
  simp only [shiftOp, decide_eq_false h1, cond_false, h2, opt1, Option.map_some]
/-- Bit by bit. -/
def orI (a b : Int) : Int := IntKind.i64.wrap (BitVec.ofInt 64 a ||| BitVec.ofInt 64 b).toNat
def andI (a b : Int) : Int := IntKind.i64.wrap (BitVec.ofInt 64 a &&& BitVec.ofInt 64 b).toNat
theorem S.or {a b : Int} {s : Nat} : OpE P fl (.binOp .or t x1 x2 s) [.int .i64 a, .int .i64 b] m c (.int .i64 (orI a b)) m c := ⟨rfl, Nat.le_refl _, rfl⟩
theorem S.and {a b : Int} {s : Nat} : OpE P fl (.binOp .and t x1 x2 s) [.int .i64 a, .int .i64 b] m c (.int .i64 (andI a b)) m c := ⟨rfl, Nat.le_refl _, rfl⟩
theorem S.buildSlice [Tab P] {ps : Array (Nat × Operand)} {len : Nat} {cs : List AV} (ht : ty P t = some y) (hk : y.kind = 5) (he : ty P y.elem = some z) (h0 : Nat.beq len 0 = false) (hl : Nat.ble (len * z.size) 16777216 = true) (hz : (Nat.beq z.zero.cells.length z.size && Nat.ble 1 z.size) = true) (hf : fillA (fun i => some (i * z.size, z.size)) (zerosA z.zero.cells len) ((ps.toList.map (·.1)).zip vs) = some cs) : OpE P fl (.buildSlice t len ps) vs m c (.sl c 0 len len) ((c, some (.cells cs)) :: m) (c + 1) := by
  refine ⟨rfl, Nat.le_succ _, ?_⟩
  simp only [opA, oBuildSlice, ty_slice ht hk, ty_size he, show (2 : Nat) ^ 24 = 16777216 from rfl, hl, cond_true, h0, cond_false, rowA, ty_zero he, hz, hf]
  rfl

/-- One call that leaves memory as it was. -/
noncomputable def one1 (f : Nat) (args : List AV) (v : AV) (ok : T AObj → Nat → Prop) : CallFn := famA (α := Unit) f (fun _ => args) (fun _ => v) fun _ => ok
theorem one1_calm {f : Nat} {args : List AV} {v : AV} {ok : T AObj → Nat → Prop} (h : ∀ fl H c, ok H c → OkAt G P fl f args H c v H c) : CalmC G P (one1 f args v ok) := famA_calm fun _ fl H c hk => h fl H c hk
theorem one1_at {f : Nat} {args : List AV} {v : AV} {ok : T AObj → Nat → Prop} {H : T AObj} (h : ok H c) (fl0 : Nat) : one1 f args v ok fl0 f args H c = some (v, H, c) := famA_at fl0 () h fun _ _ => rfl
end
end Go.Ev

/- Calls that write one object. -/
namespace Go.Ev
open Go

section
variable {G : Nat} {P : Program} {ρ ρ1 : Rho} {fl c c' : Nat} {w w' : World}

theorem ObjR.plain {ob : AObj} {p : Win} (hob : ∀ σ, ob.ren σ = ob) (hf : ∃ x, ρ x = none) (h : ObjR ρ w p ob) : ObjR ρ1 w p ob := by
  obtain ⟨x, hx⟩ := hf
  have h1 : ObjR (fun _ => none) w p ob := by
    have := (ObjR_ren ρ (fun _ => x) w p ob).1 (by rw [hob]; exact h)
    simpa only [hx] using this
  exact h1.mono fun _ _ h => by cases h

/-- A call that writes one object, and leaves nothing else behind. -/
theorem CanS.write {f q fl0 : Nat} {args0 : List AV} {m0 : List (Nat × Option AObj)} {v0 : AV} {ob o0 : AObj} {H : T AObj} (h : CanS G P f fl0 args0 m0 (fl0 + 1) fun v H1 _ => v = v0 ∧ H1.get fl0 = some ob) (hv : Pl v0) (hob : ∀ σ, ob.ren σ = ob) (hsh : ob.share = none)
    (τ : Nat → Nat) (hG : G ≤ fl0) (hτg : ∀ g, g < G → τ g = g) (hτ2 : ∀ y, fl0 + 1 ≤ y → c ≤ τ y) (hobj : ∀ y o, lookM m0 y = some o → H.get (τ y) = some (o.ren τ))
    (hinj : ∀ x y o o', lookM m0 x = some o → lookM m0 y = some o' → x ≠ y → τ x ≠ τ y ∨ ∃ n m, o.share = some (false, n) ∧ o'.share = some (false, m))
    (hq : τ fl0 = q) (hfl : fl ≤ q) (ho0 : lookM m0 fl0 = some o0) (hs0 : o0.share = none) : OkAt G P fl f (AV.rens τ args0) H c v0 (H.set q ob) c := by
  refine ⟨h.1, fun ρ w us hH hargs r n => ?_⟩
  have h0 : Holds G (fun x => ρ (τ x)) (ofM m0) (fl0 + 1) w := hH.ren τ (fun x o hx => hobj x o (by rw [← ofM_get]; exact hx)) (fun x y o o' hx hy => hinj x y o o' (by rw [← ofM_get]; exact hx) (by rw [← ofM_get]; exact hy)) hτ2 hτg
  refine (h.2 _ w us h0 ((VRs_ren ρ τ args0 us).1 hargs) r n).mono ?_
  rintro e w' ⟨u, v1, H1, c1, ρ1, rfl, ⟨rfl, hq1⟩, h3, h4, h5, h6, h7⟩
  have hfr : ∃ x, ρ1 x = none := ⟨c1, h4.fresh c1 (Nat.le_refl _)⟩
  have hqo : H.get q = some (o0.ren τ) := by rw [← hq]; exact hobj _ _ ho0
  have hqs : (o0.ren τ).share = none := by rw [AObj.ren_share]; exact hs0
  obtain ⟨pq, hpq, hobq⟩ := h4.obj _ _ hq1
  have hρq : ρ q = some pq := by
    have := h6.1 fl0 (by omega)
    rw [hpq] at this
    rw [← hq]; exact this.symm
  have hown : ∀ y t, fl0 ≤ y → ρ (τ y) = some t → y = fl0 := fun y t hy ht => by
    rcases Nat.lt_or_ge y (fl0 + 1) with h | h
    · omega
    · have := h0.fresh y h
      replace this : ρ (τ y) = none := this
      rw [this] at ht; cases ht
  have hap : ∀ x o p, H.get x = some o → ρ x = some p → x ≠ q → p.b ≠ pq.b := fun x o p hx hp hn hb => by
    have := (hH.sep x q o _ p pq hn hx hqo hp hρq hb).ro
    unfold AObj.isRo at this
    rw [hqs] at this
    simp at this
  have hkeep : ∀ b, b < w.heap.size → b ≠ pq.b → w'.heap[b]? = w.heap[b]? := fun b hb hne => h7.keep b hb fun y t hy ht => by
    have e := hown y t hy ht
    subst e
    rw [hq] at ht
    rw [hρq] at ht
    cases ht
    exact fun e => hne e.symm
  refine ⟨u, rfl, ρ, hv.vr hfr h3, ⟨fun x o hx => ?_, fun x y o o' p p' hxy hx hy hp hp' hb => ?_, hH.fresh, fun x p hp => Nat.lt_of_lt_of_le (hH.lt x p hp) h7.size, hH.glob⟩, .refl _ _ _ _, ⟨h7.os, h7.tape, h7.output, h7.size, fun b hb hn => hkeep b hb fun e => hn q pq hfl hρq e.symm⟩⟩
  · rw [T.get_set] at hx
    split at hx
    · rename_i e
      subst e
      cases hx
      exact ⟨pq, hρq, hobq.plain hob hfr⟩
    · rename_i e
      obtain ⟨p, h1, h2⟩ := hH.obj x o hx
      exact ⟨p, h1, h2.world (hkeep p.b (hH.lt x p h1) (hap x o p hx h1 e))⟩
  · rw [T.get_set] at hx hy
    split at hx
    · rename_i e
      subst e
      cases hx
      split at hy
      · rename_i e; exact absurd e.symm hxy
      · exact (hH.sep x y _ o' p p' hxy hqo hy hp hp' hb).congr (by rw [hqs, hsh]) rfl
    · split at hy
      · rename_i e e'
        subst e'
        cases hy
        exact (hH.sep x y o _ p p' hxy hx hqo hp hp' hb).congr rfl (by rw [hqs, hsh])
      · exact hH.sep x y o o' p p' hxy hx hy hp hp' hb
theorem dB_tt {p : Prop} (h : p) : dB p = true := @decide_eq_true p (Classical.propDecidable p) h
theorem dB_ff {p : Prop} (h : ¬ p) : dB p = false := @decide_eq_false p (Classical.propDecidable p) h
end
end Go.Ev

/- Code that hands things to a consumer: what holds of the world beside the memory at hand goes along. -/
namespace Go.Ev
open Go

/-- A consumer: its state, what holds of the world then, in which blocks that lies, and which it only reads; its loop's block; what it is handed, what it answers, and when it still takes something. -/
structure Cons where
  γ : Type
  J : γ → (Nat → Prop) → World → Prop
  Rd : Nat → Prop
  keep : ∀ s F w w', J s F w → w.heap.size ≤ w'.heap.size → (∀ b, F b ∨ Rd b → w'.heap[b]? = w.heap[b]?) → J s F w'
  lt : ∀ s F w b, J s F w → F b ∨ Rd b → b < w.heap.size
  lb : Nat
  ok : γ → List AV → Prop
  step : γ → List AV → γ × Bool
  lv : Nat → γ → Prop
  live : ∀ k s args, lv (k + 1) s → (step s args).2 = true → lv k (step s args).1

structure FrJ (ρ : Rho) (fl : Nat) (F : Nat → Prop) (w w' : World) : Prop where
  os : w'.os = w.os
  tape : w'.tape = w.tape
  output : w'.output = w.output
  size : w.heap.size ≤ w'.heap.size
  keep : ∀ b, b < w.heap.size → (∀ x p, fl ≤ x → ρ x = some p → p.b ≠ b) → ¬ F b → w'.heap[b]? = w.heap[b]?

/-- The consumer lies apart. -/
structure Beside (C : Cons) (ρ : Rho) (l fl : Nat) (F : Nat → Prop) (s : C.γ) (w : World) : Prop where
  j : C.J s F w
  d : ∀ x p, x ≠ l → ρ x = some p → ¬ F p.b
  rd : ∀ x p, fl ≤ x → ρ x = some p → ¬ C.Rd p.b
  lb : ∃ p, ρ l = some p ∧ p.b = C.lb

section
variable {G : Nat} {P : Program} {C : Cons} {ρ ρ1 ρ2 : Rho} {fl cb c c' lo : Nat} {w w1 w2 : World} {F F1 F2 : Nat → Prop} {s s' : C.γ}

theorem FrJ.of (h : Fr ρ fl w w1) : FrJ ρ fl F w w1 := ⟨h.os, h.tape, h.output, h.size, fun b hb hn _ => h.keep b hb hn⟩
theorem FrJ.refl : FrJ ρ fl F w w := .of (.refl _ _ _)
theorem FrJ.trans (h : FrJ ρ fl F w w1) (e : ExtB ρ ρ1 fl cb w) (hF : ∀ b, F1 b → F b ∨ w.heap.size ≤ b) (k : FrJ ρ1 fl F1 w1 w2) : FrJ ρ fl F w w2 := by
  refine ⟨k.os.trans h.os, k.tape.trans h.tape, k.output.trans h.output, Nat.le_trans h.size k.size, fun b hb hn hf => ?_⟩
  refine (k.keep b (Nat.lt_of_lt_of_le hb h.size) (fun x p hx hp hpb => ?_) fun hf1 => ?_).trans (h.keep b hb hn hf)
  · rcases e.2 x p hx hp with h1 | ⟨y, q, hy, hq, hqb⟩
    · omega
    · exact hn y q hy hq (hqb.trans hpb)
  · rcases hF b hf1 with h1 | h1
    · exact hf h1
    · omega

theorem Beside.stab (h : Beside C ρ lo fl F s w) (h1 : lo < fl) (h2 : fl ≤ cb) (hE : ExtB ρ ρ1 fl cb w) (hF : Fr ρ fl w w1) : Beside C ρ1 lo fl F s w1 := by
  refine ⟨C.keep s F w w1 h.j hF.size fun b hb => hF.keep b (C.lt _ _ _ _ h.j hb) fun x p hx hp e => hb.elim (fun hb => h.d x p (by omega) hp (e ▸ hb)) fun hb => h.rd x p hx hp (e ▸ hb), fun x p hx hp hf => ?_, fun x p hx hp hf => ?_, ?_⟩
  · by_cases hc : x < cb
    · rw [hE.1 x hc] at hp; exact h.d x p hx hp hf
    · rcases hE.2 x p (by omega) hp with h3 | ⟨y, q, hy, hq, hb⟩
      · have := C.lt _ _ _ _ h.j (.inl hf); omega
      · exact h.d y q (by omega) hq (hb ▸ hf)
  · rcases hE.2 x p hx hp with h3 | ⟨y, q, hy, hq, hb⟩
    · have := C.lt _ _ _ _ h.j (.inr hf); omega
    · exact h.rd y q hy hq (hb ▸ hf)
  · obtain ⟨p, h3, h4⟩ := h.lb
    exact ⟨p, by rw [hE.1 lo (by omega)]; exact h3, h4⟩

def PostJ (G : Nat) (C : Cons) (ρ : Rho) (fl cb lo : Nat) (F : Nat → Prop) (w : World) (Q : AExit → St → C.γ → Prop) : Exit → Act → World → Prop := fun e' a' w' =>
  ∃ e st' ρ' s' F', e' = e.conc ∧ Q e st' s' ∧ SR G ρ' st' a' w' ∧ cb ≤ st'.c ∧ ExtB ρ ρ' fl cb w ∧ FrJ ρ fl F w w' ∧ Beside C ρ' lo fl F' s' w' ∧ ∀ b, F' b → F b ∨ w.heap.size ≤ b

structure TrJ (G : Nat) (P : Program) (C : Cons) (fl cb lo : Nat) (code : Code) (st : St) (s : C.γ) (Q : AExit → St → C.γ → Prop) : Prop where
  run : ∀ ρ a w F n, lo < fl → fl ≤ cb → SR G ρ st a w → cb ≤ st.c → Beside C ρ lo fl F s w → code.wpIn (FR none) n P (PostJ G C ρ fl cb lo F w Q) a w

variable {code x y : Code} {st st' st2 : St} {Q Q' : AExit → St → C.γ → Prop}

theorem PostJ.trans {e' : Exit} {a' : Act} {w' : World} (he : ExtB ρ ρ1 fl cb w) (hf : FrJ ρ fl F w w1) (hF : ∀ b, F1 b → F b ∨ w.heap.size ≤ b) (h : PostJ G C ρ1 fl cb lo F1 w1 Q e' a' w') : PostJ G C ρ fl cb lo F w Q e' a' w' := by
  obtain ⟨e, st', ρ', s', F', h1, h2, h3, h4, h5, h6, h7, h8⟩ := h
  refine ⟨e, st', ρ', s', F', h1, h2, h3, h4, he.trans hf.size h5, hf.trans he hF h6, h7, fun b hb => ?_⟩
  rcases h8 b hb with h9 | h9
  · exact hF b h9
  · exact .inr (Nat.le_trans hf.size h9)

theorem PostJ.of_T {e' : Exit} {a' : Act} {w' : World} (h1 : lo < fl) (h2 : fl ≤ cb) (hb : Beside C ρ lo fl F s w) (h : PostT G ρ fl cb w (fun e st => Q e st s) e' a' w') : PostJ G C ρ fl cb lo F w Q e' a' w' := by
  obtain ⟨e, st', ρ', g1, g2, g3, g4, g5, g6⟩ := h
  exact ⟨e, st', ρ', s, F, g1, g2, g3, g4, g5, .of g6, hb.stab h1 h2 g5 g6, fun b hb => .inl hb⟩

/-- Code that hands nothing over. -/
theorem TrJ.lift (h : Tr G P fl cb none code st (fun e st' => Q e st' s)) : TrJ G P C fl cb lo code st s Q :=
  ⟨fun ρ a w F n h1 h2 hs hc hb => wpIn_mono (h.run ρ a w none n hs hc (fun l hl => by cases hl) trivial) fun _ _ _ hp => .of_T h1 h2 hb hp⟩

/-! ### Code -/
def sqJ0 (G : Nat) (P : Program) (C : Cons) (fl cb lo : Nat) (y : Code) (Q : AExit → St → C.γ → Prop) : AExit → St → C.γ → Prop
  | .normal, st, s => TrJ G P C fl cb lo y st s Q
  | e, st, s => Q e st s
structure sqJ (G : Nat) (P : Program) (C : Cons) (fl cb lo : Nat) (y : Code) (Q : AExit → St → C.γ → Prop) (e : AExit) (st : St) (s : C.γ) : Prop where
  go : sqJ0 G P C fl cb lo y Q e st s
theorem sqJ_n (h : TrJ G P C fl cb lo y st s Q) : sqJ G P C fl cb lo y Q .normal st s := ⟨h⟩
theorem sqJ_r (h : Q .ret st s) : sqJ G P C fl cb lo y Q .ret st s := ⟨h⟩
theorem sqJ_x {id : Nat} (h : Q (.exit id) st s) : sqJ G P C fl cb lo y Q (.exit id) st s := ⟨h⟩

theorem TrJ.seq (h : TrJ G P C fl cb lo x st s (sqJ G P C fl cb lo y Q)) : TrJ G P C fl cb lo (.seq x y) st s Q := by
  refine ⟨fun ρ a w F n h1 h2 hs hc hb => ?_⟩
  refine wpIn_seq (wpIn_mono (h.run ρ a w F n h1 h2 hs hc hb) fun e1 a1 w1 hp => ?_)
  obtain ⟨e, st1, ρ1, s1, F1, rfl, ⟨hq⟩, hs1, hc1, he1, hf1, hb1, hF1⟩ := hp
  cases e with
  | normal => exact wpIn_mono (TrJ.run hq ρ1 a1 w1 F1 n h1 h2 hs1 hc1 hb1) fun _ _ _ hp2 => hp2.trans he1 hf1 hF1
  | exit id => exact ⟨.exit id, st1, ρ1, s1, F1, rfl, hq, hs1, hc1, he1, hf1, hb1, hF1⟩
  | goto l => exact ⟨.goto l, st1, ρ1, s1, F1, rfl, hq, hs1, hc1, he1, hf1, hb1, hF1⟩
  | ret => exact ⟨.ret, st1, ρ1, s1, F1, rfl, hq, hs1, hc1, he1, hf1, hb1, hF1⟩

theorem TrJ.skip (h : Q .normal st s) : TrJ G P C fl cb lo .skip st s Q := .lift (.skip h)
theorem TrJ.label {l : Nat} (h : Q .normal st s) : TrJ G P C fl cb lo (.label l) st s Q := .lift (.label h)
theorem TrJ.exit {id : Nat} (h : Q (.exit id) st s) : TrJ G P C fl cb lo (.exit id) st s Q := .lift (.exit h)
theorem TrJ.ret (h : Q .ret st s) : TrJ G P C fl cb lo .ret st s Q := .lift (.ret h)

theorem TrJ.cond {n : Nat} {dfs : List Nat} {l : List (Nat × AV)} {m : List (Nat × Option AObj)} {t : Nat} {v : Bool} (hv : look l t = some (.bool v))
    (h : if v then TrJ G P C fl cb lo x (stL n dfs l m c) s Q else TrJ G P C fl cb lo y (stL n dfs l m c) s Q) : TrJ G P C fl cb lo (.cond (.tmp t) x y) (stL n dfs l m c) s Q := by
  refine ⟨fun ρ a w F k h1 h2 hs hc hb => ?_⟩
  have := hs.env.2 t (.bool v) (by rw [← hv]; exact ofL_get l t)
  simp only [VR] at this
  refine wpIn_cond (t := v) this.2 ?_
  cases v with
  | true => exact h.run ρ a w F k h1 h2 hs hc hb
  | false => exact h.run ρ a w F k h1 h2 hs hc hb
theorem TrJ.cond_t {n : Nat} {dfs : List Nat} {l : List (Nat × AV)} {m : List (Nat × Option AObj)} {t : Nat} (hv : look l t = some (.bool true)) (h : TrJ G P C fl cb lo x (stL n dfs l m c) s Q) : TrJ G P C fl cb lo (.cond (.tmp t) x y) (stL n dfs l m c) s Q := TrJ.cond hv h
theorem TrJ.cond_f {n : Nat} {dfs : List Nat} {l : List (Nat × AV)} {m : List (Nat × Option AObj)} {t : Nat} (hv : look l t = some (.bool false)) (h : TrJ G P C fl cb lo y (stL n dfs l m c) s Q) : TrJ G P C fl cb lo (.cond (.tmp t) x y) (stL n dfs l m c) s Q := TrJ.cond hv h
theorem TrJ.cond_d {n : Nat} {dfs : List Nat} {l : List (Nat × AV)} {m : List (Nat × Option AObj)} {t : Nat} {p : Prop} {inst : Decidable p} (hv : look l t = some (.bool (@decide p inst)))
    (h1 : p → TrJ G P C fl cb lo x (stL n dfs l m c) s Q) (h2 : ¬ p → TrJ G P C fl cb lo y (stL n dfs l m c) s Q) : TrJ G P C fl cb lo (.cond (.tmp t) x y) (stL n dfs l m c) s Q := by
  refine TrJ.cond hv ?_
  by_cases hp : p
  · rw [if_pos (by simpa using hp)]; exact h1 hp
  · rw [if_neg (by simpa using hp)]; exact h2 hp

def blkJ0 (C : Cons) (id : Nat) (Q : AExit → St → C.γ → Prop) : AExit → St → C.γ → Prop
  | .exit id', st, s => bif Nat.beq id' id then Q .normal st s else Q (.exit id') st s
  | e, st, s => Q e st s
structure blkJ (C : Cons) (id : Nat) (Q : AExit → St → C.γ → Prop) (e : AExit) (st : St) (s : C.γ) : Prop where
  go : blkJ0 C id Q e st s
theorem blkJ_n {id : Nat} (h : Q .normal st s) : blkJ C id Q .normal st s := ⟨h⟩
theorem blkJ_r {id : Nat} (h : Q .ret st s) : blkJ C id Q .ret st s := ⟨h⟩
theorem blkJ_hit {id id' : Nat} (e : Nat.beq id' id = true) (h : Q .normal st s) : blkJ C id Q (.exit id') st s := ⟨by show (bif Nat.beq id' id then Q .normal st s else Q (.exit id') st s); rw [e]; exact h⟩
theorem blkJ_pass {id id' : Nat} (e : Nat.beq id' id = false) (h : Q (.exit id') st s) : blkJ C id Q (.exit id') st s := ⟨by show (bif Nat.beq id' id then Q .normal st s else Q (.exit id') st s); rw [e]; exact h⟩

theorem TrJ.block {id : Nat} (h : TrJ G P C fl cb lo x st s (blkJ C id Q)) : TrJ G P C fl cb lo (.block id x) st s Q := by
  refine ⟨fun ρ a w F n h1 h2 hs hc hb => ?_⟩
  refine wpIn_block (wpIn_mono (h.run ρ a w F n h1 h2 hs hc hb) fun e1 a1 w1 hp => ?_)
  obtain ⟨e, st1, ρ1, s1, F1, rfl, ⟨hq⟩, hs1, hc1, he1, hf1, hb1, hF1⟩ := hp
  cases e with
  | normal => exact ⟨.normal, st1, ρ1, s1, F1, rfl, hq, hs1, hc1, he1, hf1, hb1, hF1⟩
  | exit id' =>
    simp only [AExit.conc, Exit.inBlock]
    simp only [blkJ0, Bool.cond_eq_ite] at hq
    by_cases hid : id' = id
    · rw [if_pos (by simp [hid])] at hq
      rw [if_pos hid]
      exact ⟨.normal, st1, ρ1, s1, F1, rfl, hq, hs1, hc1, he1, hf1, hb1, hF1⟩
    · rw [if_neg (by simp [hid])] at hq
      rw [if_neg hid]
      exact ⟨.exit id', st1, ρ1, s1, F1, rfl, hq, hs1, hc1, he1, hf1, hb1, hF1⟩
  | goto l => exact ⟨.goto l, st1, ρ1, s1, F1, rfl, hq, hs1, hc1, he1, hf1, hb1, hF1⟩
  | ret => exact ⟨.ret, st1, ρ1, s1, F1, rfl, hq, hs1, hc1, he1, hf1, hb1, hF1⟩

def scpJ0 (C : Cons) (Q : AExit → St → C.γ → Prop) : AExit → St → C.γ → Prop
  | .goto _, _, _ => False
  | e, st, s => Q e st s
structure scpJ (C : Cons) (Q : AExit → St → C.γ → Prop) (e : AExit) (st : St) (s : C.γ) : Prop where
  go : scpJ0 C Q e st s
theorem scpJ_n (h : Q .normal st s) : scpJ C Q .normal st s := ⟨h⟩
theorem scpJ_r (h : Q .ret st s) : scpJ C Q .ret st s := ⟨h⟩
theorem TrJ.scope (h : TrJ G P C fl cb lo x st s (scpJ C Q)) : TrJ G P C fl cb lo (.scope x) st s Q := by
  refine ⟨fun ρ a w F n h1 h2 hs hc hb => ?_⟩
  refine wpIn_scope_straight (wpIn_mono (h.run ρ a w F n h1 h2 hs hc hb) fun e1 a1 w1 hp => ?_)
  obtain ⟨e, st1, ρ1, s1, F1, rfl, ⟨hq⟩, hs1, hc1, he1, hf1, hb1, hF1⟩ := hp
  cases e with
  | normal => exact ⟨by simp [AExit.conc], .normal, st1, ρ1, s1, F1, rfl, hq, hs1, hc1, he1, hf1, hb1, hF1⟩
  | exit id => exact ⟨by simp [AExit.conc], .exit id, st1, ρ1, s1, F1, rfl, hq, hs1, hc1, he1, hf1, hb1, hF1⟩
  | goto l => exact hq.elim
  | ret => exact ⟨by simp [AExit.conc], .ret, st1, ρ1, s1, F1, rfl, hq, hs1, hc1, he1, hf1, hb1, hF1⟩

/-- A loop: a family of states of both, and a measure. -/
def lpJ0 {α : Type} (G : Nat) (C : Cons) (fl cb : Nat) (S : α → St) (I : α → C.γ → Prop) (μ : α → Nat) (i : α) (Q : AExit → St → C.γ → Prop) : AExit → St → C.γ → Prop
  | .normal, st, s => ∃ j, I j s ∧ μ j < μ i ∧ Wk G fl cb st (S j)
  | e, st, s => Q e st s
structure lpJ {α : Type} (G : Nat) (C : Cons) (fl cb : Nat) (S : α → St) (I : α → C.γ → Prop) (μ : α → Nat) (i : α) (Q : AExit → St → C.γ → Prop) (e : AExit) (st : St) (s : C.γ) : Prop where
  go : lpJ0 G C fl cb S I μ i Q e st s
section
variable {α : Type} {S : α → St} {I : α → C.γ → Prop} {μ : α → Nat} {i : α}
theorem lpJ_r (h : Q .ret st s) : lpJ G C fl cb S I μ i Q .ret st s := ⟨h⟩
theorem lpJ_x {id : Nat} (h : Q (.exit id) st s) : lpJ G C fl cb S I μ i Q (.exit id) st s := ⟨h⟩
theorem lpJ_n (j : α) (h1 : I j s) (h2 : μ j < μ i) (h3 : Wk G fl cb st (S j)) : lpJ G C fl cb S I μ i Q .normal st s := ⟨⟨j, h1, h2, h3⟩⟩
end

theorem TrJ.loop {α : Type} (S : α → St) (I : α → C.γ → Prop) (μ : α → Nat) (i0 : α) (h0 : I i0 s) (hw : Wk G fl cb st (S i0))
    (h : ∀ i s, I i s → TrJ G P C fl cb lo x (S i) s (lpJ G C fl cb S I μ i Q)) : TrJ G P C fl cb lo (.loop x) st s Q := by
  refine ⟨fun ρ a w F n h1 h2 hs hc hb => ?_⟩
  refine wpIn_loop_fuel (fun g a1 w1 => ∃ i ρ1 s1 F1, I i s1 ∧ μ i = g ∧ SR G ρ1 (S i) a1 w1 ∧ cb ≤ (S i).c ∧ ExtB ρ ρ1 fl cb w ∧ FrJ ρ fl F w w1 ∧ Beside C ρ1 lo fl F1 s1 w1 ∧ ∀ b, F1 b → F b ∨ w.heap.size ≤ b) (μ i0) ?_ ?_
  · obtain ⟨ρ1, hs1, he1⟩ := hw.sr hs
    exact ⟨i0, ρ1, s, F, h0, rfl, hs1, hw.c, he1, .refl, hb.stab h1 h2 he1 (.refl _ _ _), fun b hb => .inl hb⟩
  · rintro g a1 w1 ⟨i, ρ1, s1, F1, hi, rfl, hs1, hc1, he1, hf1, hb1, hF1⟩
    refine wpIn_mono ((h i s1 hi).run ρ1 a1 w1 F1 n h1 h2 hs1 hc1 hb1) fun e1 a2 w2 hp => ?_
    obtain ⟨e, st2, ρ2, s2, F2, rfl, ⟨hq⟩, hs2, hc2, he2, hf2, hb2, hF2⟩ := hp
    have hE := he1.trans hf1.size he2
    have hF := hf1.trans he1 hF1 hf2
    have hFF : ∀ b, F2 b → F b ∨ w.heap.size ≤ b := fun b hb => (hF2 b hb).elim (hF1 b) fun h => .inr (Nat.le_trans hf1.size h)
    cases e with
    | normal =>
      obtain ⟨j, hj, hlt, hwk⟩ := hq
      obtain ⟨ρ3, hs3, he3⟩ := hwk.sr hs2
      exact ⟨μ j, hlt, j, ρ3, s2, F2, hj, rfl, hs3, hwk.c, hE.trans hF.size he3, hF, hb2.stab h1 h2 he3 (.refl _ _ _), hFF⟩
    | exit id => exact ⟨.exit id, st2, ρ2, s2, F2, rfl, hq, hs2, hc2, hE, hF, hb2, hFF⟩
    | goto l => exact ⟨.goto l, st2, ρ2, s2, F2, rfl, hq, hs2, hc2, hE, hF, hb2, hFF⟩
    | ret => exact ⟨.ret, st2, ρ2, s2, F2, rfl, hq, hs2, hc2, hE, hF, hb2, hFF⟩

/-- A loop, so many times. -/
def unJ0 (G : Nat) (P : Program) (C : Cons) (fl cb lo : Nat) (x : Code) (Q : AExit → St → C.γ → Prop) : Nat → AExit → St → C.γ → Prop
  | _, .exit id, st, s => Q (.exit id) st s
  | _, .goto id, st, s => Q (.goto id) st s
  | _, .ret, st, s => Q .ret st s
  | 0, .normal, _, _ => False
  | k + 1, .normal, st, s => TrJ G P C fl cb lo x st s (unJ0 G P C fl cb lo x Q k)
structure unJ (G : Nat) (P : Program) (C : Cons) (fl cb lo : Nat) (x : Code) (Q : AExit → St → C.γ → Prop) (k : Nat) (e : AExit) (st : St) (s : C.γ) : Prop where
  go : unJ0 G P C fl cb lo x Q k e st s
end
end Go.Ev

/- Consumers: regions that hand over or call on; contracts. -/
namespace Go.Ev
open Go

section
variable {G : Nat} {P : Program} {C : Cons} {ρ ρ1 ρ2 : Rho} {fl cb c c' lo : Nat} {w w1 w2 : World} {F F1 F2 : Nat → Prop} {s s' : C.γ}
variable {code x y : Code} {st st' st2 : St} {Q Q' : AExit → St → C.γ → Prop} {ops : Array Oper} {rest : List Oper} {o : Oper} {n d : Nat} {dfs : List Nat} {l : List (Nat × AV)} {m m' : List (Nat × Option AObj)} {v : AV} {vs : List AV}

structure RTJ (G : Nat) (P : Program) (C : Cons) (fl cb lo : Nat) (ops : Array Oper) (rest : List Oper) (st : St) (s : C.γ) (Q : AExit → St → C.γ → Prop) : Prop where
  run : ∀ ρ a w F k (K : Exit → Act → World → Prop), lo < fl → fl ≤ cb → SR G ρ st a w → cb ≤ st.c → Beside C ρ lo fl F s w → (∀ a' w', PostJ G C ρ fl cb lo F w Q .normal a' w' → K .normal a' w') → wpListIn (FR none) k P ops K rest a w

theorem TrJ.region {id : Nat} (h : RTJ G P C fl cb lo ops ops.toList st s Q) : TrJ G P C fl cb lo (.region id ops false) st s Q :=
  ⟨fun ρ a w F n h1 h2 hs hc hb => wpIn_region_list (h.run ρ a w F n _ h1 h2 hs hc hb fun a' w' hp => hp)⟩
theorem RTJ.nil (h : Q .normal st s) : RTJ G P C fl cb lo ops [] st s Q := ⟨fun ρ _ _ F _ _ h1 h2 hs hc hb hK => hK _ _ ⟨.normal, st, ρ, s, F, rfl, h, hs, hc, .refl _ _ _ _, .refl, hb, fun b hb => .inl hb⟩⟩
theorem RTJ.cons [hP : PG P G] {call round : CallFn} (hcall : CallOK G P call) (hround : RoundOK G P round) (e : sOp P call round fl ops.toList o st = some st2) (hc2 : cb ≤ st2.c)
    (h : RTJ G P C fl cb lo ops rest st2 s Q) : RTJ G P C fl cb lo ops (o :: rest) st s Q := by
  refine ⟨fun ρ a w F k K h1 h2 hs hc hb hK => ?_⟩
  exact sOp_sound hP.size hcall hround hs e fun a' w' hg => by
    obtain ⟨ρ1, hs1, he1, hf1⟩ := hg
    have hE := ExtB.of_ext he1 hc
    exact h.run ρ1 a' w' F k K h1 h2 hs1 hc2 (hb.stab h1 h2 hE hf1) fun a2 w2 hp => hK a2 w2 (hp.trans hE (.of hf1) fun b hb => .inl hb)
theorem RTJ.low {st : St} (h : cb ≤ st.c → RTJ G P C fl cb lo ops rest st s Q) : RTJ G P C fl cb lo ops rest st s Q := ⟨fun ρ a w F k K h1 h2 hs hc hb hK => (h hc).run ρ a w F k K h1 h2 hs hc hb hK⟩
theorem RTJ.goK [hP : PG P G] (hw : wantedL ops.toList o l = some true) (hv : operandsL G l (opArgs o.op) = some vs) (hd : o.dst = some d) (hn : Nat.blt d n = true)
    (h : Nx P fl o.op vs m c fun v m' c' => RTJ G P C fl cb lo ops rest (stL n dfs ((d, v) :: l) m' c') s Q) : RTJ G P C fl cb lo ops (o :: rest) (stL n dfs l m c) s Q := by
  obtain ⟨v, m', c', hs, h⟩ := h.ex
  refine RTJ.low fun hcb => RTJ.cons noCall_ok noRound_ok (st2 := stL n dfs ((d, v) :: l) m' c') ?_ (Nat.le_trans hcb hs.le) h
  unfold sOp
  have h1 : wantedA ops.toList o (stL n dfs l m c).env = some true := by rw [← hw]; exact wantedL_eq _ _ _
  have h2 : operandsA P.globals.size (stL n dfs l m c).env (opArgs o.op) = some vs := by rw [hP.size, ← hv]; exact operandsL_eq _ _ _
  have h3 : stepA P noCall noCall fl o.op vs (stL n dfs l m c).H (stL n dfs l m c).c = some (v, ofM m', c') := hs.step noCall noCall
  simp only [h1, h2, sRun, h3, sDone, putA, hd]
  have h4 : Nat.blt d (stL n dfs l m c).n = true := hn
  rw [h4]
  rfl
theorem RTJ.goK0 [hP : PG P G] (hw : wantedL ops.toList o l = some true) (hv : operandsL G l (opArgs o.op) = some vs) (hd : o.dst = none)
    (h : Nx P fl o.op vs m c fun _ m' c' => RTJ G P C fl cb lo ops rest (stL n dfs l m' c') s Q) : RTJ G P C fl cb lo ops (o :: rest) (stL n dfs l m c) s Q := by
  obtain ⟨v, m', c', hs, h⟩ := h.ex
  refine RTJ.low fun hcb => RTJ.cons noCall_ok noRound_ok (st2 := stL n dfs l m' c') ?_ (Nat.le_trans hcb hs.le) h
  unfold sOp
  have h1 : wantedA ops.toList o (stL n dfs l m c).env = some true := by rw [← hw]; exact wantedL_eq _ _ _
  have h2 : operandsA P.globals.size (stL n dfs l m c).env (opArgs o.op) = some vs := by rw [hP.size, ← hv]; exact operandsL_eq _ _ _
  have h3 : stepA P noCall noCall fl o.op vs (stL n dfs l m c).H (stL n dfs l m c).c = some (v, ofM m', c') := hs.step noCall noCall
  simp only [h1, h2, sRun, h3, sDone, putA, hd]
  rfl
theorem RTJ.no [PG P G] (hw : wantedL ops.toList o l = some false) (hd : o.dst = some d) (hn : Nat.blt d n = true) (h : RTJ G P C fl cb lo ops rest (stL n dfs ((d, undefA) :: l) m c) s Q) : RTJ G P C fl cb lo ops (o :: rest) (stL n dfs l m c) s Q := by
  refine RTJ.low fun hcb => RTJ.cons noCall_ok noRound_ok (st2 := stL n dfs ((d, undefA) :: l) m c) ?_ hcb h
  unfold sOp
  have h1 : wantedA ops.toList o (stL n dfs l m c).env = some false := by rw [← hw]; exact wantedL_eq _ _ _
  simp only [h1, putA, hd]
  have h4 : Nat.blt d (stL n dfs l m c).n = true := hn
  rw [h4]
  rfl
theorem RTJ.call [hP : PG P G] {f : Nat} {first cap args : List AV} (hw : wantedL ops.toList o l = some true) (hk : isCall o.op = true) (hv : operandsL G l (opArgs o.op) = some (.fn f first cap :: args)) (hs : OkAt G P fl f (first ++ args ++ cap) (ofM m) c v (ofM m') c')
    (hd : o.dst = some d) (hn : Nat.blt d n = true) (hc : c ≤ c') (h : RTJ G P C fl cb lo ops rest (stL n dfs ((d, v) :: l) m' c') s Q) : RTJ G P C fl cb lo ops (o :: rest) (stL n dfs l m c) s Q := by
  refine RTJ.low fun hcb => RTJ.cons (one_ok hs) noRound_ok (st2 := stL n dfs ((d, v) :: l) m' c') ?_ (Nat.le_trans hcb hc) h
  unfold sOp
  have h1 : wantedA ops.toList o (stL n dfs l m c).env = some true := by rw [← hw]; exact wantedL_eq _ _ _
  have h2 : operandsA P.globals.size (stL n dfs l m c).env (opArgs o.op) = some (.fn f first cap :: args) := by rw [hP.size, ← hv]; exact operandsL_eq _ _ _
  have h3 : stepA P (oneS fl f (first ++ args ++ cap) (ofM m) c v (ofM m') c') noCall fl o.op (.fn f first cap :: args) (stL n dfs l m c).H (stL n dfs l m c).c = some (v, ofM m', c') := by
    unfold stepA
    rw [hk]
    exact one_at _ _ _ _ _ _ _ _
  simp only [h1, h2, sRun, h3, sDone, putA, hd]
  have h4 : Nat.blt d (stL n dfs l m c).n = true := hn
  rw [h4]
  rfl
/-- What a consumer does with what it is handed. -/
def YldOK (P : Program) (C : Cons) : Prop := ∀ s F w us args, C.J s F w → C.ok s args → VRs (fun _ => none) args us → ∃ fn tmps assign body, (Instr.yield C.lb us.toArray).run P w = .ok (.round C.lb fn tmps assign body) w ∧
  ∀ r n, RoundIn (FR r) n P C.lb fn tmps assign body w fun e w' => ∃ F', e = .returned (.bool (C.step s args).2) ∧ C.J (C.step s args).1 F' w' ∧ w'.os = w.os ∧ w'.tape = w.tape ∧ w'.output = w.output ∧ w.heap.size ≤ w'.heap.size ∧
    (∀ b, b < w.heap.size → ¬ F b → w'.heap[b]? = w.heap[b]?) ∧ ∀ b, F' b → F b ∨ w.heap.size ≤ b

/-- A call that hands things over, and leaves the names as they were. -/
structure OkJ (G : Nat) (P : Program) (C : Cons) (fl lo f : Nat) (args : List AV) (m : List (Nat × Option AObj)) (c : Nat) (s : C.γ) (R : AV → List (Nat × Option AObj) → C.γ → Prop) : Prop where
  enter : ∀ us w, (callFunc f us).run P w = .ok (.enter f us) w
  run : ∀ ρ w F us, Holds G ρ (ofM m) c w → VRs ρ args us → Beside C ρ lo fl F s w → ∀ r n, CallsIn (FR r) n P f us.toArray w fun e w' =>
    ∃ u v m' s' F', e = .returned u ∧ R v m' s' ∧ VR ρ v u ∧ Holds G ρ (ofM m') c w' ∧ FrJ ρ fl F w w' ∧ Beside C ρ lo fl F' s' w' ∧ ∀ b, F' b → F b ∨ w.heap.size ≤ b

theorem wantedT {a : Act} (he : EnvR ρ (ofL l) n a.tmps) (hw : wantedL ops.toList o l = some true) : Region.wanted o (yielded ops a.tmps) = true := wanted_sound he (by rw [wantedL_eq]; exact hw)

/-- An operation that calls something on. -/
theorem RTJ.callJ [hP : PG P G] {f : Nat} {first cap args : List AV} {R : AV → List (Nat × Option AObj) → C.γ → Prop} (hw : wantedL ops.toList o l = some true) (hk : isCall o.op = true) (hv : operandsL G l (opArgs o.op) = some (.fn f first cap :: args)) (hs : OkJ G P C fl lo f (first ++ args ++ cap) m c s R)
    (hd : o.dst = some d) (hn : Nat.blt d n = true) (h : ∀ v m' s', R v m' s' → RTJ G P C fl cb lo ops rest (stL n dfs ((d, v) :: l) m' c) s' Q) : RTJ G P C fl cb lo ops (o :: rest) (stL n dfs l m c) s Q := by
  refine ⟨fun ρ a w F k K h1 h2 hs0 hc hb hK => ?_⟩
  show (if Region.wanted o (yielded ops a.tmps) then _ else _)
  rw [wantedT hs0.env hw, if_pos rfl]
  have hvs := operands_sound (G := G) hs0.mem hs0.env (xs := opArgs o.op) (vs := .fn f first cap :: args) (by rw [← hv]; exact operandsL_eq _ _ _)
  refine ⟨fun f _ => FR_fn none f, ?_⟩
  obtain ⟨dst, op, type, pos, after, guard⟩ := o
  simp only at hk hvs hd ⊢
  subst hd
  cases op <;> simp only [isCall, Bool.false_eq_true] at hk
  rename_i kk
  obtain ⟨callee, cargs, argTypes⟩ := kk
  cases callee <;> simp only [Bool.false_eq_true] at hk
  rename_i g
  rw [semAt_eq (r := (FR none).round) (by intro k h; cases h)]
  have hv' : VRs ρ (.fn f first cap :: args) (a.eval g :: (cargs.map a.eval).toList) := by simpa [opArgs, Op.operands, Call.operands] using hvs
  obtain ⟨u, us, e0, g1, g2⟩ := hv'.cons_inv
  simp only [List.cons.injEq] at e0
  obtain ⟨e1, e2⟩ := e0
  simp only [VR] at g1
  obtain ⟨fs, cs, hf, hc2, rfl⟩ := g1
  have hex : (execOp a.eval { dst := some d, op := .call { callee := .value g, args := cargs, argTypes := argTypes }, type := type, pos := pos, after := after, guard := guard }).run P w = .ok (.enter f (fs.toArray ++ cargs.map a.eval ++ cs.toArray)) w := by
    simp only [execOp, resolve, e1, Deferred.ofValue, Sem.run_bind, Sem.run_pure, Result.andThen_ok, invoke, hs.enter]
  rw [hex]
  simp only [Oper.uponIn_enter]
  refine ⟨fun h => (by rw [FR_depth] at h; cases h), ?_⟩
  have := hs.run ρ w F _ hs0.mem ((hf.append g2).append hc2) hb none (k - 1)
  rw [show (fs ++ us ++ cs).toArray = fs.toArray ++ cargs.map a.eval ++ cs.toArray by rw [← e2]; simp] at this
  refine this.mono fun e' w' hh => ?_
  obtain ⟨u, v, m', s', F', rfl, hR, hvu, hw', hfr, hb', hFF⟩ := hh
  exact (h v m' s' hR).run ρ (a.put (some d) u) w' F' k K h1 h2 ⟨put_sound hs0.env hvu (put_some (o := ⟨some d, .call ⟨.value g, cargs, argTypes⟩, type, pos, after, guard⟩) hn rfl), hw', by rw [put_defers]; exact hs0.dfs⟩ hc hb'
    fun a2 w2 hp => hK a2 w2 (hp.trans (.refl _ _ _ _) hfr hFF)

/-- Something is handed over. -/
theorem RTJ.yield [hP : PG P G] {args : List AV} (hY : YldOK P C) (hw : wantedL ops.toList o l = some true) (hk : isCall o.op = true) (hv : operandsL G l (opArgs o.op) = some (.yld lo :: args)) (hp : Pls args) (hok : C.ok s args) (hlo : lookM m lo = none)
    (hd : o.dst = some d) (hn : Nat.blt d n = true) (h : RTJ G P C fl cb lo ops rest (stL n dfs ((d, .bool (C.step s args).2) :: l) m c) (C.step s args).1 Q) : RTJ G P C fl cb lo ops (o :: rest) (stL n dfs l m c) s Q := by
  refine ⟨fun ρ a w F k K h1 h2 hs0 hc hb hK => ?_⟩
  show (if Region.wanted o (yielded ops a.tmps) then _ else _)
  rw [wantedT hs0.env hw, if_pos rfl]
  have hvs := operands_sound (G := G) hs0.mem hs0.env (xs := opArgs o.op) (vs := .yld lo :: args) (by rw [← hv]; exact operandsL_eq _ _ _)
  refine ⟨fun f _ => FR_fn none f, ?_⟩
  obtain ⟨dst, op, type, pos, after, guard⟩ := o
  simp only at hk hvs hd ⊢
  subst hd
  cases op <;> simp only [isCall, Bool.false_eq_true] at hk
  rename_i kk
  obtain ⟨callee, cargs, argTypes⟩ := kk
  cases callee <;> simp only [Bool.false_eq_true] at hk
  rename_i g
  rw [semAt_eq (r := (FR none).round) (by intro k h; cases h)]
  have hv' : VRs ρ (.yld lo :: args) (a.eval g :: (cargs.map a.eval).toList) := by simpa [opArgs, Op.operands, Call.operands] using hvs
  obtain ⟨u, us, e0, g1, g2⟩ := hv'.cons_inv
  simp only [List.cons.injEq] at e0
  obtain ⟨e1, e2⟩ := e0
  simp only [VR] at g1
  obtain ⟨p, hpl, rfl⟩ := g1
  obtain ⟨p', hp1, hp2⟩ := hb.lb
  rw [hpl] at hp1
  cases hp1
  have hno : ∃ x, ρ x = none := ⟨c, hs0.mem.fresh c (Nat.le_refl _)⟩
  obtain ⟨fn, tmps, assign, body, hy, hr⟩ := hY s F w us args hb.j hok (hp.vrs hno g2)
  rw [← hp2] at hy hr
  have hex : (execOp a.eval { dst := some d, op := .call { callee := .value g, args := cargs, argTypes := argTypes }, type := type, pos := pos, after := after, guard := guard }).run P w = .ok (.round p.b fn tmps assign body) w := by
    have : #[] ++ cargs.map a.eval = us.toArray := by rw [← e2, Array.toArray_toList]; exact Array.empty_append
    simp only [execOp, resolve, e1, Deferred.ofValue, Sem.run_bind, Sem.run_pure, Result.andThen_ok, invoke, this, hy]
  rw [hex]
  simp only [Oper.uponIn_round]
  refine ⟨fun h => (by rw [FR_depth] at h; cases h), (hr none (k - 1)).mono fun e' w' hh => ?_⟩
  obtain ⟨F', rfl, hJ, q1, q2, q3, q4, q5, q6⟩ := hh
  have hmem : Holds G ρ (ofM m) c w' := by
    refine ⟨fun x ob hx => ?_, hs0.mem.sep, hs0.mem.fresh, fun x p hp => Nat.lt_of_lt_of_le (hs0.mem.lt x p hp) q4, hs0.mem.glob⟩
    obtain ⟨px, hx1, hx2⟩ := hs0.mem.obj x ob hx
    have hne : x ≠ lo := fun e => by (have hx0 : (ofM m).get x = some ob := hx; rw [e, ofM_get, hlo] at hx0; cases hx0)
    exact ⟨px, hx1, hx2.world (q5 px.b (hs0.mem.lt x px hx1) (hb.d x px hne hx1))⟩
  exact h.run ρ (a.put (some d) (.bool (C.step s args).2)) w' F' k K h1 h2 ⟨put_sound hs0.env (by simp only [VR]) (put_some (o := ⟨some d, .call ⟨.value g, cargs, argTypes⟩, type, pos, after, guard⟩) hn rfl), hmem, by rw [put_defers]; exact hs0.dfs⟩ hc
    ⟨hJ, fun x px hx hpx hf => (q6 px.b hf).elim (hb.d x px hx hpx) fun h => by (have := hs0.mem.lt x px hpx); omega, hb.rd, ⟨p, hpl, hp2⟩⟩
    fun a2 w2 hp => hK a2 w2 (hp.trans (.refl _ _ _ _) ⟨q1, q2, q3, q4, fun b hb _ hf => q5 b hb hf⟩ q6)

/-- A function that hands things over, in a memory that holds just what it looks at. -/
structure CanJ (G : Nat) (P : Program) (C : Cons) (fl lo f : Nat) (args : List AV) (m : List (Nat × Option AObj)) (c : Nat) (s : C.γ) (Qf : AV → T AObj → C.γ → Prop) : Prop where
  enter : ∀ us w, (callFunc f us).run P w = .ok (.enter f us) w
  run : ∀ ρ w F us, Holds G ρ (ofM m) c w → VRs ρ args us → Beside C ρ lo fl F s w → ∀ r n, CallsIn (FR r) n P f us.toArray w fun e w' =>
    ∃ u v H' c' ρ' s' F', e = .returned u ∧ Qf v H' s' ∧ VR ρ' v u ∧ Holds G ρ' H' c' w' ∧ c ≤ c' ∧ ExtB ρ ρ' fl c w ∧ FrJ ρ fl F w w' ∧ Beside C ρ' lo fl F' s' w' ∧ ∀ b, F' b → F b ∨ w.heap.size ≤ b

structure rtJ (P : Program) (C : Cons) (fl : Nat) (rs : List ResultVar) (Qf : AV → T AObj → C.γ → Prop) (e : AExit) (st : St) (s : C.γ) : Prop where
  go : rtQ P fl rs (fun v H _ => Qf v H s) e st

theorem CanJ.mk' {f : Nat} {fn : Func} {args : List AV} {Qf : AV → T AObj → C.γ → Prop}
    (h1 : P.funcs[f]? = some fn) (h2 : fn.body = some code) (h3 : (fn.name == "runtime.NumGoroutine") = false) (hn : args.length + (fn.ntmps - args.length) = n) (hlo : lo < fl) (hfl : fl ≤ c)
    (h : TrJ G P C fl c lo code (stL n [] (argL args 0) m c) s (rtJ P C fl fn.results.toList Qf)) : CanJ G P C fl lo f args m c s Qf := by
  refine ⟨fun us w => ?_, fun ρ w F us hH hv hb b k => ?_⟩
  · simp only [callFunc, Sem.run_bind, run_program, Result.andThen_ok, h1, h3, Bool.false_eq_true, if_false, h2, Option.isNone_some]
    rfl
  · have he := env_args hv fn.ntmps
    have hs : SR G ρ (stL n [] (argL args 0) m c) { tmps := us.toArray ++ Array.replicate (fn.ntmps - us.toArray.size) undef, defers := [] } w :=
      ⟨⟨by rw [← hn]; exact he.1, fun t v ht => by
        have h4 : look (argL args 0) t = some v := by rw [← ofL_get]; exact ht
        have := he.2 t v (argL_get h4)
        rw [hn] at this
        exact this⟩, hH, rfl⟩
    have fin : ∀ st1 a' w' s1 F1, (∃ H' v, leaveA fl st1.H st1.dfs = some H' ∧ resultsA P st1.env H' fn.results.toList = some v ∧ Qf v H' s1) → (∃ ρ1, SR G ρ1 st1 a' w' ∧ c ≤ st1.c ∧ ExtB ρ ρ1 fl c w ∧ FrJ ρ fl F w w' ∧ Beside C ρ1 lo fl F1 s1 w' ∧ ∀ b, F1 b → F b ∨ w.heap.size ≤ b) →
        LeavesInM (FR none) k P fn a'.tmps (fun e w' => ∃ u v H' c' ρ' s' F', e = .returned u ∧ Qf v H' s' ∧ VR ρ' v u ∧ Holds G ρ' H' c' w' ∧ c ≤ c' ∧ ExtB ρ ρ' fl c w ∧ FrJ ρ fl F w w' ∧ Beside C ρ' lo fl F' s' w' ∧ ∀ b, F' b → F b ∨ w.heap.size ≤ b) a'.defers .returning w' := by
      rintro st1 a' w' s1 F1 ⟨H', v, hl, hv', hq⟩ ⟨ρ1, hs1, hc1, he1, hf1, hb1, hF1⟩
      refine leave_sound (b := none) hs1.mem hs1.dfs hl fun w2 hw2 hf2 => ?_
      obtain ⟨u, hu, hvu⟩ := results_sound (P := P) hw2 hs1.env hv'
      exact ⟨u, hu, u, v, H', st1.c, ρ1, s1, F1, rfl, hq, hvu, hw2, hc1, he1, hf1.trans he1 hF1 (.of hf2), hb1.stab hlo hfl (.refl _ _ _ _) hf2, hF1⟩
    have main : CallsIn (FR none) k P f us.toArray w fun e w' => ∃ u v H' c' ρ' s' F', e = .returned u ∧ Qf v H' s' ∧ VR ρ' v u ∧ Holds G ρ' H' c' w' ∧ c ≤ c' ∧ ExtB ρ ρ' fl c w ∧ FrJ ρ fl F w w' ∧ Beside C ρ' lo fl F' s' w' ∧ ∀ b, F' b → F b ∨ w.heap.size ≤ b := by
      refine callsIn_of_wp_marks h1 h2 trivial ?_
      refine wpIn_mono (h.run ρ _ w F k hlo hfl hs (Nat.le_refl _) hb) fun e1 a1 w1 hp => ?_
      obtain ⟨e, st1, ρ1, s1, F1, rfl, ⟨⟨hq⟩⟩, hs1, hc1, he1, hf1, hb1, hF1⟩ := hp
      cases e with
      | normal => exact fin st1 a1 w1 s1 F1 hq ⟨ρ1, hs1, hc1, he1, hf1, hb1, hF1⟩
      | ret => exact fin st1 a1 w1 s1 F1 hq ⟨ρ1, hs1, hc1, he1, hf1, hb1, hF1⟩
      | exit id => exact hq.elim
      | goto l => exact hq.elim
    cases b with
    | none => exact main
    | some l => exact main

end
end Go.Ev

/- A range over a function: its rounds are a consumer. -/
namespace Go.Ev
open Go

section
variable {G : Nat} {P : Program} {ρ ρ1 ρ2 : Rho} {fl cb c cc lo dn n p : Nat} {w w1 w2 : World} {F F1 F2 : Nat → Prop} {l : List (Nat × AV)} {ags bd : Code}
variable {σ : Type} {M : σ → List (Nat × Option AObj)} {stp : σ → List AV → σ × Option Code}

/-- A loop with one variable, as it lies in memory. -/
noncomputable def lpO (n p dn : Nat) (l : List (Nat × AV)) (ags bd : Code) (st : LoopState) (j : Option Code) : AObj := .loop st j (ofL l) n [p] ags bd dn
def lpS (j : Option Code) : LoopState := bif j.isNone then .ready else .done

/-- What a round does. -/
structure RndOK (G : Nat) (P : Program) (fl cb cc lo dn n p : Nat) (l : List (Nat × AV)) (ags bd : Code) (M : σ → List (Nat × Option AObj)) (ok : σ → List AV → Prop) (stp : σ → List AV → σ × Option Code) : Prop where
  one : ∀ s args, ok s args → ∃ v, args = [v] ∧ Pl v
  run : ∀ s v, ok s [v] → Tr G P fl cb (some lo) ags (stL n [] ((p, v) :: l) ((lo, some (lpO n p dn l ags bd .ready none)) :: M s) cc) fun e st => e = .normal ∧ ∃ l1 m1 c1, st = stL n [] l1 m1 c1 ∧ lookM m1 lo = some (lpO n p dn l ags bd .ready none) ∧
    Tr G P fl cb (some lo) bd (stL n [] l1 ((lo, some (lpO n p dn l ags bd .busy none)) :: m1) c1) fun e2 st2 => jumpOf e2 = (stp s [v]).2 ∧ Wk G fl cb st2 (stL n [] [] ((lo, some (lpO n p dn l ags bd .busy none)) :: M (stp s [v]).1) cc)

structure RJ (G : Nat) (ρ0 : Rho) (fl cb cc lo dn n p : Nat) (l : List (Nat × AV)) (ags bd : Code) (M : σ → List (Nat × Option AObj)) (s : σ × Option Code) (F : Nat → Prop) (w : World) : Prop where
  ex : ∃ ρ', (∀ x, x < cb → ρ' x = ρ0 x) ∧ Holds G ρ' (ofM ((lo, some (lpO n p dn l ags bd (lpS s.2) s.2)) :: M s.1)) cc w ∧ ∀ x q, fl ≤ x → ρ' x = some q → F q.b
  lt : ∀ b, F b ∨ (∃ x q, x < fl ∧ ρ0 x = some q ∧ q.b = b) → b < w.heap.size

/-- The rounds as a consumer. -/
noncomputable def rndC (G : Nat) (ρ0 : Rho) (lb fl cb cc lo dn n p : Nat) (l : List (Nat × AV)) (ags bd : Code) (M : σ → List (Nat × Option AObj)) (ok : σ → List AV → Prop) (stp : σ → List AV → σ × Option Code) (cap : Nat → σ → Prop) (hcap : ∀ k s args, cap (k + 1) s → (stp s args).2 = none → cap k (stp s args).1) (hfl : fl ≤ cb) : Cons where
  γ := σ × Option Code
  J := RJ G ρ0 fl cb cc lo dn n p l ags bd M
  Rd := fun b => ∃ x q, x < fl ∧ ρ0 x = some q ∧ q.b = b
  keep := fun s F w w' ⟨⟨ρ', h1, h2, h3⟩, h4⟩ hs hk => ⟨⟨ρ', h1, ⟨fun x o hx => by
    obtain ⟨q, g1, g2⟩ := h2.obj x o hx
    refine ⟨q, g1, g2.world (hk q.b ?_)⟩
    rcases Nat.lt_or_ge x fl with h | h
    · exact .inr ⟨x, q, h, by rw [← h1 x (by omega)]; exact g1, rfl⟩
    · exact .inl (h3 x q h g1), h2.sep, h2.fresh, fun x q hq => Nat.lt_of_lt_of_le (h2.lt x q hq) hs, h2.glob⟩, h3⟩, fun b hb => Nat.lt_of_lt_of_le (h4 b hb) hs⟩
  lt := fun s F w b h hb => h.lt b hb
  lb := lb
  ok := fun s args => s.2 = none ∧ ok s.1 args
  step := fun s args => (stp s.1 args, (stp s.1 args).2.isNone)
  lv := fun k s => s.2 = none ∧ cap k s.1
  live := fun k s args h h2 => by have h2' : (stp s.1 args).2 = none := by simpa using h2
                                  exact ⟨h2', hcap k s.1 args h.2 h2'⟩

theorem rnd_yld {cap : Nat → σ → Prop} {hcap : ∀ k s args, cap (k + 1) s → (stp s args).2 = none → cap k (stp s args).1} {ρ0 : Rho} {lb : Nat} {ok : σ → List AV → Prop} (hfl : fl ≤ cb) (hG : G ≤ cb) (hlo : lo < cb) (hlf : fl ≤ lo) (hlb : ∃ q, ρ0 lo = some q ∧ q.b = lb) (hp : Nat.blt p n = true) (h : RndOK G P fl cb cc lo dn n p l ags bd M ok stp) (hcc : cb ≤ cc) :
    YldOK P (rndC G ρ0 lb fl cb cc lo dn n p l ags bd M ok stp cap hcap hfl) := by
  rintro ⟨s, j⟩ F w us args ⟨⟨ρ', h1, h2, h3⟩, h4⟩ ⟨hj, hok⟩ hv
  replace hj : j = none := hj
  subst hj
  obtain ⟨v, rfl, hpl⟩ := h.one s args hok
  obtain ⟨q, hq1, hq2⟩ := hlb
  have hq : ρ' lo = some q := by rw [h1 lo hlo]; exact hq1
  have hl : (ofM ((lo, some (lpO n p dn l ags bd .ready none)) :: M s)).get lo = some (lpO n p dn l ags bd .ready none) := by rw [ofM_get, lookM]; simp
  obtain ⟨q', hq', fn, tmps, d, hh, henv, hdn⟩ := h2.obj lo _ hl
  rw [hq] at hq'
  cases hq'
  obtain ⟨u, us', rfl, hvu, hnil⟩ := hv.cons_inv
  have := hnil.nil_inv
  subst this
  have hvu' : VR ρ' v u := hpl.vr ⟨0, rfl⟩ hvu
  have hy := run_yield (P := P) (args := [u].toArray) hh (by simp)
  subst hq2
  refine ⟨_, _, _, _, hy, fun r k => ?_⟩
  have hset : setParams (ofL l) n [p] [v] = some (ofL ((p, v) :: l)) := by
    simp only [setParams, putA, hp, cond_true]
    rfl
  obtain ⟨hlen, henv1⟩ := setParams_sound henv (.cons hvu' .nil) hset
  have main : RoundIn FW k P q.b fn (([p].toArray.zip [u].toArray).foldl (fun tmps (t, a) => tmps.setIfInBounds t a) tmps) ags bd w fun e w' => ∃ F', e = .returned (.bool (stp s [v]).2.isNone) ∧ RJ G ρ0 fl cb cc lo dn n p l ags bd M (stp s [v]) F' w' ∧ w'.os = w.os ∧ w'.tape = w.tape ∧ w'.output = w.output ∧ w.heap.size ≤ w'.heap.size ∧
      (∀ b, b < w.heap.size → ¬ F b → w'.heap[b]? = w.heap[b]?) ∧ ∀ b, F' b → F b ∨ w.heap.size ≤ b := by
    refine roundIn_of_wpIn trivial ?_
    have htm : ([p].toArray.zip [u].toArray).foldl (fun tmps (t, a) => tmps.setIfInBounds t a) tmps = ([p].zip [u]).foldl (fun tmps (t, x) => tmps.setIfInBounds t x) tmps := by
      rw [← Array.foldl_toList]
      simp
    rw [htm]
    refine wpIn_mono ((h.run s v hok).run ρ' { tmps := ([p].zip [u]).foldl (fun tmps (t, x) => tmps.setIfInBounds t x) tmps, defers := [] } w (some q.b) k ⟨henv1, h2, rfl⟩ hcc (fun l0 hl0 => by cases hl0; exact hlo) ⟨q, hq, rfl⟩) fun e1 a1 w1 hpx => ?_
    obtain ⟨e, st1, ρ1, rfl, ⟨rfl, l1, m1, c1, rfl, hl1, hbd⟩, hs1, hc1, he1, hf1⟩ := hpx
    show ∃ w₂, _
    have hq1' : ρ1 lo = some q := by rw [he1.1 lo hlo]; exact hq
    obtain ⟨q2, hq2, fn1, tmps1, d1, hh1, henv2, hdn1⟩ := hs1.mem.obj lo _ (by show (ofM m1).get lo = _; rw [ofM_get]; exact hl1)
    rw [hq1'] at hq2
    cases hq2
    have hbusy := put_write (fl := fl) (ob := .loop { state := .busy, pending := none, fn := fn1, tmps := tmps1, params := [p].toArray, assign := ags, body := bd, defers := d1 }) (o' := lpO n p dn l ags bd .busy none)
      hs1.mem (x := lo) (o := lpO n p dn l ags bd .ready none) (by show (ofM m1).get lo = _; rw [ofM_get]; exact hl1) rfl hq1' hlf ⟨fn1, tmps1, d1, World.putObj_heap_same (obj_lt hh1), henv2, hdn1⟩
    obtain ⟨hb1, hb2⟩ := hbusy
    refine ⟨_, run_beginRound hh1 rfl, ?_⟩
    refine wpIn_mono (hbd.run ρ1 a1 _ (some q.b) k ⟨hs1.env, hb1, hs1.dfs⟩ hc1 (fun l0 hl0 => by cases hl0; exact hlo) ⟨q, hq1', rfl⟩) fun e3 a3 w3 hpx => ?_
    obtain ⟨e2, st3, ρ3, rfl, ⟨hj2, hwk⟩, hs3, hc3, he3, hf3⟩ := hpx
    obtain ⟨ρ4, hs4, he4⟩ := hwk.sr hs3
    have hq4 : ρ4 lo = some q := by rw [he4.1 lo hlo, he3.1 lo hlo]; exact hq1'
    have hl4 : (ofM ((lo, some (lpO n p dn l ags bd .busy none)) :: M (stp s [v]).1)).get lo = some (lpO n p dn l ags bd .busy none) := by rw [ofM_get, lookM]; simp
    obtain ⟨q3, hq3, fn3, tmps3, d3, hh3, henv3, hdn3⟩ := hs4.mem.obj lo _ hl4
    rw [hq4] at hq3
    cases hq3
    have fin : ∀ (jj : Option Code), jj = (stp s [v]).2 → ∃ uu w', (Instr.endRound q.b jj).run P w3 = .ok uu w' ∧ ∃ F', Ending.returned uu = .returned (.bool (stp s [v]).2.isNone) ∧ RJ G ρ0 fl cb cc lo dn n p l ags bd M (stp s [v]) F' w' ∧ w'.os = w.os ∧ w'.tape = w.tape ∧ w'.output = w.output ∧ w.heap.size ≤ w'.heap.size ∧
        (∀ b, b < w.heap.size → ¬ F b → w'.heap[b]? = w.heap[b]?) ∧ ∀ b, F' b → F b ∨ w.heap.size ≤ b := by
      intro jj hjj
      subst hjj
      have hst : (if (stp s [v]).2.isNone then LoopState.ready else .done) = lpS (stp s [v]).2 := by unfold lpS; rw [Bool.cond_eq_ite]
      have hend := put_write (fl := fl) (ob := .loop { state := (if (stp s [v]).2.isNone then .ready else .done), pending := (stp s [v]).2, fn := fn3, tmps := tmps3, params := [p].toArray, assign := ags, body := bd, defers := d3 })
        (o' := lpO n p dn l ags bd (lpS (stp s [v]).2) (stp s [v]).2) hs4.mem hl4 rfl hq4 hlf ⟨fn3, tmps3, d3, by rw [World.putObj_heap_same (obj_lt hh3), hst], henv3, hdn3⟩
      obtain ⟨g1, g2⟩ := hend
      have hF := hf1.transB he1 (hb2.transB (.refl ρ1 fl cb _) (hf3.transB (he3.trans hf3.size he4) g2))
      have hE : ExtB ρ' ρ4 fl cb w := he1.trans hf1.size ((ExtB.refl ρ1 fl cb w1).trans (by simp) (he3.trans hf3.size he4))
      have hget : ∀ x o, (ofM ((lo, some (lpO n p dn l ags bd (lpS (stp s [v]).2) (stp s [v]).2)) :: M (stp s [v]).1)).get x = some o → ((ofM ((lo, some (lpO n p dn l ags bd .busy none)) :: M (stp s [v]).1)).set lo (lpO n p dn l ags bd (lpS (stp s [v]).2) (stp s [v]).2)).get x = some o := fun x o hx => by
        replace hx : ((ofM (M (stp s [v]).1)).set lo (lpO n p dn l ags bd (lpS (stp s [v]).2) (stp s [v]).2)).get x = some o := hx
        rw [T.get_set] at hx ⊢
        split
        · rename_i e; rw [if_pos e] at hx; exact hx
        · rename_i e
          rw [if_neg e] at hx
          show ((ofM (M (stp s [v]).1)).set lo (lpO n p dn l ags bd .busy none)).get x = some o
          rw [T.get_set, if_neg e]; exact hx
      refine ⟨_, _, run_endRound (stp s [v]).2 hh3, fun b => F b ∨ (w.heap.size ≤ b ∧ b < w3.heap.size), rfl, ⟨⟨ρ4, fun x hx => (hE.1 x hx).trans (h1 x hx), ⟨fun x o hx => g1.obj x o (hget x o hx), fun x y o o' q q' hxy hx hy => g1.sep x y o o' q q' hxy (hget x o hx) (hget y o' hy), g1.fresh, g1.lt, g1.glob⟩, fun x t hx ht => ?_⟩, fun b hb => ?_⟩, hF.os, hF.tape, hF.output, hF.size, fun b hb hnF => hF.keep b hb fun x t hx ht e => hnF (e ▸ h3 x t hx ht), fun b hb => hb.elim .inl fun h => .inr h.1⟩
      · rcases hE.2 x t hx ht with h5 | ⟨y, t', hy, ht', hb⟩
        · exact .inr ⟨h5, by simpa using g1.lt x t ht⟩
        · exact .inl (hb ▸ h3 y t' hy ht')
      · rcases hb with (hb | hb) | hb
        · exact Nat.lt_of_lt_of_le (h4 b (.inl hb)) hF.size
        · simpa using hb.2
        · exact Nat.lt_of_lt_of_le (h4 b (.inr hb)) hF.size
    cases e2
    · obtain ⟨u, w', g1, g2⟩ := fin none hj2
      exact ⟨u, w', g1, g2⟩
    · obtain ⟨u, w', g1, g2⟩ := fin _ hj2
      exact ⟨u, w', g1, g2⟩
    · obtain ⟨u, w', g1, g2⟩ := fin _ hj2
      exact ⟨u, w', g1, g2⟩
    · obtain ⟨u, w', g1, g2⟩ := fin _ hj2
      exact ⟨u, w', g1, g2⟩
  cases r with
  | none => exact main
  | some l => exact main
end
end Go.Ev

/- A range over a function, in code over explicit states. -/
namespace Go.Ev
open Go

theorem TT.ren_setF (σ : Nat → Nat) (v : Option AV) : ∀ (f : Nat) (t : TT AV) (n : Nat), (TT.setF v f t n).ren σ = TT.setF (v.map (AV.ren σ)) f (t.ren σ) n
  | 0, t, n => rfl
  | f + 1, t, n => by
    rcases odd_even n with rfl | ⟨k, rfl⟩ | ⟨k, rfl⟩
    · cases t <;> rfl
    · rw [TT.setF1, TT.setF1, TT.ren, TT.ren_setF σ v f]; cases t <;> rfl
    · rw [TT.setF2, TT.setF2, TT.ren, TT.ren_setF σ v f]; cases t <;> rfl
theorem ofL_ren {σ : Nat → Nat} : ∀ {l : List (Nat × AV)}, allL (fun _ v => v.ren σ = v) l → (ofL l).ren σ = ofL l
  | [], _ => rfl
  | (d, v) :: l, h => by
    show (TT.setF (some v) (d + 1) (ofL l) d).ren σ = TT.setF (some v) (d + 1) (ofL l) d
    rw [TT.ren_setF, ofL_ren h.2, Option.map_some, h.1]
theorem lpO_ren {σ : Nat → Nat} {n p dn : Nat} {l : List (Nat × AV)} {ags bd : Code} {st : LoopState} {j : Option Code} (h : allL (fun _ v => v.ren σ = v) l) (hd : σ dn = dn) : (lpO n p dn l ags bd st j).ren σ = lpO n p dn l ags bd st j := by
  unfold lpO
  rw [AObj.ren, ofL_ren h, hd]
theorem lookM_mem {x : Nat} {o : AObj} : ∀ {l : List (Nat × Option AObj)}, lookM l x = some o → x ∈ l.map (·.1)
  | [], h => by cases h
  | (d, v) :: l, h => by
    rw [lookM, Bool.cond_eq_ite] at h
    split at h
    · rename_i e
      have e' : x = d := by simpa using e
      simp [e']
    · exact List.mem_cons_of_mem _ (lookM_mem h)
theorem rt_goD {P : Program} [Tab P] {fl d n c : Nat} {l : List (Nat × AV)} {m : List (Nat × Option AObj)} {rs : List ResultVar} {vs : List AV} {Qf : AV → T AObj → Nat → Prop} (hd : lookM m d = some .dfr) (hf : Nat.ble fl d = true) (h : ressL P l ((d, some .dfrDone) :: m) rs = some vs) (hq : Qf (retV vs) (ofM ((d, some .dfrDone) :: m)) c) : rtQ P fl rs Qf .ret (stL n [d] l m c) := by
  have h0 := (rt_go (P := P) (fl := fl) (n := n) (c := c) (Qf := Qf) h hq).go
  obtain ⟨H', v, h1, h2, h3⟩ := h0
  cases h1
  refine ⟨⟨ofM ((d, some .dfrDone) :: m), v, ?_, h2, h3⟩⟩
  show leaveA fl (ofM m) [d] = _
  simp only [leaveA, ofM_get, hd, hf, cond_true]
  rfl
theorem lookM_append {x : Nat} {o : AObj} : ∀ {a b : List (Nat × Option AObj)}, lookM (a ++ b) x = some o → lookM a x = some o ∨ lookM b x = some o
  | [], b, h => .inr h
  | (d, v) :: a, b, h => by
    rw [List.cons_append, lookM, Bool.cond_eq_ite] at h
    rw [lookM, Bool.cond_eq_ite]
    split
    · rename_i e; rw [if_pos e] at h; exact .inl h
    · rename_i e; rw [if_neg e] at h; exact lookM_append h

/-- Names of a list stay, others are none. -/
def keepN (T : List Nat) (c x : Nat) : Nat := if x ∈ T ∨ x = c + 1 then x else c + 2 + x

section
variable {P : Program} {ρ : Rho} {fl cb c cc n p : Nat} {w : World} {l lC : List (Nat × AV)} {ags bd : Code} {m memT : List (Nat × Option AObj)}
variable {σ : Type} {M : σ → List (Nat × Option AObj)} {ok : σ → List AV → Prop} {stp : σ → List AV → σ × Option Code}

theorem Tr.range [hP : PG P 0] {room : Nat → σ → Prop} {hroom : ∀ k s args, room (k + 1) s → (stp s args).2 = none → room k (stp s args).1} {g : Operand} {gf flT flC : Nat} {first cap : List AV} {T NC : List Nat} {s0 : σ} {R : AV → List (Nat × Option AObj) → σ × Option Code → Prop} {Q : AExit → St → Prop}
    (hg : operandL 0 l g = some (.fn gf first cap)) (hpn : Nat.blt p n = true) (hflcb : fl ≤ cb) (hcbc : cb ≤ flC) (hflC : flC ≤ c) (hflT : fl ≤ flT) (hcc : c + 2 ≤ cc)
    (hT : allM (fun x o => x ∈ T ∧ lookM m x = some o ∧ o.ren (keepN T c) = o) memT) (hTo : ∀ x ∈ T, x < c ∧ ∃ o, lookM m x = some o ∧ (flT ≤ x → o.share = none)) (ha : AV.rens (keepN T c) (first ++ [.yld (c + 1)] ++ cap) = first ++ [.yld (c + 1)] ++ cap)
    (hl : allL (fun t v => look l t = some v ∧ v.ren (keepN NC c) = v) lC)
    (hM : allM (fun y o => y ∈ NC ∧ (y = c ∧ o = .dfr ∨ lookM m y = some o ∧ y < c) ∧ o.ren (keepN NC c) = o) (M s0)) (hN : ∀ y ∈ NC, y = c ∨ (flC ≤ y ∧ y < c ∧ y ∉ T ∧ ∃ o, lookM m y = some o ∧ o.share = none) ∨ (y < flC ∧ y < flT ∧ ∃ o, lookM m y = some o)) (hNc : c ∈ NC)
    (hMg : ∀ s y o, lookM (M s) y = some o → flC ≤ y ∧ y ≠ c + 1)
    (hrnd : RndOK 0 P flC (c + 2) cc (c + 1) c n p lC ags bd M ok stp)
    (hcall : ∀ (ρ0 : Rho) (lb : Nat) (h : flC ≤ c + 2), YldOK P (rndC 0 ρ0 lb flC (c + 2) cc (c + 1) c n p lC ags bd M ok stp room hroom h) → OkJ 0 P (rndC 0 ρ0 lb flC (c + 2) cc (c + 1) c n p lC ags bd M ok stp room hroom h) flT (c + 1) gf (first ++ [.yld (c + 1)] ++ cap) memT (c + 2) (s0, none) R)
    (hRl : ∀ v m' s', R v m' s' → lookM m' (c + 1) = none)
    (hQ : ∀ v m' s' j, R v m' (s', j) → match j with | none => Q .normal (stL n [c] l (m' ++ M s') cc) | some jc => Tr 0 P fl cb none jc (stL n [c] l (m' ++ M s') cc) Q) :
    Tr 0 P fl cb none (.rangeFunc g #[p] ags bd) (stL n [] l m c) Q := by
  refine ⟨fun ρ a w b k hs hc hr hb => ?_⟩
  cases b with
  | some _ => exact hb.elim
  | none =>
  have hgv := operand_sound (G := 0) hs.mem hs.env (x := g) (v := .fn gf first cap) (by rw [← hg]; exact operandL_eq _ _ _)
  simp only [VR] at hgv
  obtain ⟨fs, cs, hfs, hcs, hgv⟩ := hgv
  refine wpIn_rangeFunc fun fn _ => ?_
  rw [FR_round]
  have hmem : Holds 0 ρ (ofM m) c w := hs.mem
  have hent : ∃ (q : Win) (mark : List Deferred) (w1 : World) (ρ1 : Rho), (Instr.enterLoop fn a.tmps #[p] ags bd none).run P w = .ok (q.b, mark) w1 ∧ ρ1 (c + 1) = some q ∧ Holds 0 ρ1 (ofM ((c + 1, some (lpO n p c lC ags bd .ready none)) :: (c, some .dfr) :: m)) (c + 2) w1 ∧ Ext ρ ρ1 fl w c (c + 2) ∧ Fr ρ fl w w1 ∧
      DefR ρ1 [c] (mark ++ a.defers) ∧ w.heap.size ≤ q.b := by
    have hc0 := hmem.fresh c (Nat.le_refl _)
    have A1 := hmem.alloc 0 (.deferred (some [])) .dfr alloc_new
    have e1 : Ext ρ (upd ρ c ⟨w.heap.size, 0, 0⟩) fl w c (c + 1) := .upd hc0
    have hsz : (w.alloc (.deferred (some []))).heap.size = w.heap.size + 1 := by simp
    have hc1 := A1.fresh (c + 1) (Nat.le_refl _)
    have henv : EnvR ρ (ofL lC) n a.tmps := ⟨hs.env.1, fun t v ht => hs.env.2 t v (by
      show (ofL l).get t = _
      rw [ofL_get]
      exact (allL_look hl t v (by rw [← ofL_get]; exact ht)).1)⟩
    have A2 := A1.alloc 0 (.loop { state := .ready, pending := none, fn := fn, tmps := a.tmps, params := #[p], assign := ags, body := bd, defers := w.heap.size }) (lpO n p c lC ags bd .ready none)
      ⟨fn, a.tmps, w.heap.size, by rw [alloc_new], (henv.mono e1.le).mono (upd_le hc1), ⟨w.heap.size, 0, 0⟩, upd_le hc1 _ _ (upd_same _ _ _), rfl⟩
    have e2 : Ext (upd ρ c ⟨w.heap.size, 0, 0⟩) (upd (upd ρ c ⟨w.heap.size, 0, 0⟩) (c + 1) ⟨(w.alloc (.deferred (some []))).heap.size, 0, 0⟩) fl (w.alloc (.deferred (some []))) (c + 1) (c + 1 + 1) := .upd hc1
    refine ⟨⟨w.heap.size + 1, 0, 0⟩, _, _, _, run_enterLoop_outer _ _ _ _ _, by rw [← hsz]; exact upd_same _ _ _, A2, e1.trans (by simp) e2, (Fr.alloc ρ fl w _).trans e1 (Fr.alloc _ fl _ _), ?_, by show w.heap.size ≤ w.heap.size + 1; omega⟩
    exact ⟨⟨w.heap.size, 0, 0⟩, a.defers, upd_le hc1 _ _ (upd_same _ _ _), rfl, (hs.dfs.mono e1.le).mono (upd_le hc1)⟩
  obtain ⟨q, mark, w1, ρ1, hrun, hql, hH1, he1, hf1, hd1, hqn⟩ := hent
  have hlow : ∀ x, x < c → ρ1 x = ρ x := fun x hx => by
    cases h : ρ x with
    | some t => exact he1.le x t h
    | none =>
      cases h1 : ρ1 x with
      | none => rfl
      | some t => have := he1.low x t h h1; omega
  have hnone : ∀ x, c + 2 ≤ x → ρ1 x = none := hH1.fresh
  have hget : ∀ x o, x < c → lookM m x = some o → (ofM ((c + 1, some (lpO n p c lC ags bd .ready none)) :: (c, some .dfr) :: m)).get x = some o := fun x o hx ho => by
    rw [ofM_get, lookM, lookM, Bool.cond_eq_ite, if_neg (by simp; omega), Bool.cond_eq_ite, if_neg (by simp; omega)]
    exact ho
  have hgetc : (ofM ((c + 1, some (lpO n p c lC ags bd .ready none)) :: (c, some .dfr) :: m)).get c = some .dfr := by
    rw [ofM_get, lookM, lookM, Bool.cond_eq_ite, if_neg (by simp), Bool.cond_eq_ite, if_pos (by simp)]
  have hgetl : (ofM ((c + 1, some (lpO n p c lC ags bd .ready none)) :: (c, some .dfr) :: m)).get (c + 1) = some (lpO n p c lC ags bd .ready none) := by
    rw [ofM_get, lookM, Bool.cond_eq_ite, if_pos (by simp)]
  -- what the iterator finds
  have kT : ∀ x t, ρ1 (keepN T c x) = some t → (x ∈ T ∨ x = c + 1) ∧ ρ1 x = some t := fun x t h => by
    unfold keepN at h
    split at h
    · exact ⟨by assumption, h⟩
    · rw [hnone _ (by omega)] at h; cases h
  have kC : ∀ x t, ρ1 (keepN NC c x) = some t → (x ∈ NC ∨ x = c + 1) ∧ ρ1 x = some t := fun x t h => by
    unfold keepN at h
    split at h
    · exact ⟨by assumption, h⟩
    · rw [hnone _ (by omega)] at h; cases h
  have hHT : Holds 0 (fun x => ρ1 (keepN T c x)) (ofM memT) (c + 2) w1 := by
    refine hH1.ren (keepN T c) (fun x o hx => ?_) (fun x y o o' hx hy hxy => ?_) (fun x hx => ?_) (fun g hg => by omega)
    · obtain ⟨h1, h2, h3⟩ := allM_look hT x o (by rw [← ofM_get]; exact hx)
      rw [h3, show keepN T c x = x from if_pos (.inl h1)]
      exact hget x o (hTo x h1).1 h2
    · have h1 := (allM_look hT x o (by rw [← ofM_get]; exact hx)).1
      have h2 := (allM_look hT y o' (by rw [← ofM_get]; exact hy)).1
      rw [show keepN T c x = x from if_pos (.inl h1), show keepN T c y = y from if_pos (.inl h2)]
      exact .inl hxy
    · unfold keepN
      split
      · exact hx
      · omega
  -- what the rounds find
  have hobjC : ∀ x o, (ofM ((c + 1, some (lpO n p c lC ags bd .ready none)) :: M s0)).get x = some o → (x ∈ NC ∨ x = c + 1) ∧ (ofM ((c + 1, some (lpO n p c lC ags bd .ready none)) :: (c, some .dfr) :: m)).get x = some o ∧ (x ≠ c + 1 → o.ren (keepN NC c) = o) := fun x o hx => by
    rw [ofM_get, lookM, Bool.cond_eq_ite] at hx
    split at hx
    · rename_i e
      have e' : x = c + 1 := by simpa using e
      subst e'
      cases hx
      exact ⟨.inr rfl, hgetl, fun h => absurd rfl h⟩
    · obtain ⟨h1, h2, h3⟩ := allM_look hM x o hx
      refine ⟨.inl h1, ?_, fun _ => h3⟩
      rcases h2 with ⟨rfl, rfl⟩ | ⟨h2, h4⟩
      · exact hgetc
      · exact hget x o h4 h2
  have hHC : Holds 0 (fun x => ρ1 (keepN NC c x)) (ofM ((c + 1, some (lpO n p c lC ags bd .ready none)) :: M s0)) cc w1 := by
    have kk : ∀ x, x ∈ NC ∨ x = c + 1 → keepN NC c x = x := fun x h => if_pos h
    refine ⟨fun x o hx => ?_, fun x y o o' t t' hxy hx hy ht ht' => ?_, fun x hx => ?_, fun x t ht => hH1.lt _ t ht, fun g hg => by omega⟩
    · obtain ⟨h1, h2, h3⟩ := hobjC x o hx
      obtain ⟨t, h4, h5⟩ := hH1.obj x o h2
      refine ⟨t, by show ρ1 (keepN NC c x) = _; rw [kk x h1]; exact h4, ?_⟩
      by_cases e : x = c + 1
      · subst e
        rw [hgetl] at h2
        cases h2
        obtain ⟨f0, t0, d0, g1, g2, ⟨q0, g3, g4⟩⟩ := h5
        refine ⟨f0, t0, d0, g1, ⟨g2.1, fun tt vv hv => ⟨(g2.2 tt vv hv).1, ?_⟩⟩, ⟨q0, by show ρ1 (keepN NC c c) = _; rw [kk c (.inl hNc)]; exact g3, g4⟩⟩
        have := (g2.2 tt vv hv).2
        rw [← (allL_look hl tt vv (by rw [← ofL_get]; exact hv)).2] at this
        exact (VR_ren ρ1 (keepN NC c) vv _).1 this
      · rw [← h3 e] at h5
        exact (ObjR_ren ρ1 (keepN NC c) w1 t o).1 h5
    · obtain ⟨h1, h2, _⟩ := hobjC x o hx
      obtain ⟨h3, h4, _⟩ := hobjC y o' hy
      exact hH1.sep x y o o' t t' hxy h2 h4 (kC x t ht).2 (kC y t' ht').2
    · show ρ1 (keepN NC c x) = none
      have hx' : cc ≤ x := hx
      unfold keepN
      split
      · exact hnone x (by omega)
      · exact hnone _ (by omega)
  have hcb2 : flC ≤ c + 2 := by omega
  have hNo : ∀ y, flC ≤ y → y ∈ NC ∨ y = c + 1 → y ∉ T ∧ ∃ o, (ofM ((c + 1, some (lpO n p c lC ags bd .ready none)) :: (c, some .dfr) :: m)).get y = some o ∧ o.share = none := fun y hfy hy => by
    rcases hy with hy | rfl
    · rcases hN y hy with rfl | ⟨h1, h2, h3, o, h4, h5⟩ | ⟨h1, _⟩
      · exact ⟨fun h => by have := (hTo _ h).1; omega, _, hgetc, rfl⟩
      · exact ⟨h3, o, hget y o h2 h4, h5⟩
      · omega
    · exact ⟨fun h => by have := (hTo _ h).1; omega, _, hgetl, rfl⟩
  have hbes : Beside (rndC 0 (fun x => ρ1 (keepN NC c x)) q.b flC (c + 2) cc (c + 1) c n p lC ags bd M ok stp room hroom hcb2) (fun x => ρ1 (keepN T c x)) (c + 1) flT (fun b => ∃ x t, flC ≤ x ∧ ρ1 (keepN NC c x) = some t ∧ t.b = b) (s0, none) w1 := by
    refine ⟨⟨⟨fun x => ρ1 (keepN NC c x), fun _ _ => rfl, hHC, fun x t hx ht => ⟨x, t, hx, ht, rfl⟩⟩, fun b hb => ?_⟩, fun x t hx ht hf => ?_, fun x t hx ht hf => ?_, ⟨q, by show ρ1 (keepN T c (c + 1)) = _; rw [show keepN T c (c + 1) = c + 1 from if_pos (.inr rfl)]; exact hql, rfl⟩⟩
    · rcases hb with ⟨x, t, _, ht, rfl⟩ | ⟨x, t, _, ht, rfl⟩
      · exact hH1.lt _ t ht
      · exact hH1.lt _ t ht
    · obtain ⟨y, t', hy, ht', hb'⟩ := hf
      obtain ⟨h1, h2⟩ := kT x t ht
      obtain ⟨h3, h4⟩ := kC y t' ht'
      have hxT : x ∈ T := h1.resolve_right hx
      obtain ⟨g2, oy, g3, g4⟩ := hNo y hy h3
      obtain ⟨hxc, ox, hox, _⟩ := hTo x hxT
      have hxy : x ≠ y := fun e => g2 (e ▸ hxT)
      have := (hH1.sep x y ox oy t t' hxy (hget x ox hxc hox) g3 h2 h4 hb'.symm).ro.2
      unfold AObj.isRo at this
      rw [g4] at this
      simp at this
    · obtain ⟨y, t', hy, ht', hb'⟩ := hf
      obtain ⟨h1, h2⟩ := kT x t ht
      obtain ⟨h3, h4⟩ := kC y t' ht'
      have hyN : y ∈ NC := h3.resolve_right (by omega)
      rcases hN y hyN with rfl | ⟨g1, _⟩ | ⟨g1, g2, oy, g3⟩
      · omega
      · omega
      · have hyo := hget y oy (by omega) g3
        have hxo : ∃ ox, (ofM ((c + 1, some (lpO n p c lC ags bd .ready none)) :: (c, some .dfr) :: m)).get x = some ox ∧ ox.share = none := by
          rcases h1 with h1 | rfl
          · obtain ⟨hxc, ox, hox, hs⟩ := hTo x h1
            exact ⟨ox, hget x ox hxc hox, hs hx⟩
          · exact ⟨_, hgetl, rfl⟩
        obtain ⟨ox, hox, hxs⟩ := hxo
        have := (hH1.sep x y ox oy t t' (by omega) hox hyo h2 h4 hb'.symm).ro.1
        unfold AObj.isRo at this
        rw [hxs] at this
        simp at this
  have hY := rnd_yld (cap := room) (hcap := hroom) (P := P) (G := 0) (ρ0 := fun x => ρ1 (keepN NC c x)) (lb := q.b) hcb2 (Nat.zero_le _) (by omega) (by omega) ⟨q, by show ρ1 (keepN NC c (c + 1)) = _; rw [show keepN NC c (c + 1) = c + 1 from if_pos (.inr rfl)]; exact hql, rfl⟩ hpn hrnd hcc
  have hok := hcall _ _ hcb2 hY
  have hres : (resolve a.eval (rangeCall g q.b) 0).run P w1 = .ok { target := .fn (.func gf) cs.toArray, args := fs.toArray ++ #[.func (.yield q.b) #[] #[]] } w1 := by
    have hm : Array.map a.eval #[Operand.const (Value.func (.yield q.b) #[] #[])] = #[Value.func (.yield q.b) #[] #[]] := by simp [Act.eval]
    simp only [resolve, hgv, Deferred.ofValue, hm]
    rfl
  have hargs : VRs ρ1 (first ++ [.yld (c + 1)] ++ cap) (fs ++ [.func (.yield q.b) #[] #[]] ++ cs) :=
    ((hfs.mono he1.le).append (.cons (by simp only [VR]; exact ⟨q, hql, rfl⟩) .nil)).append (hcs.mono he1.le)
  have hargsT := (VRs_ren ρ1 (keepN T c) (first ++ [.yld (c + 1)] ++ cap) _).1 (by rw [ha]; exact hargs)
  refine ⟨q.b, mark, w1, _, w1, gf, (fs ++ [Value.func (.yield q.b) #[] #[]] ++ cs).toArray, w1, hrun, hres, (fun f' _ => FR_fn none f'), ?_, (fun h => by rw [FR_depth] at h; cases h), ?_⟩
  · simp only [invoke]
    rw [show (fs ++ [Value.func (.yield q.b) #[] #[]] ++ cs).toArray = fs.toArray ++ #[.func (.yield q.b) #[] #[]] ++ cs.toArray by simp]
    exact hok.enter _ _
  · refine (hok.run _ w1 _ _ hHT hargsT hbes none (k - 1)).mono fun e2 w2 h2 => ?_
    obtain ⟨u, v, m', ⟨s', j⟩, F', rfl, hR, hvu, hH', hfr, hb', hFF⟩ := h2
    obtain ⟨⟨ρ', r1, r2, r3⟩, r4⟩ := hb'.j
    have hl4 : (ofM ((c + 1, some (lpO n p c lC ags bd (lpS j) j)) :: M s')).get (c + 1) = some (lpO n p c lC ags bd (lpS j) j) := by rw [ofM_get, lookM]; simp
    have hq' : ρ' (c + 1) = some q := by
      rw [r1 (c + 1) (by omega)]
      show ρ1 (keepN NC c (c + 1)) = _
      rw [show keepN NC c (c + 1) = c + 1 from if_pos (.inr rfl)]; exact hql
    obtain ⟨q3, hq3, fn3, tmps3, d3, hh3, henv3, hdn3⟩ := r2.obj (c + 1) _ hl4
    rw [hq'] at hq3
    cases hq3
    have hne : lpS j ≠ .busy := by cases j <;> simp [lpS]
    obtain ⟨g1, g2⟩ := put_write (fl := flC) (ob := .loop { state := .exhausted, pending := j, fn := fn3, tmps := tmps3, params := [p].toArray, assign := ags, body := bd, defers := d3 })
      (o' := lpO n p c lC ags bd .exhausted j) r2 hl4 rfl hq' (by omega) ⟨fn3, tmps3, d3, World.putObj_heap_same (obj_lt hh3), henv3, hdn3⟩
    refine ⟨j, _, run_endLoop hh3 hne, ?_⟩
    -- all names again
    have hT1 : ∀ x t, ρ1 (keepN T c x) = some t → x < c + 2 ∧ ρ1 x = some t := fun x t h => by
      obtain ⟨h1, h2⟩ := kT x t h
      refine ⟨?_, h2⟩
      rcases h1 with h1 | rfl
      · have := (hTo x h1).1; omega
      · omega
    have hC1 : ∀ x t, x < c + 2 → ρ' x = some t → ρ1 x = some t := fun x t hx h => by
      rw [r1 x hx] at h
      exact (kC x t h).2
    have hgen : ∀ x t, fl ≤ x → ρ1 x = some t → w.heap.size ≤ t.b ∨ ∃ y t', fl ≤ y ∧ ρ y = some t' ∧ t'.b = t.b := fun x t hx ht => by
      cases h : ρ x with
      | some t0 =>
        have := he1.le x t0 h
        rw [ht] at this
        cases this
        exact .inr ⟨x, t, hx, h, rfl⟩
      | none => exact he1.new x t h ht
    have hsz : ∀ (o : Obj), (w2.putObj q.b o).heap.size = w2.heap.size := fun o => by simp
    have hg : ∀ x o, x ≠ c + 1 → lookM (M s') x = some o → ((ofM ((c + 1, some (lpO n p c lC ags bd (lpS j) j)) :: M s')).set (c + 1) (lpO n p c lC ags bd .exhausted j)).get x = some o := fun x o hx ho => by
      rw [Go.Ev.T.get_set, if_neg hx, ofM_get, lookM, Bool.cond_eq_ite, if_neg (by simpa using hx)]
      exact ho
    have hnew : Holds 0 (fun x => if x < c + 2 then ρ1 x else ρ' x) (ofM (m' ++ M s')) cc (w2.putObj q.b (.loop { state := .exhausted, pending := j, fn := fn3, tmps := tmps3, params := [p].toArray, assign := ags, body := bd, defers := d3 })) := by
      have leT : RLe (fun x => ρ1 (keepN T c x)) (fun x => if x < c + 2 then ρ1 x else ρ' x) := fun x t h => by
        obtain ⟨h1, h2⟩ := hT1 x t h
        show (if x < c + 2 then ρ1 x else ρ' x) = _
        rw [if_pos h1]; exact h2
      have leC : RLe ρ' (fun x => if x < c + 2 then ρ1 x else ρ' x) := fun x t h => by
        show (if x < c + 2 then ρ1 x else ρ' x) = _
        split
        · exact hC1 x t (by assumption) h
        · exact h
      have hT2 : ∀ x o, lookM m' x = some o → ∃ t, ρ1 (keepN T c x) = some t ∧ ObjR (fun x => ρ1 (keepN T c x)) w2 t o ∧ x ≠ c + 1 ∧ ¬ F' t.b := fun x o ho => by
        obtain ⟨t, h1, h2⟩ := hH'.obj x o (by rw [ofM_get]; exact ho)
        have hx : x ≠ c + 1 := fun e => by rw [e, hRl v m' _ hR] at ho; cases ho
        exact ⟨t, h1, h2, hx, hb'.d x t hx h1⟩
      have hC2 : ∀ x o, lookM (M s') x = some o → ∃ t, ρ' x = some t ∧ ObjR ρ' (w2.putObj q.b (.loop { state := .exhausted, pending := j, fn := fn3, tmps := tmps3, params := [p].toArray, assign := ags, body := bd, defers := d3 })) t o ∧ x ≠ c + 1 ∧ F' t.b := fun x o ho => by
        obtain ⟨h3, h4⟩ := hMg s' x o ho
        obtain ⟨t, h1, h2⟩ := g1.obj x o (hg x o h4 ho)
        exact ⟨t, h1, h2, h4, r3 x t h3 h1⟩
      refine ⟨fun x o hx => ?_, fun x y o o' t t' hxy hx hy ht ht' hb => ?_, fun x hx => ?_, fun x t ht => ?_, fun g hg => by omega⟩
      · rw [ofM_get] at hx
        rcases lookM_append hx with hx | hx
        · obtain ⟨t, h1, h2, h3, h4⟩ := hT2 x o hx
          have : t.b ≠ q.b := fun e => h4 (e ▸ r3 (c + 1) q (by omega) hq')
          exact ⟨t, leT x t h1, (h2.mono leT).world (World.putObj_heap_other this)⟩
        · obtain ⟨t, h1, h2, _⟩ := hC2 x o hx
          exact ⟨t, leC x t h1, h2.mono leC⟩
      · rw [ofM_get] at hx hy
        rcases lookM_append hx with hx | hx <;> rcases lookM_append hy with hy | hy
        · obtain ⟨t1, h1, _⟩ := hT2 x o hx
          obtain ⟨t2, h2, _⟩ := hT2 y o' hy
          obtain rfl : t = t1 := Option.some.inj (ht.symm.trans (leT x t1 h1))
          obtain rfl : t' = t2 := Option.some.inj (ht'.symm.trans (leT y t2 h2))
          exact hH'.sep x y o o' t t' hxy (by rw [ofM_get]; exact hx) (by rw [ofM_get]; exact hy) h1 h2 hb
        · obtain ⟨t1, h1, _, _, h3⟩ := hT2 x o hx
          obtain ⟨t2, h2, _, _, h4⟩ := hC2 y o' hy
          obtain rfl : t = t1 := Option.some.inj (ht.symm.trans (leT x t1 h1))
          obtain rfl : t' = t2 := Option.some.inj (ht'.symm.trans (leC y t2 h2))
          exact absurd (hb ▸ h4) h3
        · obtain ⟨t1, h1, _, _, h3⟩ := hC2 x o hx
          obtain ⟨t2, h2, _, _, h4⟩ := hT2 y o' hy
          obtain rfl : t = t1 := Option.some.inj (ht.symm.trans (leC x t1 h1))
          obtain rfl : t' = t2 := Option.some.inj (ht'.symm.trans (leT y t2 h2))
          exact absurd (hb ▸ h3) h4
        · obtain ⟨t1, h1, _, n1, _⟩ := hC2 x o hx
          obtain ⟨t2, h2, _, n2, _⟩ := hC2 y o' hy
          obtain rfl : t = t1 := Option.some.inj (ht.symm.trans (leC x t1 h1))
          obtain rfl : t' = t2 := Option.some.inj (ht'.symm.trans (leC y t2 h2))
          exact g1.sep x y o o' t t' hxy (hg x o n1 hx) (hg y o' n2 hy) h1 h2 hb
      · have hx' : cc ≤ x := hx
        show (if x < c + 2 then ρ1 x else ρ' x) = none
        rw [if_neg (by omega)]
        exact r2.fresh x hx
      · replace ht : (if x < c + 2 then ρ1 x else ρ' x) = some t := ht
        split at ht
        · exact Nat.lt_of_lt_of_le (hH1.lt x t ht) (by rw [hsz]; exact hfr.size)
        · exact g1.lt x t ht
    have hE : ExtB ρ (fun x => if x < c + 2 then ρ1 x else ρ' x) fl cb w := by
      have hc' : cb ≤ c := by omega
      refine ⟨fun x hx => ?_, fun x t hx ht => ?_⟩
      · show (if x < c + 2 then ρ1 x else ρ' x) = _
        rw [if_pos (by omega)]
        exact hlow x (by omega)
      · replace ht : (if x < c + 2 then ρ1 x else ρ' x) = some t := ht
        split at ht
        · exact hgen x t hx ht
        · rcases hFF t.b (r3 x t (by omega) ht) with ⟨y, t', hy, ht', hb⟩ | h
          · rw [← hb]; exact hgen y t' (by omega) (kC y t' ht').2
          · exact .inl (Nat.le_trans hf1.size h)
    have hF : Fr ρ fl w (w2.putObj q.b (.loop { state := .exhausted, pending := j, fn := fn3, tmps := tmps3, params := [p].toArray, assign := ags, body := bd, defers := d3 })) := by
      refine ⟨hfr.os.trans hf1.os, hfr.tape.trans hf1.tape, hfr.output.trans hf1.output, by rw [hsz]; exact Nat.le_trans hf1.size hfr.size, fun b hb hn => ?_⟩
      have hno : ∀ x t, fl ≤ x → ρ1 x = some t → t.b ≠ b := fun x t hx ht e => by
        rcases hgen x t hx ht with h | ⟨y, t', hy, ht', hbb⟩
        · omega
        · exact hn y t' hy ht' (hbb.trans e)
      rw [World.putObj_heap_other (show b ≠ q.b by omega), hfr.keep b (Nat.lt_of_lt_of_le hb hf1.size) (fun x t hx ht => hno x t (by omega) (kT x t ht).2) fun ⟨y, t', hy, ht', hbb⟩ => hno y t' (by omega) (kC y t' ht').2 hbb]
      exact hf1.keep b hb hn
    have le1 : RLe ρ1 (fun x => if x < c + 2 then ρ1 x else ρ' x) := fun x t h => by
      show (if x < c + 2 then ρ1 x else ρ' x) = _
      have : x < c + 2 := by
        rcases Nat.lt_or_ge x (c + 2) with h1 | h1
        · exact h1
        · rw [hnone x h1] at h; cases h
      rw [if_pos this]; exact h
    have hsr : SR 0 (fun x => if x < c + 2 then ρ1 x else ρ' x) (stL n [c] l (m' ++ M s') cc) { a with defers := mark ++ a.defers } (w2.putObj q.b (.loop { state := .exhausted, pending := j, fn := fn3, tmps := tmps3, params := [p].toArray, assign := ags, body := bd, defers := d3 })) :=
      ⟨(hs.env.mono he1.le).mono le1, hnew, hd1.mono le1⟩
    have hcc' : cb ≤ (stL n [c] l (m' ++ M s') cc).c := by show cb ≤ cc; omega
    have hq2 := hQ v m' s' j hR
    cases j with
    | none => exact ⟨.normal, _, _, rfl, hq2, hsr, hcc', hE, hF⟩
    | some jc => exact wpIn_mono (Tr.run hq2 _ _ _ none k hsr hcc' hr trivial) fun _ _ _ hp => hp.trans hE hF

theorem OkJ.mono {G : Nat} {C : Cons} {fl lo f : Nat} {args : List AV} {m : List (Nat × Option AObj)} {c : Nat} {s : C.γ} {R R' : AV → List (Nat × Option AObj) → C.γ → Prop} (h : OkJ G P C fl lo f args m c s R) (hr : ∀ v m' s', R v m' s' → R' v m' s') : OkJ G P C fl lo f args m c s R' :=
  ⟨h.enter, fun ρ w F us h1 h2 h3 r n => (h.run ρ w F us h1 h2 h3 r n).mono fun e w' ⟨u, v, m', s', F', g1, g2, g3⟩ => ⟨u, v, m', s', F', g1, hr _ _ _ g2, g3⟩⟩
end
end Go.Ev

/- Lists that grow. -/
namespace Go.Ev
open Go

section
variable {P : Program} {fl c : Nat} {m : List (Nat × Option AObj)} {y y' z : Ty} {t t' : Nat} {x1 x2 : Operand}

theorem keptF [Tab P] {e : Nat} (h : ty P e = some z) (hk : z.kind = 3) : keptA P e = false := by
  obtain ⟨fs, h1, _⟩ := ty_struct h hk
  unfold keptA
  rw [h1]
theorem rowT [Tab P] {e : Nat} (h : ty P e = some z) (hz : (Nat.beq z.zero.cells.length z.size && Nat.ble 1 z.size) = true) : rowA P e 1 = some (zerosA z.zero.cells 1) := by
  simp only [rowA, ty_zero h, ty_size h, hz, cond_true]
theorem info_sz [Tab P] {e : Nat} (h : ty P e = some z) : ∃ i, P.info? e = some i ∧ i.bytes = z.bytes ∧ i.size = z.size := by
  obtain ⟨i, h1, h2⟩ := ty_bytes h
  have h3 := ty_size h
  unfold szOf at h3
  rw [h1] at h3
  exact ⟨i, h1, h2, by simpa using h3⟩

theorem S.append_nil [Tab P] {ats : Array Nat} {x : Nat} {news : List AV} (hat : ats.toList = [t, t']) (ht : ty P t = some y) (hk : y.kind = 5) (ht' : ty P t' = some y') (hk' : y'.kind = 5) (hz : ty P y.elem = some z) (hzk : z.kind = 3) (hzz : (Nat.beq z.zero.cells.length z.size && Nat.ble 1 z.size) = true)
    (hb : Nat.ble z.bytes 10000 = true) (ho : lookM m x = some (.cells news)) (hc : cut news 0 (1 * z.size) = some news) : OpE P fl (.call ⟨.builtin .append, #[x1, x2], ats⟩) [.nils, .sl x 0 1 1] m c (.gs c 1) ((c, some (.grown news z.size)) :: m) (c + 1) := by
  obtain ⟨i, h1, h2, h3⟩ := info_sz hz
  have hb' : z.bytes ≤ 10000 := Nat.le_of_ble_eq_true hb
  have hbb : (Nat.ble ((2 * (0 + 1) + 1000) * i.bytes) (2 ^ 48) && Nat.ble (0 + 1) (2 ^ 62)) = true := by
    rw [h2]
    simp only [Bool.and_eq_true, Nat.ble_eq]
    omega
  refine ⟨rfl, Nat.le_succ _, ?_⟩
  show opA P (ofM m) c fl _ _ = _
  simp only [opA, oCall, builtinA, hat, appendA, ty_slice ht hk, ty_slice ht' hk', h1, rowT hz hzz, sliceCells, getCells, ofM_get, ho, cellsOf, Option.bind_some, h3, hc, Option.map_some, show Nat.beq 1 0 = false from rfl, cond_false, hbb, cond_true, keptF hz hzk, growA]
  rfl
theorem S.append_gs [Tab P] {ats : Array Nat} {x a n : Nat} {olds news : List AV} (hat : ats.toList = [t, t']) (ht : ty P t = some y) (hk : y.kind = 5) (ht' : ty P t' = some y') (hk' : y'.kind = 5) (hz : ty P y.elem = some z) (hzk : z.kind = 3) (hzz : (Nat.beq z.zero.cells.length z.size && Nat.ble 1 z.size) = true)
    (hb : Nat.ble z.bytes 10000 = true) (ho : lookM m x = some (.cells news)) (hc : cut news 0 (1 * z.size) = some news) (ha : lookM m a = some (.grown olds z.size)) (hf : Nat.ble fl a = true) (hca : cut olds 0 (n * z.size) = some olds) (hn : n ≤ 1000000) (hone : news.all AV.one = true) :
    OpE P fl (.call ⟨.builtin .append, #[x1, x2], ats⟩) [.gs a n, .sl x 0 1 1] m c (.gs c (n + 1)) ((c, some (.grown (olds ++ news) z.size)) :: (a, none) :: m) (c + 1) := by
  obtain ⟨i, h1, h2, h3⟩ := info_sz hz
  have hb' : z.bytes ≤ 10000 := Nat.le_of_ble_eq_true hb
  have hbb : (Nat.ble ((2 * (n + 1) + 1000) * i.bytes) (2 ^ 48) && Nat.ble (n + 1) (2 ^ 62)) = true := by
    rw [h2]
    simp only [Bool.and_eq_true, Nat.ble_eq]
    refine ⟨?_, by omega⟩
    calc (2 * (n + 1) + 1000) * z.bytes ≤ 3000000 * 10000 := Nat.mul_le_mul (by omega) hb'
      _ ≤ 2 ^ 48 := by decide
  refine ⟨rfl, Nat.le_succ _, ?_⟩
  show opA P (ofM m) c fl _ _ = _
  simp only [opA, oCall, builtinA, hat, appendA, ty_slice ht hk, ty_slice ht' hk', h1, rowT hz hzz, sliceCells, getCells, ofM_get, ho, ha, cellsOf, Option.bind_some, h3, hc, hca, Option.map_some, show Nat.beq 1 0 = false from rfl, cond_false, hbb, cond_true, hf, hone, Nat.beq_refl, Bool.and_self]
  rfl
end
section
variable {G fl cb c n : Nat} {dfs : List Nat} {l : List (Nat × AV)} {m : List (Nat × Option AObj)}
/-- Names are changed; the rest is forgotten. -/
theorem Wk.by {l2 : List (Nat × AV)} {m2 : List (Nat × Option AObj)} {c2 : Nat} (σ : Nat → Nat) (hcb : cb ≤ c2) (hG : G ≤ cb) (hf : fl ≤ cb)
    (hl : allL (fun t v => look l t = some (v.ren σ)) l2) (hm : allM (fun x o => lookM m (σ x) = some (o.ren σ)) m2) (hd : dfs = dfs.map σ)
    (hinj : ∀ x ∈ m2.map (·.1), ∀ y ∈ m2.map (·.1), x ≠ y → σ x ≠ σ y) (h1 : ∀ x, c2 ≤ x → c ≤ σ x) (h2 : ∀ x, x < cb → σ x = x) (h3 : ∀ x, cb ≤ x → cb ≤ σ x) : Wk G fl cb (stL n dfs l m c) (stL n dfs l2 m2 c2) := by
  refine ⟨⟨σ, fun t v ht => ?_, rfl, hd, fun x o hx => ?_, fun x y o o' hx hy hxy => ?_, h1, h2, h3⟩, hcb, hG, hf⟩
  · show (ofL l).get t = _
    rw [ofL_get]
    exact allL_look hl t v (by rw [← ofL_get]; exact ht)
  · show (ofM m).get _ = _
    rw [ofM_get]
    exact allM_look hm x o (by rw [← ofM_get]; exact hx)
  · exact .inl (hinj x (lookM_mem (by rw [← ofM_get]; exact hx)) y (lookM_mem (by rw [← ofM_get]; exact hy)) hxy)
end
end Go.Ev

/- From calls over explicit states to calls in any world: rows of integers that lie in a world, a law's call, and a function without arguments that the evaluator has carried out. -/
namespace Go.Ev
open Go Go.RowKit

/-- A slice of n rows of k integers, as it lies in a world. -/
def RowsW (w : World) (v : Value) (n k : Nat) (g : Nat → Nat → Int) : Prop :=
  (v = .slice none 0 0 ∧ n = 0) ∨ ∃ b o cap, v = .slice (some ⟨b, o, none⟩) n cap ∧ n ≤ cap ∧ cap ≤ 9223372036854775807 ∧ b < w.heap.size ∧ ∀ i, i < n → ∀ j, j < k → w.cell? ⟨b, o + i * k + j, none⟩ = some (.int .i64 (g i j))

/-- Where it begins, and what it is by names. -/
def winV : Value → Win
  | .slice (some a) _ cap => ⟨a.block, a.off, cap⟩
  | _ => ⟨0, 0, 0⟩
def slA (v : Value) (x : Nat) : AV := match v with
  | .slice (some _) n _ => .gs x n
  | _ => .nils

theorem RowsW.is {w : World} {v : Value} {n k : Nat} {g : Nat → Nat → Int} (h : RowsW w v n k g) (x : Nat) : IsSl (slA v x) n x := by
  rcases h with ⟨rfl, rfl⟩ | ⟨b, o, cap, rfl, _⟩
  · exact .nils x
  · exact .gs x n
theorem RowsW.vr {w : World} {v : Value} {n k : Nat} {g : Nat → Nat → Int} (h : RowsW w v n k g) {ρ : Rho} {x : Nat} (hx : ρ x = some (winV v)) : VR ρ (slA v x) v := by
  rcases h with ⟨rfl, rfl⟩ | ⟨b, o, cap, rfl, h1, _⟩
  · simp only [slA, VR]
  · simp only [slA, VR]
    exact ⟨_, hx, rfl, h1⟩
theorem RowsW.le {w : World} {v : Value} {n k : Nat} {g : Nat → Nat → Int} (h : RowsW w v n k g) : n ≤ 9223372036854775807 := by
  rcases h with ⟨rfl, rfl⟩ | ⟨b, o, cap, rfl, h1, h2, _⟩ <;> omega

/-- The cells of rows. -/
theorem VRs_ints {ρ : Rho} : ∀ l : List Int, VRs ρ (l.map (AV.int .i64)) (l.map (Value.int .i64))
  | [] => .nil
  | _ :: l => .cons (by simp only [VR]) (VRs_ints l)
theorem flat_ints {τ : Type} {enc : τ → List Int} : ∀ L : List τ, flat enc L = ((L.map enc).flatten).map (AV.int .i64)
  | [] => rfl
  | e :: L => by
    have h : flat enc (e :: L) = (enc e).map (AV.int .i64) ++ flat enc L := by simp [flat]
    rw [h, flat_ints L]; simp
theorem flatten_at {enc : Nat → List Int} {k : Nat} (hk : ∀ e, (enc e).length = k) (n : Nat) {q : Nat} {a : Int} (h : (((List.range n).map enc).flatten)[q]? = some a) : ∃ i j, q = i * k + j ∧ i < n ∧ j < k ∧ (enc i)[j]? = some a := by
  have hlen : ∀ L : List Nat, ((L.map enc).flatten).length = L.length * k := fun L => by
    induction L with
    | nil => simp
    | cons e L ih => simp only [List.map_cons, List.flatten_cons, List.length_append, hk, ih, List.length_cons, Nat.succ_mul]; omega
  have hq : q < n * k := by
    have := (List.getElem?_eq_some_iff.1 h).1
    rw [hlen, List.length_range] at this; exact this
  have hk0 : 0 < k := by
    rcases Nat.eq_zero_or_pos k with h | h
    · subst h; simp at hq
    · exact h
  refine ⟨q / k, q % k, by rw [Nat.mul_comm]; exact (Nat.div_add_mod q k).symm, (Nat.div_lt_iff_lt_mul hk0).2 hq, Nat.mod_lt _ hk0, ?_⟩
  have hi : q / k < n := (Nat.div_lt_iff_lt_mul hk0).2 hq
  have e : List.range n = List.range (q / k) ++ (q / k) :: (List.range n).drop (q / k + 1) := by
    conv => lhs; rw [← List.take_append_drop (q / k) (List.range n)]
    rw [List.take_range, Nat.min_eq_left (by omega)]
    congr 1
    rw [List.drop_eq_getElem_cons (by simpa using hi)]
    simp
  rw [e, List.map_append, List.flatten_append, List.getElem?_append_right (by rw [hlen, List.length_range]; exact Nat.div_mul_le_self q k), hlen, List.length_range, List.map_cons, List.flatten_cons] at h
  have hm : q - q / k * k = q % k := by
    have := Nat.div_add_mod q k
    rw [Nat.mul_comm] at this; omega
  rw [hm, List.getElem?_append_left (by rw [hk]; exact Nat.mod_lt _ hk0)] at h
  exact h

section
variable {P : Program} {ρ : Rho} {w : World}

/-- A list of slices, as they lie. -/
structure SlD (w : World) where
  v : Value
  n : Nat
  k : Nat
  g : Nat → Nat → Int
  enc : Nat → List Int
  ok : RowsW w v n k g
  len : ∀ e, (enc e).length = k
  at' : ∀ i j a, i < n → j < k → (enc i)[j]? = some a → g i j = a

theorem Holds.rows (S : List (SlD w)) (h0 : 0 < w.heap.size) : Holds 0 (fun x => (S[x]?).map fun s : SlD w => winV s.v) (ofM (winM (S.map fun s : SlD w => flat s.enc (List.range s.n)) 0)) S.length w := by
  have lt : ∀ (x : Nat) (p : Win), (S[x]?).map (fun s : SlD w => winV s.v) = some p → p.b < w.heap.size := fun x p hp => by
    rw [Option.map_eq_some_iff] at hp
    obtain ⟨s, _, rfl⟩ := hp
    rcases s.ok with ⟨e, _⟩ | ⟨b, o, cap, e, _, _, h3, _⟩
    · rw [e]; exact h0
    · rw [e]; exact h3
  refine ⟨fun y o hy => ?_, fun x y o o' p q hxy hx hy hp hq hb => ?_, fun x hx => ?_, lt, fun g hg => by omega⟩
  · rw [ofM_get] at hy
    obtain ⟨j, cs, rfl, hj, rfl⟩ := winM_look hy
    rw [List.getElem?_map, Option.map_eq_some_iff] at hj
    obtain ⟨s, hs, rfl⟩ := hj
    rw [Nat.zero_add]
    refine ⟨winV s.v, by simp only [hs, Option.map_some], (((List.range s.n).map s.enc).flatten).map (Value.int .i64), by rw [flat_ints]; exact VRs_ints _, fun q u hq => ?_⟩
    rw [List.getElem?_map, Option.map_eq_some_iff] at hq
    obtain ⟨a, ha, rfl⟩ := hq
    obtain ⟨i, j, rfl, hi, hj, hij⟩ := flatten_at s.len s.n ha
    rcases s.ok with ⟨_, e0⟩ | ⟨b, o, cap, e, _, _, _, h4⟩
    · omega
    · rw [e]
      show w.cell? ⟨b, o + (i * s.k + j), none⟩ = _
      rw [← Nat.add_assoc, h4 i hi j hj, s.at' i j a hi hj hij]
  · rw [ofM_get] at hx hy
    obtain ⟨_, _, _, _, rfl⟩ := winM_look hx
    obtain ⟨_, _, _, _, rfl⟩ := winM_look hy
    simp [Apart, AObj.share]
  · rw [List.getElem?_eq_none_iff.2 hx]; rfl

/-- A law's call. -/
theorem CanS.law {f : Nat} {args : List AV} {us : List Value} {S : List (SlD w)} (h : CanS 0 P f S.length args (winM (S.map fun s : SlD w => flat s.enc (List.range s.n)) 0) S.length fun v _ _ => v = .bool true) (h0 : 0 < w.heap.size)
    (hv : VRs (fun x => (S[x]?).map fun s : SlD w => winV s.v) args us) : Calls P f us.toArray w fun e W' => e = .returned (.bool true) ∧ Below w.heap.size w W' := by
  refine (callsIn_wide.1 (h.2 _ w us (.rows S h0) hv none 0)).mono ?_
  rintro e w' ⟨u, v, H', c', ρ', rfl, rfl, h3, _, _, _, h7⟩
  simp only [VR] at h3
  subst h3
  exact ⟨rfl, ⟨h7.os, h7.tape, h7.output, h7.size, fun b hb => h7.keep b hb fun x p hx hp => by rw [List.getElem?_eq_none_iff.2 hx] at hp; cases hp⟩⟩

theorem CanS.root_at {f : Nat} (h : CanS 0 P f 0 [] [] 0 fun v _ _ => v = .bool true) (fl : Nat) (H : T AObj) (c : Nat) : OkAt 0 P fl f [] H c (.bool true) H c := h.pure (.bool _) (.plain fun _ => rfl) fl
end
end Go.Ev

/- What several numbers are at least and at most; the first of some. No program. -/
namespace Go.Ev

section
variable {τ : Type}

def loF (f : τ → Int) (a : Int) (L : List τ) : Int := L.foldl (fun m t => min m (f t)) a
def hiF (f : τ → Int) (a : Int) (L : List τ) : Int := L.foldl (fun m t => max m (f t)) a
theorem loF_snoc (f : τ → Int) (a : Int) (L : List τ) (t : τ) : loF f a (L ++ [t]) = min (loF f a L) (f t) := by simp [loF]
theorem hiF_snoc (f : τ → Int) (a : Int) (L : List τ) (t : τ) : hiF f a (L ++ [t]) = max (hiF f a L) (f t) := by simp [hiF]

/-- The least and the greatest number of a list that is not empty. -/
def spL (f : τ → Int) (L : List τ) : Int := match L with | [] => 0 | t :: ts => loF f (f t) (t :: ts)
def spH (f : τ → Int) (L : List τ) : Int := match L with | [] => 0 | t :: ts => hiF f (f t) (t :: ts)

structure IsSp (f : τ → Int) (L : List τ) (lo hi : Int) : Prop where
  all : ∀ t ∈ L, lo ≤ f t ∧ f t ≤ hi
  exL : ∃ t ∈ L, f t = lo
  exH : ∃ t ∈ L, f t = hi

theorem loF_spec (f : τ → Int) : ∀ (L : List τ) (a : Int), loF f a L ≤ a ∧ (∀ t ∈ L, loF f a L ≤ f t) ∧ (loF f a L = a ∨ ∃ t ∈ L, f t = loF f a L)
  | [], a => ⟨Int.le_refl _, fun t h => (by cases h), .inl rfl⟩
  | t :: L, a => by
    have h := loF_spec f L (min a (f t))
    have e : loF f a (t :: L) = loF f (min a (f t)) L := rfl
    rw [e]
    refine ⟨by omega, fun u hu => ?_, ?_⟩
    · rcases List.mem_cons.1 hu with rfl | hu
      · omega
      · exact h.2.1 u hu
    · rcases h.2.2 with h1 | ⟨u, h1, h2⟩
      · by_cases hq : a ≤ f t
        · left; omega
        · exact .inr ⟨t, List.mem_cons_self, by omega⟩
      · exact .inr ⟨u, List.mem_cons_of_mem _ h1, h2⟩
theorem hiF_spec (f : τ → Int) : ∀ (L : List τ) (a : Int), a ≤ hiF f a L ∧ (∀ t ∈ L, f t ≤ hiF f a L) ∧ (hiF f a L = a ∨ ∃ t ∈ L, f t = hiF f a L)
  | [], a => ⟨Int.le_refl _, fun t h => (by cases h), .inl rfl⟩
  | t :: L, a => by
    have h := hiF_spec f L (max a (f t))
    have e : hiF f a (t :: L) = hiF f (max a (f t)) L := rfl
    rw [e]
    refine ⟨by omega, fun u hu => ?_, ?_⟩
    · rcases List.mem_cons.1 hu with rfl | hu
      · omega
      · exact h.2.1 u hu
    · rcases h.2.2 with h1 | ⟨u, h1, h2⟩
      · by_cases hq : f t ≤ a
        · left; omega
        · exact .inr ⟨t, List.mem_cons_self, by omega⟩
      · exact .inr ⟨u, List.mem_cons_of_mem _ h1, h2⟩

theorem sp_is (f : τ → Int) : ∀ {L : List τ}, L ≠ [] → IsSp f L (spL f L) (spH f L)
  | [], h => absurd rfl h
  | t :: L, _ => by
    have h1 := loF_spec f (t :: L) (f t)
    have h2 := hiF_spec f (t :: L) (f t)
    refine ⟨fun u hu => ⟨h1.2.1 u hu, h2.2.1 u hu⟩, ?_, ?_⟩
    · rcases h1.2.2 with e | h
      · exact ⟨t, List.mem_cons_self, e.symm⟩
      · exact h
    · rcases h2.2.2 with e | h
      · exact ⟨t, List.mem_cons_self, e.symm⟩
      · exact h
/-- The first number below another one that is so; that one, if there is none. -/
noncomputable def fstN (p : Nat → Prop) (n : Nat) : Nat → Nat
  | 0 => n
  | k + 1 => bif dB (p (n - (k + 1))) then n - (k + 1) else fstN p n k
theorem fstN_spec (p : Nat → Prop) (n : Nat) : ∀ k, k ≤ n → (n - k ≤ fstN p n k ∧ fstN p n k ≤ n) ∧ (∀ i, n - k ≤ i → i < fstN p n k → ¬ p i) ∧ (fstN p n k < n → p (fstN p n k))
  | 0, _ => ⟨⟨by simp [fstN], by simp [fstN]⟩, fun i h1 h2 => by simp [fstN] at h2; omega, fun h => by simp [fstN] at h⟩
  | k + 1, hk => by
    have ih := fstN_spec p n k (by omega)
    by_cases h : p (n - (k + 1))
    · have e : fstN p n (k + 1) = n - (k + 1) := by rw [fstN, dB_tt h]; rfl
      rw [e]
      exact ⟨⟨Nat.le_refl _, Nat.sub_le _ _⟩, fun i h1 h2 => by omega, fun _ => h⟩
    · have e : fstN p n (k + 1) = fstN p n k := by rw [fstN, dB_ff h]; rfl
      rw [e]
      refine ⟨⟨by omega, ih.1.2⟩, fun i h1 h2 => ?_, ih.2.2⟩
      rcases Nat.lt_or_ge i (n - k) with h3 | h3
      · have : i = n - (k + 1) := by omega
        rw [this]; exact h
      · exact ih.2.1 i h3 h2
end
end Go.Ev

/- Arguments of a law, opened to their cells: integers and slices of rows of integers; over any program. -/
namespace Go.Ev
open Go Go.RowKit Go.ChangeShapes Go.WideShapes Go.Deep

/-- A type whose cells are of these types. -/
def Leaves (P : Program) (t : Nat) (us : List Nat) : Prop := ∀ {H : Type} {enc : TypeId × Value → H} {w : World} {base : Nat} {spare : Nat → Bool} {held : Bool} {n : Nat} {cs : List Value} {y : DataW H × List MemPlace},
  DataW.trod enc P w base spare held n t cs = some y → cs.length = us.length ∧ ∀ (i u : Nat), us[i]? = some u → ∃ v m y', cs[i]? = some v ∧ DataW.trod enc P w base spare held m u [v] = some y'

section
variable {P : Program}

theorem Leaves.int {t : Nat} (h : P.underlying t = some (.int .i64)) : Leaves P t [t] := fun hd => by
  obtain ⟨a, rfl, _⟩ := DataW.trod_int h hd
  refine ⟨rfl, fun i u hu => ?_⟩
  cases i with
  | zero => simp at hu; subst hu; exact ⟨_, _, _, rfl, hd⟩
  | succ i => simp at hu
theorem Leaves.slice {t e : Nat} (h : P.underlying t = some (.slice e)) : Leaves P t [t] := fun {H enc w base spare held n cs y} hd => by
  have h1 : ∃ v, cs = [v] := by
    rcases open_slice h hd with ⟨rfl, _⟩ | ⟨a, len, cap, m, n, D, Pl, rfl, _⟩
    · exact ⟨_, rfl⟩
    · exact ⟨_, rfl⟩
  obtain ⟨v, rfl⟩ := h1
  refine ⟨rfl, fun i u hu => ?_⟩
  cases i with
  | zero => simp at hu; subst hu; exact ⟨_, _, _, rfl, hd⟩
  | succ i => simp at hu

theorem flatten_get : ∀ {uss : List (List Nat)} {i u : Nat}, uss.flatten[i]? = some u → ∃ a b us, uss[a]? = some us ∧ us[b]? = some u ∧ i = (uss.take a).flatten.length + b
  | [], i, u, h => by simp at h
  | us :: uss, i, u, h => by
    rw [List.flatten_cons] at h
    by_cases hi : i < us.length
    · rw [List.getElem?_append_left hi] at h
      exact ⟨0, i, us, rfl, h, by simp⟩
    · rw [List.getElem?_append_right (by omega)] at h
      obtain ⟨a, b, us', h1, h2, h3⟩ := flatten_get h
      refine ⟨a + 1, b, us', by simpa using h1, h2, ?_⟩
      rw [List.take_succ_cons, List.flatten_cons, List.length_append]
      omega

/-- What is asked of a struct's fields. -/
def fieldsOk (P : Program) : List Field → List (List Nat) → Nat → Prop
  | [], [], _ => True
  | f :: fs, us :: uss, off => (Leaves P f.type us ∧ f.offset = off ∧ P.cellsOf f.type = us.length) ∧ fieldsOk P fs uss (off + us.length)
  | _, _, _ => False
theorem fieldsOk_at {P : Program} : ∀ {fs : List Field} {uss : List (List Nat)} {off a : Nat} {us : List Nat}, fieldsOk P fs uss off → uss[a]? = some us → ∃ f, fs[a]? = some f ∧ Leaves P f.type us ∧ f.offset = off + (uss.take a).flatten.length ∧ P.cellsOf f.type = us.length
  | [], [], _, _, _, _, h => by simp at h
  | [], _ :: _, _, _, _, h, _ => h.elim
  | _ :: _, [], _, _, _, h, _ => h.elim
  | f :: fs, us0 :: uss, off, 0, us, h, e => by
    simp only [List.getElem?_cons_zero, Option.some.injEq] at e
    subst e
    exact ⟨f, rfl, h.1.1, by simpa using h.1.2.1, h.1.2.2⟩
  | f :: fs, us0 :: uss, off, a + 1, us, h, e => by
    obtain ⟨f', h1, h2, h3, h4⟩ := fieldsOk_at h.2 (show uss[a]? = some us by simpa using e)
    refine ⟨f', by simpa using h1, h2, ?_, h4⟩
    rw [h3, List.take_succ_cons, List.flatten_cons, List.length_append]
    omega

theorem Leaves.struct {t : Nat} {fs : Array Field} {uss : List (List Nat)} (h : P.underlying t = some (.struct fs)) (hf : fieldsOk P fs.toList uss 0) (hc : P.cellsOf t = uss.flatten.length) : Leaves P t uss.flatten := fun hd => by
  obtain ⟨xs, m, _, _, hl, hlen, hx⟩ := DataW.trod_struct h hd
  refine ⟨hl.trans hc, fun i u hu => ?_⟩
  obtain ⟨a, b, us, h1, h2, rfl⟩ := flatten_get hu
  obtain ⟨f, g1, g2, g3, g4⟩ := fieldsOk_at hf h1
  have ha : a < fs.size := by have := (List.getElem?_eq_some_iff.1 g1).1; simpa using this
  have g5 := hx a f (by simpa using g1)
  rw [List.getElem?_eq_getElem (by omega)] at g5
  obtain ⟨_, g6⟩ := g2 g5
  obtain ⟨v, m', y', q1, q2⟩ := g6 b u h2
  refine ⟨v, m', y', ?_, q2⟩
  rw [List.getElem?_take] at q1
  split at q1
  · rw [List.getElem?_drop, g3, Nat.zero_add] at q1
    exact q1
  · cases q1

/-- A slice that came in. -/
theorem open_rowsW {H : Type} {enc : TypeId × Value → H} {w : World} {base b0 : Nat} {held : Bool} {t e k fuel : Nat} {us : List Nat} {v : Value} {x : DataW H × List MemPlace} (ht : P.underlying t = some (.slice e)) (he : Leaves P e us) (hi : ∀ u ∈ us, P.underlying u = some (.int .i64)) (hu : us.length = k) (hk : P.cellsOf e = k)
    (hc : Cell.okWide P w .any b0 t v) (h : DataW.trod enc P w base (fun _ => true) held fuel t [v] = some x) : ∃ n g, RowsW w v n k g := by
  rcases open_slice ht h with ⟨hcs, _⟩ | ⟨a, len, cap, m, n, D, Pl, hcs, _, hl, hm, hmm, _, hx⟩
  · exact ⟨0, fun _ _ => 0, .inl ⟨by simpa using hcs, rfl⟩⟩
  · have hv : v = .slice (some a) len cap := by simpa using hcs
    subst hv
    simp only [Cell.okWide, ht, Cell.ok, World.has] at hc
    obtain ⟨_, hcm, _, hsp, row, cells, hsh, _⟩ := hc
    obtain ⟨b, o, s⟩ := a
    replace hsp : s = none := hsp
    subst hsp
    have hlt : b < w.heap.size := by
      simp only [World.shape?] at hsh
      split at hsh
      · rename_i hh; exact (Array.getElem?_eq_some_iff.1 hh).1
      · cases hsh
    have hmm' : m = cap := by simpa using hmm
    refine ⟨len, fun i j => match w.cell? ⟨b, o + i * k + j, none⟩ with | some (.int .i64 a) => a | _ => 0, .inr ⟨b, o, cap, rfl, hl, (show cap ≤ 9223372036854775807 by have := hm; unfold maxLen at this; omega), hlt, fun i hil j hj => ?_⟩⟩
    obtain ⟨cs', h1, h2⟩ := hx i (by omega)
    rw [hk] at h1
    obtain ⟨_, _, hat⟩ := World.cells?_some h1
    obtain ⟨g1, g2⟩ := he h2
    have hj' : us[j]? = some (us[j]'(by omega)) := List.getElem?_eq_getElem (by omega)
    obtain ⟨v', m', y', q1, q2⟩ := g2 j _ hj'
    obtain ⟨a, q3, _⟩ := DataW.trod_int (hi _ (List.getElem_mem _)) q2
    have q4 : v' = .int .i64 a := by simpa using q3
    subst q4
    have q5 := (hat j hj).trans q1
    have ad : ((⟨b, o, none⟩ : Addr).add (i * k)).add j = ⟨b, o + i * k + j, none⟩ := by
      unfold Addr.add; split <;> split <;> simp_all
    rw [ad] at q5
    show _ = some (Value.int .i64 (match w.cell? ⟨b, o + i * k + j, none⟩ with | some (.int .i64 a) => a | _ => 0))
    rw [q5]
/-- A number that came in. -/
theorem open_num {w : World} {b0 t : Nat} {v : Value} (ht : P.underlying t = some (.int .i64)) (hc : Cell.okWide P w .any b0 t v) : ∃ a, v = .int .i64 a ∧ In64 a := by
  simp only [Cell.okWide, ht] at hc
  cases v <;> simp only [Cell.ok, ht] at hc
  obtain ⟨rfl, h1, h2⟩ := hc
  exact ⟨_, rfl, h1, h2⟩

/-- A struct's or an array's cells, that came in. -/
theorem open_cells {H : Type} {enc : TypeId × Value → H} {w : World} {base b0 : Nat} {t : Nat} {us : List Nat} {v : Value} {d : DataW H} {p : List MemPlace} (ha : aggB P t = some true) (hL : Leaves P t us) (hus : P.cellTypes P.depth t = some us) (hv : Value.okWide P w .any b0 t v) (h : DataW.Trod enc P w base (fun _ => true) true t v d p) :
    ∃ cs : List Value, v = .agg cs.toArray ∧ cs.length = us.length ∧ ∀ (i u : Nat), us[i]? = some u → ∃ v m y', cs[i]? = some v ∧ Cell.okWide P w .any b0 u v ∧ DataW.trod enc P w base (fun _ => true) true m u [v] = some y' := by
  have h1 : ∃ cs, v = .agg cs ∧ Row.okWide P w .any b0 t cs := by
    unfold Value.okWide at hv
    unfold aggB at ha
    split at hv
    · obtain ⟨cs, h1, _, h2⟩ := hv; exact ⟨cs, h1, h2⟩
    · obtain ⟨cs, h1, _, h2⟩ := hv; exact ⟨cs, h1, h2⟩
    · rename_i q1 q2
      exfalso
      rw [Option.map_eq_some_iff] at ha
      obtain ⟨x, h1, h2⟩ := ha
      cases x <;> first | exact q1 _ h1 | exact q2 _ _ h1 | cases h2
  obtain ⟨cs, rfl, ts, hts, _, hcell⟩ := h1
  obtain ⟨fuel, hf⟩ := h
  obtain ⟨g1, g2⟩ := hL hf
  have e : ts = us := by rw [hus] at hts; exact (Option.some.inj hts).symm
  subst e
  have hsz : cs.toList.length = ts.length := g1
  refine ⟨cs.toList, by simp, hsz, fun i u hu => ?_⟩
  obtain ⟨v, m, y', q1, q2⟩ := g2 i u hu
  have hi : i < ts.length := (List.getElem?_eq_some_iff.1 hu).1
  have q1' : cs[i]? = some v := by simpa [Value.cells] using q1
  obtain ⟨u', r1, r2⟩ := hcell i v q1'
  rw [Nat.mod_eq_of_lt hi, hu] at r1
  cases r1
  exact ⟨v, m, y', by simpa using q1', r2, q2⟩
end
end Go.Ev

/- More operations over explicit states: slices of arrays, fields of what is at hand, names at the top of any memory. -/
namespace Go.Ev
open Go

section
variable {G : Nat} {P : Program} {fl cb c c' : Nat} {m m' : List (Nat × Option AObj)} {l : List (Nat × AV)} {n : Nat} {dfs : List Nat} {y z : Ty} {t yt : Nat} {x1 x2 x3 : Operand} {a b : Int} {v : AV}

theorem S.slice_arr [Tab P] {x off : Nat} (hy : ty P t = some y) (hk : y.kind = 4) (hz : ty P y.elem = some z) : OpE P fl (.slice t x1 none none none) [.ptr x off] m c (.sl x (bif Nat.beq y.len 0 then off else off + 0 * z.size) (y.len - 0) (y.len - 0)) m c := by
  refine ⟨rfl, Nat.le_refl _, ?_⟩
  have hb : boundsA y.len (some y.len) none none none = some (0, y.len, some y.len) := by
    have h : Nat.ble y.len y.len = true := by simp
    unfold boundsA
    simp [h]
  simp only [opA, oSlice, takeOpt, sliceA, ty_array hy hk, ty_size hz, hb, opt1, Nat.sub_zero, Option.map_some]

theorem lookM_hd {x : Nat} {o : Option AObj} : lookM ((x, o) :: m) x = o := by rw [lookM]; simp
theorem lookM_tl {x d : Nat} {o : Option AObj} (h : x ≠ d) : lookM ((d, o) :: m) x = lookM m x := by
  rw [lookM, Bool.cond_eq_ite, if_neg (by simpa using h)]

/-- A memory that holds all that another one does below a bound. -/
structure Sub (m : List (Nat × Option AObj)) (c : Nat) (m' : List (Nat × Option AObj)) (c' : Nat) : Prop where
  le : c ≤ c'
  eq : ∀ x, x < c → lookM m' x = lookM m x
theorem Sub.refl : Sub m c m c := ⟨Nat.le_refl _, fun _ _ => rfl⟩
theorem CanS.here {f : Nat} {args : List AV} {v0 : AV} (h : CanS G P f c args m c fun v _ _ => v = v0) (hv : Pl v0) (fl : Nat) : OkAt G P fl f args (ofM m) c v0 (ofM m) c := h.pure hv (fun ρ w us h k => ⟨ρ, h, k⟩) fl

theorem AV_ren_id : ∀ v : AV, v.ren (fun x => x) = v := by
  have main : (∀ v : AV, v.ren (fun x => x) = v) ∧ ∀ l : List AV, AV.rens (fun x => x) l = l := by
    suffices h : ∀ n : Nat, (∀ v : AV, SizeOf.sizeOf v ≤ n → v.ren (fun x => x) = v) ∧ ∀ l : List AV, SizeOf.sizeOf l ≤ n → AV.rens (fun x => x) l = l from ⟨fun v => (h _).1 v (Nat.le_refl _), fun l => (h _).2 l (Nat.le_refl _)⟩
    intro n
    induction n with
    | zero => exact ⟨fun v hv => by cases v <;> simp at hv, fun l hl => by cases l <;> simp at hl⟩
    | succ n ih =>
      refine ⟨fun v hv => ?_, fun l hl => ?_⟩
      · cases v <;> simp only [AV.ren] <;> simp only [AV.fn.sizeOf_spec, AV.agg.sizeOf_spec, AV.tup.sizeOf_spec] at hv
        · rw [ih.2 _ (by omega), ih.2 _ (by omega)]
        · rw [ih.2 _ (by omega)]
        · rw [ih.2 _ (by omega)]
      · cases l with
        | nil => rfl
        | cons v l =>
          simp only [List.cons.sizeOf_spec] at hl
          rw [AV.rens, ih.1 _ (by omega), ih.2 _ (by omega)]
  exact main.1
theorem AV_rens_id : ∀ l : List AV, AV.rens (fun x => x) l = l
  | [] => rfl
  | v :: l => by rw [AV.rens, AV_ren_id, AV_rens_id l]

/-- Temporaries are forgotten, and what lies in memory; names and their number stay. -/
theorem Wk.forget {l2 : List (Nat × AV)} {m2 : List (Nat × Option AObj)} (hcb : cb ≤ c) (hG : G ≤ cb) (hf : fl ≤ cb) (hl : allL (fun t v => look l t = some v) l2) (hm : ∀ x o, lookM m2 x = some o → lookM m x = some o ∧ o.ren (fun x => x) = o) (hd : dfs.map (fun x => x) = dfs) : Wk G fl cb (stL n dfs l m c) (stL n dfs l2 m2 c) := by
  refine ⟨⟨fun x => x, fun t v ht => ?_, rfl, hd.symm, fun x o hx => ?_, fun x y o o' _ _ h => .inl h, fun x hx => hx, fun _ _ => rfl, fun _ h => h⟩, hcb, hG, hf⟩
  · show (ofL l).get t = _
    rw [ofL_get, AV_ren_id]
    exact allL_look hl t v (by rw [← ofL_get]; exact ht)
  · obtain ⟨h1, h2⟩ := hm x o (by rw [← ofM_get]; exact hx)
    show (ofM m).get _ = _
    rw [ofM_get, h1, h2]
theorem renE_id : ∀ l : List (AV × AV), renE (fun x => x) l = l
  | [] => rfl
  | (a, b) :: l => by rw [renE, AV_ren_id, AV_ren_id, renE_id l]
theorem AObj_ren_id (o : AObj) : o.ren (fun x => x) = o := by
  have tt : ∀ t : TT AV, t.ren (fun x => x) = t := fun t => by
    induction t with
    | leaf => rfl
    | node a v b h1 h2 =>
      rw [TT.ren, h1, h2]
      cases v with
      | none => rfl
      | some v => rw [Option.map_some, AV_ren_id]
  cases o <;> simp only [AObj.ren, AV_rens_id, renE_id, tt]
/-- The same memory. -/
theorem Wk.temps {l2 : List (Nat × AV)} (hcb : cb ≤ c) (hG : G ≤ cb) (hf : fl ≤ cb) (hl : allL (fun t v => look l t = some v) l2) : Wk G fl cb (stL n [] l m c) (stL n [] l2 m c) := .forget hcb hG hf hl (fun x o h => ⟨h, AObj_ren_id o⟩) rfl
/-- A load out of rows that have grown. -/
theorem S.rowG [Tab P] {τ : Type} {enc : τ → List Int} {L : List τ} {s i x : Nat} {e : τ} {vs : List AV} (hy : ty P t = some y) (hg : y.agg = true) (ho : lookM m x = some (.grown (flat enc L) s)) (hs : ∀ e, (enc e).length = s) (hi : L[i]? = some e) (hz : y.size = s) (hv : (enc e).map (AV.int .i64) = vs) :
    OpE P fl (.load t x1) [.ptr x (i * s)] m c (.agg vs) m c := by
  have h1 := flat_cut (enc := enc) hs (j := 0) (k := s) hi (by omega)
  rw [List.drop_zero, List.take_of_length_le (Nat.le_of_eq (hs e)), hv, Nat.add_zero] at h1
  exact S.loadN hy hg ho rfl (by rw [hz]; exact h1)

theorem IsSl.rf {v : AV} {n x : Nat} (h : IsSl v n x) : rfV v = true := by
  rcases h with rfl | ⟨rfl, _⟩ <;> rfl
/-- What was read is still there, where a call leaves memory as it was. -/
def srOk (m : List (Nat × Option AObj)) : List Rec → Prop
  | [] => True
  | r :: us => (match r.reads with | none => True | some x => ∃ ob, lookM m x = some ob ∧ rfO ob = true) ∧ srOk m us
theorem srOk_all : ∀ {us : List Rec}, srOk m us → us.all (sameR P (ofM m) (ofM m)) = true
  | [], _ => rfl
  | r :: us, h => by
    obtain ⟨h1, h2⟩ := h
    have h3 : sameR P (ofM m) (ofM m) r = true := by
      unfold sameR
      split at h1
      · rename_i e; rw [e]
      · rename_i x e
        obtain ⟨ob, h4, h5⟩ := h1
        rw [e]
        simp only [same_get (getM h4) (getM h4) h5, Bool.true_or]
    rw [List.all_cons, h3, srOk_all h2]
    rfl
end
end Go.Ev

/- Spans that grow along a list. -/
namespace Go.Ev
open Go
variable {τ : Type}
def loK (f : τ → Int) (L : List τ) (a : Int) (k : Nat) : Int := loF f a (L.take k)
def hiK (f : τ → Int) (L : List τ) (a : Int) (k : Nat) : Int := hiF f a (L.take k)
theorem take_snoc {L : List τ} {k : Nat} {t : τ} (h : L[k]? = some t) : L.take (k + 1) = L.take k ++ [t] := by
  rw [List.take_add_one, h]; rfl
theorem loK_succ {f : τ → Int} {L : List τ} {a : Int} {k : Nat} {t : τ} (h : L[k]? = some t) : min (loK f L a k) (f t) = loK f L a (k + 1) := by
  unfold loK; rw [take_snoc h, loF_snoc]
theorem hiK_succ {f : τ → Int} {L : List τ} {a : Int} {k : Nat} {t : τ} (h : L[k]? = some t) : max (hiK f L a k) (f t) = hiK f L a (k + 1) := by
  unfold hiK; rw [take_snoc h, hiF_snoc]
theorem loK_end {f : τ → Int} {L : List τ} {t : τ} (h : L[0]? = some t) : loK f L (f t) L.length = spL f L := by
  cases L with
  | nil => simp at h
  | cons a L => simp only [List.getElem?_cons_zero, Option.some.injEq] at h; subst h; unfold loK spL; rw [List.take_length]
theorem hiK_end {f : τ → Int} {L : List τ} {t : τ} (h : L[0]? = some t) : hiK f L (f t) L.length = spH f L := by
  cases L with
  | nil => simp at h
  | cons a L => simp only [List.getElem?_cons_zero, Option.some.injEq] at h; subst h; unfold hiK spH; rw [List.take_length]
theorem at_some {L : List τ} {k : Nat} (h : k < L.length) : ∃ t, L[k]? = some t ∧ t ∈ L := ⟨_, List.getElem?_eq_getElem h, List.getElem_mem h⟩

theorem fst_eq {p : Nat → Prop} {n k : Nat} (hk : k < n) (h1 : ∀ i, i < k → ¬ p i) (h2 : p k) : fstN p n n = k := by
  have h := fstN_spec p n n (Nat.le_refl _)
  rcases Nat.lt_trichotomy (fstN p n n) k with h3 | h3 | h3
  · exact absurd (h.2.2 (by omega)) (h1 _ h3)
  · exact h3
  · exact absurd h2 (h.2.1 k (by omega) h3)
theorem fst_none {p : Nat → Prop} {n : Nat} (h1 : ∀ i, i < n → ¬ p i) : fstN p n n = n := by
  have h := fstN_spec p n n (Nat.le_refl _)
  rcases Nat.lt_or_ge (fstN p n n) n with h3 | h3
  · exact absurd (h.2.2 h3) (h1 _ h3)
  · have := h.1.2; omega
theorem fst_at {p : Nat → Prop} {n : Nat} (h : fstN p n n < n) : p (fstN p n n) := (fstN_spec p n n (Nat.le_refl _)).2.2 h
theorem fst_lt {p : Nat → Prop} {n i : Nat} (h : i < fstN p n n) : ¬ p i := (fstN_spec p n n (Nat.le_refl _)).2.1 i (by omega) h

/-- Where the first element of a list is that is so; the list's length, if none is. -/
noncomputable def fxN (pr : τ → Prop) (L : List τ) : Nat := fstN (fun i => ∃ t, L[i]? = some t ∧ pr t) L.length L.length
noncomputable def ixV (pr : τ → Prop) (L : List τ) : Int := if fxN pr L < L.length then (fxN pr L : Int) else -1
theorem ixV_at {pr : τ → Prop} {L : List τ} {k : Nat} {t : τ} (h1 : ∀ i u, i < k → L[i]? = some u → ¬ pr u) (ht : L[k]? = some t) (hp : pr t) : ixV pr L = k := by
  have hk : k < L.length := (List.getElem?_eq_some_iff.1 ht).1
  have : fxN pr L = k := fst_eq hk (fun i hi ⟨u, hu, hpu⟩ => h1 i u hi hu hpu) ⟨t, ht, hp⟩
  unfold ixV; rw [this, if_pos hk]
theorem ixV_none {pr : τ → Prop} {L : List τ} (h1 : ∀ i u, i < L.length → L[i]? = some u → ¬ pr u) : ixV pr L = -1 := by
  have : fxN pr L = L.length := fst_none fun i hi ⟨u, hu, hpu⟩ => h1 i u hi hu hpu
  unfold ixV; rw [this, if_neg (by omega)]
theorem ixV_nn {pr : τ → Prop} {L : List τ} : 0 ≤ ixV pr L ↔ ∃ t ∈ L, pr t := by
  by_cases h : fxN pr L < L.length
  · obtain ⟨t, ht, hp⟩ := fst_at (p := fun i => ∃ t, L[i]? = some t ∧ pr t) h
    exact ⟨fun _ => ⟨t, List.mem_of_getElem? ht, hp⟩, fun _ => by unfold ixV; rw [if_pos h]; omega⟩
  · refine ⟨fun h2 => by unfold ixV at h2; rw [if_neg h] at h2; omega, fun ⟨t, ht, hp⟩ => ?_⟩
    obtain ⟨i, hi, rfl⟩ := List.getElem_of_mem ht
    exact absurd ⟨_, List.getElem?_eq_getElem hi, hp⟩ (fst_lt (p := fun i => ∃ t, L[i]? = some t ∧ pr t) (n := L.length) (by unfold fxN at h; omega))

section
variable {G : Nat} {P : Program} {fl cb c c' : Nat} {m m' : List (Nat × Option AObj)} {y z : Ty} {t : Nat} {x1 x2 : Operand}
end
end Go.Ev

/- Loads and stores near the top of a memory whose names are not literal. -/
namespace Go.Ev
open Go
section
variable {P : Program} {fl c t x off : Nat} {m : List (Nat × Option AObj)} {y : Ty} {cs cs' vs : List AV} {v : AV} {a b : Operand}
end
end Go.Ev

/- Lists that are copied and changed: append to an empty list, stores into rows that have grown; slices as windows. -/
namespace Go.Ev
open Go

section
variable {P : Program} {fl c : Nat} {m : List (Nat × Option AObj)} {y y' z : Ty} {t t' : Nat} {x1 x2 : Operand} {v : AV}

theorem S.buildSlice0 [Tab P] (ht : ty P t = some y) (hk : y.kind = 5) (he : ty P y.elem = some z) : OpE P fl (.buildSlice t 0 #[]) [] m c (.sl c 0 0 0) ((c, some (.cells [])) :: m) (c + 1) := by
  refine ⟨rfl, Nat.le_succ _, ?_⟩
  have h0 : Nat.ble (0 * z.size) (2 ^ 24) = true := by simp
  simp only [opA, oBuildSlice, ty_slice ht hk, ty_size he, h0, cond_true, Nat.beq_refl, List.map_nil, List.zip_nil_left, fillA]
  rfl

theorem cut_all {cs : List AV} {k : Nat} (h : cs.length = k) : cut cs 0 k = some cs := by
  unfold cut
  simp only [List.drop_zero, List.take_of_length_le (Nat.le_of_eq h), h, Nat.beq_refl, cond_true]

/-- To an empty list that was just made. -/
theorem S.append_e [Tab P] {ats : Array Nat} {x w n : Nat} {news : List AV} {ob : AObj} (hat : ats.toList = [t, t']) (ht : ty P t = some y) (hk : y.kind = 5) (ht' : ty P t' = some y') (hk' : y'.kind = 5) (hz : ty P y.elem = some z) (hzk : z.kind = 3) (hzz : (Nat.beq z.zero.cells.length z.size && Nat.ble 1 z.size) = true)
    (hb : Nat.ble z.bytes 10000 = true) (hx : lookM m x = some (.cells [])) (hv : IsSl v n w) (ho : lookM m w = some ob) (hcs : cellsOf ob = some news) (hl : news.length = n * z.size) (hn : n ≤ 1000000) (h0 : 0 < n) :
    OpE P fl (.call ⟨.builtin .append, #[x1, x2], ats⟩) [.sl x 0 0 0, v] m c (.gs c n) ((c, some (.grown news z.size)) :: m) (c + 1) := by
  obtain ⟨i, h1, h2, h3⟩ := info_sz hz
  have hb' : z.bytes ≤ 10000 := Nat.le_of_ble_eq_true hb
  have hbb : (Nat.ble ((2 * n + 1000) * i.bytes) (2 ^ 48) && Nat.ble n (2 ^ 62)) = true := by
    rw [h2]
    simp only [Bool.and_eq_true, Nat.ble_eq]
    refine ⟨?_, by omega⟩
    calc (2 * n + 1000) * z.bytes ≤ 3000000 * 10000 := Nat.mul_le_mul (by omega) hb'
      _ ≤ 2 ^ 48 := by decide
  rcases hv with rfl | ⟨rfl, rfl⟩
  · have hc0 : Nat.ble n 0 = false := Bool.eq_false_iff.2 fun h => by have := Nat.le_of_ble_eq_true h; omega
    have hn0 : Nat.beq n 0 = false := Bool.eq_false_iff.2 fun h => by have := Nat.eq_of_beq_eq_true h; omega
    have hcut0 : cut ([] : List AV) 0 (0 * z.size) = some [] := by rw [Nat.zero_mul]; rfl
    have hcut : cut news 0 (n * z.size) = some news := cut_all hl
    have hce : cellsOf (.cells []) = some [] := rfl
    rw [← h3] at hcut0 hcut
    refine ⟨rfl, Nat.le_succ _, ?_⟩
    show opA P (ofM m) c fl _ _ = _
    simp only [opA, oCall, builtinA, hat, appendA, ty_slice ht hk, ty_slice ht' hk', h1, rowT hz hzz, sliceCells, getCells, ofM_get, hx, ho, hcs, hce, Option.bind_some, hcut0, hcut, Option.map_some, hn0, cond_false, hbb, cond_true, hc0, keptF hz hzk, growA, Nat.zero_add, List.nil_append]
    rw [h3]
    rfl
  · omega

/-- Nothing, to an empty list. -/
theorem S.append_e0 [Tab P] {ats : Array Nat} {x w : Nat} {ob : AObj} {news : List AV} (hat : ats.toList = [t, t']) (ht : ty P t = some y) (hk : y.kind = 5) (ht' : ty P t' = some y') (hk' : y'.kind = 5) (hz : ty P y.elem = some z) (hzz : (Nat.beq z.zero.cells.length z.size && Nat.ble 1 z.size) = true)
    (hx : lookM m x = some (.cells [])) (hv : IsSl v 0 w) (ho : lookM m w = some ob) (hcs : cellsOf ob = some news) : OpE P fl (.call ⟨.builtin .append, #[x1, x2], ats⟩) [.sl x 0 0 0, v] m c (.sl x 0 0 0) m c := by
  obtain ⟨i, h1, h2, h3⟩ := info_sz hz
  have hcut0 : ∀ cs : List AV, cut cs 0 (0 * i.size) = some [] := fun cs => by rw [Nat.zero_mul]; rfl
  have hce : cellsOf (.cells []) = some [] := rfl
  refine ⟨rfl, Nat.le_refl _, ?_⟩
  show opA P (ofM m) c fl _ _ = _
  rcases hv with rfl | ⟨rfl, _⟩
  · simp only [opA, oCall, builtinA, hat, appendA, ty_slice ht hk, ty_slice ht' hk', h1, rowT hz hzz, sliceCells, getCells, ofM_get, hx, ho, hcs, hce, Option.bind_some, hcut0, Option.map_some, Nat.beq_refl, cond_true]
    rfl
  · simp only [opA, oCall, builtinA, hat, appendA, ty_slice ht hk, ty_slice ht' hk', h1, rowT hz hzz, sliceCells, getCells, ofM_get, hx, hce, Option.bind_some, hcut0, Option.map_some, Nat.beq_refl, cond_true]
    rfl

/-- One element more, to an empty list that was just made. -/
theorem S.append_e1 [Tab P] {ats : Array Nat} {x w : Nat} {news : List AV} (hat : ats.toList = [t, t']) (ht : ty P t = some y) (hk : y.kind = 5) (ht' : ty P t' = some y') (hk' : y'.kind = 5) (hz : ty P y.elem = some z) (hzk : z.kind = 3) (hzz : (Nat.beq z.zero.cells.length z.size && Nat.ble 1 z.size) = true)
    (hb : Nat.ble z.bytes 10000 = true) (hx : lookM m x = some (.cells [])) (ho : lookM m w = some (.cells news)) (hc : cut news 0 (1 * z.size) = some news) : OpE P fl (.call ⟨.builtin .append, #[x1, x2], ats⟩) [.sl x 0 0 0, .sl w 0 1 1] m c (.gs c 1) ((c, some (.grown news z.size)) :: m) (c + 1) := by
  obtain ⟨i, h1, h2, h3⟩ := info_sz hz
  have hb' : z.bytes ≤ 10000 := Nat.le_of_ble_eq_true hb
  have hbb : (Nat.ble ((2 * (0 + 1) + 1000) * i.bytes) (2 ^ 48) && Nat.ble (0 + 1) (2 ^ 62)) = true := by
    rw [h2]
    simp only [Bool.and_eq_true, Nat.ble_eq]
    omega
  have hcut0 : cut ([] : List AV) 0 (0 * i.size) = some [] := by rw [Nat.zero_mul]; rfl
  refine ⟨rfl, Nat.le_succ _, ?_⟩
  show opA P (ofM m) c fl _ _ = _
  simp only [opA, oCall, builtinA, hat, appendA, ty_slice ht hk, ty_slice ht' hk', h1, rowT hz hzz, sliceCells, getCells, ofM_get, hx, ho, cellsOf, Option.bind_some, h3, hc, hcut0, Option.map_some, show Nat.beq 1 0 = false from rfl, cond_false, hbb, cond_true, keptF hz hzk, growA, show Nat.ble (0 + 1) 0 = false from rfl, List.nil_append]
  have hcut1 : cut ([] : List AV) 0 (0 * z.size) = some [] := by rw [Nat.zero_mul]; rfl
  simp only [hcut1, Option.map_some, List.nil_append, show Nat.beq 1 0 = false from rfl, cond_false, hbb, cond_true, show Nat.ble (0 + 1) 0 = false from rfl]
  rfl

theorem ArgsW.pls {W : List Wnd} : ∀ {l : List AV}, Pls l → ArgsW W l l
  | [], _ => trivial
  | v :: l, h => by
    have h1 : Pl v := fun σ => by have := h σ; rw [AV.rens] at this; exact (List.cons.inj this).1
    have h2 : Pls l := fun σ => by have := h σ; rw [AV.rens] at this; exact (List.cons.inj this).2
    exact ⟨.pl h1, ArgsW.pls h2⟩
end
end Go.Ev
