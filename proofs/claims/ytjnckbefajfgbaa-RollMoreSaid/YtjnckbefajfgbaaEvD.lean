/-
  The evaluator: calls that are known.
-/
import Derived.Test.YtjnckbefajfgbaaEvC
namespace Go.Ev
open Go

/-! ### Calls that are known -/

def eqBss : List (List AV) → List (List AV) → Bool
  | [], [] => true
  | v :: l, u :: m => AV.eqBs v u && eqBss l m
  | _, _ => false

theorem eqBss_eq : ∀ {l m : List (List AV)}, eqBss l m = true → l = m
  | [], [], _ => rfl
  | v :: l, u :: m, h => by
    simp only [eqBss, Bool.and_eq_true] at h
    rw [AV.eqBs_eq v u h.1, eqBss_eq h.2]

def AObj.eqB : AObj → AObj → Bool
  | .cells a, .cells b => AV.eqBs a b
  | .grown a n, .grown b m => AV.eqBs a b && Nat.beq n m
  | .ro a, .ro b => AV.eqBs a b
  | .tip a n, .tip b m => AV.eqBs a b && Nat.beq n m
  | .map a, .map b => eqBes a b
  | _, _ => false

theorem AObj.eqB_eq : ∀ {v u : AObj}, AObj.eqB v u = true → v = u
  | .cells a, .cells b, h => by simp only [AObj.eqB] at h; rw [AV.eqBs_eq a b h]
  | .grown a n, .grown b m, h => by simp only [AObj.eqB, Bool.and_eq_true, Nat.beq_eq] at h; rw [AV.eqBs_eq a b h.1, h.2]
  | .ro a, .ro b, h => by simp only [AObj.eqB] at h; rw [AV.eqBs_eq a b h]
  | .tip a n, .tip b m, h => by simp only [AObj.eqB, Bool.and_eq_true, Nat.beq_eq] at h; rw [AV.eqBs_eq a b h.1, h.2]
  | .map a, .map b, h => by simp only [AObj.eqB] at h; rw [eqBes_eq h]

/-! Names in place of names. -/

abbrev Sig := Nat → Option (Nat × Nat)

mutual
def AV.sub (σ : Sig) : AV → Option AV
  | .ptr x j => match σ x with
    | some (y, i) => some (.ptr y (i + j))
    | none => none
  | .sl x j n c => match σ x with
    | some (y, i) => some (.sl y (i + j) n c)
    | none => none
  | .gs x n => match σ x with
    | some (y, 0) => some (.gs y n)
    | _ => none
  | .map x => match σ x with
    | some (y, _) => some (.map y)
    | none => none
  | .fn f a b => match AV.subs σ a, AV.subs σ b with
    | some a', some b' => some (.fn f a' b')
    | _, _ => none
  | .agg l => match AV.subs σ l with
    | some l' => some (.agg l')
    | none => none
  | .tup l => match AV.subs σ l with
    | some l' => some (.tup l')
    | none => none
  | .yld _ | .gv _ _ _ => none
  | .bool b => some (.bool b)
  | .int k n => some (.int k n)
  | .str s => some (.str s)
  | .nilp => some .nilp
  | .nils => some .nils
  | .nilm => some .nilm
  | .nilf => some .nilf
def AV.subs (σ : Sig) : List AV → Option (List AV)
  | [] => some []
  | v :: l => match AV.sub σ v, AV.subs σ l with
    | some v', some l' => some (v' :: l')
    | _, _ => none
end

def subes (σ : Sig) : List (AV × AV) → Option (List (AV × AV))
  | [] => some []
  | v :: l => match v.1.sub σ, v.2.sub σ, subes σ l with
    | some a, some b, some l' => some ((a, b) :: l')
    | _, _, _ => none

def AObj.sub (σ : Sig) : AObj → Option AObj
  | .cells a => match AV.subs σ a with
    | some a' => some (.cells a')
    | none => none
  | .grown a n => match AV.subs σ a with
    | some a' => some (.grown a' n)
    | none => none
  | .ro a => match AV.subs σ a with
    | some a' => some (.ro a')
    | none => none
  | .tip a n => match AV.subs σ a with
    | some a' => some (.tip a' n)
    | none => none
  | .map a => match subes σ a with
    | some a' => some (.map a')
    | none => none
  | _ => none

section
variable {ρ ρ' : Rho} {σ : Sig}

/-- What stands for a name lies where it lay. -/
def SigOK (ρ ρ' : Rho) (σ : Sig) : Prop := ∀ y z j p, σ y = some (z, j) → ρ y = some p → ∃ q, ρ' z = some q ∧ q.b = p.b ∧ q.o + j = p.o ∧ q.k = p.k

mutual
theorem VR.sub (h : SigOK ρ ρ' σ) : ∀ (v v' : AV) (u : Value), v.sub σ = some v' → VR ρ v u → VR ρ' v' u
  | .ptr x j, v', u, e, hv => by
    simp only [AV.sub] at e
    split at e
    · rename_i y i hs
      simp only [Option.some.injEq] at e
      subst e
      simp only [VR] at hv ⊢
      obtain ⟨p, hp, rfl⟩ := hv
      obtain ⟨q, hq, h1, h2, h3⟩ := h x y i p hs hp
      exact ⟨q, hq, by rw [h1, ← h2, Nat.add_assoc]⟩
    · cases e
  | .sl x j n c, v', u, e, hv => by
    simp only [AV.sub] at e
    split at e
    · rename_i y i hs
      simp only [Option.some.injEq] at e
      subst e
      simp only [VR] at hv ⊢
      obtain ⟨p, hp, rfl⟩ := hv
      obtain ⟨q, hq, h1, h2, h3⟩ := h x y i p hs hp
      exact ⟨q, hq, by rw [h1, ← h2, Nat.add_assoc]⟩
    · cases e
  | .gs x n, v', u, e, hv => by
    simp only [AV.sub] at e
    split at e
    · rename_i y hs
      simp only [Option.some.injEq] at e
      subst e
      simp only [VR] at hv ⊢
      obtain ⟨p, hp, rfl, hk⟩ := hv
      obtain ⟨q, hq, h1, h2, h3⟩ := h x y 0 p hs hp
      exact ⟨q, hq, by rw [h1, ← h2, h3, Nat.add_zero], by omega⟩
    · cases e
  | .map x, v', u, e, hv => by
    simp only [AV.sub] at e
    split at e
    · rename_i y i hs
      simp only [Option.some.injEq] at e
      subst e
      simp only [VR] at hv ⊢
      obtain ⟨p, hp, rfl⟩ := hv
      obtain ⟨q, hq, h1, h2, h3⟩ := h x y i p hs hp
      exact ⟨q, hq, by rw [h1]⟩
    · cases e
  | .fn f a b, v', u, e, hv => by
    simp only [AV.sub] at e
    split at e
    · rename_i a' b' ha hb
      simp only [Option.some.injEq] at e
      subst e
      simp only [VR] at hv ⊢
      obtain ⟨us, vs, h1, h2, rfl⟩ := hv
      exact ⟨us, vs, VRs.sub h a a' us ha h1, VRs.sub h b b' vs hb h2, rfl⟩
    · cases e
  | .agg l, v', u, e, hv => by
    simp only [AV.sub] at e
    split at e
    · rename_i l' hl
      simp only [Option.some.injEq] at e
      subst e
      simp only [VR] at hv ⊢
      obtain ⟨us, h1, rfl⟩ := hv
      exact ⟨us, VRs.sub h l l' us hl h1, rfl⟩
    · cases e
  | .tup l, v', u, e, hv => by
    simp only [AV.sub] at e
    split at e
    · rename_i l' hl
      simp only [Option.some.injEq] at e
      subst e
      simp only [VR] at hv ⊢
      obtain ⟨us, h1, rfl⟩ := hv
      exact ⟨us, VRs.sub h l l' us hl h1, rfl⟩
    · cases e
  | .bool _, v', _, e, hv => by simp only [AV.sub, Option.some.injEq] at e; subst e; simp only [VR] at hv ⊢; exact hv
  | .int _ _, v', _, e, hv => by simp only [AV.sub, Option.some.injEq] at e; subst e; simp only [VR] at hv ⊢; exact hv
  | .str _, v', _, e, hv => by simp only [AV.sub, Option.some.injEq] at e; subst e; simp only [VR] at hv ⊢; exact hv
  | .nilp, v', _, e, hv => by simp only [AV.sub, Option.some.injEq] at e; subst e; simp only [VR] at hv ⊢; exact hv
  | .nils, v', _, e, hv => by simp only [AV.sub, Option.some.injEq] at e; subst e; simp only [VR] at hv ⊢; exact hv
  | .nilm, v', _, e, hv => by simp only [AV.sub, Option.some.injEq] at e; subst e; simp only [VR] at hv ⊢; exact hv
  | .nilf, v', _, e, hv => by simp only [AV.sub, Option.some.injEq] at e; subst e; simp only [VR] at hv ⊢; exact hv
  | .yld _, v', _, e, _ => by simp [AV.sub] at e
  | .gv _ _ _, v', _, e, _ => by simp [AV.sub] at e
theorem VRs.sub (h : SigOK ρ ρ' σ) : ∀ (l l' : List AV) (us : List Value), AV.subs σ l = some l' → VRs ρ l us → VRs ρ' l' us
  | [], l', us, e, hv => by
    simp only [AV.subs, Option.some.injEq] at e
    subst e
    simp only [VRs] at hv ⊢
    exact hv
  | v :: l, l', us, e, hv => by
    simp only [AV.subs] at e
    split at e
    · rename_i v1 l1 h1 h2
      simp only [Option.some.injEq] at e
      subst e
      simp only [VRs] at hv ⊢
      obtain ⟨u, us', e, h3, h4⟩ := hv
      exact ⟨u, us', e, VR.sub h v v1 u h1 h3, VRs.sub h l l1 us' h2 h4⟩
    · cases e
end

theorem MapsR.sub (h : SigOK ρ ρ' σ) : ∀ {es es' : List (AV × AV)} {ms : List MapEntry}, subes σ es = some es' → MapsR ρ es ms → MapsR ρ' es' ms
  | [], es', _, e, hm => by
    simp only [subes, Option.some.injEq] at e
    subst e
    exact hm
  | (k, v) :: es, es', _, e, hm => by
    simp only [subes] at e
    split at e
    · rename_i a b l' h1 h2 h3
      simp only [Option.some.injEq] at e
      subst e
      obtain ⟨m, ms', rfl, h4, h5, h6⟩ := hm
      exact ⟨m, ms', rfl, VR.sub h k a _ h1 h4, VR.sub h v b _ h2 h5, MapsR.sub h h3 h6⟩
    · cases e

theorem ObjR.sub (h : SigOK ρ ρ' σ) {w : World} {p : Win} {o o' : AObj} (e : o.sub σ = some o') (hb : ObjR ρ w p o) : ObjR ρ' w p o' ∧ o'.share = o.share := by
  cases o <;> simp only [AObj.sub, reduceCtorEq] at e <;> split at e <;> simp only [Option.some.injEq, reduceCtorEq] at e <;> rename_i l' hl <;> subst e
  · obtain ⟨h0, us, t, h1, h2⟩ := hb; exact ⟨⟨h0, us, t, VRs.sub h _ _ _ hl h1, h2⟩, rfl⟩
  · obtain ⟨h0, us, r, t, h1, h2⟩ := hb; exact ⟨⟨h0, us, r, t, VRs.sub h _ _ _ hl h1, h2⟩, rfl⟩
  · obtain ⟨us, h1, h2⟩ := hb
    have h3 := VRs.sub h _ _ _ hl h1
    exact ⟨⟨us, h3, h2⟩, by simp only [AObj.share]; rw [← h3.length, ← h1.length]⟩
  · obtain ⟨h0, us, r, t, h1, h2⟩ := hb
    have h3 := VRs.sub h _ _ _ hl h1
    exact ⟨⟨h0, us, r, t, h3, h2⟩, by simp only [AObj.share]; rw [← h3.length, ← h1.length]⟩
  · obtain ⟨ms, clk, h1, h2, h3⟩ := hb; exact ⟨⟨ms, clk, h1, MapsR.sub h hl h2, h3⟩, rfl⟩

end
end Go.Ev

namespace Go.Ev
open Go
noncomputable section

/-! ### The memory that a call is handed, by itself -/

/-- What lies behind a name, and where: a name's place. -/
abbrev CO := List AV × Nat × Nat
abbrev CanFn := AV → List CO → Option (AV × List CO)

def canVs (f : CanFn) : List AV → List CO → Option (List AV × List CO)
  | [], os => some ([], os)
  | v :: l, os => match f v os with
    | some (v', os1) => match canVs f l os1 with
      | some (l', os2) => some (v' :: l', os2)
      | none => none
    | none => none

def canO (G : Nat) (H : T AObj) (f : CanFn) (x off : Nat) (os : List CO) : Option (Nat × List CO) :=
  match H.get x with
  | some o => match cellsOf o with
    | some cs => match canVs f (cs.drop off) os with
      | some (cs', os1) => some (G + os1.length, os1 ++ [(cs', x, off)])
      | none => none
    | none => none
  | none => none

def canV (G : Nat) (H : T AObj) : Nat → CanFn
  | 0, _, _ => none
  | d + 1, v, os => match v with
    | .bool b => some (.bool b, os)
    | .int k n => some (.int k n, os)
    | .str s => some (.str s, os)
    | .nilp => some (.nilp, os)
    | .nils => some (.nils, os)
    | .nilm => some (.nilm, os)
    | .nilf => some (.nilf, os)
    | .sl x off len cap => match canO G H (canV G H d) x off os with
      | some (y, os') => some (.sl y 0 len cap, os')
      | none => none
    | .gs x len => match canO G H (canV G H d) x 0 os with
      | some (y, os') => some (.gs y len, os')
      | none => none
    | .ptr x off => match canO G H (canV G H d) x off os with
      | some (y, os') => some (.ptr y 0, os')
      | none => none
    | .agg l => match canVs (canV G H d) l os with
      | some (l', os') => some (.agg l', os')
      | none => none
    | .fn f a b => match canVs (canV G H d) a os with
      | some (a', os1) => match canVs (canV G H d) b os1 with
        | some (b', os2) => some (.fn f a' b', os2)
        | none => none
      | none => none
    | _ => none

def putObjs : List (List AV) → Nat → T AObj → T AObj
  | [], _, t => t
  | cs :: l, i, t => putObjs l (i + 1) (t.set i (.ro cs))

theorem putObjs_get : ∀ {l : List (List AV)} {i : Nat} {t : T AObj} {j : Nat}, (putObjs l i t).get j = if i ≤ j ∧ j < i + l.length then (l[j - i]?).map .ro else t.get j
  | [], i, t, j => by simp [putObjs]; intro h1 h2; omega
  | cs :: l, i, t, j => by
    simp only [putObjs, List.length_cons]
    rw [putObjs_get, T.get_set]
    by_cases h1 : j = i
    · subst h1
      rw [if_neg (by omega), if_pos rfl, if_pos (by omega)]
      simp
    · rw [if_neg h1]
      by_cases h2 : i + 1 ≤ j ∧ j < i + 1 + l.length
      · rw [if_pos h2, if_pos (by omega), show j - i = (j - (i + 1)) + 1 by omega]
        simp
      · rw [if_neg h2, if_neg (by omega)]

section
variable {G : Nat} {ρ : Rho} {H : T AObj} {c : Nat} {w : World}

structure CI (G : Nat) (ρ : Rho) (w : World) (os : List CO) (ρe : Rho) : Prop where
  glob : ∀ g, g < G → ρe g = ρ g
  obj : ∀ i cs x off, os[i]? = some (cs, x, off) → ∃ p, ρ x = some p ∧ ρe (G + i) = some ⟨p.b, p.o + off, p.k⟩ ∧ ObjR ρe w ⟨p.b, p.o + off, p.k⟩ (.ro cs)
  fresh : ∀ x, G + os.length ≤ x → ρe x = none
  lt : ∀ x p, ρe x = some p → p.b < w.heap.size

def CanOK (G : Nat) (ρ : Rho) (w : World) (f : CanFn) : Prop :=
  ∀ v os v' os' ρe u, f v os = some (v', os') → CI G ρ w os ρe → VR ρ v u → ∃ ρe', RLe ρe ρe' ∧ CI G ρ w os' ρe' ∧ VR ρe' v' u

theorem canVs_ok {f : CanFn} (hf : CanOK G ρ w f) : ∀ {l : List AV} {os : List CO} {l' : List AV} {os' : List CO} {ρe : Rho} {us : List Value}, canVs f l os = some (l', os') → CI G ρ w os ρe → VRs ρ l us →
    ∃ ρe', RLe ρe ρe' ∧ CI G ρ w os' ρe' ∧ VRs ρe' l' us
  | [], os, l', os', ρe, us, e, hc, hv => by
    simp only [canVs, Option.some.injEq, Prod.mk.injEq] at e
    obtain ⟨rfl, rfl⟩ := e
    rw [hv.nil_inv]
    exact ⟨ρe, .refl _, hc, .nil⟩
  | v :: l, os, l', os', ρe, us, e, hc, hv => by
    simp only [canVs] at e
    split at e
    case h_2 => cases e
    rename_i v1 os1 h1
    split at e
    case h_2 => cases e
    rename_i l1 os2 h2
    simp only [Option.some.injEq, Prod.mk.injEq] at e
    obtain ⟨rfl, rfl⟩ := e
    obtain ⟨u, us', rfl, hu, hus⟩ := hv.cons_inv
    obtain ⟨ρ1, hle, hc1, hu1⟩ := hf _ _ _ _ _ _ h1 hc hu
    obtain ⟨ρ2, hle2, hc2, hus2⟩ := canVs_ok hf h2 hc1 hus
    exact ⟨ρ2, hle.trans hle2, hc2, .cons (hu1.mono hle2) hus2⟩

theorem canO_ok (hH : Holds G ρ H c w) {f : CanFn} (hf : CanOK G ρ w f) {x off : Nat} {os : List CO} {y : Nat} {os' : List CO} {ρe : Rho} {p : Win} (e : canO G H f x off os = some (y, os')) (hc : CI G ρ w os ρe) (hp : ρ x = some p) :
    ∃ ρe', RLe ρe ρe' ∧ CI G ρ w os' ρe' ∧ ρe' y = some ⟨p.b, p.o + off, p.k⟩ := by
  unfold canO at e
  split at e
  case h_2 => cases e
  rename_i o hx
  split at e
  case h_2 => cases e
  rename_i cs hcs
  split at e
  case h_2 => cases e
  rename_i cs' os1 h1
  simp only [Option.some.injEq, Prod.mk.injEq] at e
  obtain ⟨rfl, rfl⟩ := e
  obtain ⟨us, hus, hcell⟩ := hH.read hx hcs hp
  obtain ⟨ρ1, hle, hc1, hus1⟩ := canVs_ok hf h1 hc (hus.drop off)
  have hn : ρ1 (G + os1.length) = none := hc1.fresh _ (Nat.le_refl _)
  have hle2 : RLe ρ1 (upd ρ1 (G + os1.length) ⟨p.b, p.o + off, p.k⟩) := upd_le hn
  refine ⟨_, hle.trans hle2, ⟨fun g hg => ?_, fun i cs0 x0 off0 hi => ?_, fun z hz => ?_, fun z q hq => ?_⟩, upd_same _ _ _⟩
  · unfold upd
    rw [if_neg (by omega)]
    exact hc1.glob g hg
  · by_cases e : i < os1.length
    · rw [List.getElem?_append_left e] at hi
      obtain ⟨q, hq0, hq, hob⟩ := hc1.obj i cs0 x0 off0 hi
      exact ⟨q, hq0, hle2 _ _ hq, hob.mono hle2⟩
    · have hlt := (List.getElem?_eq_some_iff.1 hi).1
      simp only [List.length_append, List.length_cons, List.length_nil] at hlt
      have ei : i = os1.length := by omega
      subst ei
      simp only [List.getElem?_append_right (Nat.le_refl _), Nat.sub_self, List.getElem?_cons_zero, Option.some.injEq, Prod.mk.injEq] at hi
      obtain ⟨rfl, rfl, rfl⟩ := hi
      refine ⟨p, hp, upd_same _ _ _, us.drop off, hus1.mono hle2, fun j u hj => ?_⟩
      rw [List.getElem?_drop] at hj
      have := hcell _ u hj
      simpa [Nat.add_assoc] using this
  · unfold upd
    simp only [List.length_append, List.length_cons, List.length_nil] at hz
    rw [if_neg (by omega)]
    exact hc1.fresh z (by omega)
  · unfold upd at hq
    split at hq
    · cases hq
      exact hH.lt x p hp
    · exact hc1.lt z q hq

theorem canV_ok (hH : Holds G ρ H c w) : ∀ d, CanOK G ρ w (canV G H d)
  | 0 => fun v os v' os' ρe u e => by simp [canV] at e
  | d + 1 => by
    have ih := canV_ok hH d
    intro v os v' os' ρe u e hc hv
    have self : ∀ {v0 : AV}, some (v0, os) = some (v', os') → VR ρe v0 u → ∃ ρe', RLe ρe ρe' ∧ CI G ρ w os' ρe' ∧ VR ρe' v' u := by
      intro v0 e h
      simp only [Option.some.injEq, Prod.mk.injEq] at e
      obtain ⟨rfl, rfl⟩ := e
      exact ⟨ρe, .refl _, hc, h⟩
    cases v with
    | bool b => exact self e (by simp only [VR] at hv ⊢; exact hv)
    | int k n => exact self e (by simp only [VR] at hv ⊢; exact hv)
    | str s => exact self e (by simp only [VR] at hv ⊢; exact hv)
    | nilp => exact self e (by simp only [VR] at hv ⊢; exact hv)
    | nils => exact self e (by simp only [VR] at hv ⊢; exact hv)
    | nilm => exact self e (by simp only [VR] at hv ⊢; exact hv)
    | nilf => exact self e (by simp only [VR] at hv ⊢; exact hv)
    | map x => simp [canV] at e
    | yld x => simp [canV] at e
    | gv x off len => simp [canV] at e
    | tup l => simp [canV] at e
    | sl x off len cap =>
      simp only [canV] at e
      split at e
      case h_2 => cases e
      rename_i y os1 h1
      simp only [Option.some.injEq, Prod.mk.injEq] at e
      obtain ⟨rfl, rfl⟩ := e
      simp only [VR] at hv
      obtain ⟨p, hp, rfl⟩ := hv
      obtain ⟨ρ1, hle, hc1, hy⟩ := canO_ok hH ih h1 hc hp
      exact ⟨ρ1, hle, hc1, by simp only [VR]; exact ⟨_, hy, rfl⟩⟩
    | gs x len =>
      simp only [canV] at e
      split at e
      case h_2 => cases e
      rename_i y os1 h1
      simp only [Option.some.injEq, Prod.mk.injEq] at e
      obtain ⟨rfl, rfl⟩ := e
      simp only [VR] at hv
      obtain ⟨p, hp, rfl, hk⟩ := hv
      obtain ⟨ρ1, hle, hc1, hy⟩ := canO_ok hH ih h1 hc hp
      exact ⟨ρ1, hle, hc1, by simp only [VR]; exact ⟨_, hy, rfl, hk⟩⟩
    | ptr x off =>
      simp only [canV] at e
      split at e
      case h_2 => cases e
      rename_i y os1 h1
      simp only [Option.some.injEq, Prod.mk.injEq] at e
      obtain ⟨rfl, rfl⟩ := e
      simp only [VR] at hv
      obtain ⟨p, hp, rfl⟩ := hv
      obtain ⟨ρ1, hle, hc1, hy⟩ := canO_ok hH ih h1 hc hp
      exact ⟨ρ1, hle, hc1, by simp only [VR]; exact ⟨_, hy, rfl⟩⟩
    | agg l =>
      simp only [canV] at e
      split at e
      case h_2 => cases e
      rename_i l1 os1 h1
      simp only [Option.some.injEq, Prod.mk.injEq] at e
      obtain ⟨rfl, rfl⟩ := e
      simp only [VR] at hv
      obtain ⟨us, h2, rfl⟩ := hv
      obtain ⟨ρ1, hle, hc1, hy⟩ := canVs_ok ih h1 hc h2
      exact ⟨ρ1, hle, hc1, by simp only [VR]; exact ⟨us, hy, rfl⟩⟩
    | fn f a b =>
      simp only [canV] at e
      split at e
      case h_2 => cases e
      rename_i a1 os1 h1
      split at e
      case h_2 => cases e
      rename_i b1 os2 h2
      simp only [Option.some.injEq, Prod.mk.injEq] at e
      obtain ⟨rfl, rfl⟩ := e
      simp only [VR] at hv
      obtain ⟨us, vs, h3, h4, rfl⟩ := hv
      obtain ⟨ρ1, hle, hc1, hy⟩ := canVs_ok ih h1 hc h3
      obtain ⟨ρ2, hle2, hc2, hy2⟩ := canVs_ok ih h2 hc1 h4
      exact ⟨ρ2, hle.trans hle2, hc2, by simp only [VR]; exact ⟨us, vs, hy.mono hle2, hy2, rfl⟩⟩

/-- The variables of the program are as they are known to be. -/
def glOk (H : T AObj) : List (List AV) → Nat → Bool
  | [], _ => true
  | cs :: l, g => (match H.get g with
    | some (.ro cs') => match canVs (canV 0 .leaf 2) cs' [] with
      | some (cs2, []) => AV.eqBs cs2 cs
      | _ => false
    | _ => false) && glOk H l (g + 1)

theorem glOk_get : ∀ {gl : List (List AV)} {g i : Nat} {cs : List AV}, glOk H gl g = true → gl[i]? = some cs → ∃ cs', H.get (g + i) = some (.ro cs') ∧ canVs (canV 0 .leaf 2) cs' [] = some (cs, [])
  | [], g, i, cs, h, e => by simp at e
  | c0 :: gl, g, i, cs, h, e => by
    simp only [glOk, Bool.and_eq_true] at h
    cases i with
    | zero =>
      simp only [List.getElem?_cons_zero, Option.some.injEq] at e
      subst e
      have h1 := h.1
      split at h1
      · rename_i cs' hg
        split at h1
        · rename_i cs2 h2
          have := AV.eqBs_eq _ _ h1
          subst this
          exact ⟨cs', hg, h2⟩
        · cases h1
      · cases h1
    | succ i =>
      have := glOk_get h.2 (by simpa using e)
      rw [show g + (i + 1) = g + 1 + i by omega]
      exact this

end
end
end Go.Ev

namespace Go.Ev
open Go
noncomputable section

/-- A call that is known: its function, its arguments and the memory behind them; its result, the memory behind that, and the count of names. -/
structure Ent where
  f : Nat
  args : List AV
  objs : List (List AV)
  val : AV
  out : List (Nat × AObj)
  cnt : Nat

def Ent.c (gl : List (List AV)) (e : Ent) : Nat := gl.length + e.objs.length
def Ent.heap (gl : List (List AV)) (e : Ent) : T AObj := putObjs (gl ++ e.objs) 0 .leaf

def outOk (lo hi : Nat) (H : T AObj) : List (Nat × AObj) → Bool
  | [] => true
  | (x, o) :: l => Nat.ble lo x && Nat.blt x hi && (match H.get x with | some o' => o'.eqB o | none => false) && outOk lo hi H l

/-- The call is so. -/
def Ent.ok (call : CallFn) (gl : List (List AV)) (e : Ent) : Bool :=
  match call (e.c gl) e.f e.args (e.heap gl) (e.c gl) with
  | some (v, H', c') => v.eqB e.val && Nat.beq c' e.cnt && outOk (e.c gl) e.cnt H' e.out
  | none => false

def findF : List (Nat × List Ent) → Nat → List Ent
  | [], _ => []
  | (g, es) :: l, f => bif Nat.beq g f then es else findF l f

def eqBos : List (List AV) → List CO → Bool
  | [], [] => true
  | v :: l, u :: m => AV.eqBs v u.1 && eqBos l m
  | _, _ => false

theorem eqBos_eq : ∀ {l : List (List AV)} {m : List CO}, eqBos l m = true → l = m.map (·.1)
  | [], [], _ => rfl
  | v :: l, u :: m, h => by
    simp only [eqBos, Bool.and_eq_true] at h
    rw [List.map_cons, AV.eqBs_eq v u.1 h.1, eqBos_eq h.2]

def findE : List Ent → Nat → List AV → List CO → Option Ent
  | [], _, _, _ => none
  | e :: es, f, as, os => bif Nat.beq e.f f && AV.eqBs e.args as && eqBos e.objs os then some e else findE es f as os

/-- What stands for a name of a known call: one of the arguments' memory, or a new one. -/
def sigA (G ce cnt d : Nat) (os : List CO) : Sig := fun y =>
  bif Nat.ble ce y then (bif Nat.blt y cnt then some (y + d, 0) else none)
  else bif Nat.ble G y then (match os[y - G]? with | some (_, x, off) => some (x, off) | none => none)
  else some (y, 0)

def putOut (σ : Sig) (d : Nat) : List (Nat × AObj) → T AObj → Option (T AObj)
  | [], H => some H
  | (x, o) :: l, H => match o.sub σ with
    | some o' => putOut σ d l (H.set (x + d) o')
    | none => none

/-- Calls that are known. -/
def orcT (gl : List (List AV)) (tbl : List (Nat × List Ent)) : CallFn := fun _ f args H c =>
  match findF tbl f with
  | [] => none
  | es => match canVs (canV gl.length H 12) args [] with
    | some (as, os) => match findE es f as os with
      | some e => bif glOk H gl 0 && Nat.ble (e.c gl) c then
          (match e.val.sub (sigA gl.length (e.c gl) e.cnt (c - e.c gl) os), putOut (sigA gl.length (e.c gl) e.cnt (c - e.c gl) os) (c - e.c gl) e.out H with
          | some v, some H' => some (v, H', e.cnt + (c - e.c gl))
          | _, _ => none)
        else none
      | none => none
    | none => none

theorem outOk_mem {lo hi : Nat} {H : T AObj} : ∀ {l : List (Nat × AObj)}, outOk lo hi H l = true → ∀ x o, (x, o) ∈ l → lo ≤ x ∧ x < hi ∧ H.get x = some o
  | [], _, x, o, hm => by cases hm
  | (y, o1) :: l, h, x, o, hm => by
    simp only [outOk, Bool.and_eq_true, Nat.ble_eq, Nat.blt_eq] at h
    obtain ⟨⟨⟨h1, h2⟩, h4⟩, h5⟩ := h
    rcases List.mem_cons.1 hm with e | e
    · cases e
      split at h4
      · rename_i o' ho
        rw [AObj.eqB_eq h4] at ho
        exact ⟨h1, h2, ho⟩
      · cases h4
    · exact outOk_mem h5 x o e

theorem findF_mem : ∀ {tbl : List (Nat × List Ent)} {f : Nat} {e : Ent}, e ∈ findF tbl f → ∃ g es, (g, es) ∈ tbl ∧ e ∈ es
  | [], f, e, h => by cases h
  | (g, es) :: l, f, e, h => by
    simp only [findF, Bool.cond_eq_ite] at h
    split at h
    · exact ⟨g, es, List.mem_cons_self, h⟩
    · obtain ⟨g', es', h1, h2⟩ := findF_mem h
      exact ⟨g', es', List.mem_cons_of_mem _ h1, h2⟩

theorem findE_some : ∀ {es : List Ent} {f : Nat} {as : List AV} {os : List CO} {e : Ent}, findE es f as os = some e → e ∈ es ∧ e.f = f ∧ e.args = as ∧ e.objs = os.map (·.1)
  | [], f, as, os, e, h => by cases h
  | e0 :: es, f, as, os, e, h => by
    simp only [findE, Bool.cond_eq_ite] at h
    split at h
    · rename_i hb
      simp only [Option.some.injEq] at h
      subst h
      simp only [Bool.and_eq_true, Nat.beq_eq] at hb
      exact ⟨List.mem_cons_self, hb.1.1, AV.eqBs_eq _ _ hb.1.2, eqBos_eq hb.2⟩
    · obtain ⟨h1, h2⟩ := findE_some h
      exact ⟨List.mem_cons_of_mem _ h1, h2⟩

theorem putOut_get {σ : Sig} {d : Nat} : ∀ {l : List (Nat × AObj)} {H H' : T AObj} {y : Nat} {o : AObj}, putOut σ d l H = some H' → H'.get y = some o → (∃ x o', (x, o') ∈ l ∧ y = x + d ∧ o'.sub σ = some o) ∨ H.get y = some o
  | [], H, H', y, o, e, h => by
    simp only [putOut, Option.some.injEq] at e
    subst e
    exact .inr h
  | (x, o1) :: l, H, H', y, o, e, h => by
    simp only [putOut] at e
    split at e
    case h_2 => cases e
    rename_i o2 h2
    rcases putOut_get (l := l) e h with ⟨x', o', hm, e1, e2⟩ | h
    · exact .inl ⟨x', o', List.mem_cons_of_mem _ hm, e1, e2⟩
    · rw [T.get_set] at h
      split at h
      · rename_i exy
        cases h
        exact .inl ⟨x, o1, List.mem_cons_self, exy, h2⟩
      · exact .inr h

theorem putOut_same {σ : Sig} {d lo : Nat} {y : Nat} : ∀ {l : List (Nat × AObj)} {H H' : T AObj}, putOut σ d l H = some H' → (∀ x o, (x, o) ∈ l → lo ≤ x) → y < lo + d → H'.get y = H.get y
  | [], H, H', e, _, _ => by
    simp only [putOut, Option.some.injEq] at e
    subst e
    rfl
  | (x, o1) :: l, H, H', e, hl, hy => by
    simp only [putOut] at e
    split at e
    case h_2 => cases e
    have := hl x o1 List.mem_cons_self
    rw [putOut_same e (fun x o hm => hl x o (List.mem_cons_of_mem _ hm)) hy, T.get_set, if_neg (by omega)]

section
variable {G : Nat} {P : Program} {gl : List (List AV)} {tbl : List (Nat × List Ent)}

theorem orcT_some {fl f : Nat} {args : List AV} {H : T AObj} {c : Nat} {v : AV} {H' : T AObj} {c' : Nat} (h : orcT gl tbl fl f args H c = some (v, H', c')) :
    ∃ e g es os, (g, es) ∈ tbl ∧ e ∈ es ∧ e.f = f ∧ canVs (canV gl.length H 12) args [] = some (e.args, os) ∧ e.objs = os.map (·.1) ∧ glOk H gl 0 = true ∧ e.c gl ≤ c ∧
      e.val.sub (sigA gl.length (e.c gl) e.cnt (c - e.c gl) os) = some v ∧ putOut (sigA gl.length (e.c gl) e.cnt (c - e.c gl) os) (c - e.c gl) e.out H = some H' ∧ c' = e.cnt + (c - e.c gl) := by
  unfold orcT at h
  split at h
  · cases h
  · rename_i es hes
    split at h
    case h_2 => cases h
    rename_i as os hcan
    split at h
    case h_2 => cases h
    rename_i e he
    simp only [Bool.cond_eq_ite] at h
    split at h
    case isFalse => cases h
    rename_i hb
    simp only [Bool.and_eq_true, Nat.ble_eq] at hb
    split at h
    case h_2 => cases h
    rename_i v1 H1 hv1 hH1
    simp only [Option.some.injEq, Prod.mk.injEq] at h
    obtain ⟨rfl, rfl, rfl⟩ := h
    obtain ⟨h1, h2, rfl, h5⟩ := findE_some he
    obtain ⟨g, es', h3, h4⟩ := findF_mem h1
    exact ⟨e, g, es', os, h3, h4, h2, hcan, h5, hb.1, hb.2, hv1, hH1, rfl⟩

/-- What is to be known of the calls that are known. -/
def TblOK (G : Nat) (P : Program) (gl : List (List AV)) (tbl : List (Nat × List Ent)) : Prop := ∀ l ∈ tbl, ∀ e ∈ l.2, ∃ call, CallOK G P call ∧ CallGood call ∧ e.ok call gl = true

theorem Ent.ok_spec {call : CallFn} {e : Ent} (h : e.ok call gl = true) : ∃ H', call (e.c gl) e.f e.args (e.heap gl) (e.c gl) = some (e.val, H', e.cnt) ∧
    ∀ x o, (x, o) ∈ e.out → e.c gl ≤ x ∧ x < e.cnt ∧ H'.get x = some o := by
  unfold Ent.ok at h
  split at h
  case h_2 => cases h
  rename_i v H' c' hc
  simp only [Bool.and_eq_true, Nat.beq_eq] at h
  obtain ⟨⟨h1, h2⟩, h4⟩ := h
  rw [AV.eqB_eq _ _ h1, h2] at hc
  exact ⟨H', hc, outOk_mem h4⟩

/-- The memory of a known call. -/
theorem ent_holds (hG : gl.length = G) {e : Ent} {ρ : Rho} {H : T AObj} {c : Nat} {w : World} {args : List AV} {os : List CO} {us : List Value} (hH : Holds G ρ H c w) (hcan : canVs (canV gl.length H 12) args [] = some (e.args, os))
    (hos : e.objs = os.map (·.1)) (hgl : glOk H gl 0 = true) (hv : VRs ρ args us) : ∃ ρe, CI G ρ w os ρe ∧ Holds G ρe (e.heap gl) (e.c gl) w ∧ VRs ρe e.args us := by
  have hlt : ∀ g, g < G → g < c := fun g hg => by
    obtain ⟨k, hk⟩ := hH.glob g hg
    apply Classical.byContradiction
    intro hn
    rw [hH.fresh g (by omega)] at hk
    cases hk
  have h0 : CI G ρ w [] (cutR ρ G) := by
    refine ⟨fun g hg => by unfold cutR; rw [if_pos hg], fun i cs x off hi => by simp at hi, fun x hx => by unfold cutR; rw [if_neg (by simpa using hx)], fun x p hp => hH.lt x p (cutR_le _ _ _ _ hp)⟩
  rw [hG] at hcan
  obtain ⟨ρe, hle, hc, hargs⟩ := canVs_ok (canV_ok hH 12) hcan h0 hv
  have hlen : e.objs.length = os.length := by rw [hos]; simp
  refine ⟨ρe, hc, ⟨fun x o hx => ?_, fun x y o o' p q hxy hx hy hp hq hb => ?_, fun x hx => hc.fresh x (by unfold Ent.c at hx; omega), hc.lt, fun g hg => ?_⟩, hargs⟩
  · unfold Ent.heap at hx
    rw [putObjs_get] at hx
    split at hx
    case isFalse => simp at hx
    simp only [Nat.sub_zero, Option.map_eq_some_iff] at hx
    obtain ⟨cs, hcs, rfl⟩ := hx
    by_cases hxg : x < gl.length
    · rw [List.getElem?_append_left hxg] at hcs
      obtain ⟨cs', h1, h2⟩ := glOk_get hgl hcs
      rw [Nat.zero_add] at h1
      obtain ⟨p, hp, us', hus, hcell⟩ := hH.obj x _ h1
      have hH0 : Holds 0 ρ .leaf c w := ⟨fun x o hx => by simp at hx, fun x y o o' p q _ hx => by simp at hx, hH.fresh, hH.lt, fun g hg => by omega⟩
      have hc0 : CI 0 ρ w [] (fun _ => none) := ⟨fun g hg => by omega, fun i cs x off hi => by simp at hi, fun _ _ => rfl, fun x p hp => by cases hp⟩
      obtain ⟨ρ0, _, hc1, hv1⟩ := canVs_ok (canV_ok hH0 2) h2 hc0 hus
      refine ⟨p, (hc.glob x (by omega)).trans hp, us', hv1.mono (fun z q hz => ?_), hcell⟩
      rw [hc1.fresh z (by simp)] at hz
      cases hz
    · rw [List.getElem?_append_right (by omega), hos, List.getElem?_map, Option.map_eq_some_iff] at hcs
      obtain ⟨⟨cs1, x1, off1⟩, hcs, rfl⟩ := hcs
      obtain ⟨p, _, hp, hob⟩ := hc.obj _ cs1 x1 off1 hcs
      rw [show G + (x - gl.length) = x by omega] at hp
      exact ⟨_, hp, hob⟩
  · have ro : ∀ x o, (e.heap gl).get x = some o → ∃ cs, o = .ro cs := fun x o hx => by
      unfold Ent.heap at hx
      rw [putObjs_get] at hx
      split at hx
      case isFalse => simp at hx
      simp only [Option.map_eq_some_iff] at hx
      obtain ⟨cs, _, rfl⟩ := hx
      exact ⟨cs, rfl⟩
    obtain ⟨cs, rfl⟩ := ro x o hx
    obtain ⟨cs', rfl⟩ := ro y o' hy
    exact trivial
  · obtain ⟨k, hk⟩ := hH.glob g hg
    exact ⟨k, (hc.glob g hg).trans hk⟩

theorem ent_post {e : Ent} (hG : gl.length = G) {ρ ρe : Rho} {H H1 H' : T AObj} {c fl : Nat} {w w' : World} {u : Value} {v : AV} {os : List CO} (hH : Holds G ρ H c w) (hci : CI G ρ w os ρe) (hos : e.objs = os.map (·.1)) (he : Holds G ρe (e.heap gl) (e.c gl) w) (hle : e.c gl ≤ c)
    (hp : Post G ρe (e.c gl) (e.c gl) w e.val H1 e.cnt u w') (hout : ∀ x o, (x, o) ∈ e.out → e.c gl ≤ x ∧ x < e.cnt ∧ H1.get x = some o)
    (hval : e.val.sub (sigA gl.length (e.c gl) e.cnt (c - e.c gl) os) = some v) (hput : putOut (sigA gl.length (e.c gl) e.cnt (c - e.c gl) os) (c - e.c gl) e.out H = some H') :
    Post G ρ fl c w v H' (e.cnt + (c - e.c gl)) u w' := by
  obtain ⟨ρ1, hv, hh, hx, hf⟩ := hp
  have hcnt := hx.count
  have hlen : e.objs.length = os.length := by rw [hos]; simp
  have no : ∀ x p, e.c gl ≤ x → ρe x ≠ some p := fun x p hx hp => by rw [he.fresh x hx] at hp; cases hp
  have keep : ∀ b, b < w.heap.size → w'.heap[b]? = w.heap[b]? := fun b hb => hf.keep b hb fun x p hx hp => absurd hp (no x p hx)
  have big : ∀ x p, e.c gl ≤ x → ρ1 x = some p → w.heap.size ≤ p.b := fun x p hle hp => by
    rcases hx.new x p (he.fresh x hle) hp with h | ⟨y, q, hy, hq, _⟩
    · exact h
    · exact absurd hq (no y q hy)
  let ρ' : Rho := fun x => if x < c then ρ x else ρ1 (x - (c - e.c gl))
  have lo : ∀ x, x < c → ρ' x = ρ x := fun x hx => if_pos hx
  have hi : ∀ x, c ≤ x → ρ' x = ρ1 (x - (c - e.c gl)) := fun x hx => if_neg (by omega)
  have old : ∀ {x p}, ρ x = some p → x < c := fun {x p} hp => by
    apply Classical.byContradiction
    intro hn
    rw [hH.fresh x (by omega)] at hp
    cases hp
  have le : RLe ρ ρ' := fun x p hp => by
    rw [lo x (old hp)]
    exact hp
  have rn : SigOK ρ1 ρ' (sigA gl.length (e.c gl) e.cnt (c - e.c gl) os) := fun y z j p hs hp => by
    unfold sigA at hs
    simp only [Bool.cond_eq_ite] at hs
    split at hs
    · rename_i h1
      have h1 : e.c gl ≤ y := by simpa using h1
      split at hs
      · simp only [Option.some.injEq, Prod.mk.injEq] at hs
        obtain ⟨rfl, rfl⟩ := hs
        refine ⟨p, ?_, rfl, rfl, rfl⟩
        rw [hi _ (by omega), show y + (c - e.c gl) - (c - e.c gl) = y by omega]
        exact hp
      · cases hs
    · rename_i h1
      have h1 : ¬ e.c gl ≤ y := by simpa using h1
      split at hs
      · rename_i h2
        have h2 : gl.length ≤ y := by simpa using h2
        split at hs
        · rename_i cs x off ho
          simp only [Option.some.injEq, Prod.mk.injEq] at hs
          obtain ⟨rfl, rfl⟩ := hs
          obtain ⟨q, hq, hq2, _⟩ := hci.obj _ _ _ _ ho
          rw [show G + (y - gl.length) = y by omega] at hq2
          have := hx.le y _ hq2
          rw [hp] at this
          cases this
          exact ⟨q, le _ _ hq, rfl, rfl, rfl⟩
        · cases hs
      · rename_i h2
        have h2 : ¬ gl.length ≤ y := by simpa using h2
        simp only [Option.some.injEq, Prod.mk.injEq] at hs
        obtain ⟨rfl, rfl⟩ := hs
        obtain ⟨k, hk⟩ := hH.glob y (by omega)
        have := hx.le y _ ((hci.glob y (by omega)).trans hk)
        rw [hp] at this
        cases this
        exact ⟨_, le _ _ hk, rfl, rfl, rfl⟩
  have look : ∀ y o, H'.get y = some o → (y < c ∧ H.get y = some o) ∨ (c ≤ y ∧ ∃ o', o'.sub (sigA gl.length (e.c gl) e.cnt (c - e.c gl) os) = some o ∧ H1.get (y - (c - e.c gl)) = some o') := fun y o hy => by
    rcases putOut_get hput hy with ⟨x, o', hm, rfl, hsub⟩ | h
    · obtain ⟨h1, h2, h4⟩ := hout x o' hm
      exact .inr ⟨by omega, o', hsub, by rw [show x + (c - e.c gl) - (c - e.c gl) = x by omega]; exact h4⟩
    · obtain ⟨p, hp, _⟩ := hH.obj y o h
      exact .inl ⟨old hp, h⟩
  refine ⟨ρ', VR.sub rn _ _ _ hval hv, ⟨fun y o hy => ?_, fun x y o o' p q hxy hx' hy hp hq hb => ?_, fun x hx' => ?_, fun x p hp => ?_, fun g hg => ?_⟩, ⟨le, fun x p hn hp => ?_, fun x p hn hp => ?_, by omega⟩, ⟨hf.os, hf.tape, hf.output, hf.size, fun b hb _ => keep b hb⟩⟩
  · rcases look y o hy with ⟨h1, h2⟩ | ⟨h1, o', h3, h4⟩
    · obtain ⟨p, hp, hob⟩ := hH.obj y o h2
      exact ⟨p, le y p hp, (hob.mono le).world (keep _ (hH.lt y p hp))⟩
    · obtain ⟨p, hp, hob⟩ := hh.obj _ o' h4
      exact ⟨p, (hi y h1).trans hp, (ObjR.sub rn h3 hob).1⟩
  · have ro : ∀ {y o o'}, o'.sub (sigA gl.length (e.c gl) e.cnt (c - e.c gl) os) = some o → H1.get (y - (c - e.c gl)) = some o' → o'.share = o.share := fun {y o o'} h3 h4 => by
      obtain ⟨p, _, hob⟩ := hh.obj _ o' h4
      exact (ObjR.sub rn h3 hob).2.symm
    rcases look x o hx' with ⟨h1, h2⟩ | ⟨h1, o1, h3, h4⟩
    · rw [lo x h1] at hp
      rcases look y o' hy with ⟨h1', h2'⟩ | ⟨h1', o2, h3', h4'⟩
      · rw [lo y h1'] at hq
        exact hH.sep x y o o' p q hxy h2 h2' hp hq hb
      · rw [hi y h1'] at hq
        have := big _ q (by omega) hq
        have := hH.lt x p hp
        omega
    · rw [hi x h1] at hp
      rcases look y o' hy with ⟨h1', h2'⟩ | ⟨h1', o2, h3', h4'⟩
      · rw [lo y h1'] at hq
        have := big _ p (by omega) hp
        have := hH.lt y q hq
        omega
      · rw [hi y h1'] at hq
        exact (hh.sep _ _ o1 o2 p q (by omega) h4 h4' hp hq hb).congr (ro h3 h4) (ro h3' h4')
  · rw [hi x (by omega)]
    exact hh.fresh _ (by omega)
  · by_cases h : x < c
    · rw [lo x h] at hp
      exact Nat.lt_of_lt_of_le (hH.lt x p hp) hf.size
    · rw [hi x (by omega)] at hp
      exact hh.lt _ p hp
  · obtain ⟨k, hk⟩ := hH.glob g hg
    exact ⟨k, le g _ hk⟩
  · by_cases h : x < c
    · rw [lo x h, hn] at hp; cases hp
    · rw [hi x (by omega)] at hp
      exact .inl (big _ p (by omega) hp)
  · by_cases h : x < c
    · rw [lo x h, hn] at hp; cases hp
    · omega

/-- Known calls are carried out as they are known. -/
theorem orcT_ok (hG : gl.length = G) (h : TblOK G P gl tbl) : CallOK G P (orcT gl tbl) := by
  intro fl f args H c v H' c' ho
  obtain ⟨e, g, es, os, h1, h2, rfl, hcan, hos, hgl, hle, hv, hput, rfl⟩ := orcT_some ho
  obtain ⟨call, hcall, _, hok⟩ := h (g, es) h1 e h2
  obtain ⟨H1, hr, hout⟩ := Ent.ok_spec hok
  obtain ⟨hrun, hcalls⟩ := hcall _ _ _ _ _ _ _ _ hr
  refine ⟨hrun, fun ρ w us hH hvs r n => ?_⟩
  obtain ⟨ρe, hci, he, hargs⟩ := ent_holds hG hH hcan hos hgl hvs
  refine (hcalls ρe w us he hargs r n).mono fun x w' hx => ?_
  obtain ⟨u, rfl, hp⟩ := hx
  exact ⟨u, rfl, ent_post hG hH hci hos he hle hp hout hv hput⟩

theorem orcT_good (h : TblOK G P gl tbl) : CallGood (orcT gl tbl) := by
  intro fl f args H c v H' c' ho
  obtain ⟨e, g, es, os, h1, h2, rfl, hcan, hos, hgl, hle, hv, hput, rfl⟩ := orcT_some ho
  obtain ⟨call, hcall, hgood, hok⟩ := h (g, es) h1 e h2
  obtain ⟨H1, hr, hout⟩ := Ent.ok_spec hok
  have hcnt := (hgood _ _ _ _ _ _ _ _ hr).count
  refine ⟨by omega, fun x hx1 hx2 => putOut_same (lo := e.c gl) hput (fun x o hm => (hout x o hm).1) (by omega), fun hd x hx => ?_⟩
  obtain ⟨o, ho⟩ := Option.ne_none_iff_exists'.1 hx
  rcases putOut_get hput ho with ⟨y, o', hm, rfl, _⟩ | hy
  · have := (hout y o' hm).2.1
    omega
  · have := hd x (by rw [hy]; simp)
    omega

theorem orc0_ok : CallOK G P orc0 := by intro fl f args H c v H' c' e; cases e
theorem orc0_good : CallGood orc0 := by intro fl f args H c v H' c' e; cases e

/-- The evaluator, with calls that are known. -/
def evalT (P : Program) (gl : List (List AV)) (tbl : List (Nat × List Ent)) (f : Nat) : CallFn := callA P (exec (orcT gl tbl) P f)

theorem evalT_ok (hGs : P.globals.size = G) (hm : P.follows .mixedOrders = true) (hG : gl.length = G) (h : TblOK G P gl tbl) (f : Nat) : CallOK G P (evalT P gl tbl f) ∧ CallGood (evalT P gl tbl f) :=
  ⟨call_sound (exec_ok (orcT_ok hG h) (orcT_good h) hGs hm f), call_good (exec_good (orcT_good h) f)⟩

def EntsOK (G : Nat) (P : Program) (gl : List (List AV)) (es : List Ent) : Prop := ∀ e ∈ es, ∃ call, CallOK G P call ∧ CallGood call ∧ e.ok call gl = true

theorem EntsOK.of {call : CallFn} (h : CallOK G P call ∧ CallGood call) {es : List Ent} (ha : (es.all fun e => e.ok call gl) = true) : EntsOK G P gl es :=
  fun e he => ⟨call, h.1, h.2, List.all_eq_true.1 ha e he⟩

theorem EntsOK.append {es fs : List Ent} (h : EntsOK G P gl es) (k : EntsOK G P gl fs) : EntsOK G P gl (es ++ fs) := fun e he => (List.mem_append.1 he).elim (h e) (k e)

theorem TblOK.cons {g : Nat} {es : List Ent} (h : EntsOK G P gl es) (k : TblOK G P gl tbl) : TblOK G P gl ((g, es) :: tbl) := fun l hl => (List.mem_cons.1 hl).elim (fun e => by subst e; exact h) (k l)

def saysTrue : Option (AV × T AObj × Nat) → Bool
  | some (.bool true, _, _) => true
  | _ => false

theorem saysTrue_some {x : Option (AV × T AObj × Nat)} (h : saysTrue x = true) : ∃ H c, x = some (.bool true, H, c) := by
  unfold saysTrue at h
  split at h
  · exact ⟨_, _, rfl⟩
  · cases h

/-- A call without arguments that the evaluator finds true. -/
theorem root_calls (hG : gl.length = G) {call : CallFn} (hc : CallOK G P call) {f : Nat} (h : saysTrue (call gl.length f [] (putObjs gl 0 .leaf) gl.length) = true) {w : World} (hlt : ∀ g, g < G → g < w.heap.size)
    (hcell : ∀ g cs, gl[g]? = some cs → ∃ us, VRs (fun _ => none) cs us ∧ ∀ j u, us[j]? = some u → w.cell? ⟨g, j, none⟩ = some u) (n : Nat) :
    CallsIn FW n P f #[] w fun e w' => e = .returned (.bool true) ∧ w'.os = w.os ∧ w'.tape = w.tape ∧ w'.output = w.output ∧ w.heap.size ≤ w'.heap.size ∧ ∀ b, b < w.heap.size → w'.heap[b]? = w.heap[b]? := by
  obtain ⟨H', c', hr⟩ := saysTrue_some h
  let ρ : Rho := fun x => if x < G then some ⟨x, 0, 0⟩ else none
  have lo : ∀ x p, ρ x = some p → x < G ∧ p = ⟨x, 0, 0⟩ := fun x p hp => by
    change (if _ then _ else _) = _ at hp
    split at hp
    · rename_i hx; cases hp; exact ⟨hx, rfl⟩
    · cases hp
  have hH : Holds G ρ (putObjs gl 0 .leaf) gl.length w := by
    have one : ∀ x o, (putObjs gl 0 .leaf).get x = some o → ∃ cs, gl[x]? = some cs ∧ o = .ro cs := fun x o hx => by
      rw [putObjs_get] at hx
      split at hx
      case isFalse => simp at hx
      simp only [Nat.sub_zero, Option.map_eq_some_iff] at hx
      obtain ⟨cs, hcs, rfl⟩ := hx
      exact ⟨cs, hcs, rfl⟩
    refine ⟨fun x o hx => ?_, fun x y o o' p q hxy hx hy hp hq hb => ?_, fun x hx => if_neg (by omega), fun x p hp => ?_, fun g hg => ⟨0, if_pos hg⟩⟩
    · obtain ⟨cs, hcs, rfl⟩ := one x o hx
      have hxl := (List.getElem?_eq_some_iff.1 hcs).1
      obtain ⟨us, hus, hu⟩ := hcell x cs hcs
      refine ⟨⟨x, 0, 0⟩, if_pos (by omega), us, hus.mono (fun z q hz => by cases hz), fun j u hj => ?_⟩
      have := hu j u hj
      simpa using this
    · obtain ⟨cs, _, rfl⟩ := one x o hx
      obtain ⟨cs', _, rfl⟩ := one y o' hy
      exact trivial
    · obtain ⟨hx, rfl⟩ := lo x p hp
      exact hlt x hx
  refine ((hc _ _ _ _ _ _ _ _ hr).2 ρ w [] hH .nil none n).mono fun e w' he => ?_
  obtain ⟨u, rfl, ρ', hv, hh, hx, hf⟩ := he
  simp only [VR] at hv
  subst hv
  refine ⟨rfl, hf.os, hf.tape, hf.output, hf.size, fun b hb => hf.keep b hb fun x p hx hp => ?_⟩
  have := (lo x p hp).1
  omega

theorem TblOK.nil : TblOK G P gl [] := fun l hl => by cases hl

end
end
end Go.Ev

