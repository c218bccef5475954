/- Texts of one kind, one behind the other: SyA, SyB, SyC, SyD, SyE, SyF, SyG. -/
import Derived.Test.YtjnckbefajfgbaaEvC
import Derived.IntWalk
set_option linter.unusedVariables false
set_option linter.unusedSimpArgs false
/- Code over explicit states of the evaluator, at the model: states renamed and forgotten; seq, cond, block, loop, region; calls by what is known of them. -/
namespace Go.Ev
open Go

/-! ### Renaming -/
mutual
def AV.ren (σ : Nat → Nat) : AV → AV
  | .bool b => .bool b
  | .int k n => .int k n
  | .str s => .str s
  | .ptr x j => .ptr (σ x) j
  | .nilp => .nilp
  | .sl x j n c => .sl (σ x) j n c
  | .gs x n => .gs (σ x) n
  | .gv x j n => .gv (σ x) j n
  | .nils => .nils
  | .map x => .map (σ x)
  | .nilm => .nilm
  | .fn f a b => .fn f (AV.rens σ a) (AV.rens σ b)
  | .yld l => .yld (σ l)
  | .nilf => .nilf
  | .agg l => .agg (AV.rens σ l)
  | .tup l => .tup (AV.rens σ l)
def AV.rens (σ : Nat → Nat) : List AV → List AV
  | [] => []
  | v :: l => AV.ren σ v :: AV.rens σ l
end

mutual
theorem VR_ren (ρ : Rho) (σ : Nat → Nat) : ∀ (v : AV) (u : Value), VR ρ (v.ren σ) u ↔ VR (fun x => ρ (σ x)) v u
  | .bool _, _ | .int _ _, _ | .str _, _ | .nilp, _ | .nils, _ | .nilm, _ | .nilf, _ => by simp only [AV.ren, VR]
  | .ptr _ _, _ | .sl _ _ _ _, _ | .map _, _ | .yld _, _ | .gs _ _, _ | .gv _ _ _, _ => by simp only [AV.ren, VR]
  | .fn f a b, u => by
    simp only [AV.ren, VR]
    constructor
    · rintro ⟨us, vs, h1, h2, h3⟩; exact ⟨us, vs, (VRs_ren ρ σ a us).1 h1, (VRs_ren ρ σ b vs).1 h2, h3⟩
    · rintro ⟨us, vs, h1, h2, h3⟩; exact ⟨us, vs, (VRs_ren ρ σ a us).2 h1, (VRs_ren ρ σ b vs).2 h2, h3⟩
  | .agg l, u => by
    simp only [AV.ren, VR]
    constructor
    · rintro ⟨us, h1, h2⟩; exact ⟨us, (VRs_ren ρ σ l us).1 h1, h2⟩
    · rintro ⟨us, h1, h2⟩; exact ⟨us, (VRs_ren ρ σ l us).2 h1, h2⟩
  | .tup l, u => by
    simp only [AV.ren, VR]
    constructor
    · rintro ⟨us, h1, h2⟩; exact ⟨us, (VRs_ren ρ σ l us).1 h1, h2⟩
    · rintro ⟨us, h1, h2⟩; exact ⟨us, (VRs_ren ρ σ l us).2 h1, h2⟩
theorem VRs_ren (ρ : Rho) (σ : Nat → Nat) : ∀ (l : List AV) (us : List Value), VRs ρ (AV.rens σ l) us ↔ VRs (fun x => ρ (σ x)) l us
  | [], _ => by simp only [AV.rens, VRs]
  | v :: l, us => by
    simp only [AV.rens, VRs]
    constructor
    · rintro ⟨u, us', h1, h2, h3⟩; exact ⟨u, us', h1, (VR_ren ρ σ v u).1 h2, (VRs_ren ρ σ l us').1 h3⟩
    · rintro ⟨u, us', h1, h2, h3⟩; exact ⟨u, us', h1, (VR_ren ρ σ v u).2 h2, (VRs_ren ρ σ l us').2 h3⟩
end

def TT.ren (σ : Nat → Nat) : TT AV → TT AV
  | .leaf => .leaf
  | .node l v r => .node (TT.ren σ l) (v.map (AV.ren σ)) (TT.ren σ r)

theorem TT.ren_get (σ : Nat → Nat) : ∀ (t : TT AV) (n : Nat), (t.ren σ).get n = (t.get n).map (AV.ren σ)
  | .leaf, n => by simp [TT.ren]
  | .node l v r, n => by
    rcases odd_even n with rfl | ⟨a, rfl⟩ | ⟨a, rfl⟩
    · rfl
    · rw [TT.ren, TT.get_node1, TT.get_node1]; exact TT.ren_get σ l a
    · rw [TT.ren, TT.get_node2, TT.get_node2]; exact TT.ren_get σ r a

theorem EnvR_ren (ρ : Rho) (σ : Nat → Nat) (env : TT AV) (n : Nat) (tmps : Array Value) : EnvR ρ (env.ren σ) n tmps ↔ EnvR (fun x => ρ (σ x)) env n tmps := by
  unfold EnvR
  constructor
  · rintro ⟨h1, h2⟩
    refine ⟨h1, fun t v ht => ?_⟩
    obtain ⟨h3, h4⟩ := h2 t (v.ren σ) (by rw [TT.ren_get, ht]; rfl)
    exact ⟨h3, (VR_ren ρ σ v _).1 h4⟩
  · rintro ⟨h1, h2⟩
    refine ⟨h1, fun t v ht => ?_⟩
    rw [TT.ren_get, Option.map_eq_some_iff] at ht
    obtain ⟨v', h3, rfl⟩ := ht
    obtain ⟨h4, h5⟩ := h2 t v' h3
    exact ⟨h4, (VR_ren ρ σ v' _).2 h5⟩

def renE (σ : Nat → Nat) : List (AV × AV) → List (AV × AV)
  | [] => []
  | (k, v) :: es => (k.ren σ, v.ren σ) :: renE σ es

theorem MapsR_ren (ρ : Rho) (σ : Nat → Nat) : ∀ (es : List (AV × AV)) (ms : List MapEntry), MapsR ρ (renE σ es) ms ↔ MapsR (fun x => ρ (σ x)) es ms
  | [], _ => by simp only [renE, MapsR]
  | (k, v) :: es, ms => by
    simp only [renE, MapsR]
    constructor
    · rintro ⟨m, ms', h1, h2, h3, h4⟩; exact ⟨m, ms', h1, (VR_ren ρ σ k _).1 h2, (VR_ren ρ σ v _).1 h3, (MapsR_ren ρ σ es ms').1 h4⟩
    · rintro ⟨m, ms', h1, h2, h3, h4⟩; exact ⟨m, ms', h1, (VR_ren ρ σ k _).2 h2, (VR_ren ρ σ v _).2 h3, (MapsR_ren ρ σ es ms').2 h4⟩

def AObj.ren (σ : Nat → Nat) : AObj → AObj
  | .cells cs => .cells (AV.rens σ cs)
  | .grown cs s => .grown (AV.rens σ cs) s
  | .ro cs => .ro (AV.rens σ cs)
  | .tip cs s => .tip (AV.rens σ cs) s
  | .map es => .map (renE σ es)
  | .loop st pend env n ps ags bd dn => .loop st pend (env.ren σ) n ps ags bd (σ dn)
  | .dfr => .dfr
  | .dfrDone => .dfrDone

theorem rens_length (σ : Nat → Nat) : ∀ l : List AV, (AV.rens σ l).length = l.length
  | [] => rfl
  | v :: l => by simp only [AV.rens, List.length_cons, rens_length σ l]

theorem AObj.ren_share (σ : Nat → Nat) (o : AObj) : (o.ren σ).share = o.share := by
  cases o <;> simp only [AObj.ren, AObj.share, rens_length]

theorem ObjR_ren (ρ : Rho) (σ : Nat → Nat) (w : World) (p : Win) (o : AObj) : ObjR ρ w p (o.ren σ) ↔ ObjR (fun x => ρ (σ x)) w p o := by
  cases o with
  | cells cs => simp only [AObj.ren, ObjR, VRs_ren]
  | grown cs s => simp only [AObj.ren, ObjR, VRs_ren]
  | ro cs => simp only [AObj.ren, ObjR, VRs_ren]
  | tip cs s => simp only [AObj.ren, ObjR, VRs_ren]
  | map es => simp only [AObj.ren, ObjR, MapsR_ren]
  | loop st pend env n ps ags bd dn => simp only [AObj.ren, ObjR, EnvR_ren]
  | dfr => simp only [AObj.ren, ObjR]
  | dfrDone => simp only [AObj.ren, ObjR]

theorem Holds.ren {G : Nat} {ρ : Rho} {H H2 : T AObj} {c c2 : Nat} {w : World} (h : Holds G ρ H c w) (σ : Nat → Nat)
    (hobj : ∀ x o, H2.get x = some o → H.get (σ x) = some (o.ren σ))
    (hinj : ∀ x y o o', H2.get x = some o → H2.get y = some o' → x ≠ y → σ x ≠ σ y ∨ ∃ n m, o.share = some (false, n) ∧ o'.share = some (false, m))
    (hfresh : ∀ x, c2 ≤ x → c ≤ σ x) (hglob : ∀ g, g < G → σ g = g) : Holds G (fun x => ρ (σ x)) H2 c2 w := by
  refine ⟨fun x o hx => ?_, fun x y o o' p q hxy hx hy hp hq hb => ?_, fun x hx => h.fresh _ (hfresh x hx), fun x p hp => h.lt _ p hp, fun g hg => ?_⟩
  · obtain ⟨p, h1, h2⟩ := h.obj _ _ (hobj x o hx)
    exact ⟨p, h1, (ObjR_ren ρ σ w p o).1 h2⟩
  · rcases hinj x y o o' hx hy hxy with h1 | ⟨n, m, h1, h2⟩
    · exact (h.sep (σ x) (σ y) _ _ p q h1 (hobj x o hx) (hobj y o' hy) hp hq hb).congr (by rw [AObj.ren_share]) (by rw [AObj.ren_share])
    · unfold Apart; rw [h1, h2]; trivial
  · obtain ⟨k, hk⟩ := h.glob g hg
    exact ⟨k, by show ρ (σ g) = _; rw [hglob g hg]; exact hk⟩

theorem DefR_ren (ρ : Rho) (σ : Nat → Nat) : ∀ (xs : List Nat) (ds : List Deferred), DefR ρ (xs.map σ) ds ↔ DefR (fun x => ρ (σ x)) xs ds
  | [], _ => by simp only [List.map_nil, DefR]
  | x :: xs, ds => by simp only [List.map_cons, DefR, DefR_ren ρ σ xs]

/-! ### Explicit states -/
noncomputable def ofL : List (Nat × AV) → TT AV
  | [] => .leaf
  | (d, v) :: l => (ofL l).set d v
def look : List (Nat × AV) → Nat → Option AV
  | [], _ => none
  | (d, v) :: l, t => bif Nat.beq t d then some v else look l t
theorem ofL_get : ∀ (l : List (Nat × AV)) (t : Nat), (ofL l).get t = look l t
  | [], t => by simp [ofL, look]
  | (d, v) :: l, t => by
    rw [ofL, TT.get_set, look, ofL_get l t, Bool.cond_eq_ite]
    by_cases h : t = d
    · rw [if_pos h, if_pos (by simp [h])]
    · rw [if_neg h, if_neg (by simp [h])]

noncomputable def ofM : List (Nat × Option AObj) → T AObj
  | [] => .leaf
  | (d, some o) :: m => (ofM m).set d o
  | (d, none) :: m => (ofM m).del d
def lookM : List (Nat × Option AObj) → Nat → Option AObj
  | [], _ => none
  | (d, o) :: m, x => bif Nat.beq x d then o else lookM m x
theorem ofM_get : ∀ (m : List (Nat × Option AObj)) (x : Nat), (ofM m).get x = lookM m x
  | [], x => by simp [ofM, lookM]
  | (d, some o) :: m, x => by
    rw [ofM, T.get_set, lookM, ofM_get m x, Bool.cond_eq_ite]
    by_cases h : x = d
    · rw [if_pos h, if_pos (by simp [h])]
    · rw [if_neg h, if_neg (by simp [h])]
  | (d, none) :: m, x => by
    rw [ofM, T.get_del, lookM, ofM_get m x, Bool.cond_eq_ite]
    by_cases h : x = d
    · rw [if_pos h, if_pos (by simp [h])]
    · rw [if_neg h, if_neg (by simp [h])]

noncomputable def stL (n : Nat) (dfs : List Nat) (l : List (Nat × AV)) (m : List (Nat × Option AObj)) (c : Nat) : St := ⟨ofL l, n, dfs, ofM m, c⟩

/-! ### What becomes of names -/
section
variable {G : Nat} {P : Program} {ρ ρ1 ρ2 : Rho} {fl cb c c' : Nat} {w w1 w2 : World} {r b : Option Nat}

def ExtB (ρ ρ' : Rho) (fl cb : Nat) (w : World) : Prop :=
  (∀ x, x < cb → ρ' x = ρ x) ∧ ∀ x p, fl ≤ x → ρ' x = some p → w.heap.size ≤ p.b ∨ ∃ y q, fl ≤ y ∧ ρ y = some q ∧ q.b = p.b

theorem ExtB.refl (ρ : Rho) (fl cb : Nat) (w : World) : ExtB ρ ρ fl cb w := ⟨fun _ _ => rfl, fun x p hx hp => .inr ⟨x, p, hx, hp, rfl⟩⟩

theorem ExtB.of_ext (he : Ext ρ ρ1 fl w c c') (hc : cb ≤ c) : ExtB ρ ρ1 fl cb w := by
  refine ⟨fun x hx => ?_, fun x p hx hp => ?_⟩
  · cases hr : ρ x with
    | some q => exact he.le x q hr
    | none =>
      cases hr1 : ρ1 x with
      | none => rfl
      | some q => have := he.low x q hr hr1; omega
  · cases hr : ρ x with
    | some q =>
      have := he.le x q hr
      rw [hp] at this
      cases this
      exact .inr ⟨x, p, hx, hr, rfl⟩
    | none => exact he.new x p hr hp

theorem ExtB.trans (h : ExtB ρ ρ1 fl cb w) (hs : w.heap.size ≤ w1.heap.size) (k : ExtB ρ1 ρ2 fl cb w1) : ExtB ρ ρ2 fl cb w := by
  refine ⟨fun x hx => (k.1 x hx).trans (h.1 x hx), fun x p hx hp => ?_⟩
  rcases k.2 x p hx hp with h1 | ⟨y, q, hy, hq, hb⟩
  · exact .inl (Nat.le_trans hs h1)
  · rcases h.2 y q hy hq with h2 | ⟨z, t, hz, ht, hb2⟩
    · exact .inl (by rw [← hb]; exact h2)
    · exact .inr ⟨z, t, hz, ht, hb2.trans hb⟩

theorem Fr.transB (h : Fr ρ fl w w1) (e : ExtB ρ ρ1 fl cb w) (k : Fr ρ1 fl w1 w2) : Fr ρ fl w w2 := by
  refine ⟨k.os.trans h.os, k.tape.trans h.tape, k.output.trans h.output, Nat.le_trans h.size k.size, fun b hb hn => ?_⟩
  refine (k.keep b (Nat.lt_of_lt_of_le hb h.size) fun x p hx hp hpb => ?_).trans (h.keep b hb hn)
  rcases e.2 x p hx hp with h1 | ⟨y, q, hy, hq, hqb⟩
  · omega
  · exact hn y q hy hq (hqb.trans hpb)

theorem RRel.keep (h : RRel ρ r b) (hr : ∀ l, r = some l → l < cb) (e : ExtB ρ ρ1 fl cb w) : RRel ρ1 r b := by
  cases r with
  | none => cases b with
    | none => trivial
    | some _ => exact h.elim
  | some l => cases b with
    | none => exact h.elim
    | some b =>
      obtain ⟨p, h1, h2⟩ := h
      exact ⟨p, by rw [e.1 l (hr l rfl)]; exact h1, h2⟩

/-- Where code may end. -/
def PostT (G : Nat) (ρ : Rho) (fl cb : Nat) (w : World) (Q : AExit → St → Prop) : Exit → Act → World → Prop := fun e' a' w' =>
  ∃ e st' ρ', e' = e.conc ∧ Q e st' ∧ SR G ρ' st' a' w' ∧ cb ≤ st'.c ∧ ExtB ρ ρ' fl cb w ∧ Fr ρ fl w w'

/-- Code, from a state on. -/
structure Tr (G : Nat) (P : Program) (fl cb : Nat) (r : Option Nat) (code : Code) (st : St) (Q : AExit → St → Prop) : Prop where
  run : ∀ ρ a w b n, SR G ρ st a w → cb ≤ st.c → (∀ l, r = some l → l < cb) → RRel ρ r b → code.wpIn (FR b) n P (PostT G ρ fl cb w Q) a w

theorem PostT.refl {Q : AExit → St → Prop} {e : AExit} {st : St} {a : Act} (hs : SR G ρ st a w) (hc : cb ≤ st.c) (h : Q e st) : PostT G ρ fl cb w Q e.conc a w :=
  ⟨e, st, ρ, rfl, h, hs, hc, .refl _ _ _ _, .refl _ _ _⟩

theorem PostT.trans {Q : AExit → St → Prop} {e' : Exit} {a' : Act} {w' : World} (he : ExtB ρ ρ1 fl cb w) (hf : Fr ρ fl w w1) (h : PostT G ρ1 fl cb w1 Q e' a' w') : PostT G ρ fl cb w Q e' a' w' := by
  obtain ⟨e, st', ρ', h1, h2, h3, h4, h5, h6⟩ := h
  exact ⟨e, st', ρ', h1, h2, h3, h4, he.trans hf.size h5, hf.transB he h6⟩

theorem PostT.mono {Q Q' : AExit → St → Prop} {e' : Exit} {a' : Act} {w' : World} (hq : ∀ e st, Q e st → Q' e st) (h : PostT G ρ fl cb w Q e' a' w') : PostT G ρ fl cb w Q' e' a' w' := by
  obtain ⟨e, st', ρ', h1, h2, h3⟩ := h
  exact ⟨e, st', ρ', h1, hq _ _ h2, h3⟩

variable {code x y : Code} {st st' st2 : St} {Q Q' : AExit → St → Prop}

theorem Tr.mono (h : Tr G P fl cb r code st Q) (hq : ∀ e st, Q e st → Q' e st) : Tr G P fl cb r code st Q' := ⟨fun ρ a w b n h1 h2 h3 h4 =>
  wpIn_mono (h.run ρ a w b n h1 h2 h3 h4) fun _ _ _ hp => hp.mono hq⟩

/-- A state may be forgotten in part, and renamed. -/
structure Wk (G fl cb : Nat) (st st2 : St) : Prop where
  ex : ∃ σ : Nat → Nat,
    (∀ t v, st2.env.get t = some v → st.env.get t = some (v.ren σ)) ∧ st2.n = st.n ∧ st.dfs = st2.dfs.map σ ∧
    (∀ x o, st2.H.get x = some o → st.H.get (σ x) = some (o.ren σ)) ∧
    (∀ x y o o', st2.H.get x = some o → st2.H.get y = some o' → x ≠ y → σ x ≠ σ y ∨ ∃ n m, o.share = some (false, n) ∧ o'.share = some (false, m)) ∧
    (∀ x, st2.c ≤ x → st.c ≤ σ x) ∧ (∀ x, x < cb → σ x = x) ∧ (∀ x, cb ≤ x → cb ≤ σ x)
  c : cb ≤ st2.c
  g : G ≤ cb
  f : fl ≤ cb

theorem Wk.sr (h : Wk G fl cb st st2) {a : Act} (hs : SR G ρ st a w) : ∃ ρ2, SR G ρ2 st2 a w ∧ ExtB ρ ρ2 fl cb w := by
  obtain ⟨⟨σ, h1, h2, h3, h4, h5, h6, h7, h8⟩, hc, hg, hf⟩ := h
  refine ⟨fun x => ρ (σ x), ⟨⟨by rw [h2]; exact hs.env.1, fun t v ht => ?_⟩, hs.mem.ren σ h4 h5 h6 (fun g hgg => h7 g (by omega)), ?_⟩, fun x hx => by show ρ (σ x) = _; rw [h7 x hx], fun x p hx hp => ?_⟩
  · obtain ⟨h9, h10⟩ := hs.env.2 t _ (h1 t v ht)
    exact ⟨by rw [h2]; exact h9, (VR_ren ρ σ v _).1 h10⟩
  · have := hs.dfs
    rw [h3] at this
    exact (DefR_ren ρ σ _ _).1 this
  · by_cases hxc : x < cb
    · replace hp : ρ (σ x) = some p := hp; rw [h7 x hxc] at hp; exact .inr ⟨x, p, hx, hp, rfl⟩
    · exact .inr ⟨σ x, p, by have := h8 x (by omega); omega, hp, rfl⟩

theorem Tr.wk (h : Wk G fl cb st st2) (k : Tr G P fl cb r code st2 Q) : Tr G P fl cb r code st Q := by
  refine ⟨fun ρ a w b n hs hc hr hb => ?_⟩
  obtain ⟨ρ2, hs2, he⟩ := h.sr hs
  exact wpIn_mono (k.run ρ2 a w b n hs2 h.c hr (hb.keep hr he)) fun _ _ _ hp => hp.trans he (.refl _ _ _)

/-! ### Code -/
/-- Behind a first piece. -/
def sq0 (G : Nat) (P : Program) (fl cb : Nat) (r : Option Nat) (y : Code) (Q : AExit → St → Prop) : AExit → St → Prop
  | .normal, st => Tr G P fl cb r y st Q
  | e, st => Q e st
structure sq (G : Nat) (P : Program) (fl cb : Nat) (r : Option Nat) (y : Code) (Q : AExit → St → Prop) (e : AExit) (st : St) : Prop where
  go : sq0 G P fl cb r y Q e st

theorem Tr.seq (h : Tr G P fl cb r x st (sq G P fl cb r y Q)) : Tr G P fl cb r (.seq x y) st Q := by
  refine ⟨fun ρ a w b n hs hc hr hb => ?_⟩
  refine wpIn_seq (wpIn_mono (h.run ρ a w b n hs hc hr hb) fun e1 a1 w1 hp => ?_)
  obtain ⟨e, st1, ρ1, rfl, ⟨hq⟩, hs1, hc1, he1, hf1⟩ := hp
  cases e with
  | normal => exact wpIn_mono (Tr.run hq ρ1 a1 w1 b n hs1 hc1 hr (hb.keep hr he1)) fun _ _ _ hp2 => hp2.trans he1 hf1
  | exit id => exact ⟨.exit id, st1, ρ1, rfl, hq, hs1, hc1, he1, hf1⟩
  | goto l => exact ⟨.goto l, st1, ρ1, rfl, hq, hs1, hc1, he1, hf1⟩
  | ret => exact ⟨.ret, st1, ρ1, rfl, hq, hs1, hc1, he1, hf1⟩

theorem Tr.skip (h : Q .normal st) : Tr G P fl cb r .skip st Q := ⟨fun _ _ _ _ _ hs hc _ _ => wpIn_skip (.refl hs hc h)⟩
theorem Tr.label {l : Nat} (h : Q .normal st) : Tr G P fl cb r (.label l) st Q := ⟨fun _ _ _ _ _ hs hc _ _ => wpIn_label (.refl hs hc h)⟩
theorem Tr.exit {id : Nat} (h : Q (.exit id) st) : Tr G P fl cb r (.exit id) st Q := ⟨fun _ _ _ _ _ hs hc _ _ => wpIn_exit (.refl (e := .exit id) hs hc h)⟩
theorem Tr.ret (h : Q .ret st) : Tr G P fl cb r .ret st Q := ⟨fun _ _ _ _ _ hs hc _ _ => wpIn_ret (.refl (e := .ret) hs hc h)⟩

theorem Tr.cond {n : Nat} {dfs : List Nat} {l : List (Nat × AV)} {m : List (Nat × Option AObj)} {t : Nat} {v : Bool} (hv : look l t = some (.bool v))
    (h : if v then Tr G P fl cb r x (stL n dfs l m c) Q else Tr G P fl cb r y (stL n dfs l m c) Q) : Tr G P fl cb r (.cond (.tmp t) x y) (stL n dfs l m c) Q := by
  refine ⟨fun ρ a w b k hs hc hr hb => ?_⟩
  have := hs.env.2 t (.bool v) (by rw [← hv]; exact ofL_get l t)
  simp only [VR] at this
  refine wpIn_cond (t := v) this.2 ?_
  cases v with
  | true => exact h.run ρ a w b k hs hc hr hb
  | false => exact h.run ρ a w b k hs hc hr hb

theorem Tr.cond_t {n : Nat} {dfs : List Nat} {l : List (Nat × AV)} {m : List (Nat × Option AObj)} {t : Nat} (hv : look l t = some (.bool true)) (h : Tr G P fl cb r x (stL n dfs l m c) Q) : Tr G P fl cb r (.cond (.tmp t) x y) (stL n dfs l m c) Q := Tr.cond hv h
theorem Tr.cond_f {n : Nat} {dfs : List Nat} {l : List (Nat × AV)} {m : List (Nat × Option AObj)} {t : Nat} (hv : look l t = some (.bool false)) (h : Tr G P fl cb r y (stL n dfs l m c) Q) : Tr G P fl cb r (.cond (.tmp t) x y) (stL n dfs l m c) Q := Tr.cond hv h
theorem Tr.cond_d {n : Nat} {dfs : List Nat} {l : List (Nat × AV)} {m : List (Nat × Option AObj)} {t : Nat} {p : Prop} {inst : Decidable p} (hv : look l t = some (.bool (@decide p inst)))
    (h1 : p → Tr G P fl cb r x (stL n dfs l m c) Q) (h2 : ¬ p → Tr G P fl cb r y (stL n dfs l m c) Q) : Tr G P fl cb r (.cond (.tmp t) x y) (stL n dfs l m c) Q := by
  refine Tr.cond hv ?_
  by_cases hp : p
  · rw [if_pos (by simpa using hp)]; exact h1 hp
  · rw [if_neg (by simpa using hp)]; exact h2 hp

def blk0 (id : Nat) (Q : AExit → St → Prop) : AExit → St → Prop
  | .exit id', st => bif Nat.beq id' id then Q .normal st else Q (.exit id') st
  | e, st => Q e st
structure blk (id : Nat) (Q : AExit → St → Prop) (e : AExit) (st : St) : Prop where
  go : blk0 id Q e st

theorem Tr.block {id : Nat} (h : Tr G P fl cb r x st (blk id Q)) : Tr G P fl cb r (.block id x) st Q := by
  refine ⟨fun ρ a w b n hs hc hr hb => ?_⟩
  refine wpIn_block (wpIn_mono (h.run ρ a w b n hs hc hr hb) fun e1 a1 w1 hp => ?_)
  obtain ⟨e, st1, ρ1, rfl, ⟨hq⟩, hs1, hc1, he1, hf1⟩ := hp
  cases e with
  | normal => exact ⟨.normal, st1, ρ1, rfl, hq, hs1, hc1, he1, hf1⟩
  | exit id' =>
    simp only [AExit.conc, Exit.inBlock]
    simp only [blk0, Bool.cond_eq_ite] at hq
    by_cases hid : id' = id
    · rw [if_pos (by simp [hid])] at hq
      rw [if_pos hid]
      exact ⟨.normal, st1, ρ1, rfl, hq, hs1, hc1, he1, hf1⟩
    · rw [if_neg (by simp [hid])] at hq
      rw [if_neg hid]
      exact ⟨.exit id', st1, ρ1, rfl, hq, hs1, hc1, he1, hf1⟩
  | goto l => exact ⟨.goto l, st1, ρ1, rfl, hq, hs1, hc1, he1, hf1⟩
  | ret => exact ⟨.ret, st1, ρ1, rfl, hq, hs1, hc1, he1, hf1⟩

def scp0 (Q : AExit → St → Prop) : AExit → St → Prop
  | .goto _, _ => False
  | e, st => Q e st
structure scp (Q : AExit → St → Prop) (e : AExit) (st : St) : Prop where
  go : scp0 Q e st

theorem Tr.scope (h : Tr G P fl cb r x st (scp Q)) : Tr G P fl cb r (.scope x) st Q := by
  refine ⟨fun ρ a w b n hs hc hr hb => ?_⟩
  refine wpIn_scope_straight (wpIn_mono (h.run ρ a w b n hs hc hr hb) fun e1 a1 w1 hp => ?_)
  obtain ⟨e, st1, ρ1, rfl, ⟨hq⟩, hs1, hc1, he1, hf1⟩ := hp
  cases e with
  | normal => exact ⟨by simp [AExit.conc], .normal, st1, ρ1, rfl, hq, hs1, hc1, he1, hf1⟩
  | exit id => exact ⟨by simp [AExit.conc], .exit id, st1, ρ1, rfl, hq, hs1, hc1, he1, hf1⟩
  | goto l => exact hq.elim
  | ret => exact ⟨by simp [AExit.conc], .ret, st1, ρ1, rfl, hq, hs1, hc1, he1, hf1⟩

/-- A loop: a family of states, and a measure. -/
def lp0 {α : Type} (G fl cb : Nat) (S : α → St) (I : α → Prop) (μ : α → Nat) (i : α) (Q : AExit → St → Prop) : AExit → St → Prop
  | .normal, st => ∃ j, I j ∧ μ j < μ i ∧ Wk G fl cb st (S j)
  | e, st => Q e st
structure lpQ {α : Type} (G fl cb : Nat) (S : α → St) (I : α → Prop) (μ : α → Nat) (i : α) (Q : AExit → St → Prop) (e : AExit) (st : St) : Prop where
  go : lp0 G fl cb S I μ i Q e st

theorem Tr.loop {α : Type} (S : α → St) (I : α → Prop) (μ : α → Nat) (i0 : α) (h0 : I i0) (hw : Wk G fl cb st (S i0))
    (h : ∀ i, I i → Tr G P fl cb r x (S i) (lpQ G fl cb S I μ i Q)) : Tr G P fl cb r (.loop x) st Q := by
  refine ⟨fun ρ a w b n hs hc hr hb => ?_⟩
  refine wpIn_loop_fuel (fun g a1 w1 => ∃ i ρ1, I i ∧ μ i = g ∧ SR G ρ1 (S i) a1 w1 ∧ cb ≤ (S i).c ∧ ExtB ρ ρ1 fl cb w ∧ Fr ρ fl w w1) (μ i0) ?_ ?_
  · obtain ⟨ρ1, hs1, he1⟩ := hw.sr hs
    exact ⟨i0, ρ1, h0, rfl, hs1, hw.c, he1, .refl _ _ _⟩
  · rintro g a1 w1 ⟨i, ρ1, hi, rfl, hs1, hc1, he1, hf1⟩
    refine wpIn_mono ((h i hi).run ρ1 a1 w1 b n hs1 hc1 hr (hb.keep hr he1)) fun e1 a2 w2 hp => ?_
    obtain ⟨e, st2, ρ2, rfl, ⟨hq⟩, hs2, hc2, he2, hf2⟩ := hp
    have hE := he1.trans hf1.size he2
    have hF := hf1.transB he1 hf2
    cases e with
    | normal =>
      obtain ⟨j, hj, hlt, hwk⟩ := hq
      obtain ⟨ρ3, hs3, he3⟩ := hwk.sr hs2
      exact ⟨μ j, hlt, j, ρ3, hj, rfl, hs3, hwk.c, hE.trans hF.size he3, hF⟩
    | exit id => exact ⟨.exit id, st2, ρ2, rfl, hq, hs2, hc2, hE, hF⟩
    | goto l => exact ⟨.goto l, st2, ρ2, rfl, hq, hs2, hc2, hE, hF⟩
    | ret => exact ⟨.ret, st2, ρ2, rfl, hq, hs2, hc2, hE, hF⟩

/-- A loop, so many times. -/
def un0 (G : Nat) (P : Program) (fl cb : Nat) (r : Option Nat) (x : Code) (Q : AExit → St → Prop) : Nat → AExit → St → Prop
  | _, .exit id, st => Q (.exit id) st
  | _, .goto id, st => Q (.goto id) st
  | _, .ret, st => Q .ret st
  | 0, .normal, _ => False
  | k + 1, .normal, st => Tr G P fl cb r x st (un0 G P fl cb r x Q k)
structure unQ (G : Nat) (P : Program) (fl cb : Nat) (r : Option Nat) (x : Code) (Q : AExit → St → Prop) (k : Nat) (e : AExit) (st : St) : Prop where
  go : un0 G P fl cb r x Q k e st
theorem un_n {k : Nat} (h : Tr G P fl cb r x st (unQ G P fl cb r x Q k)) : unQ G P fl cb r x Q (k + 1) .normal st := ⟨h.mono fun _ _ h => h.go⟩
theorem un_x {k id : Nat} (h : Q (.exit id) st) : unQ G P fl cb r x Q k (.exit id) st := ⟨by cases k <;> exact h⟩

theorem Tr.unroll (k : Nat) (h : Tr G P fl cb r x st (unQ G P fl cb r x Q k)) : Tr G P fl cb r (.loop x) st Q := by
  refine ⟨fun ρ a w b n hs hc hr hb => ?_⟩
  refine wpIn_loop_fuel (fun g a1 w1 => ∃ ρ1 st1, SR G ρ1 st1 a1 w1 ∧ cb ≤ st1.c ∧ ExtB ρ ρ1 fl cb w ∧ Fr ρ fl w w1 ∧ un0 G P fl cb r x Q g .normal st1) (k + 1) ⟨ρ, st, hs, hc, .refl _ _ _ _, .refl _ _ _, h.mono fun _ _ h => h.go⟩ ?_
  rintro g a1 w1 ⟨ρ1, st1, hs1, hc1, he1, hf1, hu⟩
  cases g with
  | zero => exact hu.elim
  | succ g =>
    refine wpIn_mono (Tr.run hu ρ1 a1 w1 b n hs1 hc1 hr (hb.keep hr he1)) fun e1 a2 w2 hp => ?_
    obtain ⟨e, st2, ρ2, rfl, hq, hs2, hc2, he2, hf2⟩ := hp
    have hE := he1.trans hf1.size he2
    have hF := hf1.transB he1 hf2
    cases e with
    | normal => exact ⟨g, by omega, ρ2, st2, hs2, hc2, hE, hF, hq⟩
    | exit id => exact ⟨.exit id, st2, ρ2, rfl, by cases g <;> exact hq, hs2, hc2, hE, hF⟩
    | goto l => exact ⟨.goto l, st2, ρ2, rfl, by cases g <;> exact hq, hs2, hc2, hE, hF⟩
    | ret => exact ⟨.ret, st2, ρ2, rfl, by cases g <;> exact hq, hs2, hc2, hE, hF⟩

/-! ### Regions in the text's order -/
/-- What holds of a program as a whole. -/
class PG (P : Program) (G : outParam Nat) : Prop where
  size : P.globals.size = G
  mixed : P.follows .mixedOrders = true

/-- The operations of a region that are left. -/
structure RT (G : Nat) (P : Program) (fl cb : Nat) (ops : Array Oper) (rest : List Oper) (st : St) (Q : AExit → St → Prop) : Prop where
  run : ∀ ρ a w b k (K : Exit → Act → World → Prop), SR G ρ st a w → cb ≤ st.c → (∀ a' w', PostT G ρ fl cb w Q .normal a' w' → K .normal a' w') → wpListIn (FR b) k P ops K rest a w

theorem RT.nil {ops : Array Oper} (h : Q .normal st) : RT G P fl cb ops [] st Q := ⟨fun _ _ _ _ _ _ hs hc hK => hK _ _ (.refl hs hc h)⟩

theorem RT.cons [hP : PG P G] {ops : Array Oper} {o : Oper} {rest : List Oper} {call round : CallFn} (hcall : CallOK G P call) (hround : RoundOK G P round) (e : sOp P call round fl ops.toList o st = some st2) (hc2 : cb ≤ st2.c)
    (h : RT G P fl cb ops rest st2 Q) : RT G P fl cb ops (o :: rest) st Q := by
  refine ⟨fun ρ a w b k K hs hc hK => ?_⟩
  exact sOp_sound hP.size hcall hround hs e fun a' w' hg => by
    obtain ⟨ρ1, hs1, he1, hf1⟩ := hg
    have hE := ExtB.of_ext he1 hc
    exact h.run ρ1 a' w' b k K hs1 hc2 fun a2 w2 hp => hK a2 w2 (hp.trans hE hf1)

theorem Tr.region {id : Nat} {ops : Array Oper} (h : RT G P fl cb ops ops.toList st Q) : Tr G P fl cb r (.region id ops false) st Q := by
  refine ⟨fun ρ a w b n hs hc hr hb => ?_⟩
  exact wpIn_region_list (h.run ρ a w b n _ hs hc fun a' w' hp => hp)

/-! ### Regions whose order is open -/
theorem Tr.open [hP : PG P G] {id : Nat} {ops : Array Oper} {call round : CallFn} (hcall : CallOK G P call) (hround : RoundOK G P round) (hcg : CallGood call) (hrg : CallGood round) (hok : regOk ops.toList = true)
    (e : regD P call round fl ops.toList (opIs ops.toList) [] st = some st2) (hc2 : cb ≤ st2.c) (hq : Q .normal st2) : Tr G P fl cb r (.region id ops true) st Q := by
  refine ⟨fun ρ a w b n hs hc hr hb => ?_⟩
  refine wpIn_mono (draw_ok hP.size hP.mixed call round hcall hround hcg hrg fl ops hok id st st2 e ρ a w b n hs) fun e1 a1 w1 hp => ?_
  obtain ⟨rfl, ρ1, hs1, he1, hf1⟩ := hp
  exact ⟨.normal, st2, ρ1, rfl, hq, hs1, hc2, .of_ext he1 hc, hf1⟩
end
end Go.Ev

/- Calls by explicit states: a function's body, and what a call of it does in any memory that holds what it looks at. -/
namespace Go.Ev
open Go

section
variable {G : Nat} {P : Program} {ρ ρ1 ρ2 : Rho} {fl cb c c' : Nat} {w w1 w2 : World}

/-- A call answers so. -/
def OkAt (G : Nat) (P : Program) (fl f : Nat) (args : List AV) (H : T AObj) (c : Nat) (v : AV) (H' : T AObj) (c' : Nat) : Prop :=
  (∀ us w, (callFunc f us).run P w = .ok (.enter f us) w) ∧
  ∀ ρ w us, Holds G ρ H c w → VRs ρ args us → ∀ r n, CallsIn (FR r) n P f us.toArray w fun e w' => ∃ u, e = .returned u ∧ Post G ρ fl c w v H' c' u w'

open Classical in
/-- The calls that answer so, alone. -/
noncomputable def oneS (fl f : Nat) (args : List AV) (H : T AObj) (c : Nat) (v : AV) (H' : T AObj) (c' : Nat) : CallFn := fun fl1 f1 args1 H1 c1 =>
  if fl1 = fl ∧ f1 = f ∧ args1 = args ∧ H1 = H ∧ c1 = c then some (v, H', c') else none

theorem one_ok {fl f : Nat} {args : List AV} {H : T AObj} {v : AV} {H' : T AObj} (h : OkAt G P fl f args H c v H' c') : CallOK G P (oneS fl f args H c v H' c') := by
  intro fl1 f1 args1 H1 c1 v1 H1' c1' e
  unfold oneS at e
  split at e
  · rename_i hh
    obtain ⟨rfl, rfl, rfl, rfl, rfl⟩ := hh
    simp only [Option.some.injEq, Prod.mk.injEq] at e
    obtain ⟨rfl, rfl, rfl⟩ := e
    exact h
  · cases e

theorem one_at (fl f : Nat) (args : List AV) (H : T AObj) (c : Nat) (v : AV) (H' : T AObj) (c' : Nat) : oneS fl f args H c v H' c' fl f args H c = some (v, H', c') := by
  unfold oneS; rw [if_pos ⟨rfl, rfl, rfl, rfl, rfl⟩]

def noCall : CallFn := fun _ _ _ _ _ => none
theorem noCall_ok : CallOK G P noCall := by intro fl f args H c v H' c' e; cases e
theorem noRound_ok : RoundOK G P noCall := by intro fl f args H c v H' c' e; cases e

/-- The arguments, as an activation finds them. -/
def argL : List AV → Nat → List (Nat × AV)
  | [], _ => []
  | v :: vs, i => (i, v) :: argL vs (i + 1)

theorem look_argL : ∀ (vs : List AV) (i t : Nat), look (argL vs i) t = if i ≤ t ∧ t < i + vs.length then vs[t - i]? else none
  | [], i, t => by simp [argL, look]
  | v :: vs, i, t => by
    rw [argL, look, look_argL vs (i + 1) t, Bool.cond_eq_ite]
    by_cases h : t = i
    · subst h; rw [if_pos (by simp), if_pos (by simp)]; simp
    · rw [if_neg (by simp [h])]
      by_cases h2 : i + 1 ≤ t ∧ t < i + 1 + vs.length
      · rw [if_pos h2, if_pos (by simp; omega), show t - i = (t - (i + 1)) + 1 by omega]; simp
      · rw [if_neg h2, if_neg (by simp; omega)]

theorem argL_get {args : List AV} {t : Nat} {v : AV} (h : look (argL args 0) t = some v) : (envOf args 0 .leaf).get t = some v := by
  rw [envOf_get]
  rw [look_argL] at h
  simpa using h

/-- Where a function's body may end, and what it returns. -/
def rt0 (P : Program) (fl : Nat) (rs : List ResultVar) (Qf : AV → T AObj → Nat → Prop) : AExit → St → Prop
  | .normal, st => ∃ H' v, leaveA fl st.H st.dfs = some H' ∧ resultsA P st.env H' rs = some v ∧ Qf v H' st.c
  | .ret, st => ∃ H' v, leaveA fl st.H st.dfs = some H' ∧ resultsA P st.env H' rs = some v ∧ Qf v H' st.c
  | _, _ => False
structure rtQ (P : Program) (fl : Nat) (rs : List ResultVar) (Qf : AV → T AObj → Nat → Prop) (e : AExit) (st : St) : Prop where
  go : rt0 P fl rs Qf e st

/-- A call in a memory that holds just what the function looks at. -/
def CanS (G : Nat) (P : Program) (f fl : Nat) (args : List AV) (m : List (Nat × Option AObj)) (c : Nat) (Qf : AV → T AObj → Nat → Prop) : Prop :=
  (∀ us w, (callFunc f us).run P w = .ok (.enter f us) w) ∧
  ∀ ρ w us, Holds G ρ (ofM m) c w → VRs ρ args us → ∀ r n, CallsIn (FR r) n P f us.toArray w fun e w' =>
    ∃ u v H' c' ρ', e = .returned u ∧ Qf v H' c' ∧ VR ρ' v u ∧ Holds G ρ' H' c' w' ∧ c ≤ c' ∧ ExtB ρ ρ' fl c w ∧ Fr ρ fl w w'

theorem CanS.mk {f : Nat} {fn : Func} {code : Code} {args : List AV} {m : List (Nat × Option AObj)} {n : Nat} {Qf : AV → T AObj → Nat → Prop}
    (h1 : P.funcs[f]? = some fn) (h2 : fn.body = some code) (h3 : (fn.name == "runtime.NumGoroutine") = false) (hn : args.length + (fn.ntmps - args.length) = n)
    (h : Tr G P fl c none code (stL n [] (argL args 0) m c) (rtQ P fl fn.results.toList Qf)) : CanS G P f fl args m c Qf := by
  refine ⟨fun us w => ?_, fun ρ w us hH hv b k => ?_⟩
  · simp only [callFunc, Sem.run_bind, run_program, Result.andThen_ok, h1, h3, Bool.false_eq_true, if_false, h2, Option.isNone_some]
    rfl
  · have he := env_args hv fn.ntmps
    have hs : SR G ρ (stL n [] (argL args 0) m c) { tmps := us.toArray ++ Array.replicate (fn.ntmps - us.toArray.size) undef, defers := [] } w :=
      ⟨⟨by rw [← hn]; exact he.1, fun t v ht => by
        have h4 : look (argL args 0) t = some v := by rw [← ofL_get]; exact ht
        have := he.2 t v (argL_get h4)
        rw [hn] at this
        exact this⟩, hH, rfl⟩
    have fin : ∀ st1 a' w', (∃ H' v, leaveA fl st1.H st1.dfs = some H' ∧ resultsA P st1.env H' fn.results.toList = some v ∧ Qf v H' st1.c) → (∃ ρ1, SR G ρ1 st1 a' w' ∧ c ≤ st1.c ∧ ExtB ρ ρ1 fl c w ∧ Fr ρ fl w w') →
        LeavesInM (FR none) k P fn a'.tmps (fun e w' => ∃ u v H' c' ρ', e = .returned u ∧ Qf v H' c' ∧ VR ρ' v u ∧ Holds G ρ' H' c' w' ∧ c ≤ c' ∧ ExtB ρ ρ' fl c w ∧ Fr ρ fl w w') a'.defers .returning w' := by
      rintro st1 a' w' ⟨H', v, hl, hv', hq⟩ ⟨ρ1, hs1, hc1, he1, hf1⟩
      refine leave_sound (b := none) hs1.mem hs1.dfs hl fun w2 hw2 hf2 => ?_
      obtain ⟨u, hu, hvu⟩ := results_sound (P := P) hw2 hs1.env hv'
      exact ⟨u, hu, u, v, H', st1.c, ρ1, rfl, hq, hvu, hw2, hc1, he1, hf1.transB he1 hf2⟩
    have main : CallsIn (FR none) k P f us.toArray w fun e w' => ∃ u v H' c' ρ', e = .returned u ∧ Qf v H' c' ∧ VR ρ' v u ∧ Holds G ρ' H' c' w' ∧ c ≤ c' ∧ ExtB ρ ρ' fl c w ∧ Fr ρ fl w w' := by
      refine callsIn_of_wp_marks h1 h2 trivial ?_
      refine wpIn_mono (h.run ρ _ w none k hs (Nat.le_refl _) (fun l hl => by cases hl) trivial) fun e1 a1 w1 hp => ?_
      obtain ⟨e, st1, ρ1, rfl, ⟨hq⟩, hs1, hc1, he1, hf1⟩ := hp
      cases e with
      | normal => exact fin st1 a1 w1 hq ⟨ρ1, hs1, hc1, he1, hf1⟩
      | ret => exact fin st1 a1 w1 hq ⟨ρ1, hs1, hc1, he1, hf1⟩
      | exit id => exact hq.elim
      | goto l => exact hq.elim
    cases b with
    | none => exact main
    | some l => exact main

theorem CanS.mono {f : Nat} {args : List AV} {m : List (Nat × Option AObj)} {Qf Qf' : AV → T AObj → Nat → Prop} (h : CanS G P f fl args m c Qf) (hq : ∀ v H c, Qf v H c → Qf' v H c) : CanS G P f fl args m c Qf' :=
  ⟨h.1, fun ρ w us hH hv r n => (h.2 ρ w us hH hv r n).mono fun e w' ⟨u, v, H', c', ρ', h1, h2, h3⟩ => ⟨u, v, H', c', ρ', h1, hq _ _ _ h2, h3⟩⟩

/-- A value without names. -/
def Pl (v : AV) : Prop := ∀ σ, v.ren σ = v
theorem Pl.bool (b : Bool) : Pl (.bool b) := fun _ => rfl
theorem Pl.int (k : IntKind) (n : Int) : Pl (.int k n) := fun _ => rfl
theorem Pl.nils : Pl .nils := fun _ => rfl
def Pls (l : List AV) : Prop := ∀ σ, AV.rens σ l = l
theorem Pls.nil : Pls [] := fun _ => rfl
theorem Pl.vr {v : AV} {u : Value} (hp : Pl v) (hf : ∃ x, ρ x = none) (h : VR ρ v u) : VR ρ1 v u := by
  -- through a map of no names at all
  obtain ⟨x, hx⟩ := hf
  have h1 : VR (fun _ => none) v u := by
    have := (VR_ren ρ (fun _ => x) v u).1 (by rw [hp]; exact h)
    simpa only [hx] using this
  have hle : RLe (fun _ => none) ρ1 := fun _ _ h => by cases h
  exact h1.mono hle

/-- What a call looks at, in a caller's memory. -/
def Entry (G : Nat) (H : T AObj) (c : Nat) (args : List AV) (m0 : List (Nat × Option AObj)) (c0 : Nat) (args0 : List AV) : Prop :=
  ∀ ρ w us, Holds G ρ H c w → VRs ρ args us → ∃ ρ0, Holds G ρ0 (ofM m0) c0 w ∧ VRs ρ0 args0 us

theorem Holds.kept {H : T AObj} (h : Holds G ρ H c w) (hs : w.heap.size ≤ w1.heap.size) (hk : ∀ b, b < w.heap.size → w1.heap[b]? = w.heap[b]?) : Holds G ρ H c w1 :=
  ⟨fun x o hx => by
    obtain ⟨p, h1, h2⟩ := h.obj x o hx
    exact ⟨p, h1, h2.world (hk p.b (h.lt x p h1))⟩, h.sep, h.fresh, fun x p hp => Nat.lt_of_lt_of_le (h.lt x p hp) hs, h.glob⟩

/-- A call that leaves nothing behind. -/
theorem CanS.pure {f : Nat} {args args0 : List AV} {m0 : List (Nat × Option AObj)} {c0 : Nat} {v0 : AV} {H : T AObj} (h : CanS G P f c0 args0 m0 c0 fun v _ _ => v = v0) (hv : Pl v0) (he : Entry G H c args m0 c0 args0) (fl : Nat) :
    OkAt G P fl f args H c v0 H c := by
  refine ⟨h.1, fun ρ w us hH hargs r n => ?_⟩
  obtain ⟨ρ0, h0, ha⟩ := he ρ w us hH hargs
  refine (h.2 ρ0 w us h0 ha r n).mono ?_
  rintro e w' ⟨u, v, H', c', ρ', rfl, rfl, h3, h4, h5, h6, h7⟩
  have hk : ∀ b, b < w.heap.size → w'.heap[b]? = w.heap[b]? := fun b hb => h7.keep b hb fun x p hx hp => by rw [h0.fresh x hx] at hp; cases hp
  exact ⟨u, rfl, ρ, hv.vr ⟨c', h4.fresh c' (Nat.le_refl _)⟩ h3, hH.kept h7.size hk, .refl _ _ _ _, ⟨h7.os, h7.tape, h7.output, h7.size, fun b hb _ => hk b hb⟩⟩

/-- The same names. -/
theorem Entry.same {m m0 : List (Nat × Option AObj)} {c0 : Nat} {args : List AV} (hc : c0 ≤ c) (hG : G ≤ c0) (hm : ∀ y o, lookM m0 y = some o → lookM m y = some (o.ren fun x => if x < c0 then x else c + x))
    (hy : ∀ y o, lookM m0 y = some o → y < c0) (ha : AV.rens (fun x => if x < c0 then x else c + x) args = args) : Entry G (ofM m) c args m0 c0 args := by
  intro ρ w us hH hv
  refine ⟨fun x => ρ (if x < c0 then x else c + x), hH.ren _ (fun x o hx => ?_) (fun x y o o' hx hy' hxy => ?_) (fun x hx => ?_) (fun g hg => ?_), ?_⟩
  · rw [ofM_get] at hx ⊢
    rw [if_pos (hy x o hx)]
    exact hm x o hx
  · rw [ofM_get] at hx hy'
    rw [if_pos (hy x o hx), if_pos (hy y o' hy')]
    exact .inl hxy
  · split <;> omega
  · rw [if_pos (by omega)]
  · exact (VRs_ren ρ _ args us).1 (by rw [ha]; exact hv)

/-- A call that changes what it was handed, and leaves new names behind: its own names are renamed. -/
theorem CanS.inst {f fl0 : Nat} {args0 : List AV} {m0 : List (Nat × Option AObj)} {c0 : Nat} {Qf : AV → T AObj → Nat → Prop} {H H' : T AObj} {v : AV} (h : CanS G P f fl0 args0 m0 c0 Qf) (hGf : G ≤ fl0) (hfc : fl0 ≤ c0) (τ : Nat → Nat)
    (hτg : ∀ g, g < G → τ g = g) (hτ1 : ∀ y, y < c0 → τ y < c) (hτ2 : ∀ y, c0 ≤ y → τ y = c + (y - c0))
    (hobj : ∀ y o, lookM m0 y = some o → H.get (τ y) = some (o.ren τ))
    (hinj : ∀ x y o o', lookM m0 x = some o → lookM m0 y = some o' → x ≠ y → τ x ≠ τ y ∨ ∃ n m, o.share = some (false, n) ∧ o'.share = some (false, m))
    (hw : ∀ y, fl0 ≤ y → y < c0 → fl ≤ τ y ∧ ∃ o, lookM m0 y = some o ∧ o.share = none)
    (hout : ∀ v1 H1 c1, Qf v1 H1 c1 → c0 ≤ c1 → v1.ren τ = v ∧ c + (c1 - c0) = c' ∧ ∀ x o, H'.get x = some o → (x < c ∧ (∀ y, fl0 ≤ y → y < c0 → x ≠ τ y) ∧ H.get x = some o) ∨ ∃ y o1, fl0 ≤ y ∧ H1.get y = some o1 ∧ x = τ y ∧ o = o1.ren τ) :
    OkAt G P fl f (AV.rens τ args0) H c v H' c' := by
  refine ⟨h.1, fun ρ w us hH hargs r n => ?_⟩
  have h0 : Holds G (fun x => ρ (τ x)) (ofM m0) c0 w := hH.ren τ (fun x o hx => hobj x o (by rw [← ofM_get]; exact hx)) (fun x y o o' hx hy => hinj x y o o' (by rw [← ofM_get]; exact hx) (by rw [← ofM_get]; exact hy))
    (fun x hx => by rw [hτ2 x hx]; omega) hτg
  refine (h.2 _ w us h0 ((VRs_ren ρ τ args0 us).1 hargs) r n).mono ?_
  rintro e w' ⟨u, v1, H1, c1, ρ1, rfl, hq, h3, h4, h5, h6, h7⟩
  obtain ⟨rfl, rfl, ho⟩ := hout v1 H1 c1 hq h5
  have hlow : ∀ x p, ρ x = some p → x < c := fun x p hp => by
    rcases Nat.lt_or_ge x c with h | h
    · exact h
    · rw [hH.fresh x h] at hp; cases hp
  have hlt0 : ∀ z t, ρ (τ z) = some t → z < c0 := fun z t ht => by
    rcases Nat.lt_or_ge z c0 with h | h
    · exact h
    · have := h0.fresh z h
      replace this : ρ (τ z) = none := this
      rw [this] at ht; cases ht
  -- the names behind it
  have hcomp : (fun y => (fun x => if x < c then ρ x else ρ1 (c0 + (x - c))) (τ y)) = ρ1 := by
    funext y
    by_cases hy : y < c0
    · show (if τ y < c then ρ (τ y) else ρ1 (c0 + (τ y - c))) = ρ1 y
      rw [if_pos (hτ1 y hy)]
      exact (h6.1 y hy).symm
    · show (if τ y < c then ρ (τ y) else ρ1 (c0 + (τ y - c))) = ρ1 y
      rw [hτ2 y (by omega), if_neg (by omega), show c0 + (c + (y - c0) - c) = y by omega]
  have hval : ∀ y, (if τ y < c then ρ (τ y) else ρ1 (c0 + (τ y - c))) = ρ1 y := fun y => congrFun hcomp y
  have hle : RLe ρ (fun x => if x < c then ρ x else ρ1 (c0 + (x - c))) := fun x p hp => by
    show (if x < c then ρ x else _) = _
    rw [if_pos (hlow x p hp)]; exact hp
  -- what may be written lies apart
  have hap : ∀ x o p, H.get x = some o → ρ x = some p → (∀ y, fl0 ≤ y → y < c0 → x ≠ τ y) → ∀ y q, fl0 ≤ y → y < c0 → ρ (τ y) = some q → p.b ≠ q.b := fun x o p hx hp hn y q hy hyc hq hb => by
    obtain ⟨_, o', ho', hs'⟩ := hw y hy hyc
    have := (hH.sep x (τ y) o _ p q (hn y hy hyc) hx (hobj y o' ho') hp hq hb).ro
    unfold AObj.isRo at this
    rw [AObj.ren_share, hs'] at this
    simp at this
  refine ⟨u, rfl, fun x => if x < c then ρ x else ρ1 (c0 + (x - c)), ?_, ⟨?_, ?_, ?_, ?_, ?_⟩, ⟨hle, ?_, ?_, by omega⟩, ⟨h7.os, h7.tape, h7.output, h7.size, ?_⟩⟩
  · rw [VR_ren, hcomp]; exact h3
  · intro x o hx
    rcases ho x o hx with ⟨hxc, hn, hxo⟩ | ⟨y, o1, hy, hy1, rfl, rfl⟩
    · obtain ⟨p, hp, hob⟩ := hH.obj x o hxo
      refine ⟨p, hle x p hp, (hob.mono hle).world (h7.keep p.b (hH.lt x p hp) fun y q hy hq => ?_)⟩
      have hyc : y < c0 := hlt0 _ _ hq
      exact (hap x o p hxo hp hn y q hy hyc hq).symm
    · obtain ⟨p, hp, hob⟩ := h4.obj y o1 hy1
      refine ⟨p, by show (if τ y < c then ρ (τ y) else ρ1 (c0 + (τ y - c))) = _; rw [hval y]; exact hp, ?_⟩
      rw [ObjR_ren, hcomp]; exact hob
  · intro x x' o o' p q hxx hx hx' hp hq hb
    -- one of before and one of the call's own
    have cross : ∀ x o p y q, H.get x = some o → ρ x = some p → (∀ y, fl0 ≤ y → y < c0 → x ≠ τ y) → fl0 ≤ y → ρ1 y = some q → p.b ≠ q.b := fun x o p y q hx hp hn hy hq hb => by
      rcases h6.2 y q hy hq with h | ⟨z, t, hz, ht, hzb⟩
      · have := hH.lt x p hp; omega
      · have hzc : z < c0 := hlt0 _ _ ht
        exact hap x o p hx hp hn z t hz hzc ht (hb.trans hzb.symm)
    rcases ho x o hx with ⟨hxc, hn, hxo⟩ | ⟨y, o1, hy, hy1, rfl, rfl⟩
    · replace hp : (if x < c then ρ x else ρ1 (c0 + (x - c))) = some p := hp
      rw [if_pos hxc] at hp
      rcases ho x' o' hx' with ⟨hxc', hn', hxo'⟩ | ⟨y', o1', hy', hy1', rfl, rfl⟩
      · replace hq : (if x' < c then ρ x' else ρ1 (c0 + (x' - c))) = some q := hq
        rw [if_pos hxc'] at hq
        exact hH.sep x x' o o' p q hxx hxo hxo' hp hq hb
      · replace hq : (if τ y' < c then ρ (τ y') else ρ1 (c0 + (τ y' - c))) = some q := hq
        rw [hval y'] at hq
        exact absurd hb (cross x o p y' q hxo hp hn hy' hq)
    · replace hp : (if τ y < c then ρ (τ y) else ρ1 (c0 + (τ y - c))) = some p := hp
      rw [hval y] at hp
      rcases ho x' o' hx' with ⟨hxc', hn', hxo'⟩ | ⟨y', o1', hy', hy1', rfl, rfl⟩
      · replace hq : (if x' < c then ρ x' else ρ1 (c0 + (x' - c))) = some q := hq
        rw [if_pos hxc'] at hq
        exact absurd hb.symm (cross x' o' q y p hxo' hq hn' hy hp)
      · replace hq : (if τ y' < c then ρ (τ y') else ρ1 (c0 + (τ y' - c))) = some q := hq
        rw [hval y'] at hq
        exact (h4.sep y y' o1 o1' p q (fun e => hxx (by rw [e])) hy1 hy1' hp hq hb).congr (by rw [AObj.ren_share]) (by rw [AObj.ren_share])
  · intro x hx
    show (if x < c then ρ x else ρ1 (c0 + (x - c))) = none
    rw [if_neg (by omega)]
    exact h4.fresh _ (by omega)
  · intro x p hp
    replace hp : (if x < c then ρ x else ρ1 (c0 + (x - c))) = some p := hp
    split at hp
    · exact Nat.lt_of_lt_of_le (hH.lt x p hp) h7.size
    · exact h4.lt _ p hp
  · intro g hg
    obtain ⟨k, hk⟩ := hH.glob g hg
    exact ⟨k, hle g _ hk⟩
  · intro x p hx hp
    replace hp : (if x < c then ρ x else ρ1 (c0 + (x - c))) = some p := hp
    split at hp
    · rw [hx] at hp; cases hp
    · rcases h6.2 (c0 + (x - c)) p (by omega) hp with h | ⟨z, t, hz, ht, hzb⟩
      · exact .inl h
      · have hzc : z < c0 := hlt0 _ _ ht
        exact .inr ⟨τ z, t, (hw z hz hzc).1, ht, hzb⟩
  · intro x p hx hp
    replace hp : (if x < c then ρ x else ρ1 (c0 + (x - c))) = some p := hp
    split at hp
    · rw [hx] at hp; cases hp
    · omega
  · intro b hb hn
    refine h7.keep b hb fun y q hy hq => ?_
    have hyc : y < c0 := hlt0 _ _ hq
    exact hn (τ y) q (hw y hy hyc).1 hq
end
end Go.Ev

/- The operations, over explicit states. -/
namespace Go.Ev
open Go

/-- What is known of a type. -/
structure Ty where
  kind : Nat
  agg : Bool
  size : Nat
  bytes : Nat
  zero : AV
  places : List (Nat × Nat)
  ftys : List Nat
  len : Nat
  elem : Nat

def okStruct (P : Program) (t : Nat) (y : Ty) : Bool := match P.underlying t with
  | some (.struct fs) => (match placesA P fs.toList with | some ps => decide (ps = y.places) | none => false) && decide (fs.toList.map (·.type) = y.ftys)
  | _ => false
def okArray (P : Program) (t : Nat) (y : Ty) : Bool := match P.underlying t with
  | some (.array n e) => Nat.beq n y.len && Nat.beq e y.elem
  | _ => false
def okSlice (P : Program) (t : Nat) (y : Ty) : Bool := match P.underlying t with
  | some (.slice e) => Nat.beq e y.elem
  | _ => false
def okMap (P : Program) (t : Nat) (y : Ty) : Bool := match P.underlying t with
  | some (.map k e) => Nat.beq k y.len && Nat.beq e y.elem
  | _ => false
def okInt (P : Program) (t : Nat) : Bool := match P.underlying t with
  | some (.int .i64) => true
  | _ => false
def okBool (P : Program) (t : Nat) : Bool := match P.underlying t with
  | some .bool => true
  | _ => false
def okPtr (P : Program) (t : Nat) : Bool := match P.underlying t with
  | some (.pointer _) => true
  | _ => false
def kindOk (P : Program) (t : Nat) (y : Ty) : Bool := match y.kind with
  | 0 => okInt P t
  | 1 => okBool P t
  | 3 => okStruct P t y
  | 4 => okArray P t y
  | 5 => okSlice P t y
  | 6 => okPtr P t
  | 8 => okMap P t y
  | _ => true

/-- kinds: 0 int, 1 bool, 2 string, 3 struct, 4 array, 5 slice, 6 pointer, 7 function, 8 map (elem: its values', len: its keys' type), 9 other. -/
def tyOk (P : Program) (t : Nat) (y : Ty) : Bool :=
  (match szOf P t with | some s => Nat.beq s y.size | none => false) && (match P.info? t with | some i => Nat.beq i.bytes y.bytes | none => false) && (match aggB P t with | some b => b == y.agg | none => false) && (match zeroA P t with | some z => AV.eqB z y.zero | none => false) &&
  kindOk P t y

def lookT : List (Nat × Ty) → Nat → Option Ty
  | [], _ => none
  | (d, y) :: l, t => bif Nat.beq t d then some y else lookT l t

theorem lookT_mem : ∀ {l : List (Nat × Ty)} {t : Nat} {y : Ty}, lookT l t = some y → (t, y) ∈ l
  | [], t, y, h => by cases h
  | (d, z) :: l, t, y, h => by
    rw [lookT, Bool.cond_eq_ite] at h
    split at h
    · rename_i e
      have e' : t = d := by simpa using e
      simp only [Option.some.injEq] at h
      subst e' h
      exact List.mem_cons_self
    · exact List.mem_cons_of_mem _ (lookT_mem h)

class Tab (P : Program) where
  tab : List (Nat × Ty)
  ok : (tab.all fun p => tyOk P p.1 p.2) = true

section
variable {G : Nat} {P : Program} {fl cb c c' : Nat} {m m' : List (Nat × Option AObj)} {l : List (Nat × AV)} {n : Nat} {dfs : List Nat} {y : Ty} {t : Nat}

def ty (P : Program) [Tab P] (t : Nat) : Option Ty := lookT (Tab.tab P) t

theorem ty_ok [T : Tab P] (h : ty P t = some y) : tyOk P t y = true := List.all_eq_true.1 T.ok _ (lookT_mem h)

theorem ty_size [Tab P] (h : ty P t = some y) : szOf P t = some y.size := by
  have := ty_ok h
  simp only [tyOk, Bool.and_eq_true] at this
  have h1 := this.1.1.1.1
  split at h1
  · rename_i s hs; rw [hs, Nat.eq_of_beq_eq_true h1]
  · cases h1
theorem ty_bytes [Tab P] (h : ty P t = some y) : ∃ i, P.info? t = some i ∧ i.bytes = y.bytes := by
  have := ty_ok h
  simp only [tyOk, Bool.and_eq_true] at this
  have h1 := this.1.1.1.2
  split at h1
  · rename_i i hi; exact ⟨i, hi, Nat.eq_of_beq_eq_true h1⟩
  · cases h1
theorem ty_agg [Tab P] (h : ty P t = some y) : aggB P t = some y.agg := by
  have := ty_ok h
  simp only [tyOk, Bool.and_eq_true] at this
  have h1 := this.1.1.2
  split at h1
  · rename_i s hs; rw [hs]; simpa using h1
  · cases h1
theorem ty_zero [Tab P] (h : ty P t = some y) : zeroA P t = some y.zero := by
  have := ty_ok h
  simp only [tyOk, Bool.and_eq_true] at this
  have h1 := this.1.2
  split at h1
  · rename_i s hs; rw [hs, AV.eqB_eq _ _ h1]
  · cases h1
theorem ty_kind [Tab P] (h : ty P t = some y) : kindOk P t y = true := by
  have := ty_ok h
  simp only [tyOk, Bool.and_eq_true] at this
  exact this.2
theorem ty_struct [Tab P] (h : ty P t = some y) (hk : y.kind = 3) : ∃ fs, P.underlying t = some (.struct fs) ∧ placesA P fs.toList = some y.places ∧ fs.toList.map (·.type) = y.ftys := by
  have h1 := ty_kind h
  unfold kindOk at h1
  rw [hk] at h1
  simp only [okStruct] at h1
  split at h1
  · rename_i fs hu
    simp only [Bool.and_eq_true] at h1
    obtain ⟨h2, h3⟩ := h1
    split at h2
    · rename_i ps hps; exact ⟨fs, hu, by rw [hps, of_decide_eq_true h2], of_decide_eq_true h3⟩
    · cases h2
  · cases h1
theorem ty_array [Tab P] (h : ty P t = some y) (hk : y.kind = 4) : P.underlying t = some (.array y.len y.elem) := by
  have h1 := ty_kind h
  unfold kindOk at h1
  rw [hk] at h1
  simp only [okArray] at h1
  split at h1
  · rename_i n e hu
    simp only [Bool.and_eq_true] at h1
    rw [hu, Nat.eq_of_beq_eq_true h1.1, Nat.eq_of_beq_eq_true h1.2]
  · cases h1
theorem ty_slice [Tab P] (h : ty P t = some y) (hk : y.kind = 5) : P.underlying t = some (.slice y.elem) := by
  have h1 := ty_kind h
  unfold kindOk at h1
  rw [hk] at h1
  simp only [okSlice] at h1
  split at h1
  · rename_i e hu
    rw [hu, Nat.eq_of_beq_eq_true h1]
  · cases h1
theorem ty_map [Tab P] (h : ty P t = some y) (hk : y.kind = 8) : P.underlying t = some (.map y.len y.elem) := by
  have h1 := ty_kind h
  unfold kindOk at h1
  rw [hk] at h1
  simp only [okMap] at h1
  split at h1
  · rename_i n e hu
    simp only [Bool.and_eq_true] at h1
    rw [hu, Nat.eq_of_beq_eq_true h1.1, Nat.eq_of_beq_eq_true h1.2]
  · cases h1
theorem mapM_get {α β : Type} {f : α → Option β} : ∀ {l : List α} {r : List β}, l.mapM f = some r → ∀ (i : Nat) (b : β), r[i]? = some b → ∃ a, l[i]? = some a ∧ f a = some b
  | [], r, h, i, b, hb => by
    simp at h
    subst h
    simp at hb
  | a :: l, r, h, i, b, hb => by
    simp only [List.mapM_cons, Option.bind_eq_bind, Option.pure_def, Option.bind_eq_some_iff] at h
    obtain ⟨v0, h0, vs', h1, h2⟩ := h
    simp only [Option.some.injEq] at h2
    subst h2
    cases i with
    | zero => simp at hb; subst hb; exact ⟨a, rfl, h0⟩
    | succ i => simpa using mapM_get h1 i b (by simpa using hb)

/-! ### Operands -/
def operandL (G : Nat) (l : List (Nat × AV)) : Operand → Option AV
  | .tmp t => look l t
  | .const v => liftV v
  | .global g => bif Nat.blt g G then some (.ptr g 0) else none
  | .func f => some (.fn f [] [])
def operandsL (G : Nat) (l : List (Nat × AV)) : List Operand → Option (List AV)
  | [] => some []
  | x :: xs => match operandL G l x with
    | some v => match operandsL G l xs with
      | some vs => some (v :: vs)
      | none => none
    | none => none
theorem operandL_eq (G : Nat) (l : List (Nat × AV)) (x : Operand) : operandA G (ofL l) x = operandL G l x := by cases x <;> simp only [operandA, operandL, ofL_get]
theorem operandsL_eq (G : Nat) (l : List (Nat × AV)) : ∀ xs, operandsA G (ofL l) xs = operandsL G l xs
  | [] => rfl
  | x :: xs => by
    rw [operandsA, operandsL, operandL_eq, operandsL_eq G l xs]
    cases operandL G l x with
    | none => rfl
    | some v => cases operandsL G l xs <;> rfl

def wantedL (ops : List Oper) (o : Oper) (l : List (Nat × AV)) : Option Bool :=
  match o.guard with
  | none => some true
  | some (j, want) => match (ops[j]?).bind (·.dst) with
    | some d => match look l d with
      | some (.bool b) => some (b == want)
      | some (.tup []) => some false
      | _ => none
    | none => none
theorem wantedL_eq (ops : List Oper) (o : Oper) (l : List (Nat × AV)) : wantedA ops o (ofL l) = wantedL ops o l := by
  unfold wantedA wantedL
  cases o.guard with
  | none => rfl
  | some g =>
    obtain ⟨j, want⟩ := g
    dsimp only
    cases (ops[j]?).bind (·.dst) with
    | none => rfl
    | some d =>
      dsimp only
      rw [ofL_get]
      cases look l d with
      | none => rfl
      | some v =>
        cases v with
        | tup vs => cases vs <;> rfl
        | _ => rfl

/-- An operation that is no call. -/
structure OpE (P : Program) (fl : Nat) (op : Op) (vs : List AV) (m : List (Nat × Option AObj)) (c : Nat) (v : AV) (m' : List (Nat × Option AObj)) (c' : Nat) : Prop where
  kind : isCall op = false
  le : c ≤ c'
  eq : opA P (ofM m) c fl op vs = some (.val v (ofM m') c')

theorem OpE.step {op : Op} {vs : List AV} {v : AV} (h : OpE P fl op vs m c v m' c') (call round : CallFn) : stepA P call round fl op vs (ofM m) c = some (v, ofM m', c') := by
  unfold stepA; rw [h.kind, h.eq]; rfl

variable {Q : AExit → St → Prop} {ops : Array Oper} {o : Oper} {rest : List Oper} {vs : List AV} {v : AV} {d : Nat}

theorem RT.low {st : St} (h : cb ≤ st.c → RT G P fl cb ops rest st Q) : RT G P fl cb ops rest st Q := ⟨fun ρ a w b k K hs hc hK => (h hc).run ρ a w b k K hs hc hK⟩

theorem RT.step_of [hP : PG P G] {call round : CallFn} (hcall : CallOK G P call) (hround : RoundOK G P round) (hw : wantedL ops.toList o l = some true) (hv : operandsL G l (opArgs o.op) = some vs) (hs : stepA P call round fl o.op vs (ofM m) c = some (v, ofM m', c'))
    (hd : o.dst = some d) (hn : Nat.blt d n = true) (hc : c ≤ c') (h : RT G P fl cb ops rest (stL n dfs ((d, v) :: l) m' c') Q) : RT G P fl cb ops (o :: rest) (stL n dfs l m c) Q := by
  refine RT.low fun hcb => RT.cons hcall hround (st2 := stL n dfs ((d, v) :: l) m' c') ?_ (Nat.le_trans hcb hc) h
  unfold sOp
  have h1 : wantedA ops.toList o (stL n dfs l m c).env = some true := by rw [← hw]; exact wantedL_eq _ _ _
  have h2 : operandsA P.globals.size (stL n dfs l m c).env (opArgs o.op) = some vs := by rw [hP.size, ← hv]; exact operandsL_eq _ _ _
  have h3 : stepA P call round fl o.op vs (stL n dfs l m c).H (stL n dfs l m c).c = some (v, ofM m', c') := hs
  simp only [h1, h2, sRun, h3, sDone, putA, hd]
  have h4 : Nat.blt d (stL n dfs l m c).n = true := hn
  rw [h4]
  rfl

/-- An operation in its place. -/
theorem RT.go [PG P G] (hw : wantedL ops.toList o l = some true) (hv : operandsL G l (opArgs o.op) = some vs) (hs : OpE P fl o.op vs m c v m' c')
    (hd : o.dst = some d) (hn : Nat.blt d n = true) (h : RT G P fl cb ops rest (stL n dfs ((d, v) :: l) m' c') Q) : RT G P fl cb ops (o :: rest) (stL n dfs l m c) Q :=
  RT.step_of noCall_ok noRound_ok hw hv (hs.step noCall noCall) hd hn hs.le h

/-- What an operation does, and what is to be shown behind it. -/
structure Nx (P : Program) (fl : Nat) (op : Op) (vs : List AV) (m : List (Nat × Option AObj)) (c : Nat) (K : AV → List (Nat × Option AObj) → Nat → Prop) : Prop where
  ex : ∃ v m' c', OpE P fl op vs m c v m' c' ∧ K v m' c'
theorem Nx.of {op : Op} {K : AV → List (Nat × Option AObj) → Nat → Prop} (h : OpE P fl op vs m c v m' c') (k : K v m' c') : Nx P fl op vs m c K := ⟨⟨v, m', c', h, k⟩⟩
theorem RT.goK [PG P G] (hw : wantedL ops.toList o l = some true) (hv : operandsL G l (opArgs o.op) = some vs) (hd : o.dst = some d) (hn : Nat.blt d n = true)
    (h : Nx P fl o.op vs m c fun v m' c' => RT G P fl cb ops rest (stL n dfs ((d, v) :: l) m' c') Q) : RT G P fl cb ops (o :: rest) (stL n dfs l m c) Q := by
  obtain ⟨v, m', c', h1, h2⟩ := h.ex
  exact RT.go hw hv h1 hd hn h2

/-- An operation without an answer. -/
theorem RT.go0 [hP : PG P G] (hw : wantedL ops.toList o l = some true) (hv : operandsL G l (opArgs o.op) = some vs) (hs : OpE P fl o.op vs m c v m' c')
    (hd : o.dst = none) (h : RT G P fl cb ops rest (stL n dfs l m' c') Q) : RT G P fl cb ops (o :: rest) (stL n dfs l m c) Q := by
  refine RT.low fun hcb => RT.cons noCall_ok noRound_ok (st2 := stL n dfs l m' c') ?_ (Nat.le_trans hcb hs.le) h
  unfold sOp
  have h1 : wantedA ops.toList o (stL n dfs l m c).env = some true := by rw [← hw]; exact wantedL_eq _ _ _
  have h2 : operandsA P.globals.size (stL n dfs l m c).env (opArgs o.op) = some vs := by rw [hP.size, ← hv]; exact operandsL_eq _ _ _
  have h3 : stepA P noCall noCall fl o.op vs (stL n dfs l m c).H (stL n dfs l m c).c = some (v, ofM m', c') := hs.step noCall noCall
  simp only [h1, h2, sRun, h3, sDone, putA, hd]
  rfl

/-- An operation that is left out. -/
theorem RT.no [PG P G] (hw : wantedL ops.toList o l = some false) (hd : o.dst = some d) (hn : Nat.blt d n = true) (h : RT G P fl cb ops rest (stL n dfs ((d, undefA) :: l) m c) Q) : RT G P fl cb ops (o :: rest) (stL n dfs l m c) Q := by
  refine RT.low fun hcb => RT.cons noCall_ok noRound_ok (st2 := stL n dfs ((d, undefA) :: l) m c) ?_ hcb h
  unfold sOp
  have h1 : wantedA ops.toList o (stL n dfs l m c).env = some false := by rw [← hw]; exact wantedL_eq _ _ _
  simp only [h1, putA, hd]
  have h4 : Nat.blt d (stL n dfs l m c).n = true := hn
  rw [h4]
  rfl

/-- A call. -/
theorem RT.call [PG P G] {f : Nat} {first cap args : List AV} (hw : wantedL ops.toList o l = some true) (hk : isCall o.op = true) (hv : operandsL G l (opArgs o.op) = some (.fn f first cap :: args)) (hs : OkAt G P fl f (first ++ args ++ cap) (ofM m) c v (ofM m') c')
    (hd : o.dst = some d) (hn : Nat.blt d n = true) (hc : c ≤ c') (h : RT G P fl cb ops rest (stL n dfs ((d, v) :: l) m' c') Q) : RT G P fl cb ops (o :: rest) (stL n dfs l m c) Q := by
  refine RT.step_of (one_ok hs) noRound_ok hw hv ?_ hd hn hc h
  unfold stepA
  rw [hk]
  exact one_at _ _ _ _ _ _ _ _

theorem RT.goK0 [PG P G] (hw : wantedL ops.toList o l = some true) (hv : operandsL G l (opArgs o.op) = some vs) (hd : o.dst = none)
    (h : Nx P fl o.op vs m c fun _ m' c' => RT G P fl cb ops rest (stL n dfs l m' c') Q) : RT G P fl cb ops (o :: rest) (stL n dfs l m c) Q := by
  obtain ⟨v, m', c', h1, h2⟩ := h.ex
  exact RT.go0 hw hv h1 hd h2

/-! ### Single operations -/
theorem S.move {x : Operand} : OpE P fl (.move x) [v] m c v m c := ⟨rfl, by first | exact Nat.le_refl _, rfl⟩
theorem S.assign {x : Operand} : OpE P fl (.assign x) [v] m c v m c := ⟨rfl, by first | exact Nat.le_refl _, rfl⟩
theorem S.pick_t {a b e : Operand} {q : Bool} {x z : AV} (h : q = true) : OpE P fl (.pick a b e) [.bool q, x, z] m c x m c := by subst h; exact ⟨rfl, by first | exact Nat.le_refl _, rfl⟩
theorem S.pick_f {a b e : Operand} {q : Bool} {x z : AV} (h : q = false) : OpE P fl (.pick a b e) [.bool q, x, z] m c z m c := by subst h; exact ⟨rfl, by first | exact Nat.le_refl _, rfl⟩
theorem S.pick_tt {a b e : Operand} {x z : AV} : OpE P fl (.pick a b e) [.bool true, x, z] m c x m c := S.pick_t rfl
theorem S.pick_ff {a b e : Operand} {x z : AV} : OpE P fl (.pick a b e) [.bool false, x, z] m c z m c := S.pick_f rfl
theorem S.pick_td {a b e : Operand} {p : Prop} {inst : Decidable p} {x z : AV} (h : p) : OpE P fl (.pick a b e) [.bool (@decide p inst), x, z] m c x m c := S.pick_t (decide_eq_true h)
theorem S.pick_fd {a b e : Operand} {p : Prop} {inst : Decidable p} {x z : AV} (h : ¬ p) : OpE P fl (.pick a b e) [.bool (@decide p inst), x, z] m c z m c := S.pick_f (decide_eq_false h)
theorem S.pick_b {a b e : Operand} {q : Bool} {x z : Bool} : OpE P fl (.pick a b e) [.bool q, .bool x, .bool z] m c (.bool (bif q then x else z)) m c := by cases q <;> exact ⟨rfl, by first | exact Nat.le_refl _, rfl⟩
theorem S.box {x : Operand} : OpE P fl (.box t x) [v] m c (.ptr c 0) ((c, some (.cells v.cells)) :: m) (c + 1) := ⟨rfl, by first | exact Nat.le_succ _, rfl⟩
theorem S.alloc [Tab P] (ht : ty P t = some y) : OpE P fl (.alloc t) [] m c (.ptr c 0) ((c, some (.cells y.zero.cells)) :: m) (c + 1) := by
  refine ⟨rfl, by first | exact Nat.le_succ _, ?_⟩
  simp only [opA, oAlloc, ty_zero ht]
  rfl
theorem S.build [Tab P] {ps : Array (Nat × Operand)} {cs : List AV} (ht : ty P t = some y) (hk : y.kind = 3) (hf : fillA (y.places[·]?) y.zero.cells ((ps.toList.map (·.1)).zip vs) = some cs) : OpE P fl (.build t ps) vs m c (.agg cs) m c := by
  refine ⟨rfl, by first | exact Nat.le_refl _, ?_⟩
  obtain ⟨fs, h1, h2, _⟩ := ty_struct ht hk
  simp only [opA, oBuild, buildA, ty_zero ht, h1, h2, Option.bind_some, hf, Option.map_some, opt1]
theorem S.buildA [Tab P] {ps : Array (Nat × Operand)} {cs : List AV} {z : Ty} (ht : ty P t = some y) (hk : y.kind = 4) (he : ty P y.elem = some z) (hf : fillA (fun i => some (i * z.size, z.size)) y.zero.cells ((ps.toList.map (·.1)).zip vs) = some cs) : OpE P fl (.build t ps) vs m c (.agg cs) m c := by
  refine ⟨rfl, by first | exact Nat.le_refl _, ?_⟩
  simp only [opA, oBuild, Ev.buildA, ty_zero ht, ty_array ht hk, ty_size he, Option.bind_some, hf, Option.map_some, opt1]
theorem S.load1 [Tab P] {a : Operand} {x off : Nat} {ob : AObj} {cs : List AV} (ht : ty P t = some y) (hg : y.agg = false) (ho : lookM m x = some ob) (hc : cellsOf ob = some cs) (hv : cs[off]? = some v) : OpE P fl (.load t a) [.ptr x off] m c v m c := by
  refine ⟨rfl, by first | exact Nat.le_refl _, ?_⟩
  have h1 : aggB P t = some false := by rw [ty_agg ht, hg]
  simp only [opA, oLoad, loadA, ofM_get, ho, hc, Option.bind_some, partA, h1, hv]
theorem S.loadN [Tab P] {a : Operand} {x off : Nat} {ob : AObj} {cs vs : List AV} (ht : ty P t = some y) (hg : y.agg = true) (ho : lookM m x = some ob) (hc : cellsOf ob = some cs) (hv : cut cs off y.size = some vs) : OpE P fl (.load t a) [.ptr x off] m c (.agg vs) m c := by
  refine ⟨rfl, by first | exact Nat.le_refl _, ?_⟩
  have h1 : aggB P t = some true := by rw [ty_agg ht, hg]
  simp only [opA, oLoad, loadA, ofM_get, ho, hc, Option.bind_some, partA, h1, ty_size ht, hv, Option.map_some]
theorem S.load1c [Tab P] {a : Operand} {x off : Nat} {cs : List AV} (ht : ty P t = some y) (hg : y.agg = false) (ho : lookM m x = some (.cells cs)) (hv : cs[off]? = some v) : OpE P fl (.load t a) [.ptr x off] m c v m c := S.load1 ht hg ho rfl hv
theorem S.loadNc [Tab P] {a : Operand} {x off : Nat} {cs vs : List AV} (ht : ty P t = some y) (hg : y.agg = true) (ho : lookM m x = some (.cells cs)) (hv : cut cs off y.size = some vs) : OpE P fl (.load t a) [.ptr x off] m c (.agg vs) m c := S.loadN ht hg ho rfl hv
theorem S.store [Tab P] {a b : Operand} {x off : Nat} {cs cs' : List AV} (ht : ty P t = some y) (hf : Nat.ble fl x = true) (h1 : (v.cells.all AV.one) = true) (hl : Nat.beq v.cells.length y.size = true) (ho : lookM m x = some (.cells cs)) (hs : splice cs off v.cells = some cs') :
    OpE P fl (.store t a b) [.ptr x off, v] m c undefA ((x, some (.cells cs')) :: m) c := by
  refine ⟨rfl, by first | exact Nat.le_refl _, ?_⟩
  simp only [opA, oStore, storeA, ty_size ht, hl, cond_true, putCells, hf, h1, Bool.and_self, ofM_get, ho, hs, Option.map_some]
  rfl
theorem S.fieldAddr [Tab P] {a : Operand} {x off f fo fs : Nat} (ht : ty P t = some y) (hk : y.kind = 3) (hp : y.places[f]? = some (fo, fs + 1)) : OpE P fl (.fieldAddr t a f) [.ptr x off] m c (.ptr x (off + fo)) m c := by
  refine ⟨rfl, by first | exact Nat.le_refl _, ?_⟩
  obtain ⟨fields, h1, h2, _⟩ := ty_struct ht hk
  obtain ⟨fd, h3, h4⟩ := mapM_get h2 f _ hp
  simp only [Option.map_eq_some_iff, Prod.mk.injEq] at h4
  obtain ⟨i, h6, h7, h8⟩ := h4
  have h9 : szOf P fd.type = some (fs + 1) := by unfold szOf; rw [h6, ← h8]; rfl
  have h10 : fields[f]? = some fd := by simpa using h3
  simp only [opA, oFieldAddr, fieldAddrA, h1, h10, h9, h7, opt1, Option.map_some]
end
end Go.Ev

/- The operations on numbers, lists and rows, over explicit states. -/
namespace Go.Ev
open Go

section
variable {G : Nat} {P : Program} {fl cb c c' : Nat} {m m' : List (Nat × Option AObj)} {l : List (Nat × AV)} {n : Nat} {dfs : List Nat} {y z : Ty} {t yt : Nat} {x1 x2 x3 : Operand} {a b : Int} {v : AV}


/-! ### Numbers -/
def In64 (a : Int) : Prop := -9223372036854775808 ≤ a ∧ a ≤ 9223372036854775807
theorem wrap_in (h : In64 a) : IntKind.i64.wrap a = a := IntWalk.i64_in _ h

theorem S.add (h : In64 (a + b)) : OpE P fl (.binOp .add t x1 x2 yt) [.int .i64 a, .int .i64 b] m c (.int .i64 (a + b)) m c := by
  refine ⟨rfl, by first | exact Nat.le_refl _, ?_⟩
  show some (ORes.val (.int .i64 (IntKind.i64.wrap (a + b))) (ofM m) c) = _
  rw [wrap_in h]
theorem S.sub (h : In64 (a - b)) : OpE P fl (.binOp .sub t x1 x2 yt) [.int .i64 a, .int .i64 b] m c (.int .i64 (a - b)) m c := by
  refine ⟨rfl, by first | exact Nat.le_refl _, ?_⟩
  show some (ORes.val (.int .i64 (IntKind.i64.wrap (a - b))) (ofM m) c) = _
  rw [wrap_in h]
theorem S.mul (h : In64 (a * b)) : OpE P fl (.binOp .mul t x1 x2 yt) [.int .i64 a, .int .i64 b] m c (.int .i64 (a * b)) m c := by
  refine ⟨rfl, by first | exact Nat.le_refl _, ?_⟩
  show some (ORes.val (.int .i64 (IntKind.i64.wrap (a * b))) (ofM m) c) = _
  rw [wrap_in h]
theorem S.add_one {i : Nat} (h : i < 9223372036854775807) : OpE P fl (.binOp .add t x1 x2 yt) [.int .i64 (i : Int), .int .i64 1] m c (.int .i64 ((i + 1 : Nat) : Int)) m c := by
  have := S.add (P := P) (fl := fl) (m := m) (c := c) (t := t) (yt := yt) (x1 := x1) (x2 := x2) (a := (i : Int)) (b := 1) (by unfold In64; omega)
  rwa [show ((i : Int) + 1) = ((i + 1 : Nat) : Int) by omega] at this
theorem S.sub_one {i : Nat} (h : 1 ≤ i) (h2 : i ≤ 9223372036854775807) : OpE P fl (.binOp .sub t x1 x2 yt) [.int .i64 (i : Int), .int .i64 1] m c (.int .i64 ((i - 1 : Nat) : Int)) m c := by
  have := S.sub (P := P) (fl := fl) (m := m) (c := c) (t := t) (yt := yt) (x1 := x1) (x2 := x2) (a := (i : Int)) (b := 1) (by unfold In64; omega)
  rwa [show ((i : Int) - 1) = ((i - 1 : Nat) : Int) by omega] at this
theorem S.add_w : OpE P fl (.binOp .add t x1 x2 yt) [.int .i64 a, .int .i64 b] m c (.int .i64 (IntKind.i64.wrap (a + b))) m c := ⟨rfl, by first | exact Nat.le_refl _, rfl⟩
theorem S.sub_w : OpE P fl (.binOp .sub t x1 x2 yt) [.int .i64 a, .int .i64 b] m c (.int .i64 (IntKind.i64.wrap (a - b))) m c := ⟨rfl, by first | exact Nat.le_refl _, rfl⟩
theorem S.mul_w : OpE P fl (.binOp .mul t x1 x2 yt) [.int .i64 a, .int .i64 b] m c (.int .i64 (IntKind.i64.wrap (a * b))) m c := ⟨rfl, by first | exact Nat.le_refl _, rfl⟩
theorem S.rem (h : b ≠ 0) : OpE P fl (.binOp .rem t x1 x2 yt) [.int .i64 a, .int .i64 b] m c (.int .i64 (a.tmod b)) m c := by
  refine ⟨rfl, by first | exact Nat.le_refl _, ?_⟩
  show opt1 (bif b == 0 then none else some (AV.int .i64 (a.tmod b))) (ofM m) c = _
  rw [show (b == 0) = false by simpa using h]; rfl
theorem S.lss : OpE P fl (.binOp .lss t x1 x2 yt) [.int .i64 a, .int .i64 b] m c (.bool (decide (a < b))) m c := ⟨rfl, by first | exact Nat.le_refl _, rfl⟩
theorem S.leq : OpE P fl (.binOp .leq t x1 x2 yt) [.int .i64 a, .int .i64 b] m c (.bool (decide (a ≤ b))) m c := ⟨rfl, by first | exact Nat.le_refl _, rfl⟩
theorem S.gtr : OpE P fl (.binOp .gtr t x1 x2 yt) [.int .i64 a, .int .i64 b] m c (.bool (decide (b < a))) m c := ⟨rfl, by first | exact Nat.le_refl _, rfl⟩
theorem S.geq : OpE P fl (.binOp .geq t x1 x2 yt) [.int .i64 a, .int .i64 b] m c (.bool (decide (b ≤ a))) m c := ⟨rfl, by first | exact Nat.le_refl _, rfl⟩
theorem S.eql : OpE P fl (.binOp .eql t x1 x2 yt) [.int .i64 a, .int .i64 b] m c (.bool (decide (a = b))) m c := ⟨rfl, by first | exact Nat.le_refl _, rfl⟩
theorem S.neq : OpE P fl (.binOp .neq t x1 x2 yt) [.int .i64 a, .int .i64 b] m c (.bool (decide (a ≠ b))) m c := by
  refine ⟨rfl, by first | exact Nat.le_refl _, ?_⟩
  show some (ORes.val (.bool (a != b)) (ofM m) c) = _
  rw [show (a != b) = decide (a ≠ b) by by_cases h : a = b <;> simp [h]]
theorem S.not_d {p : Prop} {inst : Decidable p} : OpE P fl (.unOp .not t x1) [.bool (@decide p inst)] m c (.bool (decide (¬ p))) m c := by
  refine ⟨rfl, by first | exact Nat.le_refl _, ?_⟩
  show some (ORes.val (.bool (!decide p)) (ofM m) c) = _
  rw [decide_not]
theorem S.not_t : OpE P fl (.unOp .not t x1) [.bool true] m c (.bool false) m c := ⟨rfl, by first | exact Nat.le_refl _, rfl⟩
theorem S.not_f : OpE P fl (.unOp .not t x1) [.bool false] m c (.bool true) m c := ⟨rfl, by first | exact Nat.le_refl _, rfl⟩
theorem S.min2 {ats : Array Nat} : OpE P fl (.call ⟨.builtin .min, #[x1, x2], ats⟩) [.int .i64 a, .int .i64 b] m c (.int .i64 (min a b)) m c := by
  refine ⟨rfl, by first | exact Nat.le_refl _, ?_⟩
  have e : min a b = if b < a then b else a := by
    simp only [Int.min_def]; split <;> split <;> omega
  simp only [opA, oCall, builtinA, minmaxA, opt1, e, cond_false]
  cases ats.toList <;> rfl
theorem S.max2 {ats : Array Nat} : OpE P fl (.call ⟨.builtin .max, #[x1, x2], ats⟩) [.int .i64 a, .int .i64 b] m c (.int .i64 (max a b)) m c := by
  refine ⟨rfl, by first | exact Nat.le_refl _, ?_⟩
  have e : max a b = if b > a then b else a := by
    simp only [Int.max_def, gt_iff_lt]; split <;> split <;> omega
  simp only [opA, oCall, builtinA, minmaxA, opt1, e, cond_true]
  cases ats.toList <;> rfl
theorem S.extract {k : Nat} {vs : List AV} (h : vs[k]? = some v) : OpE P fl (.extract x1 k) [.tup vs] m c v m c := by
  refine ⟨rfl, by first | exact Nat.le_refl _, ?_⟩
  simp only [opA, oExtract, h, opt1, Option.map_some]
theorem S.makeFunc {f : Nat} {first cap : Array Operand} {vs : List AV} : OpE P fl (.makeFunc (.func f) first cap) vs m c (.fn f (vs.take first.size) (vs.drop first.size)) m c := ⟨rfl, by first | exact Nat.le_refl _, rfl⟩
theorem S.makeMap : OpE P fl (.makeMap t none) [] m c (.map c) ((c, some (.map [])) :: m) (c + 1) := ⟨rfl, by first | exact Nat.le_succ _, rfl⟩
theorem S.nilCheck {x off : Nat} : OpE P fl (.nilCheck x1) [.ptr x off] m c (.ptr x off) m c := ⟨rfl, by first | exact Nat.le_refl _, rfl⟩
/-! ### Rows -/
/-- The cells of rows. -/
def flat {τ : Type} (enc : τ → List Int) (L : List τ) : List AV := (L.map fun e => (enc e).map (AV.int .i64)).flatten

theorem flat_drop {τ : Type} {enc : τ → List Int} {s : Nat} (hs : ∀ e, (enc e).length = s) : ∀ {L : List τ} {i : Nat} {e : τ}, L[i]? = some e → ∃ rest, (flat enc L).drop (i * s) = (enc e).map (AV.int .i64) ++ rest
  | [], i, e, h => by simp at h
  | d :: L, 0, e, h => by
    simp only [List.getElem?_cons_zero, Option.some.injEq] at h
    subst h
    exact ⟨flat enc L, by simp [flat]⟩
  | d :: L, i + 1, e, h => by
    obtain ⟨rest, hr⟩ := flat_drop hs (show L[i]? = some e by simpa using h)
    refine ⟨rest, ?_⟩
    rw [← hr]
    have h1 : flat enc (d :: L) = (enc d).map (AV.int .i64) ++ flat enc L := by simp [flat]
    have h2 : (i + 1) * s = ((enc d).map (AV.int .i64)).length + i * s := by rw [List.length_map, hs, Nat.succ_mul]; omega
    rw [h1, h2, List.drop_append]
    simp

theorem flat_cut {τ : Type} {enc : τ → List Int} {s : Nat} (hs : ∀ e, (enc e).length = s) {L : List τ} {i j k : Nat} {e : τ} (h : L[i]? = some e) (hj : j + k ≤ s) : cut (flat enc L) (i * s + j) k = some ((((enc e).drop j).take k).map (AV.int .i64)) := by
  obtain ⟨rest, hr⟩ := flat_drop hs h
  have h1 : (flat enc L).drop (i * s + j) = ((enc e).drop j).map (AV.int .i64) ++ rest := by
    rw [← List.drop_drop, hr, List.drop_append_of_le_length (by rw [List.length_map, hs]; omega), List.map_drop]
  have h2 : ((flat enc L).drop (i * s + j)).take k = (((enc e).drop j).take k).map (AV.int .i64) := by
    rw [h1, List.take_append_of_le_length (by rw [List.length_map, List.length_drop, hs]; omega), List.map_take]
  unfold cut
  rw [h2]
  have h3 : ((((enc e).drop j).take k).map (AV.int .i64)).length = k := by rw [List.length_map, List.length_take, List.length_drop, hs]; omega
  show (bif Nat.beq ((((enc e).drop j).take k).map (AV.int .i64)).length k then some _ else none) = _
  rw [h3]
  simp

theorem flat_at {τ : Type} {enc : τ → List Int} {s : Nat} (hs : ∀ e, (enc e).length = s) {L : List τ} {i j : Nat} {e : τ} {a : Int} (h : L[i]? = some e) (hj : (enc e)[j]? = some a) : (flat enc L)[i * s + j]? = some (.int .i64 a) := by
  obtain ⟨rest, hr⟩ := flat_drop hs h
  have hlt : j < (enc e).length := (List.getElem?_eq_some_iff.1 hj).1
  have h1 : (flat enc L)[i * s + j]? = ((flat enc L).drop (i * s))[j]? := by rw [List.getElem?_drop]
  rw [h1, hr, List.getElem?_append_left (by rw [List.length_map]; exact hlt), List.getElem?_map, hj]
  rfl

/-- A slice of so many elements, which begins at a name; or none. -/
def IsSl (v : AV) (n x : Nat) : Prop := v = .gs x n ∨ (v = .nils ∧ n = 0)
theorem IsSl.gs (x n : Nat) : IsSl (.gs x n) n x := .inl rfl
theorem IsSl.nils (x : Nat) : IsSl .nils 0 x := .inr ⟨rfl, rfl⟩
theorem IsSl.ren {v : AV} {n x : Nat} (h : IsSl v n x) {σ : Nat → Nat} (hx : σ x = x) : v.ren σ = v := by
  rcases h with rfl | ⟨rfl, _⟩
  · simp only [AV.ren, hx]
  · rfl
theorem IsSl.one {v : AV} {n x : Nat} (h : IsSl v n x) : v.one = true ∧ v.cells = [v] := by
  rcases h with rfl | ⟨rfl, _⟩ <;> exact ⟨rfl, rfl⟩

theorem S.len_sl [Tab P] {ats : Array Nat} {k x : Nat} (ht : ats.toList.head? = some t) (hy : ty P t = some y) (hk : y.kind = 5) (h : IsSl v k x) : OpE P fl (.call ⟨.builtin .len, #[x1], ats⟩) [v] m c (.int .i64 k) m c := by
  refine ⟨rfl, by first | exact Nat.le_refl _, ?_⟩
  obtain ⟨ts, hts⟩ : ∃ ts, ats.toList = t :: ts := by
    cases hh : ats.toList with
    | nil => rw [hh] at ht; cases ht
    | cons a ags => rw [hh] at ht; cases ht; exact ⟨ags, rfl⟩
  simp only [opA, oCall, builtinA, hts, lenA, ty_slice hy hk]
  rcases h with rfl | ⟨rfl, rfl⟩ <;> rfl
theorem S.len_sl4 [Tab P] {ats : Array Nat} {x off k cp : Nat} (ht : ats.toList.head? = some t) (hy : ty P t = some y) (hk : y.kind = 5) : OpE P fl (.call ⟨.builtin .len, #[x1], ats⟩) [.sl x off k cp] m c (.int .i64 k) m c := by
  refine ⟨rfl, by first | exact Nat.le_refl _, ?_⟩
  obtain ⟨ts, hts⟩ : ∃ ts, ats.toList = t :: ts := by
    cases hh : ats.toList with
    | nil => rw [hh] at ht; cases ht
    | cons a ags => rw [hh] at ht; cases ht; exact ⟨ags, rfl⟩
  simp only [opA, oCall, builtinA, hts, lenA, ty_slice hy hk]
  rfl
theorem natOf_nat {k : IntKind} (i : Nat) : natOf (.int k (i : Int)) = some i := by simp [natOf]

theorem S.idx_sl [Tab P] {i k x : Nat} (hy : ty P t = some y) (hk : y.kind = 5) (hz : ty P y.elem = some z) (h : IsSl v k x) (hi : i < k) : OpE P fl (.indexAddr t x1 x2) [v, .int .i64 (i : Int)] m c (.ptr x (i * z.size)) m c := by
  refine ⟨rfl, by first | exact Nat.le_refl _, ?_⟩
  rcases h with rfl | ⟨rfl, rfl⟩
  · have h1 : Nat.blt i k = true := by simpa using hi
    simp only [opA, oIndexAddr, indexAddrA, natOf_nat, ty_slice hy hk, ty_size hz, h1, cond_true, Option.map_some, opt1]
  · omega
theorem S.idx_slI [Tab P] {i : Int} {k x : Nat} (hy : ty P t = some y) (hk : y.kind = 5) (hz : ty P y.elem = some z) (h : IsSl v k x) (h0 : 0 ≤ i) (hi : i < k) : OpE P fl (.indexAddr t x1 x2) [v, .int .i64 i] m c (.ptr x (i.toNat * z.size)) m c := by
  obtain ⟨j, rfl⟩ : ∃ j : Nat, i = j := ⟨i.toNat, by omega⟩
  exact S.idx_sl hy hk hz h (by omega)
theorem S.idx_arr [Tab P] {i x off : Nat} (hy : ty P t = some y) (hk : y.kind = 4) (hz : ty P y.elem = some z) (hi : i < y.len) : OpE P fl (.indexAddr t x1 x2) [.ptr x off, .int .i64 (i : Int)] m c (.ptr x (off + i * z.size)) m c := by
  refine ⟨rfl, by first | exact Nat.le_refl _, ?_⟩
  have h1 : Nat.blt i y.len = true := by simpa using hi
  simp only [opA, oIndexAddr, indexAddrA, natOf_nat, ty_array hy hk, ty_size hz, h1, cond_true, Option.map_some, opt1]
/-- An element of an array that is at hand, by a number below its length. -/
theorem S.index_arr [Tab P] {i : Nat} {cs : List AV} (hy : ty P t = some y) (hk : y.kind = 4) (hz : ty P y.elem = some z) (hg : z.agg = false) (hi : i < y.len) (hv : cs[i * z.size]? = some v) : OpE P fl (.index t x1 x2) [.agg cs, .int .i64 (i : Int)] m c v m c := by
  refine ⟨rfl, by first | exact Nat.le_refl _, ?_⟩
  have h1 : Nat.blt i y.len = true := by simpa using hi
  have h2 : aggB P y.elem = some false := by rw [ty_agg hz, hg]
  simp only [opA, oIndex, indexA, natOf_nat, ty_array hy hk, ty_size hz, h1, cond_true, Option.bind_some, partA, h2, hv, Option.map_some, opt1]

/-! A load out of rows: at the row's beginning, at a field, at a field of a field. -/
theorem S.row [Tab P] {τ : Type} {enc : τ → List Int} {L : List τ} {s i j x : Nat} {e : τ} (hy : ty P t = some y) (hg : y.agg = false) (ho : lookM m x = some (.ro (flat enc L))) (hs : ∀ e, (enc e).length = s) (hi : L[i]? = some e) (hj : (enc e)[j]? = some a) :
    OpE P fl (.load t x1) [.ptr x (i * s + j)] m c (.int .i64 a) m c := S.load1 hy hg ho rfl (flat_at hs hi hj)
theorem S.row0 [Tab P] {τ : Type} {enc : τ → List Int} {L : List τ} {s i x : Nat} {e : τ} (hy : ty P t = some y) (hg : y.agg = false) (ho : lookM m x = some (.ro (flat enc L))) (hs : ∀ e, (enc e).length = s) (hi : L[i]? = some e) (hj : (enc e)[0]? = some a) :
    OpE P fl (.load t x1) [.ptr x (i * s)] m c (.int .i64 a) m c := S.row hy hg ho hs hi hj
theorem S.row2 [Tab P] {τ : Type} {enc : τ → List Int} {L : List τ} {s i j k x : Nat} {e : τ} (hy : ty P t = some y) (hg : y.agg = false) (ho : lookM m x = some (.ro (flat enc L))) (hs : ∀ e, (enc e).length = s) (hi : L[i]? = some e) (hj : (enc e)[j + k]? = some a) :
    OpE P fl (.load t x1) [.ptr x (i * s + j + k)] m c (.int .i64 a) m c := by rw [Nat.add_assoc]; exact S.row hy hg ho hs hi hj
theorem S.rowN [Tab P] {τ : Type} {enc : τ → List Int} {L : List τ} {s i j x : Nat} {e : τ} (hy : ty P t = some y) (hg : y.agg = true) (ho : lookM m x = some (.ro (flat enc L))) (hs : ∀ e, (enc e).length = s) (hi : L[i]? = some e) (hj : Nat.ble (j + y.size) s = true) :
    OpE P fl (.load t x1) [.ptr x (i * s + j)] m c (.agg ((((enc e).drop j).take y.size).map (AV.int .i64))) m c := S.loadN hy hg ho rfl (flat_cut hs hi (Nat.le_of_ble_eq_true hj))
theorem S.rowN0 [Tab P] {τ : Type} {enc : τ → List Int} {L : List τ} {s i x : Nat} {e : τ} (hy : ty P t = some y) (hg : y.agg = true) (ho : lookM m x = some (.ro (flat enc L))) (hs : ∀ e, (enc e).length = s) (hi : L[i]? = some e) (hj : Nat.ble (0 + y.size) s = true) :
    OpE P fl (.load t x1) [.ptr x (i * s)] m c (.agg ((((enc e).drop 0).take y.size).map (AV.int .i64))) m c := S.rowN hy hg ho hs hi hj

theorem range_at {i n : Nat} (h : i < n) : (List.range n)[i]? = some i := by simp [List.getElem?_range, h]
end
end Go.Ev

/- Steps over code, for a script. -/
namespace Go.Ev
open Go

section
variable {G : Nat} {P : Program} {fl cb c c' : Nat} {m m' : List (Nat × Option AObj)} {l : List (Nat × AV)} {n : Nat} {dfs : List Nat} {r : Option Nat} {code x y : Code} {st : St} {Q : AExit → St → Prop} {ops : Array Oper} {o : Oper} {rest : List Oper}

theorem sq_n (h : Tr G P fl cb r y st Q) : sq G P fl cb r y Q .normal st := ⟨h⟩
theorem sq_r (h : Q .ret st) : sq G P fl cb r y Q .ret st := ⟨h⟩
theorem sq_x {id : Nat} (h : Q (.exit id) st) : sq G P fl cb r y Q (.exit id) st := ⟨h⟩
theorem blk_n {id : Nat} (h : Q .normal st) : blk id Q .normal st := ⟨h⟩
theorem blk_r {id : Nat} (h : Q .ret st) : blk id Q .ret st := ⟨h⟩
theorem blk_hit {id id' : Nat} (e : Nat.beq id' id = true) (h : Q .normal st) : blk id Q (.exit id') st := ⟨by show (bif Nat.beq id' id then Q .normal st else Q (.exit id') st); rw [e]; exact h⟩
theorem blk_pass {id id' : Nat} (e : Nat.beq id' id = false) (h : Q (.exit id') st) : blk id Q (.exit id') st := ⟨by show (bif Nat.beq id' id then Q .normal st else Q (.exit id') st); rw [e]; exact h⟩
theorem scp_n (h : Q .normal st) : scp Q .normal st := ⟨h⟩
theorem scp_r (h : Q .ret st) : scp Q .ret st := ⟨h⟩
theorem scp_x {id : Nat} (h : Q (.exit id) st) : scp Q (.exit id) st := ⟨h⟩
theorem lp_r {α : Type} {S : α → St} {I : α → Prop} {μ : α → Nat} {i : α} (h : Q .ret st) : lpQ G fl cb S I μ i Q .ret st := ⟨h⟩
theorem lp_x {α : Type} {S : α → St} {I : α → Prop} {μ : α → Nat} {i : α} {id : Nat} (h : Q (.exit id) st) : lpQ G fl cb S I μ i Q (.exit id) st := ⟨h⟩
theorem lp_n {α : Type} {S : α → St} {I : α → Prop} {μ : α → Nat} {i : α} (j : α) (h1 : I j) (h2 : μ j < μ i) (h3 : Wk G fl cb st (S j)) : lpQ G fl cb S I μ i Q .normal st := ⟨⟨j, h1, h2, h3⟩⟩

/-- The temporary that decides on an operation. -/
def gtmp (ops : List Oper) (o : Oper) : Option Nat :=
  match o.guard with
  | none => none
  | some (j, _) => (ops[j]?).bind (·.dst)

theorem RT.env {l' : List (Nat × AV)} (h : ∀ t, look l' t = look l t) (k : RT G P fl cb ops rest (stL n dfs l' m c) Q) : RT G P fl cb ops rest (stL n dfs l m c) Q := by
  refine ⟨fun ρ a w b j K hs hc hK => k.run ρ a w b j K ⟨⟨hs.env.1, fun t v ht => hs.env.2 t v ?_⟩, hs.mem, hs.dfs⟩ hc hK⟩
  show (ofL l).get t = _
  rw [ofL_get, ← h]
  have : (ofL l').get t = some v := ht
  rwa [ofL_get] at this

theorem look_put {d0 : Nat} {v v' : AV} (hv : look l d0 = some v') (e : v' = v) (t : Nat) : look ((d0, v) :: l) t = look l t := by
  rw [look, Bool.cond_eq_ite]
  split
  · rename_i h
    have : t = d0 := by simpa using h
    rw [this, hv, e]
  · rfl

/-- Whether an operation is carried out hangs on a question. -/
theorem RT.splitd {d0 : Nat} {p : Prop} {inst : Decidable p} (hg : gtmp ops.toList o = some d0) (hv : look l d0 = some (.bool (@decide p inst))) (h1 : p → RT G P fl cb ops (o :: rest) (stL n dfs ((d0, .bool true) :: l) m c) Q) (h2 : ¬ p → RT G P fl cb ops (o :: rest) (stL n dfs ((d0, .bool false) :: l) m c) Q) :
    RT G P fl cb ops (o :: rest) (stL n dfs l m c) Q := by
  by_cases hp : p
  · exact RT.env (look_put hv (by rw [decide_eq_true hp])) (h1 hp)
  · exact RT.env (look_put hv (by rw [decide_eq_false hp])) (h2 hp)

/-- A loop over explicit states, renamed by a list of names. -/
def allL (f : Nat → AV → Prop) : List (Nat × AV) → Prop
  | [] => True
  | (t, v) :: l => f t v ∧ allL f l
theorem allL_look {f : Nat → AV → Prop} : ∀ {l : List (Nat × AV)}, allL f l → ∀ t v, look l t = some v → f t v
  | [], _, t, v, h => by cases h
  | (d, u) :: l, ha, t, v, h => by
    rw [look, Bool.cond_eq_ite] at h
    split at h
    · rename_i e
      have e' : t = d := by simpa using e
      cases h
      rw [e']; exact ha.1
    · exact allL_look ha.2 t v h
def allM (f : Nat → AObj → Prop) : List (Nat × Option AObj) → Prop
  | [] => True
  | (t, some v) :: l => f t v ∧ allM f l
  | (_, none) :: l => allM f l
theorem allM_look {f : Nat → AObj → Prop} : ∀ {l : List (Nat × Option AObj)}, allM f l → ∀ t v, lookM l t = some v → f t v
  | [], _, t, v, h => by cases h
  | (d, some u) :: l, ha, t, v, h => by
    rw [lookM, Bool.cond_eq_ite] at h
    split at h
    · rename_i e
      have e' : t = d := by simpa using e
      cases h
      rw [e']; exact ha.1
    · exact allM_look ha.2 t v h
  | (d, none) :: l, ha, t, v, h => by
    rw [lookM, Bool.cond_eq_ite] at h
    split at h
    · cases h
    · exact allM_look (l := l) ha t v h

/-- Names below a bound stay, others are none. -/
def nm (c2 c x : Nat) : Nat := if x < c2 then x else c + x
theorem nm_lt {c2 c x : Nat} (h : x < c2) : nm c2 c x = x := if_pos h
theorem nm_ge {c2 c x : Nat} (h : c2 ≤ x) : nm c2 c x = c + x := if_neg (by omega)

/-- The same names; the rest is forgotten. -/
theorem Wk.same {l2 : List (Nat × AV)} {m2 : List (Nat × Option AObj)} {c2 : Nat} (hc2 : c2 ≤ c) (hcb : cb ≤ c2) (hG : G ≤ cb) (hf : fl ≤ cb)
    (hl : allL (fun t v => look l t = some v ∧ v.ren (nm c2 c) = v) l2) (hm : allM (fun x o => lookM m x = some o ∧ o.ren (nm c2 c) = o ∧ x < c2) m2) (hd : dfs.map (nm c2 c) = dfs) :
    Wk G fl cb (stL n dfs l m c) (stL n dfs l2 m2 c2) := by
  refine ⟨⟨nm c2 c, fun t v ht => ?_, rfl, hd.symm, fun x o hx => ?_, fun x y o o' hx hy hxy => ?_, fun x hx => ?_, fun x hx => nm_lt (by omega), fun x hx => ?_⟩, hcb, hG, hf⟩
  · have h1 : look l2 t = some v := by rw [← ofL_get]; exact ht
    obtain ⟨h2, h3⟩ := allL_look hl t v h1
    show (ofL l).get t = _
    rw [ofL_get, h2, h3]
  · have h1 : lookM m2 x = some o := by rw [← ofM_get]; exact hx
    obtain ⟨h2, h3, h4⟩ := allM_look hm x o h1
    show (ofM m).get _ = _
    rw [ofM_get, nm_lt h4, h2, h3]
  · have h1 : lookM m2 x = some o := by rw [← ofM_get]; exact hx
    have h2 : lookM m2 y = some o' := by rw [← ofM_get]; exact hy
    rw [nm_lt (allM_look hm x o h1).2.2, nm_lt (allM_look hm y o' h2).2.2]
    exact .inl hxy
  · have hx' : c2 ≤ x := hx
    show c ≤ _
    rw [nm_ge hx']; omega
  · rcases Nat.lt_or_ge x c2 with h | h
    · rw [nm_lt h]; exact hx
    · rw [nm_ge h]; omega
end
end Go.Ev

/- Entries of calls. -/
namespace Go.Ev
open Go

theorem Entry.plain {H : T AObj} {c : Nat} {args : List AV} (hp : Pls args) : Entry 0 H c args [] 0 args := by
  intro ρ w us hH hv
  refine ⟨fun _ => none, ⟨fun x o hx => by simp [ofM] at hx, fun x y o o' p q hxy hx => by simp [ofM] at hx, fun _ _ => rfl, fun x p hp => (by cases hp), fun g hg => by omega⟩, ?_⟩
  have h2 := (VRs_ren ρ (fun x => c + x) args us).1 (by rw [hp]; exact hv)
  have : (fun x => ρ (c + x)) = (fun _ => none) := by funext x; exact hH.fresh _ (by omega)
  rwa [this] at h2

theorem bool_no {p : Prop} {inst : Decidable p} (h : ¬ p) : AV.bool false = .bool (@decide p inst) := by rw [decide_eq_false h]
theorem bool_yes {p : Prop} {inst : Decidable p} (h : p) : AV.bool true = .bool (@decide p inst) := by rw [decide_eq_true h]

theorem rens_append (σ : Nat → Nat) : ∀ l l' : List AV, AV.rens σ (l ++ l') = AV.rens σ l ++ AV.rens σ l'
  | [], _ => rfl
  | v :: l, l' => by simp only [List.cons_append, AV.rens, rens_append σ l l']
theorem rens_ints (σ : Nat → Nat) : ∀ l : List Int, AV.rens σ (l.map (AV.int .i64)) = l.map (AV.int .i64)
  | [] => rfl
  | a :: l => by simp only [List.map_cons, AV.rens, AV.ren, rens_ints σ l]
theorem rens_flat {τ : Type} (enc : τ → List Int) (σ : Nat → Nat) : ∀ L : List τ, AV.rens σ (flat enc L) = flat enc L
  | [] => rfl
  | e :: L => by
    have h : flat enc (e :: L) = (enc e).map (AV.int .i64) ++ flat enc L := by simp [flat]
    rw [h, rens_append, rens_ints, rens_flat enc σ L]
theorem ren_ro {τ : Type} (enc : τ → List Int) (σ : Nat → Nat) (L : List τ) : (AObj.ro (flat enc L)).ren σ = .ro (flat enc L) := by simp only [AObj.ren, rens_flat]
theorem ren_grown {τ : Type} (enc : τ → List Int) (σ : Nat → Nat) (L : List τ) (s : Nat) : (AObj.grown (flat enc L) s).ren σ = .grown (flat enc L) s := by simp only [AObj.ren, rens_flat]

/-- The same names, by lists. -/
theorem Entry.nm {G : Nat} {m m0 : List (Nat × Option AObj)} {c c0 : Nat} {args : List AV} (hc : c0 ≤ c) (hG : G ≤ c0) (hm : allM (fun x o => lookM m x = some o ∧ o.ren (nm c0 c) = o ∧ x < c0) m0) (ha : AV.rens (nm c0 c) args = args) : Entry G (ofM m) c args m0 c0 args :=
  .same hc hG (fun y o h => by
    obtain ⟨h1, h2, h3⟩ := allM_look hm y o h
    rw [h1]
    exact congrArg some h2.symm) (fun y o h => (allM_look hm y o h).2.2) ha
end Go.Ev

/- Regions whose order is open, over explicit states. -/
namespace Go.Ev
open Go

mutual
/-- A value that is the same as itself, as it is asked. -/
def rfV : AV → Bool
  | .gv _ _ _ => false
  | .fn _ a b => rfVs a && rfVs b
  | .agg l => rfVs l
  | .tup l => rfVs l
  | _ => true
def rfVs : List AV → Bool
  | [] => true
  | v :: l => rfV v && rfVs l
end
mutual
theorem eqB_rf : ∀ v : AV, rfV v = true → AV.eqB v v = true
  | .bool _, _ | .nilp, _ | .nils, _ | .nilm, _ | .nilf, _ => by simp [AV.eqB]
  | .int _ _, _ => by simp [AV.eqB]
  | .str _, _ => by simp [AV.eqB]
  | .ptr _ _, _ | .sl _ _ _ _, _ | .gs _ _, _ | .map _, _ | .yld _, _ => by simp [AV.eqB]
  | .gv _ _ _, h => by simp [rfV] at h
  | .fn _ a b, h => by
    simp only [rfV, Bool.and_eq_true] at h
    simp [AV.eqB, eqBs_rf a h.1, eqBs_rf b h.2]
  | .agg l, h => by simp only [rfV] at h; simp [AV.eqB, eqBs_rf l h]
  | .tup l, h => by simp only [rfV] at h; simp [AV.eqB, eqBs_rf l h]
theorem eqBs_rf : ∀ l : List AV, rfVs l = true → AV.eqBs l l = true
  | [], _ => rfl
  | v :: l, h => by
    simp only [rfVs, Bool.and_eq_true] at h
    simp [AV.eqBs, eqB_rf v h.1, eqBs_rf l h.2]
end
theorem eqI_rf (n : Int) : eqI n n = true := by cases n <;> simp [eqI]
theorem same_rf (v : AV) (h : rfV v = true) : AV.same v v = true := by
  cases v <;> first | (simp [AV.same, eqI_rf]; done) | (rename_i b; cases b <;> rfl) | exact eqB_rf _ h
theorem sames_rf : ∀ l : List AV, rfVs l = true → sames l l = true
  | [], _ => rfl
  | v :: l, h => by
    simp only [rfVs, Bool.and_eq_true] at h
    show (Bool.rec (motive := fun _ => Bool) false (sames l l) (AV.same v v)) = true
    rw [same_rf v h.1]
    exact sames_rf l h.2
theorem eqBes_rf : ∀ l : List (AV × AV), (l.all fun p => rfV p.1 && rfV p.2) = true → eqBes l l = true
  | [], _ => rfl
  | (a, b) :: l, h => by
    simp only [List.all_cons, Bool.and_eq_true] at h
    simp [eqBes, eqB_rf a h.1.1, eqB_rf b h.1.2, eqBes_rf l (by simpa using h.2)]

def rfO : AObj → Bool
  | .cells cs => rfVs cs
  | .grown cs _ => rfVs cs
  | .ro cs => rfVs cs
  | .tip cs _ => rfVs cs
  | .map es => es.all fun p => rfV p.1 && rfV p.2
  | _ => false
theorem sameO_rf (o : AObj) (h : rfO o = true) : AObj.same o o = true := by
  cases o with
  | cells cs => exact sames_rf cs h
  | grown cs s => simp only [AObj.same, Bool.and_eq_true]; exact ⟨sames_rf cs h, by simp⟩
  | ro cs => exact sames_rf cs h
  | tip cs s => simp only [AObj.same, Bool.and_eq_true]; exact ⟨sames_rf cs h, by simp⟩
  | map es => exact eqBes_rf es h
  | loop => cases h
  | dfr => cases h
  | dfrDone => cases h
theorem rfVs_append : ∀ l l' : List AV, rfVs (l ++ l') = (rfVs l && rfVs l')
  | [], _ => rfl
  | v :: l, l' => by simp [rfVs, rfVs_append l l', Bool.and_assoc]
theorem rfVs_ints : ∀ l : List Int, rfVs (l.map (AV.int .i64)) = true
  | [] => rfl
  | a :: l => by simp [rfVs, rfV, rfVs_ints l]
theorem rfVs_flat {τ : Type} (enc : τ → List Int) : ∀ L : List τ, rfVs (flat enc L) = true
  | [] => rfl
  | e :: L => by
    have h : flat enc (e :: L) = (enc e).map (AV.int .i64) ++ flat enc L := by simp [flat]
    rw [h, rfVs_append, rfVs_ints, rfVs_flat enc L]; rfl

theorem same_get {H H' : T AObj} {x : Nat} {o : AObj} (h : H.get x = some o) (h' : H'.get x = some o) (ho : rfO o = true) : sameO H H' x = true := by
  unfold sameO; rw [h, h']; exact sameO_rf o ho

section
variable {G : Nat} {P : Program} {fl cb c c' : Nat} {m m' : List (Nat × Option AObj)} {l : List (Nat × AV)} {n : Nat} {dfs : List Nat} {r : Option Nat} {Q : AExit → St → Prop} {o : Oper} {call round : CallFn} {ops : List Oper} {is : List OpI} {rs us : List Rec} {un : List Nat} {wd : Bool} {vs : List AV} {v : AV} {d : Nat} {K : St → Prop}

/-- The records of some operations; the last one stands first. -/
def recL (rs : List Rec) : List Nat → Option (List Rec)
  | [] => some []
  | i :: is => bif Nat.blt i rs.length then (match rs[rs.length - 1 - i]? with
    | some r => match recL rs is with
      | some us => some (r :: us)
      | none => none
    | none => none) else none
theorem recL_ok {rs : List Rec} : ∀ {un : List Nat} {us : List Rec}, recL rs un = some us → recsAt rs.reverse un = some us
  | [], us, h => by simp only [recL, Option.some.injEq] at h; subst h; rfl
  | i :: is, us, h => by
    simp only [recL, Bool.cond_eq_ite] at h
    split at h
    · rename_i hi
      have hi' : i < rs.length := by simpa using hi
      split at h
      · rename_i r hr
        split at h
        · rename_i us' hu
          simp only [Option.some.injEq] at h
          subst h
          have h1 : rs.reverse[i]? = some r := by rw [List.getElem?_reverse hi', hr]
          have h2 := recL_ok hu
          unfold recsAt at h2 ⊢
          simp only [List.mapM_cons, h1, h2, Option.bind_eq_bind, Option.bind_some, Option.pure_def]
        · cases h
      · cases h
    · cases h

/-- The operations of a region whose order is open that are left. -/
structure RD (G : Nat) (P : Program) (fl : Nat) (call round : CallFn) (ops : List Oper) (is : List OpI) (rs : List Rec) (st : St) (K : St → Prop) : Prop where
  ex : ∃ st', regD P call round fl ops is rs.reverse st = some st' ∧ K st'

/-- The calls of a list, the first one that answers. -/
def alts : List CallFn → CallFn
  | [], _, _, _, _, _ => none
  | f :: fs, a, b, d, e, h => match f a b d e h with
    | some r => some r
    | none => alts fs a b d e h

theorem alts_ok : ∀ {fs : List CallFn}, (∀ f ∈ fs, CallOK G P f) → CallOK G P (alts fs)
  | [], _ => fun fl f args H c v H' c' e => by cases e
  | g :: fs, h => fun fl f args H c v H' c' e => by
    unfold alts at e
    split at e
    · rename_i r hr
      simp only [Option.some.injEq] at e
      subst e
      exact h g List.mem_cons_self _ _ _ _ _ _ _ _ hr
    · exact alts_ok (fun f hf => h f (List.mem_cons_of_mem _ hf)) _ _ _ _ _ _ _ _ e
theorem alts_good : ∀ {fs : List CallFn}, (∀ f ∈ fs, CallGood f) → CallGood (alts fs)
  | [], _ => fun fl f args H c v H' c' e => by cases e
  | g :: fs, h => fun fl f args H c v H' c' e => by
    unfold alts at e
    split at e
    · rename_i r hr
      simp only [Option.some.injEq] at e
      subst e
      exact h g List.mem_cons_self _ _ _ _ _ _ _ _ hr
    · exact alts_good (fun f hf => h f (List.mem_cons_of_mem _ hf)) _ _ _ _ _ _ _ _ e

/-- Calls that leave memory as it was. -/
structure CalmC (G : Nat) (P : Program) (call : CallFn) : Prop where
  ok : CallOK G P call
  good : CallGood call

open Classical in
/-- A function that answers so whatever the memory is. -/
noncomputable def fam (f : Nat) (A : List AV → Nat → T AObj → Nat → AV → Prop) : CallFn := fun fl f1 args H c =>
  if h : f1 = f ∧ ∃ v, A args fl H c v then some (Classical.choose h.2, H, c) else none

theorem fam_calm {f : Nat} {A : List AV → Nat → T AObj → Nat → AV → Prop} (h : ∀ args fl H c v, A args fl H c v → OkAt G P fl f args H c v H c) : CalmC G P (fam f A) := by
  refine ⟨fun fl f1 args H c v H' c' e => ?_, fun fl f1 args H c v H' c' e => ?_⟩
  · unfold fam at e
    split at e
    · rename_i hh
      obtain ⟨rfl, hv⟩ := hh
      simp only [Option.some.injEq, Prod.mk.injEq] at e
      obtain ⟨rfl, rfl, rfl⟩ := e
      exact h _ _ _ _ _ (Classical.choose_spec hv)
    · cases e
  · unfold fam at e
    split at e
    · simp only [Option.some.injEq, Prod.mk.injEq] at e
      obtain ⟨rfl, rfl, rfl⟩ := e
      exact .refl _ _ _
    · cases e
theorem fam_at {f : Nat} {A : List AV → Nat → T AObj → Nat → AV → Prop} {args : List AV} {fl0 : Nat} {H : T AObj} {v : AV} (h : A args fl0 H c v) (hu : ∀ v', A args fl0 H c v' → v' = v) : fam f A fl0 f args H c = some (v, H, c) := by
  unfold fam
  have hh : f = f ∧ ∃ v, A args fl0 H c v := ⟨rfl, v, h⟩
  rw [dif_pos hh, hu _ (Classical.choose_spec hh.2)]

theorem noCall_good : CallGood noCall := by intro fl f args H c v H' c' e; cases e

def zipO : List Oper → List (List Nat × Bool) → List OpI
  | o :: os, u :: us => ⟨o, u.1, u.2⟩ :: zipO os us
  | _, _ => []

theorem zipO_eq : ∀ (is : List OpI), zipO (is.map (·.o)) (is.map fun i => (i.un, i.wide)) = is
  | [] => rfl
  | i :: is => by simp only [List.map_cons, zipO, zipO_eq is]

theorem opIs_o (ops : List Oper) : (opIs ops).map (·.o) = ops := by
  apply List.ext_getElem?
  intro j
  rw [List.getElem?_map]
  cases h : ops[j]? with
  | none =>
    have h1 : ops.length ≤ j := List.getElem?_eq_none_iff.1 h
    have : (opIs ops)[j]? = none := List.getElem?_eq_none_iff.2 (by rw [opIs_length]; exact h1)
    rw [this]; rfl
  | some o => rw [opIs_get h]; rfl

theorem Tr.openK [hP : PG P G] {id : Nat} {ops : Array Oper} (us : List (List Nat × Bool)) (hu : ((opIs ops.toList).map fun i => (i.un, i.wide)) = us) (hok : regOk ops.toList = true) (call : CallFn) (hc : CalmC G P call)
    (h : RD G P fl call noCall ops.toList (zipO ops.toList us) [] (stL n dfs l m c) fun st2 => c ≤ st2.c ∧ Q .normal st2) : Tr G P fl cb r (.region id ops true) (stL n dfs l m c) Q := by
  obtain ⟨st2, h1, h2, h3⟩ := h.ex
  have he : zipO ops.toList us = opIs ops.toList := by
    have := zipO_eq (opIs ops.toList)
    rw [opIs_o, hu] at this
    exact this
  rw [he] at h1
  refine ⟨fun ρ a w b k hs hcb hr hb => ?_⟩
  exact (Tr.open hc.ok noRound_ok hc.good noCall_good hok h1 (Nat.le_trans hcb h2) h3).run ρ a w b k hs hcb hr hb

theorem RD.nil (h : K (stL n dfs l m c)) : RD G P fl call round ops [] rs (stL n dfs l m c) K := ⟨⟨_, rfl, h⟩⟩

/-- What an operation of a region whose order is open does, and what is kept of it. -/
noncomputable def stD (P : Program) (call round : CallFn) (fl : Nat) (kd : Kind) (wd : Bool) (us : List Rec) (op : Op) (vs : List AV) (H : T AObj) (c : Nat) : Option (AV × T AObj × Nat × Rec) :=
  match kd, vs with
          | .free, vs => match stepA P call round fl op vs H c with
            | some (v, H', c') => some (v, H', c', (⟨false, none, c', c', none, none, none⟩ : Rec))
            | none => none
          | .new, vs => match stepA P call round fl op vs H c with
            | some (v, H', c') => some (v, H', c', ⟨false, none, c, c', none, none, none⟩)
            | none => none
          | .load, a :: bs => match nameL a with
            | some x => bif us.all (fun r => offRec x r && offWas x r) then (match stepA P call round fl op vs H c with
              | some (v, H', c') => some (v, H', c', ⟨false, some x, c', c', none, none, lookOf op bs v⟩)
              | none => none) else none
            | none => none
          | .store, [a, _] => match nameOf a with
            | some x => bif us.all (fun r => offRec x r && offReads x r) then (match stepA P call round fl op vs H c with
              | some (v, H', c') => some (v, H', c', ⟨false, some x, c', c', some x, none, none⟩)
              | none => none) else none
            | none => none
          | .heavy, vs => bif us.all (fun r => !r.heavy && r.st.isNone) then
              let (H0, kept) := hideA H (us.flatMap fun r => (List.range (r.hi - r.lo)).map (r.lo + ·))
              match stepA P call round (bif wd then fl else c) op vs H0 c with
              | some (v, H', c') => bif wd then (bif us.all (sameR P H (backA H' kept)) then some (v, backA H' kept, c', ⟨true, none, c, c', none, some (H, backA H' kept), none⟩) else none)
                else some (v, backA H' kept, c', ⟨true, none, c, c', none, none, none⟩)
              | none => none
            else none
          | _, _ => none

theorem regD_cons2 (P : Program) (call round : CallFn) (fl : Nat) (ops : List Oper) (i : OpI) (rest : List OpI) (rs : List Rec) (st : St) : regD P call round fl ops (i :: rest) rs st =
    match recsAt rs i.un, wantedA ops i.o st.env with
    | some us, some true => match operandsA P.globals.size st.env (opArgs i.o.op) with
      | none => none
      | some vs => match stD P call round fl (kindA i.o.op) i.wide us i.o.op vs st.H st.c with
        | some (v, H', c', r) => match putA st.env st.n i.o.dst v with
          | some env => regD P call round fl ops rest (rs ++ [r]) (st.up env H' c')
          | none => none
        | none => none
    | some _, some false => match putA st.env st.n i.o.dst undefA with
      | some env => regD P call round fl ops rest (rs ++ [⟨false, none, 0, 0, none, none, none⟩]) (st.up env st.H st.c)
      | none => none
    | _, _ => none := rfl

/-- Whatever an operation is, once it is known what it does and what is kept of it. -/
theorem RD.step [hP : PG P G] {rc : Rec} (hr : recL rs un = some us) (hw : wantedL ops o l = some true) (hv : operandsL G l (opArgs o.op) = some vs)
    (hs : stD P call round fl (kindA o.op) wd us o.op vs (ofM m) c = some (v, ofM m', c', rc)) (hd : putA (ofL l) n o.dst v = some (ofL (match o.dst with | some d => (d, v) :: l | none => l)))
    (h : RD G P fl call round ops is (rc :: rs) (stL n dfs (match o.dst with | some d => (d, v) :: l | none => l) m' c') K) : RD G P fl call round ops (⟨o, un, wd⟩ :: is) rs (stL n dfs l m c) K := by
  obtain ⟨st', h1, h2⟩ := h.ex
  refine ⟨⟨st', ?_, h2⟩⟩
  have h3 : wantedA ops o (stL n dfs l m c).env = some true := by rw [← hw]; exact wantedL_eq _ _ _
  have h4 : operandsA P.globals.size (stL n dfs l m c).env (opArgs o.op) = some vs := by rw [hP.size, ← hv]; exact operandsL_eq _ _ _
  have h0 := recL_ok hr
  have h5 : stD P call round fl (kindA o.op) wd us o.op vs (stL n dfs l m c).H (stL n dfs l m c).c = some (v, ofM m', c', rc) := hs
  have h6 : putA (stL n dfs l m c).env (stL n dfs l m c).n o.dst v = some (ofL (match o.dst with | some d => (d, v) :: l | none => l)) := hd
  rw [regD_cons2]
  simp only [h0, h3, h4, h5, h6]
  rw [List.reverse_cons] at h1
  exact h1

theorem put_some (hn : Nat.blt d n = true) (ho : o.dst = some d) : putA (ofL l) n o.dst v = some (ofL (match o.dst with | some d => (d, v) :: l | none => l)) := by rw [ho]; simp only [putA, hn, cond_true]; rfl
theorem put_none (ho : o.dst = none) : putA (ofL l) n o.dst v = some (ofL (match o.dst with | some d => (d, v) :: l | none => l)) := by rw [ho]; rfl

theorem RD.free [hP : PG P G] (hk : kindA o.op = .free) (hr : recL rs un = some us) (hw : wantedL ops o l = some true) (hv : operandsL G l (opArgs o.op) = some vs) (hd : o.dst = some d) (hn : Nat.blt d n = true)
    (h : Nx P fl o.op vs m c fun v m' c' => RD G P fl call round ops is (⟨false, none, c', c', none, none, none⟩ :: rs) (stL n dfs ((d, v) :: l) m' c') K) : RD G P fl call round ops (⟨o, un, wd⟩ :: is) rs (stL n dfs l m c) K := by
  obtain ⟨v, m', c', h1, h2⟩ := h.ex
  refine RD.step (v := v) (m' := m') (c' := c') hr hw hv ?_ (put_some hn hd) (by rw [hd]; exact h2)
  rw [hk]; unfold stD
  simp only [h1.step call round]

theorem RD.new [hP : PG P G] (hk : kindA o.op = .new) (hr : recL rs un = some us) (hw : wantedL ops o l = some true) (hv : operandsL G l (opArgs o.op) = some vs) (hd : o.dst = some d) (hn : Nat.blt d n = true)
    (h : Nx P fl o.op vs m c fun v m' c' => RD G P fl call round ops is (⟨false, none, c, c', none, none, none⟩ :: rs) (stL n dfs ((d, v) :: l) m' c') K) : RD G P fl call round ops (⟨o, un, wd⟩ :: is) rs (stL n dfs l m c) K := by
  obtain ⟨v, m', c', h1, h2⟩ := h.ex
  refine RD.step (v := v) (m' := m') (c' := c') hr hw hv ?_ (put_some hn hd) (by rw [hd]; exact h2)
  rw [hk]; unfold stD
  simp only [h1.step call round]

theorem RD.load [hP : PG P G] {a : AV} {bs : List AV} {x : Nat} (hk : kindA o.op = .load) (hr : recL rs un = some us) (hw : wantedL ops o l = some true) (hv : operandsL G l (opArgs o.op) = some (a :: bs)) (hx : nameL a = some x) (hd : o.dst = some d) (hn : Nat.blt d n = true)
    (hu : us.all (fun r => offRec x r && offWas x r) = true)
    (h : Nx P fl o.op (a :: bs) m c fun v m' c' => RD G P fl call round ops is (⟨false, some x, c', c', none, none, lookOf o.op bs v⟩ :: rs) (stL n dfs ((d, v) :: l) m' c') K) : RD G P fl call round ops (⟨o, un, wd⟩ :: is) rs (stL n dfs l m c) K := by
  obtain ⟨v, m', c', h1, h2⟩ := h.ex
  refine RD.step (v := v) (m' := m') (c' := c') hr hw hv ?_ (put_some hn hd) (by rw [hd]; exact h2)
  rw [hk]; unfold stD
  simp only [hx, hu, cond_true, h1.step call round]

theorem RD.store [hP : PG P G] {a b : AV} {x : Nat} (hk : kindA o.op = .store) (hr : recL rs un = some us) (hw : wantedL ops o l = some true) (hv : operandsL G l (opArgs o.op) = some [a, b]) (hx : nameOf a = some x) (hd : o.dst = none)
    (hu : us.all (fun r => offRec x r && offReads x r) = true)
    (h : Nx P fl o.op [a, b] m c fun v m' c' => RD G P fl call round ops is (⟨false, some x, c', c', some x, none, none⟩ :: rs) (stL n dfs l m' c') K) : RD G P fl call round ops (⟨o, un, wd⟩ :: is) rs (stL n dfs l m c) K := by
  obtain ⟨v, m', c', h1, h2⟩ := h.ex
  refine RD.step (v := v) (m' := m') (c' := c') hr hw hv ?_ (put_none hd) (by rw [hd]; exact h2)
  rw [hk]; unfold stD
  simp only [hx, hu, cond_true, h1.step call round]

open Classical in
/-- One call, at any floor. -/
noncomputable def pin (f : Nat) (args : List AV) (H : T AObj) (c : Nat) (v : AV) : CallFn := fun _ f1 args1 H1 c1 =>
  if f1 = f ∧ args1 = args ∧ H1 = H ∧ c1 = c then some (v, H, c) else none
theorem noCall_calm : CalmC G P noCall := ⟨noCall_ok, noCall_good⟩

/-- Names that others have made are hidden from a call, and laid back. -/
def hid : List (Nat × Option AObj) → List Nat → Option (List (Nat × Option AObj) × List (Nat × Option AObj))
  | m, [] => some (m, [])
  | m, x :: xs => match lookM m x with
    | some o => match hid ((x, none) :: m) xs with
      | some (m', k) => some (m', (x, some o) :: k)
      | none => none
    | none => hid m xs

/-- A call that leaves memory as it was, beside which nothing is hidden. -/
theorem RD.callN [hP : PG P G] {f : Nat} {first cap args : List AV} (hk : kindA o.op = .heavy) (hc : isCall o.op = true) (hr : recL rs un = some us) (hw : wantedL ops o l = some true) (hv : operandsL G l (opArgs o.op) = some (.fn f first cap :: args)) (hd : o.dst = some d) (hn : Nat.blt d n = true)
    (hu : us.all (fun r => !r.heavy && r.st.isNone) = true) (hh : (us.flatMap fun r => (List.range (r.hi - r.lo)).map (r.lo + ·)) = [])
    (hs : ∀ fl', call fl' f (first ++ args ++ cap) (ofM m) c = some (v, ofM m, c)) (hsame : wd = true → us.all (sameR P (ofM m) (ofM m)) = true)
    (h : RD G P fl call round ops is (⟨true, none, c, c, none, bif wd then some (ofM m, ofM m) else none, none⟩ :: rs) (stL n dfs ((d, v) :: l) m c) K) : RD G P fl call round ops (⟨o, un, wd⟩ :: is) rs (stL n dfs l m c) K := by
  refine RD.step (v := v) (m' := m) (c' := c) (rc := ⟨true, none, c, c, none, bif wd then some (ofM m, ofM m) else none, none⟩) hr hw hv ?_ (put_some hn hd) (by rw [hd]; exact h)
  rw [hk]; unfold stD
  have hst : ∀ fl', stepA P call round fl' o.op (.fn f first cap :: args) (ofM m) c = some (v, ofM m, c) := fun fl' => by
    unfold stepA; rw [hc]; exact hs fl'
  simp only [hu, hh, hideA, cond_true]
  cases wd with
  | true => simp only [cond_true, hst, backA, List.foldl_nil, hsame rfl]
  | false => simp only [cond_false, hst, backA, List.foldl_nil]

end
end Go.Ev
