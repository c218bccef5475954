/-
  The evaluator: calls, code, rounds of a range over a function.
-/
import Derived.Test.YtjnckbefajfgbaaEvA
import Derived.RangeFuncNested
import Derived.OrdersIn
import Derived.TacticsIn
namespace Go.Ev
open Go

abbrev FW : Fence := Fence.wide
/-- The fence of a round, or of none. -/
def FR (r : Option Nat) : Fence := match r with | none => FW | some b => FW.inRound b

theorem FR_fn (r : Option Nat) (f : FuncId) : (FR r).fn f := by cases r <;> trivial
theorem FR_depth (r : Option Nat) : (FR r).depth = none := by cases r <;> rfl
theorem FR_round (r : Option Nat) : (FR r).round = r := by cases r <;> rfl

section
variable {G : Nat} {ρ : Rho} {H H' : T AObj} {c c' fl : Nat} {w : World} {P : Program}

/-- Calls are as they are said to be. -/
def CallOK (G : Nat) (P : Program) (call : CallFn) : Prop :=
  ∀ fl f args H c v H' c', call fl f args H c = some (v, H', c') →
    (∀ us w, (callFunc f us).run P w = .ok (.enter f us) w) ∧
    ∀ ρ w us, Holds G ρ H c w → VRs ρ args us → ∀ r n, CallsIn (FR r) n P f us.toArray w fun e w' => ∃ u, e = .returned u ∧ Post G ρ fl c w v H' c' u w'

def RoundOK (G : Nat) (P : Program) (round : CallFn) : Prop :=
  ∀ fl l args H c v H' c', round fl l args H c = some (v, H', c') → ∀ ρ w us p, Holds G ρ H c w → VRs ρ args us → ρ l = some p →
    ∃ fn tmps assign body, (Instr.yield p.b us.toArray).run P w = .ok (.round p.b fn tmps assign body) w ∧
      ∀ r n, RoundIn (FR r) n P p.b fn tmps assign body w fun e w' => ∃ u, e = .returned u ∧ Post G ρ fl c w v H' c' u w'

theorem semAt_eq {r : Option Nat} {f : Operand → Value} {o : Oper} (h : ∀ k, o.op ≠ .defer k) : o.semAt r f = execOp f o := by
  cases r with
  | none => rfl
  | some l => 
    unfold Oper.semAt
    cases ho : o.op <;> first | rfl | exact absurd ho (h _)

theorem opA_noDefer {o : Op} {vs : List AV} {x : ORes} (e : opA P H c fl o vs = some x) : ∀ k, o ≠ .defer k := by
  rintro k rfl
  simp [opA] at e

/-- One operation, whatever it is. -/
theorem step_sound {call round : CallFn} (hcall : CallOK G P call) (hround : RoundOK G P round) {r : Option Nat} {n : Nat} {o : Oper} {a : Act} {vs : List AV} {v : AV} (hH : Holds G ρ H c w) (hv : VRs ρ vs ((opArgs o.op).map a.eval))
    (e : stepA P call round fl o.op vs H c = some (v, H', c')) {K : Act → World → Prop} {Q : Exit → Act → World → Prop} (hK : ∀ u w', Post G ρ fl c w v H' c' u w' → K (a.put o.dst u) w') :
    o.wpIn (FR r) n P a w K Q := by
  refine ⟨fun f _ => FR_fn r f, ?_⟩
  unfold stepA at e
  simp only [Bool.cond_eq_ite] at e
  have hd : ∀ n' : Nat, (FR r).depth.isSome = true → 1 ≤ n' := fun n' h => by rw [FR_depth] at h; cases h
  split at e
  · rename_i hc
    obtain ⟨dst, op, type, pos, after, guard⟩ := o
    simp only at hc hv ⊢
    cases op <;> simp only [isCall, Bool.false_eq_true] at hc
    rename_i k
    obtain ⟨callee, args, argTypes⟩ := k
    cases callee <;> simp only [Bool.false_eq_true] at hc
    rename_i g
    rw [semAt_eq (by intro k h; cases h)]
    have hv' : VRs ρ vs (a.eval g :: (args.map a.eval).toList) := by simpa [opArgs, Op.operands, Call.operands] using hv
    unfold callV at e
    split at e
    · rename_i f first cap args'
      obtain ⟨u, us, e0, h1, h2⟩ := hv'.cons_inv
      simp only [List.cons.injEq] at e0
      obtain ⟨e1, e2⟩ := e0
      simp only [VR] at h1
      obtain ⟨fs, cs, hf, hc2, rfl⟩ := h1
      obtain ⟨hrun, hcalls⟩ := hcall _ _ _ _ _ _ _ _ e
      have hex : (execOp a.eval { dst := dst, op := .call { callee := .value g, args := args, argTypes := argTypes }, type := type, pos := pos, after := after, guard := guard }).run P w = .ok (.enter f (fs.toArray ++ args.map a.eval ++ cs.toArray)) w := by
        simp only [execOp, resolve, e1, Deferred.ofValue, Sem.run_bind, Sem.run_pure, Result.andThen_ok, invoke, hrun]
      rw [hex]
      simp only [Oper.uponIn_enter]
      refine ⟨hd n, ?_⟩
      have := hcalls ρ w _ hH ((hf.append h2).append hc2) r (n - 1)
      rw [show (fs ++ us ++ cs).toArray = fs.toArray ++ args.map a.eval ++ cs.toArray by rw [← e2]; simp] at this
      refine this.mono fun e' w' h => ?_
      obtain ⟨u, rfl, hp⟩ := h
      exact hK u w' hp
    · rename_i l args'
      obtain ⟨u, us, e0, h1, h2⟩ := hv'.cons_inv
      simp only [List.cons.injEq] at e0
      obtain ⟨e1, e2⟩ := e0
      simp only [VR] at h1
      obtain ⟨p, hp, rfl⟩ := h1
      obtain ⟨fn, tmps, assign, body, hy, hr⟩ := hround _ _ _ _ _ _ _ _ e ρ w us p hH h2 hp
      have hex : (execOp a.eval { dst := dst, op := .call { callee := .value g, args := args, argTypes := argTypes }, type := type, pos := pos, after := after, guard := guard }).run P w = .ok (.round p.b fn tmps assign body) w := by
        have : #[] ++ args.map a.eval = us.toArray := by rw [← e2, Array.toArray_toList]; exact Array.empty_append
        simp only [execOp, resolve, e1, Deferred.ofValue, Sem.run_bind, Sem.run_pure, Result.andThen_ok, invoke, this, hy]
      rw [hex]
      simp only [Oper.uponIn_round]
      refine ⟨hd n, (hr r (n - 1)).mono fun e' w' h => ?_⟩
      obtain ⟨u, rfl, hp⟩ := h
      exact hK u w' hp
    · cases e
  · unfold valV at e
    split at e
    · rename_i v0 H0 c0 he
      simp only [Option.some.injEq, Prod.mk.injEq] at e
      obtain ⟨rfl, rfl, rfl⟩ := e
      rw [semAt_eq (opA_noDefer he)]
      obtain ⟨u, w', h, hp⟩ := op_sound (P := P) hH hv he
      rcases h with h | ⟨h, rfl⟩
      · rw [h]; exact hK u w' hp
      · rw [h]; exact hK _ w' hp
    · cases e

theorem operand_sound {env : TT AV} {n : Nat} {a : Act} (hH : Holds G ρ H c w) (he : EnvR ρ env n a.tmps) {x : Operand} {v : AV} (e : operandA G env x = some v) : VR ρ v (a.eval x) := by
  cases x with
  | tmp t => exact (he.2 t v e).2
  | const u => exact liftV_VR e
  | global g =>
    simp only [operandA, Bool.cond_eq_ite] at e
    split at e
    · rename_i hg
      simp only [Option.some.injEq] at e
      subst e
      obtain ⟨k, hk⟩ := hH.glob g (by simpa using hg)
      simp only [VR]
      exact ⟨_, hk, rfl⟩
    · cases e
  | func f =>
    simp only [operandA, Option.some.injEq] at e
    subst e
    simp only [VR]
    exact ⟨[], [], .nil, .nil, rfl⟩

theorem operands_sound {env : TT AV} {n : Nat} {a : Act} (hH : Holds G ρ H c w) (he : EnvR ρ env n a.tmps) : ∀ {xs : List Operand} {vs : List AV}, operandsA G env xs = some vs → VRs ρ vs (xs.map a.eval)
  | [], vs, e => by
    simp only [operandsA, Option.some.injEq] at e
    subst e
    exact .nil
  | x :: xs, vs, e => by
    simp only [operandsA] at e
    split at e
    · rename_i v hv
      simp only [Option.map_eq_some_iff] at e
      obtain ⟨vs', e, rfl⟩ := e
      exact .cons (operand_sound hH he hv) (operands_sound hH he e)
    · cases e

theorem put_sound {env env' : TT AV} {n : Nat} {a : Act} {dst : Option Tmp} {v : AV} {u : Value} (he : EnvR ρ env n a.tmps) (hv : VR ρ v u) (e : putA env n dst v = some env') : EnvR ρ env' n (a.put dst u).tmps := by
  cases dst with
  | none =>
    simp only [putA, Option.some.injEq] at e
    subst e
    exact he
  | some d =>
    simp only [putA, Bool.cond_eq_ite] at e
    split at e
    · rename_i hd
      have hd' : d < n := by simpa using hd
      simp only [Option.some.injEq] at e
      subst e
      refine ⟨by simp [Act.put, he.1], fun t v' ht => ?_⟩
      rw [TT.get_set] at ht
      by_cases h : t = d
      · subst h
        rw [if_pos rfl] at ht
        cases ht
        refine ⟨hd', ?_⟩
        simp [Act.put, Array.getD, he.1, hd', hv]
      · rw [if_neg h] at ht
        obtain ⟨h1, h2⟩ := he.2 t v' ht
        refine ⟨h1, ?_⟩
        have : (a.put (some d) u).tmps.getD t undef = a.tmps.getD t undef := by
          simp [Act.put, Array.getD, he.1, h1, Ne.symm h]
        rw [this]
        exact h2
    · cases e

theorem put_defers (a : Act) (dst : Option Tmp) (u : Value) : (a.put dst u).defers = a.defers := by cases dst <;> rfl

theorem wanted_sound {env : TT AV} {n : Nat} {a : Act} (he : EnvR ρ env n a.tmps) {ops : Array Oper} {o : Oper} {b : Bool} (e : wantedA ops.toList o env = some b) : Region.wanted o (yielded ops a.tmps) = b := by
  unfold wantedA at e
  unfold Region.wanted
  split at e
  · rename_i hg
    simp only [Option.some.injEq] at e
    subst e
    rw [hg]
  · rename_i j want hg
    rw [hg]
    split at e
    · rename_i d hd
      split at e
      · rename_i b' hb
        simp only [Option.some.injEq] at e
        subst e
        obtain ⟨h1, h2⟩ := he.2 d _ hb
        simp only [VR] at h2
        have hd' : (ops[j]?).bind (·.dst) = some d := by simpa using hd
        have ht : a.tmps[d]? = some (.bool b') := by
          have hlt : d < a.tmps.size := by rw [he.1]; exact h1
          rw [Array.getElem?_eq_getElem hlt]
          simpa [Array.getD, hlt] using h2
        simp only [yielded, hd', Option.bind_some, ht]
        cases b' <;> cases want <;> rfl
      · rename_i hb
        simp only [Option.some.injEq] at e
        subst e
        obtain ⟨h1, h2⟩ := he.2 d _ hb
        simp only [VR] at h2
        obtain ⟨us, hus, h2⟩ := h2
        have hd' : (ops[j]?).bind (·.dst) = some d := by simpa using hd
        have ht : a.tmps[d]? = some (.tuple us.toArray) := by
          have hlt : d < a.tmps.size := by rw [he.1]; exact h1
          rw [Array.getElem?_eq_getElem hlt]
          simpa [Array.getD, hlt] using h2
        simp only [yielded, hd', Option.bind_some, ht]
        cases want <;> rfl
      · cases e
    · cases e

/-- The marks of loops. -/
def DefR (ρ : Rho) : List Nat → List Deferred → Prop
  | [], ds => ds = []
  | x :: xs, ds => ∃ p ds', ρ x = some p ∧ ds = { target := .collected p.b, args := #[] } :: ds' ∧ DefR ρ xs ds'

theorem DefR.mono {ρ ρ' : Rho} (h : RLe ρ ρ') : ∀ {xs : List Nat} {ds : List Deferred}, DefR ρ xs ds → DefR ρ' xs ds
  | [], _, e => e
  | _x :: _xs, _, ⟨p, ds', h1, h2, h3⟩ => ⟨p, ds', h _ _ h1, h2, DefR.mono h h3⟩

/-- An activation's state is so. -/
structure SR (G : Nat) (ρ : Rho) (st : St) (a : Act) (w : World) : Prop where
  env : EnvR ρ st.env st.n a.tmps
  mem : Holds G ρ st.H st.c w
  dfs : DefR ρ st.dfs a.defers

/-- What has become of an activation. -/
def Goes (G : Nat) (ρ : Rho) (fl c : Nat) (w : World) (st' : St) (a' : Act) (w' : World) : Prop :=
  ∃ ρ', SR G ρ' st' a' w' ∧ Ext ρ ρ' fl w c st'.c ∧ Fr ρ fl w w'

theorem Goes.refl {st : St} {a : Act} (h : SR G ρ st a w) : Goes G ρ fl st.c w st a w := ⟨ρ, h, .refl _ _ _ _, .refl _ _ _⟩

theorem Goes.trans {ρ1 : Rho} {c1 : Nat} {w1 w2 : World} {st2 : St} {a2 : Act} (he : Ext ρ ρ1 fl w c c1) (hf : Fr ρ fl w w1) (h : Goes G ρ1 fl c1 w1 st2 a2 w2) : Goes G ρ fl c w st2 a2 w2 := by
  obtain ⟨ρ2, h1, h2, h3⟩ := h
  exact ⟨ρ2, h1, he.trans hf.size h2, hf.trans he h3⟩

theorem sOp_sound {call round : CallFn} (hG : P.globals.size = G) (hcall : CallOK G P call) (hround : RoundOK G P round) {r : Option Nat} {n : Nat} {ops : Array Oper} {o : Oper} {st st' : St} {a : Act} (hs : SR G ρ st a w)
    (e : sOp P call round fl ops.toList o st = some st') {K : Act → World → Prop} {Q : Exit → Act → World → Prop} (hK : ∀ a' w', Goes G ρ fl st.c w st' a' w' → K a' w') :
    if Region.wanted o (yielded ops a.tmps) then o.wpIn (FR r) n P a w K Q else (∀ f, o.about P w a.eval = some f → (FR r).fn f) ∧ K (a.put o.dst undef) w := by
  unfold sOp at e
  split at e
  · rename_i hw
    rw [wanted_sound hs.env hw, if_pos rfl]
    unfold sRun at e
    split at e
    · rename_i vs hvs
      rw [hG] at hvs
      unfold sDone at e
      split at e
      · rename_i v H' c' hst
        refine step_sound hcall hround hs.mem (operands_sound hs.mem hs.env hvs) hst fun u w' hp => ?_
        obtain ⟨ρ', h1, h2, h3, h4⟩ := hp
        split at e
        · rename_i env' henv
          simp only [Option.some.injEq] at e
          subst e
          exact hK _ _ ⟨ρ', ⟨put_sound (hs.env.mono h3.le) h1 henv, h2, by rw [put_defers]; exact hs.dfs.mono h3.le⟩, h3, h4⟩
        · cases e
      · cases e
    · cases e
  · rename_i hw
    rw [wanted_sound hs.env hw, if_neg (by simp)]
    refine ⟨fun f _ => FR_fn r f, ?_⟩
    split at e
    · rename_i env' henv
      simp only [Option.some.injEq] at e
      subst e
      exact hK _ _ ⟨ρ, ⟨put_sound hs.env (by simp only [undefA, VR]; exact ⟨[], .nil, rfl⟩) henv, hs.mem, by rw [put_defers]; exact hs.dfs⟩, .refl _ _ _ _, .refl _ _ _⟩
    · cases e
  · cases e

theorem regS_sound {call round : CallFn} (hG : P.globals.size = G) (hcall : CallOK G P call) (hround : RoundOK G P round) {r : Option Nat} {n : Nat} {ops : Array Oper} {Q : Exit → Act → World → Prop} : ∀ {l : List Oper} {ρ : Rho} {w : World} {st st' : St} {a : Act}, SR G ρ st a w →
    regS P call round fl ops.toList l st = some st' → (∀ a' w', Goes G ρ fl st.c w st' a' w' → Q .normal a' w') → wpListIn (FR r) n P ops Q l a w
  | [], ρ, w, st, st', a, hs, e, hQ => by
    simp only [regS, Option.some.injEq] at e
    subst e
    exact hQ a w (.refl hs)
  | o :: l, ρ, w, st, st', a, hs, e, hQ => by
    simp only [regS] at e
    split at e
    · rename_i st1 h1
      exact sOp_sound hG hcall hround hs h1 fun a' w' hg => by
        obtain ⟨ρ1, hs1, he1, hf1⟩ := hg
        exact regS_sound hG hcall hround hs1 e fun a2 w2 hg2 => hQ a2 w2 (.trans he1 hf1 hg2)
    · cases e

end
end Go.Ev

namespace Go.Ev
open Go

section
variable {G : Nat} {ρ : Rho} {H H' : T AObj} {c c' fl : Nat} {w : World} {P : Program}

/-- A name of a round, and its block. -/
def RRel (ρ : Rho) : Option Nat → Option Nat → Prop
  | none, none => True
  | some l, some b => ∃ p, ρ l = some p ∧ p.b = b
  | _, _ => False

theorem RRel.mono {ρ ρ' : Rho} (h : RLe ρ ρ') : ∀ {r b : Option Nat}, RRel ρ r b → RRel ρ' r b
  | none, none, _ => trivial
  | some _, some _, ⟨p, h1, h2⟩ => ⟨p, h _ _ h1, h2⟩
  | none, some _, h => h.elim
  | some _, none, h => h.elim

def AExit.conc : AExit → Exit
  | .normal => .normal
  | .exit id => .exit id
  | .goto l => .goto l
  | .ret => .ret

/-- The end of a piece of code. -/
def PostX (G : Nat) (ρ : Rho) (fl c : Nat) (w : World) (e : AExit) (st' : St) (e' : Exit) (a' : Act) (w' : World) : Prop := e' = e.conc ∧ Goes G ρ fl c w st' a' w'

/-- Code is carried out as it is said to be. -/
def ExecOK (G : Nat) (P : Program) (ex : ExecFn) : Prop :=
  ∀ r fl code st e st', ex r fl code st = some (e, st') → ∀ ρ a w b n, SR G ρ st a w → RRel ρ r b → code.wpIn (FR b) n P (PostX G ρ fl st.c w e st') a w

theorem PostX.trans {ρ1 : Rho} {c1 : Nat} {w1 : World} {e : AExit} {st' : St} {e' : Exit} {a' : Act} {w' : World} (he : Ext ρ ρ1 fl w c c1) (hf : Fr ρ fl w w1) (h : PostX G ρ1 fl c1 w1 e st' e' a' w') : PostX G ρ fl c w e st' e' a' w' :=
  ⟨h.1, .trans he hf h.2⟩

theorem xSeq_sound {ex : ExecFn} (hex : ExecOK G P ex) {r b : Option Nat} {n : Nat} {code cb : Code} {st' : St} {a : Act} {e : AExit} {x : Option (AExit × St)} (h : xSeq r fl cb ex x = some (e, st')) (hr : RRel ρ r b)
    (hx : ∀ e1 st1, x = some (e1, st1) → code.wpIn (FR b) n P (PostX G ρ fl c w e1 st1) a w) : (Code.seq code cb).wpIn (FR b) n P (PostX G ρ fl c w e st') a w := by
  refine wpIn_seq ?_
  unfold xSeq at h
  split at h
  · rename_i st1
    refine wpIn_mono (hx _ _ rfl) fun e1 a1 w1 hp => ?_
    obtain ⟨rfl, ρ1, hs1, he1, hf1⟩ := hp
    exact wpIn_mono (hex _ _ _ _ _ _ h ρ1 a1 w1 b n hs1 (hr.mono he1.le)) fun e2 a2 w2 hp2 => hp2.trans he1 hf1
  · rename_i x' hne
    refine wpIn_mono (hx _ _ h) fun e1 a1 w1 hp => ?_
    obtain ⟨rfl, hg⟩ := hp
    cases e
    · exact absurd h (hne st')
    all_goals exact ⟨rfl, hg⟩

/-- A loop whose rounds are counted beside the state. -/
theorem wpIn_loop_fuel {F : Fence} {n : Nat} {c0 : Code} {Q : Exit → Act → World → Prop} {a : Act} {w : World} (I : Nat → Act → World → Prop) (f0 : Nat) (h₀ : I f0 a w)
    (round : ∀ f a w, I f a w → c0.wpIn F n P (Exit.then (fun a' w' => ∃ f', f' < f ∧ I f' a' w') Q) a w) : (Code.loop c0).wpIn F n P Q a w := by
  intro b k cs hro hb hr
  have key : ∀ f a w, I f a w →
      ∃ e a' w', Q e a' w' ∧ ArrivesIn (Machine.fenced P F) P (lone (b.atR a (.code c0 :: .inLoop c0 :: k)) cs w) b k cs e a' w' := by
    intro f
    induction f using Nat.strongRecOn with
    | _ f ih =>
      intro a w hI
      obtain ⟨e, a₁, w₁, hq, harr⟩ := round f a w hI b (.inLoop c0 :: k) cs hro hb hr
      cases e with
      | normal =>
        obtain ⟨f', hlt, hI₁⟩ := hq
        obtain ⟨e₂, a₂, w₂, hq₂, harr₂⟩ := ih f' hlt a₁ w₁ hI₁
        exact ⟨e₂, a₂, w₂, hq₂, .of_steps (StepsIn.trans harr (.one (fenced_calm hb hr rfl) stepR_inLoop)) harr₂⟩
      | exit id => exact ⟨_, a₁, w₁, hq, .pass (x := .inLoop c0) rfl (fun _ _ => .inl (by simp)) harr⟩
      | goto l => exact ⟨_, a₁, w₁, hq, .pass (x := .inLoop c0) rfl (fun _ _ => .inl (by simp)) harr⟩
      | ret => exact ⟨_, a₁, w₁, hq, .pass (x := .inLoop c0) rfl (fun _ _ => .inl (by simp)) harr⟩
      | panic ch => exact ⟨_, a₁, w₁, hq, .pass (x := .inLoop c0) rfl (fun _ _ => .inl (by simp)) harr⟩
      | outgrown => exact ⟨_, a₁, w₁, hq, .pass (x := .inLoop c0) rfl (fun _ _ => .inl (by simp)) harr⟩
  obtain ⟨e, a', w', hq, harr⟩ := key f0 a w h₀
  exact ⟨e, a', w', hq, .of_steps (.one (fenced_calm hb hr rfl) stepR_loop) harr⟩

section
variable {b : Frame} {a : Act} {k : List Item} {cs : List Frame}
theorem stepR_scope {c0 : Code} : step P (lone (b.atR a (.code (.scope c0) :: k)) cs w) = .next (lone (b.atR a (.code c0 :: .inScope c0 :: k)) cs w) :=
  step_lone_go (by simp [stepG, stepG.exec, Frame.atR])
theorem stepR_inScope {c0 : Code} : step P (lone (b.atR a (.inScope c0 :: k)) cs w) = .next (lone (b.atR a k) cs w) :=
  step_lone_go (by simp [stepG, stepG.exec, Frame.atR])
end

theorem wpIn_scope_straight {F : Fence} {n : Nat} {c0 : Code} {Q : Exit → Act → World → Prop} {a : Act} (h : c0.wpIn F n P (fun e a w => (∀ l, e ≠ .goto l) ∧ Q e a w) a w) : (Code.scope c0).wpIn F n P Q a w := by
  intro b k cs hro hb hr
  have h0 : (lone (b.atR a (.code (.scope c0) :: k)) cs w).fenced P F := fenced_calm hb hr rfl
  obtain ⟨e, a₁, w₁, ⟨hg, hq⟩, harr⟩ := h b (.inScope c0 :: k) cs hro hb hr
  have hx : ∀ id, exitTo id (.inScope c0 :: k) = exitTo id k := fun id => by simp [exitTo]
  cases e with
  | normal => exact ⟨.normal, a₁, w₁, hq, .head h0 stepR_scope (StepsIn.trans harr (.one (fenced_calm hb hr rfl) stepR_inScope))⟩
  | exit id =>
    exact ⟨.exit id, a₁, w₁, hq, fun k' hk => .head h0 stepR_scope (harr.1 k' (by rw [hx]; exact hk)),
      fun hr' hk => let ⟨k₁, h1, h2⟩ := harr.2 hr' (by rw [hx]; exact hk); ⟨k₁, h1, .head h0 stepR_scope h2⟩⟩
  | goto l => exact absurd rfl (hg l)
  | ret => exact ⟨_, a₁, w₁, hq, .of_steps (.one h0 stepR_scope) harr⟩
  | panic ch => exact ⟨_, a₁, w₁, hq, .of_steps (.one h0 stepR_scope) harr⟩
  | outgrown => exact ⟨_, a₁, w₁, hq, .of_steps (b := b) (k := k) (cs := cs) (e := .outgrown) (.one h0 stepR_scope) harr⟩

theorem xReg_some {x : Option St} {e : AExit} {st' : St} (h : xReg x = some (e, st')) : x = some st' ∧ e = .normal := by
  unfold xReg at h
  split at h
  · simp only [Option.some.injEq, Prod.mk.injEq] at h; exact ⟨by rw [h.2], h.1.symm⟩
  · cases h

/-- Cells of a name's block, written as a whole. -/
theorem put_write (hH : Holds G ρ H c w) {x : Nat} {o o' : AObj} {p : Win} {ob : Obj} (hx : H.get x = some o) (hro : o.isRo = false) (hp : ρ x = some p) (hfl : fl ≤ x) (ho : ObjR ρ (w.putObj p.b ob) p o') :
    Holds G ρ (H.set x o') c (w.putObj p.b ob) ∧ Fr ρ fl w (w.putObj p.b ob) :=
  ⟨hH.write hx hro hp (by simp) (fun b hb => World.putObj_heap_other hb) ho, .write hfl hp rfl rfl rfl (by simp) (fun b hb => World.putObj_heap_other hb)⟩

theorem obj_lt {b : Nat} {o : Obj} (h : w.heap[b]? = some o) : b < w.heap.size := (Array.getElem?_eq_some_iff.1 h).1

/-- The marks of a function's loops are taken. -/
theorem leave_sound {fn : Func} {tmps : Array Value} {R : Ending → World → Prop} {n : Nat} {b : Option Nat} : ∀ {ds : List Nat} {H H' : T AObj} {w : World} {defers : List Deferred}, Holds G ρ H c w → DefR ρ ds defers → leaveA fl H ds = some H' →
    (∀ w', Holds G ρ H' c w' → Fr ρ fl w w' → ∃ v, (results fn tmps).run P w' = .ok v w' ∧ R (.returned v) w') → LeavesInM (FR b) n P fn tmps R defers .returning w
  | [], H, H', w, defers, hH, hd, e, hR => by
    simp only [leaveA, Option.some.injEq] at e
    subst e
    rw [show defers = [] from hd]
    exact hR w hH (.refl _ _ _)
  | x :: xs, H, H', w, defers, hH, hd, e, hR => by
    obtain ⟨p, ds', hp, rfl, hd'⟩ := hd
    simp only [leaveA] at e
    split at e
    · rename_i hx
      simp only [Bool.cond_eq_ite] at e
      split at e
      · rename_i hfl
        have hfl' : fl ≤ x := by simpa using hfl
        obtain ⟨p', hp', hh⟩ := hH.obj x _ hx
        rw [hp] at hp'
        cases hp'
        obtain ⟨h1, h2⟩ := put_write (o' := .dfrDone) (ob := .deferred none) hH hx rfl hp hfl' trivial
        refine ⟨by simp, .inl ⟨p.b, _, rfl, run_takeDeferred hh, ?_⟩⟩
        exact leave_sound h1 hd' e fun w' hw' hf' => hR w' hw' (h2.trans (.refl _ _ _ c) hf')
      · cases e
    · cases e

theorem result_sound {a : Act} {env : TT AV} {n : Nat} {rv : ResultVar} {v : AV} (hH : Holds G ρ H c w) (he : EnvR ρ env n a.tmps) (e : resultA P env H rv = some v) :
    ∃ u, (match rv with | .tmp t => pure (a.tmps.getD t undef) | .cell x t => do loadVar t (← asAddr (a.tmps.getD x undef)) : Sem Value).run P w = .ok u w ∧ VR ρ v u := by
  cases rv with
  | tmp t => exact ⟨_, rfl, (he.2 t v e).2⟩
  | cell x t =>
    simp only [resultA] at e
    split at e
    · rename_i p hp
      obtain ⟨_, h2⟩ := he.2 x p hp
      obtain ⟨u, hu, hv⟩ := load_sound hH h2 e
      refine ⟨u, ?_, hv⟩
      simp only [Instr.loadAt, Sem.run_bind] at hu
      simp only [Sem.run_bind]
      cases hq : a.tmps.getD x undef <;> rw [hq] at hu h2
      case pointer o => cases o <;> first | exact hu | (simp [Instr.sureAddr] at hu)
      all_goals (simp [Instr.sureAddr] at hu)
    · cases e

theorem results_sound {a : Act} {env : TT AV} {n : Nat} {fn : Func} {v : AV} (hH : Holds G ρ H c w) (he : EnvR ρ env n a.tmps) (e : resultsA P env H fn.results.toList = some v) :
    ∃ u, (results fn a.tmps).run P w = .ok u w ∧ VR ρ v u := by
  have key : ∀ {rs : List ResultVar} {vs : List AV}, rs.mapM (resultA P env H) = some vs → ∃ us : List Value, (rs.mapM fun rv => (match rv with | .tmp t => pure (a.tmps.getD t undef) | .cell x t => do loadVar t (← asAddr (a.tmps.getD x undef)) : Sem Value)).run P w = .ok us w ∧ VRs ρ vs us := by
    intro rs
    induction rs with
    | nil =>
      intro vs h
      simp at h
      subst h
      exact ⟨[], rfl, .nil⟩
    | cons rv rs ih =>
      intro vs h
      simp only [List.mapM_cons, Option.bind_eq_bind, Option.pure_def, Option.bind_eq_some_iff] at h
      obtain ⟨v0, h0, vs', h1, h2⟩ := h
      simp only [Option.some.injEq] at h2
      subst h2
      obtain ⟨u0, g0, g1⟩ := result_sound hH he h0
      obtain ⟨us, g2, g3⟩ := ih h1
      refine ⟨u0 :: us, ?_, .cons g1 g3⟩
      simp only [List.mapM_cons, Sem.run_bind, g0, Result.andThen_ok, g2, Sem.run_pure]
  unfold resultsA at e
  split at e
  · rename_i v0 h
    simp only [Option.some.injEq] at e
    subst e
    obtain ⟨us, h1, h2⟩ := key h
    obtain ⟨u, rfl, hv⟩ := h2.eq_one
    refine ⟨u, ?_, hv⟩
    simp only [results]
    rw [Array.mapM_eq_mapM_toList]
    simp only [Sem.run_bind, Sem.run_map]
    erw [h1]
    rfl
  · rename_i vs hne h
    simp only [Option.some.injEq] at e
    subst e
    obtain ⟨us, h1, h2⟩ := key h
    refine ⟨.tuple us.toArray, ?_, by simp only [VR]; exact ⟨us, h2, rfl⟩⟩
    simp only [results]
    rw [Array.mapM_eq_mapM_toList]
    simp only [Sem.run_bind, Sem.run_map]
    erw [h1]
    simp only [Result.andThen_ok]
    have hl := h2.length
    rw [dif_neg]
    · rfl
    · intro hs
      simp at hs
      rw [hs] at hl
      cases vs with
      | nil => simp at hl
      | cons v vs => cases vs with
        | nil => exact hne v rfl
        | cons _ _ => simp at hl
  · cases e

theorem envOf_get : ∀ {vs : List AV} {i : Nat} {t : TT AV} {j : Nat}, (envOf vs i t).get j = if i ≤ j ∧ j < i + vs.length then vs[j - i]? else t.get j
  | [], i, t, j => by simp [envOf]; intro h1 h2; omega
  | v :: vs, i, t, j => by
    simp only [envOf, List.length_cons]
    rw [envOf_get, TT.get_set]
    by_cases h1 : j = i
    · subst h1
      rw [if_neg (by omega), if_pos rfl, if_pos (by omega)]
      simp
    · rw [if_neg h1]
      by_cases h2 : i + 1 ≤ j ∧ j < i + 1 + vs.length
      · rw [if_pos h2, if_pos (by omega), show j - i = (j - (i + 1)) + 1 by omega]
        simp
      · rw [if_neg h2, if_neg (by omega)]

theorem env_args {args : List AV} {us : List Value} (h : VRs ρ args us) (m : Nat) : EnvR ρ (envOf args 0 .leaf) (args.length + (m - args.length)) (us.toArray ++ Array.replicate (m - us.toArray.size) undef) := by
  have hl := h.length
  refine ⟨by simp; omega, fun t v ht => ?_⟩
  rw [envOf_get] at ht
  simp only [Nat.zero_le, Nat.zero_add, true_and, Nat.sub_zero] at ht
  split at ht
  · rename_i hlt
    obtain ⟨u, hu, hv⟩ := h.get t ht
    refine ⟨by omega, ?_⟩
    have hlt' : t < us.length := by omega
    have : (us.toArray ++ Array.replicate (m - us.toArray.size) undef).getD t undef = u := by
      simp only [Array.getD_eq_getD_getElem?]
      rw [Array.getElem?_append_left (by simpa using hlt')]
      simp [hu]
    rw [this]
    exact hv
  · simp at ht

/-- A call. -/
theorem call_sound {ex : ExecFn} (hex : ExecOK G P ex) : CallOK G P (callA P ex) := by
  intro fl f args H c v H' c' e
  unfold callA at e
  split at e
  case h_2 => cases e
  rename_i fn code hf
  have hfn : P.funcs[f]? = some fn ∧ fn.body = some code ∧ (fn.name == "runtime.NumGoroutine") = false := by
    unfold funcA at hf
    split at hf
    · rename_i fn' hfn
      split at hf
      · rename_i c0 hb
        simp only [Bool.cond_eq_ite] at hf
        split at hf
        · cases hf
        · rename_i hn
          simp only [Option.some.injEq, Prod.mk.injEq] at hf
          obtain ⟨rfl, rfl⟩ := hf
          exact ⟨hfn, hb, by simpa using hn⟩
      · cases hf
    · cases hf
  obtain ⟨h1, h2, h3⟩ := hfn
  refine ⟨fun us w => ?_, fun ρ w us hH hv b n => ?_⟩
  · simp only [callFunc, Sem.run_bind, run_program, Result.andThen_ok, h1, h3, Bool.false_eq_true, if_false, h2, Option.isNone_some]
    rfl
  · have body : ∀ e1 st1, ex none fl code { env := envOf args 0 .leaf, n := args.length + (fn.ntmps - args.length), dfs := [], H := H, c := c } = some (e1, st1) →
        code.wpIn (FR none) n P (PostX G ρ fl c w e1 st1) { tmps := us.toArray ++ Array.replicate (fn.ntmps - us.toArray.size) undef, defers := [] } w := fun e1 st1 h =>
      hex _ _ _ _ _ _ h ρ _ w none n ⟨env_args hv fn.ntmps, hH, rfl⟩ trivial
    have fin : ∀ st1, cEnd P fl fn st1 = some (v, H', c') → ∀ a' w', Goes G ρ fl c w st1 a' w' → LeavesInM (FR none) n P fn a'.tmps (fun e w' => ∃ u, e = .returned u ∧ Post G ρ fl c w v H' c' u w') a'.defers .returning w' := by
      intro st1 h a' w' hg
      obtain ⟨ρ1, hs1, he1, hf1⟩ := hg
      unfold cEnd at h
      split at h
      · rename_i H2 hl
        simp only [Option.map_eq_some_iff, Prod.mk.injEq] at h
        obtain ⟨v', hv', rfl, rfl, rfl⟩ := h
        refine leave_sound (b := none) hs1.mem hs1.dfs hl fun w2 hw2 hf2 => ?_
        obtain ⟨u, hu, hvu⟩ := results_sound (P := P) hw2 hs1.env hv'
        exact ⟨u, hu, u, rfl, ρ1, hvu, hw2, he1, hf1.trans he1 hf2⟩
      · cases h
    have main : CallsIn (FR none) n P f us.toArray w fun e w' => ∃ u, e = .returned u ∧ Post G ρ fl c w v H' c' u w' := by
      refine callsIn_of_wp_marks h1 h2 trivial ?_
      rw [withNat_eq] at e
      unfold cRet at e
      split at e
      · rename_i st1 hx
        refine wpIn_mono (body _ _ hx) fun e1 a1 w1 hp => ?_
        obtain ⟨rfl, hg⟩ := hp
        exact fin st1 e a1 w1 hg
      · rename_i st1 hx
        refine wpIn_mono (body _ _ hx) fun e1 a1 w1 hp => ?_
        obtain ⟨rfl, hg⟩ := hp
        exact fin st1 e a1 w1 hg
      · cases e
    cases b with
    | none => exact main
    | some l => exact main

end
end Go.Ev

namespace Go.Ev
open Go

section
variable {G : Nat} {ρ : Rho} {H H' : T AObj} {c c' fl : Nat} {w : World} {P : Program}

theorem setParams_sound : ∀ {ps : List Tmp} {vs : List AV} {us : List Value} {env env' : TT AV} {n : Nat} {tmps : Array Value}, EnvR ρ env n tmps → VRs ρ vs us → setParams env n ps vs = some env' →
    ps.length = us.length ∧ EnvR ρ env' n ((ps.zip us).foldl (fun tmps (t, x) => tmps.setIfInBounds t x) tmps)
  | [], [], us, env, env', n, tmps, he, hv, e => by
    simp only [setParams, Option.some.injEq] at e
    subst e
    rw [hv.nil_inv]
    exact ⟨rfl, he⟩
  | [], v :: vs, us, env, env', n, tmps, he, hv, e => by simp [setParams] at e
  | t :: ps, [], us, env, env', n, tmps, he, hv, e => by simp [setParams] at e
  | t :: ps, v :: vs, us, env, env', n, tmps, he, hv, e => by
    obtain ⟨u, us', rfl, h1, h2⟩ := hv.cons_inv
    simp only [setParams] at e
    split at e
    · rename_i env1 hp
      have h3 := put_sound (a := { tmps := tmps, defers := [] }) he h1 hp
      obtain ⟨h4, h5⟩ := setParams_sound h3 h2 e
      exact ⟨by simp [h4], h5⟩
    · cases e

theorem jump_cases (e : AExit) : (e = .normal ∧ jumpOf e = none) ∨ (∃ c0, jumpOf e = some c0) := by
  cases e
  · exact .inl ⟨rfl, rfl⟩
  all_goals exact .inr ⟨_, rfl⟩

/-- A round. -/
theorem round_sound {ex : ExecFn} (hex : ExecOK G P ex) : RoundOK G P (roundA ex) := by
  intro fl l args H c v H' c' e ρ w us p hH hv hp
  unfold roundA at e
  split at e
  case h_2 => cases e
  rename_i st0 pend0 env n params assign body dn hl
  simp only [Bool.cond_eq_ite] at e
  split at e
  case isFalse => cases e
  rename_i hfl
  have hfl' : fl ≤ l := by simpa using hfl
  split at e
  case h_2 => cases e
  rename_i env1 henv
  obtain ⟨p', hp', fn, tmps, d, hh, henv0, hdn⟩ := hH.obj l _ hl
  rw [hp] at hp'
  cases hp'
  obtain ⟨hlen, henv1⟩ := setParams_sound henv0 hv henv
  have hy := run_yield (P := P) (args := us.toArray) hh (by simpa using hlen.symm)
  refine ⟨_, _, _, _, hy, fun b m => ?_⟩
  have main : RoundIn FW m P p.b fn ((params.toArray.zip us.toArray).foldl (fun tmps (t, a) => tmps.setIfInBounds t a) tmps) assign body w fun e w' => ∃ u, e = .returned u ∧ Post G ρ fl c w v H' c' u w' := by
    refine roundIn_of_wpIn trivial ?_
    have htm : (params.toArray.zip us.toArray).foldl (fun tmps (t, a) => tmps.setIfInBounds t a) tmps = (params.zip us).foldl (fun tmps (t, a) => tmps.setIfInBounds t a) tmps := by
      rw [← Array.foldl_toList]
      simp
    rw [htm]
    unfold rBody at e
    split at e
    case h_2 => cases e
    rename_i st1 hx1
    split at e
    case h_2 => cases e
    rename_i pend1 env1' n1 ps1 as1 bd1 dn1 hl1
    have h1 := hex _ _ _ _ _ _ hx1 ρ { tmps := (params.zip us).foldl (fun tmps (t, a) => tmps.setIfInBounds t a) tmps, defers := [] } w (some p.b) m ⟨henv1, hH, rfl⟩ ⟨p, hp, rfl⟩
    refine wpIn_mono h1 fun e1 a1 w1 hpx => ?_
    obtain ⟨rfl, ρ1, hs1, he1, hf1⟩ := hpx
    show ∃ w₂, _
    obtain ⟨q, hq, fn1, tmps1, d1, hh1, henv2, hdn1⟩ := hs1.mem.obj l _ hl1
    have hq' := he1.le _ _ hp
    rw [hq] at hq'
    cases hq'
    have hbusy := put_write (fl := fl) (ob := .loop { state := .busy, pending := pend1, fn := fn1, tmps := tmps1, params := ps1.toArray, assign := as1, body := bd1, defers := d1 }) (o' := .loop .busy pend1 env1' n1 ps1 as1 bd1 dn1)
      hs1.mem hl1 rfl hq hfl' ⟨fn1, tmps1, d1, World.putObj_heap_same (obj_lt hh1), henv2, hdn1⟩
    obtain ⟨hb1, hb2⟩ := hbusy
    refine ⟨_, run_beginRound hh1 rfl, ?_⟩
    unfold rEnd at e
    split at e
    case h_2 => cases e
    rename_i e2 st2 hx2
    split at e
    case h_2 => cases e
    rename_i pend2 env2 n2 ps2 as2 bd2 dn2 hl2
    simp only [Option.some.injEq, Prod.mk.injEq] at e
    obtain ⟨rfl, rfl, rfl⟩ := e
    have h2 := hex _ _ _ _ _ _ hx2 ρ1 a1 (w1.putObj p.b (.loop { state := .busy, pending := pend1, fn := fn1, tmps := tmps1, params := ps1.toArray, assign := as1, body := bd1, defers := d1 })) (some p.b) m
      ⟨hs1.env, hb1, hs1.dfs⟩ ⟨p, hq, rfl⟩
    refine wpIn_mono h2 fun e3 a3 w3 hpx => ?_
    obtain ⟨rfl, ρ3, hs3, he3, hf3⟩ := hpx
    obtain ⟨q3, hq3, fn3, tmps3, d3, hh3, henv3, hdn3⟩ := hs3.mem.obj l _ hl2
    have hq3' := he3.le _ _ hq
    rw [hq3] at hq3'
    cases hq3'
    have fin : ∀ (j : Option Code), j = jumpOf e2 → ∃ u w', (Instr.endRound p.b j).run P w3 = .ok u w' ∧ ∃ u', Ending.returned u = .returned u' ∧ Post G ρ fl c w (.bool (jumpOf e2).isNone) (st2.H.set l (.loop (bif (jumpOf e2).isNone then .ready else .done) (jumpOf e2) env2 n2 ps2 as2 bd2 dn2)) st2.c u' w' := by
      intro j hj
      subst hj
      have hend := put_write (fl := fl) (ob := .loop { state := (if (jumpOf e2).isNone then .ready else .done), pending := jumpOf e2, fn := fn3, tmps := tmps3, params := ps2.toArray, assign := as2, body := bd2, defers := d3 })
        (o' := .loop (bif (jumpOf e2).isNone then .ready else .done) (jumpOf e2) env2 n2 ps2 as2 bd2 dn2) hs3.mem hl2 rfl hq3 hfl' ⟨fn3, tmps3, d3, by rw [World.putObj_heap_same (obj_lt hh3), Bool.cond_eq_ite], henv3, hdn3⟩
      obtain ⟨g1, g2⟩ := hend
      refine ⟨_, _, run_endRound (jumpOf e2) hh3, _, rfl, ρ3, by simp only [VR], g1, he1.trans hf1.size (Ext.trans (w1 := w1.putObj p.b (.loop { state := .busy, pending := pend1, fn := fn1, tmps := tmps1, params := ps1.toArray, assign := as1, body := bd1, defers := d1 })) (.refl _ _ _ _) (by simp) he3), ?_⟩
      exact hf1.trans he1 (hb2.trans (.refl _ _ _ st1.c) (hf3.trans he3 g2))
    cases e2
    · obtain ⟨u, w', g1, g2⟩ := fin none rfl
      exact ⟨u, w', g1, g2⟩
    · obtain ⟨u, w', g1, g2⟩ := fin _ rfl
      exact ⟨u, w', g1, g2⟩
    · obtain ⟨u, w', g1, g2⟩ := fin _ rfl
      exact ⟨u, w', g1, g2⟩
    · obtain ⟨u, w', g1, g2⟩ := fin _ rfl
      exact ⟨u, w', g1, g2⟩
  cases b with
  | none => exact main
  | some l => exact main

/-- The end of a range over a function. -/
theorem xEnd_sound {ex : ExecFn} (hex : ExecOK G P ex) {r b : Option Nat} {n l : Nat} {st1 st' : St} {e : AExit} {x : AV × T AObj × Nat} {ρ1 : Rho} {w1 : World} {a : Act} {p : Win} (h : xEnd r fl ex l st1 (some x) = some (e, st')) (hfl : fl ≤ l)
    (hr : RRel ρ1 r b) (he : EnvR ρ1 st1.env st1.n a.tmps) (hd : DefR ρ1 st1.dfs a.defers) (hH : Holds G ρ1 x.2.1 x.2.2 w1) (hp : ρ1 l = some p) :
    ∃ jump w₄, (Instr.endLoop p.b).run P w1 = .ok jump w₄ ∧ (match jump with | none => PostX G ρ1 fl x.2.2 w1 e st' .normal a w₄ | some j => j.wpIn (FR b) n P (PostX G ρ1 fl x.2.2 w1 e st') a w₄) := by
  obtain ⟨v, H2, c2⟩ := x
  simp only [xEnd] at h
  split at h
  case h_2 => cases h
  rename_i s pend env m ps bd as dn hl
  obtain ⟨q, hq, fn, tmps, d, hh, henv, hdn⟩ := hH.obj l _ hl
  rw [hp] at hq
  cases hq
  have hw := put_write (fl := fl) (ob := .loop { state := .exhausted, pending := pend, fn := fn, tmps := tmps, params := ps.toArray, assign := bd, body := as, defers := d }) (o' := .loop .exhausted pend env m ps bd as dn) hH hl rfl hp hfl
    ⟨fn, tmps, d, World.putObj_heap_same (obj_lt hh), henv, hdn⟩
  obtain ⟨g1, g2⟩ := hw
  split at h
  · cases h
  · rename_i hnb
    have hne : s ≠ .busy := hnb
    refine ⟨pend, _, run_endLoop hh hne, ?_⟩
    split at h
    · simp only [Option.some.injEq, Prod.mk.injEq] at h
      obtain ⟨rfl, rfl⟩ := h
      exact ⟨rfl, ρ1, ⟨he, g1, hd⟩, .refl _ _ _ _, g2⟩
    · rename_i j
      refine wpIn_mono (hex _ _ _ _ _ _ h ρ1 a _ b n ⟨he, g1, hd⟩ hr) fun e1 a1 w2 hpx => ?_
      obtain ⟨rfl, hg⟩ := hpx
      exact ⟨rfl, .trans (.refl _ _ _ _) g2 hg⟩

theorem xRange_sound {ex : ExecFn} (hG : P.globals.size = G) (hex : ExecOK G P ex) {r b : Option Nat} {n : Nat} {g : Operand} {ps : Array Tmp} {assign body : Code} {st st' : St} {a : Act} {e : AExit} (hs : SR G ρ st a w) (hr : RRel ρ r b)
    (h : xRange P r fl g ps assign body ex st = some (e, st')) : (Code.rangeFunc g ps assign body).wpIn (FR b) n P (PostX G ρ fl st.c w e st') a w := by
  unfold xRange at h
  split at h
  case h_2 => cases h
  rename_i gf first cap l st1 hg hen
  simp only [Bool.cond_eq_ite] at h
  split at h
  · cases h
  rename_i hfl
  have hfl' : fl ≤ st.c := by simpa using hfl
  rw [hG] at hg
  have hgv := operand_sound hs.mem hs.env hg
  simp only [VR] at hgv
  obtain ⟨fs, cs, hfs, hcs, hgv⟩ := hgv
  cases hca : callA P ex fl gf (first ++ [.yld l] ++ cap) st1.H st1.c with
  | none => rw [hca] at h; simp [xEnd] at h
  | some x =>
    rw [hca] at h
    obtain ⟨v2, H2, c2⟩ := x
    refine wpIn_rangeFunc fun fn _ => ?_
    -- the loop's record
    have hent : ∃ (p : Win) (mark : List Deferred) (w1 : World) (ρ1 : Rho), (Instr.enterLoop fn a.tmps ps assign body (FR b).round).run P w = .ok (p.b, mark) w1 ∧ ρ1 l = some p ∧ fl ≤ l ∧ Holds G ρ1 st1.H st1.c w1 ∧ Ext ρ ρ1 fl w st.c st1.c ∧ Fr ρ fl w w1 ∧
        st1.env = st.env ∧ st1.n = st.n ∧ DefR ρ1 st1.dfs (mark ++ a.defers) := by
      unfold enterA at hen
      rw [FR_round]
      cases r with
      | none =>
        cases b with
        | some _ => exact hr.elim
        | none =>
          simp only [Option.some.injEq, Prod.mk.injEq] at hen
          obtain ⟨rfl, rfl⟩ := hen
          have hc0 := hs.mem.fresh st.c (Nat.le_refl _)
          have A1 := hs.mem.alloc 0 (.deferred (some [])) .dfr alloc_new
          have e1 : Ext ρ (upd ρ st.c ⟨w.heap.size, 0, 0⟩) fl w st.c (st.c + 1) := .upd hc0
          have hsz : (w.alloc (.deferred (some []))).heap.size = w.heap.size + 1 := by simp
          have hc1 := A1.fresh (st.c + 1) (Nat.le_refl _)
          have A2 := A1.alloc 0 (.loop { state := .ready, pending := none, fn := fn, tmps := a.tmps, params := ps, assign := assign, body := body, defers := w.heap.size }) (.loop .ready none st.env st.n ps.toList assign body st.c)
            ⟨fn, a.tmps, w.heap.size, by rw [alloc_new], (hs.env.mono e1.le).mono (upd_le hc1), ⟨w.heap.size, 0, 0⟩, upd_le hc1 _ _ (upd_same _ _ _), rfl⟩
          have e2 : Ext (upd ρ st.c ⟨w.heap.size, 0, 0⟩) (upd (upd ρ st.c ⟨w.heap.size, 0, 0⟩) (st.c + 1) ⟨(w.alloc (.deferred (some []))).heap.size, 0, 0⟩) fl (w.alloc (.deferred (some []))) (st.c + 1) (st.c + 1 + 1) := .upd hc1
          refine ⟨⟨w.heap.size + 1, 0, 0⟩, _, _, _, run_enterLoop_outer _ _ _ _ _, by rw [← hsz]; exact upd_same _ _ _, by omega, A2, e1.trans (by simp) e2, (Fr.alloc ρ fl w _).trans e1 (Fr.alloc _ fl _ _), rfl, rfl, ?_⟩
          exact ⟨⟨w.heap.size, 0, 0⟩, a.defers, upd_le hc1 _ _ (upd_same _ _ _), rfl, (hs.dfs.mono e1.le).mono (upd_le hc1)⟩
      | some l0 =>
        cases b with
        | none => exact hr.elim
        | some b0 =>
          obtain ⟨p0, hp0, rfl⟩ := hr
          simp only [] at hen
          split at hen
          case h_2 => cases hen
          rename_i s0 pe0 en0 n0 ps0 as0 bd0 dn0 hl0
          simp only [Option.some.injEq, Prod.mk.injEq] at hen
          obtain ⟨rfl, rfl⟩ := hen
          obtain ⟨q0, hq0, fn0, tm0, d0, hh0, _, q1, hq1, hd0⟩ := hs.mem.obj l0 _ hl0
          rw [hp0] at hq0
          cases hq0
          have hc0 := hs.mem.fresh st.c (Nat.le_refl _)
          have e1 : Ext ρ (upd ρ st.c ⟨w.heap.size, 0, 0⟩) fl w st.c (st.c + 1) := .upd hc0
          have A1 := hs.mem.alloc 0 (.loop { state := .ready, pending := none, fn := fn, tmps := a.tmps, params := ps, assign := assign, body := body, defers := d0 }) (.loop .ready none st.env st.n ps.toList assign body dn0)
            ⟨fn, a.tmps, d0, by rw [alloc_new], hs.env.mono e1.le, q1, e1.le _ _ hq1, hd0⟩
          refine ⟨⟨w.heap.size, 0, 0⟩, [], _, _, run_enterLoop_inner hh0 _ _ _ _ _, upd_same _ _ _, hfl', A1, e1, .alloc _ _ _ _, rfl, rfl, hs.dfs.mono e1.le⟩
    obtain ⟨p, mark, w1, ρ1, hrun, hpl, hfl2, hH1, he1, hf1, henv1, hn1, hd1⟩ := hent
    obtain ⟨hcr, hcalls⟩ := call_sound hex _ _ _ _ _ _ _ _ hca
    have hres : (resolve a.eval (rangeCall g p.b) 0).run P w1 = .ok { target := .fn (.func gf) cs.toArray, args := fs.toArray ++ #[.func (.yield p.b) #[] #[]] } w1 := by
      have hm : Array.map a.eval #[Operand.const (Value.func (.yield p.b) #[] #[])] = #[Value.func (.yield p.b) #[] #[]] := by simp [Act.eval]
      simp only [resolve, hgv, Deferred.ofValue, hm]
      rfl
    have hargs : VRs ρ1 (first ++ [.yld l] ++ cap) (fs ++ [.func (.yield p.b) #[] #[]] ++ cs) :=
      ((hfs.mono he1.le).append (.cons (by simp only [VR]; exact ⟨p, hpl, rfl⟩) .nil)).append (hcs.mono he1.le)
    refine ⟨p.b, mark, w1, _, w1, gf, (fs ++ [Value.func (.yield p.b) #[] #[]] ++ cs).toArray, w1, hrun, hres, (fun f' _ => FR_fn b f'), ?_, (fun h => by rw [FR_depth] at h; cases h), ?_⟩
    · simp only [invoke]
      rw [show (fs ++ [Value.func (.yield p.b) #[] #[]] ++ cs).toArray = fs.toArray ++ #[.func (.yield p.b) #[] #[]] ++ cs.toArray by simp]
      exact hcr _ _
    · refine (hcalls ρ1 w1 _ hH1 hargs b (n - 1)).mono fun e2 w2 h2 => ?_
      obtain ⟨u, rfl, ρ2, _, hH2, he2, hf2⟩ := h2
      obtain ⟨jump, w4, hj1, hj2⟩ := xEnd_sound (b := b) (n := n) (a := { a with defers := mark ++ a.defers }) hex h hfl2 (hr.mono (he1.le.trans he2.le)) (by rw [henv1, hn1]; exact (hs.env.mono he1.le).mono he2.le) (hd1.mono he2.le) hH2 (he2.le _ _ hpl)
      refine ⟨jump, w4, hj1, ?_⟩
      have hE : Ext ρ ρ2 fl w st.c c2 := he1.trans hf1.size he2
      have hF : Fr ρ fl w w2 := hf1.trans he1 hf2
      cases jump with
      | none => exact hj2.trans hE hF
      | some j => exact wpIn_mono hj2 fun e3 a3 w3 h3 => h3.trans hE hF

end
end Go.Ev

namespace Go.Ev
open Go

/-- Names below the floor stay; no name is above the count. -/
structure Good (fl c : Nat) (H : T AObj) (c' : Nat) (H' : T AObj) : Prop where
  count : c ≤ c'
  keep : ∀ x, x < fl → x < c → H'.get x = H.get x
  dom : (∀ x, H.get x ≠ none → x < c) → ∀ x, H'.get x ≠ none → x < c'

theorem Good.refl (fl c : Nat) (H : T AObj) : Good fl c H c H := ⟨Nat.le_refl _, fun _ _ _ => rfl, fun h => h⟩
theorem Good.trans {fl c c1 c2 : Nat} {H H1 H2 : T AObj} (h : Good fl c H c1 H1) (k : Good fl c1 H1 c2 H2) : Good fl c H c2 H2 :=
  ⟨Nat.le_trans h.count k.count, fun x h1 h2 => (k.keep x h1 (Nat.lt_of_lt_of_le h2 h.count)).trans (h.keep x h1 h2), fun hd => k.dom (h.dom hd)⟩
theorem Good.new (fl c : Nat) (H : T AObj) (o : AObj) : Good fl c H (c + 1) (H.set c o) := by
  refine ⟨Nat.le_succ _, fun x _ h2 => by rw [T.get_set, if_neg (by omega)], fun hd x hx => ?_⟩
  rw [T.get_set] at hx
  split at hx
  · omega
  · have := hd x hx; omega
theorem Good.write {fl c x : Nat} {H : T AObj} {o o' : AObj} (hx : H.get x = some o) (hf : fl ≤ x) : Good fl c H c (H.set x o') := by
  refine ⟨Nat.le_refl _, fun y h1 _ => by rw [T.get_set, if_neg (by omega)], fun hd y hy => ?_⟩
  rw [T.get_set] at hy
  split at hy
  · rename_i h; subst h; exact hd _ (by rw [hx]; simp)
  · exact hd y hy
theorem Good.del {fl c x : Nat} {H : T AObj} (hf : fl ≤ x) : Good fl c H c (H.del x) := by
  refine ⟨Nat.le_refl _, fun y h1 _ => by rw [T.get_del, if_neg (by omega)], fun hd y hy => ?_⟩
  rw [T.get_del] at hy
  split at hy
  · exact absurd rfl hy
  · exact hd y hy

theorem putCells_good {H H' : T AObj} {fl x off : Nat} {l : List AV} (c : Nat) (e : putCells H fl x off l = some H') : Good fl c H c H' := by
  unfold putCells at e
  simp only [Bool.cond_eq_ite] at e
  split at e
  case isFalse => cases e
  rename_i hb
  simp only [Bool.and_eq_true, Nat.ble_eq] at hb
  split at e
  · rename_i cs hx
    simp only [Option.map_eq_some_iff] at e
    obtain ⟨cs', _, rfl⟩ := e
    exact .write hx hb.1
  · rename_i cs s hx
    simp only [Option.map_eq_some_iff] at e
    obtain ⟨cs', _, rfl⟩ := e
    exact .write hx hb.1
  · cases e

section
variable {P : Program} {fl : Nat}

theorem append_good {H H' : T AObj} {c c' : Nat} {ts : List TypeId} {a b v : AV} (e : appendA P H c fl ts a b = some (v, H', c')) : Good fl c H c' H' := by
  unfold appendA at e
  split at e
  case h_2 => cases e
  split at e
  case h_2 => cases e
  split at e
  case h_2 => cases e
  split at e
  case h_2 => cases e
  simp only [Bool.cond_eq_ite] at e
  split at e
  · split at e
    · split at e
      · simp only [Option.some.injEq, Prod.mk.injEq] at e; obtain ⟨_, rfl, rfl⟩ := e; exact .refl _ _ _
      · cases e
    · simp only [Option.some.injEq, Prod.mk.injEq] at e; obtain ⟨_, rfl, rfl⟩ := e; exact .refl _ _ _
  split at e
  case isFalse => cases e
  split at e
  · simp only [Option.some.injEq, Prod.mk.injEq] at e; obtain ⟨_, rfl, rfl⟩ := e; exact .new _ _ _ _
  · split at e
    · simp only [Option.map_eq_some_iff, Prod.mk.injEq] at e
      obtain ⟨H2, e, _, rfl, rfl⟩ := e
      exact putCells_good _ e
    · simp only [Option.some.injEq, Prod.mk.injEq] at e; obtain ⟨_, rfl, rfl⟩ := e; exact .new _ _ _ _
  · split at e
    · split at e
      · rename_i hc
        simp only [Bool.and_eq_true, Nat.ble_eq] at hc
        simp only [Option.some.injEq, Prod.mk.injEq] at e
        obtain ⟨_, rfl, rfl⟩ := e
        exact (Good.del hc.1.2).trans (.new _ _ _ _)
      · cases e
    · rename_i hx
      split at e
      · rename_i hc
        simp only [Bool.and_eq_true, Nat.ble_eq] at hc
        simp only [Option.some.injEq, Prod.mk.injEq] at e
        obtain ⟨_, rfl, rfl⟩ := e
        exact (Good.write hx hc.1.1.2).trans (.new _ _ _ _)
      · cases e
    · cases e
  · cases e

theorem opt1_good {H H' : T AObj} {c c' : Nat} {r : Option AV} {v : AV} (e : valV (opt1 r H c) = some (v, H', c')) : Good fl c H c' H' := by
  cases r with
  | none => simp [opt1, valV] at e
  | some r => simp only [opt1, Option.map_some, valV, Option.some.injEq, Prod.mk.injEq] at e; obtain ⟨_, rfl, rfl⟩ := e; exact .refl _ _ _

theorem op_good {H H' : T AObj} {c c' : Nat} {op : Op} {vs : List AV} {v : AV} (e : valV (opA P H c fl op vs) = some (v, H', c')) : Good fl c H c' H' := by
  have self : ∀ {r : Option ORes} {v0 : AV}, r = some (.val v0 H c) → valV r = some (v, H', c') → Good fl c H c' H' := by
    rintro r v0 rfl h
    simp only [valV, Option.some.injEq, Prod.mk.injEq] at h
    obtain ⟨_, rfl, rfl⟩ := h
    exact .refl _ _ _
  have mk : ∀ {r : Option ORes} {v0 : AV} {H0 : T AObj} {c0 : Nat}, r = some (.val v0 H0 c0) → Good fl c H c0 H0 → valV r = some (v, H', c') → Good fl c H c' H' := by
    rintro r v0 H0 c0 rfl hg h
    simp only [valV, Option.some.injEq, Prod.mk.injEq] at h
    obtain ⟨_, rfl, rfl⟩ := h
    exact hg
  cases op
  case makeMap t r =>
    cases r <;> simp only [opA] at e
    · unfold oMap at e
      split at e
      · exact mk rfl (.new _ _ _ _) e
      · simp [valV] at e
    · simp [valV] at e
  all_goals simp only [opA] at e
  case move => unfold oMove at e; split at e <;> first | exact self rfl e | simp [valV] at e
  case assign => unfold oMove at e; split at e <;> first | exact self rfl e | simp [valV] at e
  case pick => unfold oPick at e; split at e <;> first | exact self rfl e | simp [valV] at e
  case alloc => unfold oAlloc at e; split at e <;> first | exact mk rfl (.new _ _ _ _) e | simp [valV] at e
  case box => unfold oBox at e; split at e <;> first | exact mk rfl (.new _ _ _ _) e | simp [valV] at e
  case build => exact opt1_good e
  case buildSlice =>
    unfold oBuildSlice at e
    split at e
    · split at e
      · simp only [Bool.cond_eq_ite] at e
        split at e
        · split at e
          · split at e
            · exact mk rfl (.new _ _ _ _) e
            · simp [valV] at e
          · simp [valV] at e
        · simp [valV] at e
      · simp [valV] at e
    · simp [valV] at e
  case load => unfold oLoad at e; split at e <;> (try split at e) <;> first | exact self rfl e | simp [valV] at e
  case store =>
    unfold oStore at e
    split at e
    · split at e
      · rename_i h
        unfold storeA at h
        split at h
        · simp only [Bool.cond_eq_ite] at h
          split at h
          · exact mk rfl (putCells_good c h) e
          · cases h
        · cases h
      · simp [valV] at e
    · simp [valV] at e
  case nilCheck => unfold oNil at e; split at e <;> (try split at e) <;> first | exact self rfl e | simp [valV] at e
  case binOp => unfold oBin at e; split at e <;> first | exact opt1_good e | simp [valV] at e
  case unOp => unfold oUn at e; split at e <;> first | exact opt1_good e | simp [valV] at e
  case convert => unfold oConvert at e; split at e <;> (try split at e) <;> first | exact self rfl e | simp [valV] at e
  case makeFunc => unfold oFunc at e; split at e <;> first | exact self rfl e | simp [valV] at e
  case makeSlice =>
    unfold oMakeSlice at e
    split at e
    · split at e
      · split at e
        · simp only [Bool.cond_eq_ite] at e
          split at e
          · exact mk rfl (.new _ _ _ _) e
          · simp [valV] at e
        · simp [valV] at e
      · simp [valV] at e
    · simp [valV] at e
  case slice =>
    unfold oSlice at e
    split at e
    · exact opt1_good e
    · simp [valV] at e
  case fieldAddr => unfold oFieldAddr at e; split at e <;> first | exact opt1_good e | simp [valV] at e
  case field => unfold oField at e; split at e <;> first | exact opt1_good e | simp [valV] at e
  case indexAddr => unfold oIndexAddr at e; split at e <;> first | exact opt1_good e | simp [valV] at e
  case index => unfold oIndex at e; split at e <;> first | exact opt1_good e | simp [valV] at e
  case lookup => unfold oLookup at e; split at e <;> first | exact opt1_good e | simp [valV] at e
  case extract => unfold oExtract at e; split at e <;> first | exact opt1_good e | simp [valV] at e
  case call k =>
    unfold oCall at e
    split at e
    · unfold builtinA at e
      split at e
      · exact opt1_good e
      · rename_i a b _
        cases h : appendA P H c fl _ a b with
        | none => rw [h] at e; simp [valV] at e
        | some x =>
          obtain ⟨v0, H0, c0⟩ := x
          rw [h] at e
          exact mk rfl (append_good h) e
      · rename_i a b _
        cases h : copyA P H fl _ a b with
        | none => rw [h] at e; simp [valV] at e
        | some x =>
          obtain ⟨v0, H0⟩ := x
          rw [h] at e
          refine mk rfl ?_ e
          unfold copyA at h
          split at h
          · split at h
            · split at h
              · split at h
                · simp only [Option.map_eq_some_iff, Prod.mk.injEq] at h
                  obtain ⟨H2, h, _, rfl⟩ := h
                  exact putCells_good _ h
                · simp only [Option.some.injEq, Prod.mk.injEq] at h
                  obtain ⟨_, rfl⟩ := h
                  exact .refl _ _ _
                · cases h
              · cases h
            · cases h
          · cases h
      · split at e <;> first | exact opt1_good e | simp [valV] at e
      · split at e <;> first | exact opt1_good e | simp [valV] at e
      · simp [valV] at e
    · unfold oCallV at e
      split at e <;> simp [valV] at e
    · simp [valV] at e
  case mapUpdate =>
    unfold oUpdate at e
    split at e
    · split at e
      · rename_i h
        refine mk rfl ?_ e
        unfold updateA at h
        split at h
        · simp only [Bool.cond_eq_ite] at h
          split at h
          · rename_i hc
            simp only [Bool.and_eq_true, Nat.ble_eq] at hc
            split at h
            · rename_i hx
              simp only [Option.map_eq_some_iff] at h
              obtain ⟨es', _, rfl⟩ := h
              exact .write hx hc.2
            · cases h
          · cases h
        · cases h
      · simp [valV] at e
    · simp [valV] at e
  case insert =>
    unfold oUpdate at e
    split at e
    · split at e
      · rename_i h
        refine mk rfl ?_ e
        unfold updateA at h
        split at h
        · simp only [Bool.cond_eq_ite] at h
          split at h
          · rename_i hc
            simp only [Bool.and_eq_true, Nat.ble_eq] at hc
            split at h
            · rename_i hx
              simp only [Option.map_eq_some_iff] at h
              obtain ⟨es', _, rfl⟩ := h
              exact .write hx hc.2
            · cases h
          · cases h
        · cases h
      · simp [valV] at e
    · simp [valV] at e
  case mapEntry =>
    unfold oEntry at e
    split at e
    · split at e
      · rename_i h
        refine mk rfl ?_ e
        unfold entryA at h
        split at h
        · simp only [Bool.cond_eq_ite] at h
          split at h
          · rename_i hc
            simp only [Bool.and_eq_true, Nat.ble_eq] at hc
            split at h
            · rename_i hx _
              split at h
              · simp only [Option.map_eq_some_iff, Prod.mk.injEq] at h
                obtain ⟨es', _, _, rfl⟩ := h
                exact .write hx hc.2
              · cases h
            · cases h
          · cases h
        · cases h
      · simp [valV] at e
    · simp [valV] at e
  case entryStore =>
    unfold oEntryStore at e
    split at e
    · split at e
      · rename_i h
        refine mk rfl ?_ e
        unfold entryStoreA at h
        split at h
        · simp only [Bool.cond_eq_ite] at h
          split at h
          · rename_i hc
            have hc : _ ≤ _ := Nat.le_of_ble_eq_true hc
            split at h
            · rename_i hx
              simp only [Option.map_eq_some_iff] at h
              obtain ⟨es', _, rfl⟩ := h
              exact .write hx hc
            · cases h
          · cases h
        · cases h
      · simp [valV] at e
    · simp [valV] at e
  all_goals simp [valV] at e

/-- Calls keep names. -/
def CallGood (call : CallFn) : Prop := ∀ fl f args H c v H' c', call fl f args H c = some (v, H', c') → Good fl c H c' H'
def ExecGood (ex : ExecFn) : Prop := ∀ r fl code st e st', ex r fl code st = some (e, st') → Good fl st.c st.H st'.c st'.H

theorem step_good {call round : CallFn} (h1 : CallGood call) (h2 : CallGood round) {H H' : T AObj} {c c' : Nat} {op : Op} {vs : List AV} {v : AV} (e : stepA P call round fl op vs H c = some (v, H', c')) : Good fl c H c' H' := by
  unfold stepA at e
  simp only [Bool.cond_eq_ite] at e
  split at e
  · unfold callV at e
    split at e
    · exact h1 _ _ _ _ _ _ _ _ e
    · exact h2 _ _ _ _ _ _ _ _ e
    · cases e
  · exact op_good e

theorem regS_good {call round : CallFn} (h1 : CallGood call) (h2 : CallGood round) {ops : List Oper} : ∀ {l : List Oper} {st st' : St}, regS P call round fl ops l st = some st' → Good fl st.c st.H st'.c st'.H
  | [], st, st', e => by simp only [regS, Option.some.injEq] at e; subst e; exact .refl _ _ _
  | o :: l, st, st', e => by
    simp only [regS] at e
    split at e
    · rename_i st1 hs
      refine Good.trans ?_ (regS_good h1 h2 e)
      unfold sOp at hs
      split at hs
      · unfold sRun at hs
        split at hs
        · unfold sDone at hs
          split at hs
          · rename_i hst
            split at hs
            · simp only [Option.some.injEq] at hs; subst hs; exact step_good h1 h2 hst
            · cases hs
          · cases hs
        · cases hs
      · split at hs
        · simp only [Option.some.injEq] at hs; subst hs; exact .refl _ _ _
        · cases hs
      · cases hs
    · cases e

theorem leave_good {c : Nat} : ∀ {ds : List Nat} {H H' : T AObj}, leaveA fl H ds = some H' → Good fl c H c H'
  | [], H, H', e => by simp only [leaveA, Option.some.injEq] at e; subst e; exact .refl _ _ _
  | d :: ds, H, H', e => by
    simp only [leaveA] at e
    split at e
    · rename_i hx
      simp only [Bool.cond_eq_ite] at e
      split at e
      · rename_i hf
        exact (Good.write hx (by simpa using hf)).trans (leave_good e)
      · cases e
    · cases e

theorem call_good {ex : ExecFn} (hex : ExecGood ex) : CallGood (callA P ex) := by
  intro fl f args H c v H' c' e
  unfold callA at e
  split at e
  case h_2 => cases e
  have key : ∀ {fn : Func} {st : St}, cEnd P fl fn st = some (v, H', c') → Good fl st.c st.H c' H' := by
    intro fn st h
    unfold cEnd at h
    split at h
    · rename_i hl
      simp only [Option.map_eq_some_iff, Prod.mk.injEq] at h
      obtain ⟨_, _, _, rfl, rfl⟩ := h
      exact leave_good hl
    · cases h
  rw [withNat_eq] at e
  unfold cRet at e
  split at e
  · rename_i hx; exact Good.trans (hex _ _ _ _ _ _ hx) (key e)
  · rename_i hx; exact Good.trans (hex _ _ _ _ _ _ hx) (key e)
  · cases e

theorem round_good {ex : ExecFn} (hex : ExecGood ex) : CallGood (roundA ex) := by
  intro fl l args H c v H' c' e
  unfold roundA at e
  split at e
  case h_2 => cases e
  simp only [Bool.cond_eq_ite] at e
  split at e
  case isFalse => cases e
  rename_i hf
  have hf' : fl ≤ l := by simpa using hf
  split at e
  case h_2 => cases e
  unfold rBody at e
  split at e
  case h_2 => cases e
  rename_i h1
  split at e
  case h_2 => cases e
  rename_i hl1
  unfold rEnd at e
  split at e
  case h_2 => cases e
  rename_i h2
  split at e
  case h_2 => cases e
  rename_i hl2
  simp only [Option.some.injEq, Prod.mk.injEq] at e
  obtain ⟨_, rfl, rfl⟩ := e
  have g1 := hex _ _ _ _ _ _ h1
  have g2 := hex _ _ _ _ _ _ h2
  exact g1.trans ((Good.write hl1 hf').trans (g2.trans (Good.write hl2 hf')))

theorem enter_good {r : Option Nat} {st st' : St} {ps : List Tmp} {assign body : Code} {l : Nat} (e : enterA r st ps assign body = some (l, st')) : Good fl st.c st.H st'.c st'.H ∧ st.c ≤ l := by
  unfold enterA at e
  split at e
  · simp only [Option.some.injEq, Prod.mk.injEq] at e
    obtain ⟨rfl, rfl⟩ := e
    exact ⟨(Good.new _ _ _ _).trans (.new _ _ _ _), Nat.le_succ _⟩
  · split at e
    · simp only [Option.some.injEq, Prod.mk.injEq] at e
      obtain ⟨rfl, rfl⟩ := e
      exact ⟨.new _ _ _ _, Nat.le_refl _⟩
    · cases e

theorem range_good {ex : ExecFn} (hex : ExecGood ex) {r : Option Nat} {g : Operand} {ps : Array Tmp} {assign body : Code} {st st' : St} {e : AExit} (h : xRange P r fl g ps assign body ex st = some (e, st')) : Good fl st.c st.H st'.c st'.H := by
  unfold xRange at h
  split at h
  case h_2 => cases h
  rename_i gf first cap l st1 hg hen
  simp only [Bool.cond_eq_ite] at h
  split at h
  · cases h
  rename_i hfl
  have hfl' : fl ≤ st.c := by simpa using hfl
  obtain ⟨g1, hcl⟩ := enter_good (fl := fl) hen
  cases hca : callA P ex fl gf (first ++ [.yld l] ++ cap) st1.H st1.c with
  | none => rw [hca] at h; simp [xEnd] at h
  | some x =>
    rw [hca] at h
    obtain ⟨v2, H2, c2⟩ := x
    have g2 := call_good hex _ _ _ _ _ _ _ _ hca
    simp only [xEnd] at h
    split at h
    case h_2 => cases h
    rename_i hl
    have g3 := g1.trans g2
    split at h
    · cases h
    · split at h
      · simp only [Option.some.injEq, Prod.mk.injEq] at h
        obtain ⟨_, rfl⟩ := h
        exact g3.trans (.write hl (by omega))
      · exact g3.trans ((Good.write hl (by omega)).trans (hex _ _ _ _ _ _ h))

theorem hide_get : ∀ (xs : List Nat) (H : T AObj) (y : Nat), (hideA H xs).1.get y = if y ∈ xs then none else H.get y
  | [], H, y => by simp [hideA]
  | x :: xs, H, y => by
    simp only [hideA]
    split
    · rename_i o hx
      show (hideA (H.del x) xs).1.get y = _
      rw [hide_get xs, T.get_del]
      by_cases h1 : y ∈ xs
      · simp [h1]
      · by_cases h2 : y = x
        · subst h2; simp
        · simp [h1, h2]
    · rename_i hx
      rw [hide_get xs]
      by_cases h1 : y ∈ xs
      · simp [h1]
      · by_cases h2 : y = x
        · subst h2; simp [hx]
        · simp [h1, h2]

theorem back_get : ∀ (xs : List Nat) (H H' : T AObj) (y : Nat), (backA H' (hideA H xs).2).get y = if y ∈ xs ∧ H.get y ≠ none then H.get y else H'.get y
  | [], H, H', y => by simp [hideA, backA]
  | x :: xs, H, H', y => by
    simp only [hideA]
    split
    · rename_i o hx
      show (backA (H'.set x o) (hideA (H.del x) xs).2).get y = _
      rw [back_get xs, T.get_del, T.get_set]
      by_cases h2 : y = x
      · subst h2; simp [hx]
      · simp [h2]
    · rename_i hx
      rw [back_get xs]
      by_cases h2 : y = x
      · subst h2; simp [hx]
      · simp [h2]

/-- What a region's operation does, in the text's order. -/
structure DStep (P : Program) (call round : CallFn) (fl : Nat) (ops : List Oper) (i : OpI) (rs : List Rec) (st : St) (v : AV) (H' : T AObj) (c' : Nat) (r : Rec) : Prop where
  us : ∃ us, recsAt rs i.un = some us ∧
    ((wantedA ops i.o st.env = some false ∧ v = undefA ∧ H' = st.H ∧ c' = st.c ∧ r = ⟨false, none, 0, 0, none, none, none⟩) ∨
     (wantedA ops i.o st.env = some true ∧ ∃ vs, operandsA P.globals.size st.env (opArgs i.o.op) = some vs ∧
      ((kindA i.o.op = .free ∧ stepA P call round fl i.o.op vs st.H st.c = some (v, H', c') ∧ r = ⟨false, none, c', c', none, none, none⟩) ∨
       (kindA i.o.op = .new ∧ stepA P call round fl i.o.op vs st.H st.c = some (v, H', c') ∧ r = ⟨false, none, st.c, c', none, none, none⟩) ∨
       (kindA i.o.op = .load ∧ ∃ a x bs, vs = a :: bs ∧ nameL a = some x ∧ us.all (fun r => offRec x r && offWas x r) = true ∧ stepA P call round fl i.o.op vs st.H st.c = some (v, H', c') ∧ r = ⟨false, some x, c', c', none, none, lookOf i.o.op bs v⟩) ∨
       (kindA i.o.op = .store ∧ ∃ a b x, vs = [a, b] ∧ nameOf a = some x ∧ us.all (fun r => offRec x r && offReads x r) = true ∧ stepA P call round fl i.o.op vs st.H st.c = some (v, H', c') ∧ r = ⟨false, some x, c', c', some x, none, none⟩) ∨
       (kindA i.o.op = .heavy ∧ us.all (fun r => !r.heavy && r.st.isNone) = true ∧ ∃ H1, stepA P call round (bif i.wide then fl else st.c) i.o.op vs (hideA st.H (us.flatMap fun r => (List.range (r.hi - r.lo)).map (r.lo + ·))).1 st.c = some (v, H1, c') ∧
          H' = backA H1 (hideA st.H (us.flatMap fun r => (List.range (r.hi - r.lo)).map (r.lo + ·))).2 ∧ (i.wide = true → us.all (sameR P st.H H') = true) ∧ r = ⟨true, none, st.c, c', none, bif i.wide then some (st.H, H') else none, none⟩))))

theorem regD_cons {call round : CallFn} {ops : List Oper} {i : OpI} {rest : List OpI} {rs : List Rec} {st st' : St} (e : regD P call round fl ops (i :: rest) rs st = some st') :
    ∃ v H' c' r env, DStep P call round fl ops i rs st v H' c' r ∧ putA st.env st.n i.o.dst v = some env ∧ regD P call round fl ops rest (rs ++ [r]) { st with env := env, H := H', c := c' } = some st' := by
  simp only [regD] at e
  split at e
  · rename_i us hus hw
    split at e
    · cases e
    rename_i vs hvs
    split at e
    · rename_i v H' c' r hx
      split at e
      · rename_i env hp
        refine ⟨v, H', c', r, env, ⟨us, hus, .inr ⟨hw, vs, hvs, ?_⟩⟩, hp, e⟩
        split at hx
        · rename_i hk
          split at hx
          · rename_i hs
            simp only [Option.some.injEq, Prod.mk.injEq] at hx
            obtain ⟨rfl, rfl, rfl, rfl⟩ := hx
            exact .inl ⟨hk, hs, rfl⟩
          · cases hx
        · rename_i hk
          split at hx
          · rename_i hs
            simp only [Option.some.injEq, Prod.mk.injEq] at hx
            obtain ⟨rfl, rfl, rfl, rfl⟩ := hx
            exact .inr (.inl ⟨hk, hs, rfl⟩)
          · cases hx
        · rename_i a bs hk
          split at hx
          · rename_i x hn
            simp only [Bool.cond_eq_ite] at hx
            split at hx
            · rename_i hall
              split at hx
              · rename_i hs
                simp only [Option.some.injEq, Prod.mk.injEq] at hx
                obtain ⟨rfl, rfl, rfl, rfl⟩ := hx
                exact .inr (.inr (.inl ⟨hk, a, x, _, rfl, hn, hall, hs, rfl⟩))
              · cases hx
            · cases hx
          · cases hx
        · rename_i a b hk
          split at hx
          · rename_i x hn
            simp only [Bool.cond_eq_ite] at hx
            split at hx
            · rename_i hall
              split at hx
              · rename_i hs
                simp only [Option.some.injEq, Prod.mk.injEq] at hx
                obtain ⟨rfl, rfl, rfl, rfl⟩ := hx
                exact .inr (.inr (.inr (.inl ⟨hk, a, b, x, rfl, hn, hall, hs, rfl⟩)))
              · cases hx
            · cases hx
          · cases hx
        · rename_i hk
          simp only [Bool.cond_eq_ite] at hx
          split at hx
          · rename_i hall
            split at hx
            · rename_i hs
              cases hw : i.wide with
              | true =>
                rw [hw] at hx hs
                simp only [if_true] at hx hs
                split at hx
                · rename_i hsm
                  simp only [Option.some.injEq, Prod.mk.injEq] at hx
                  obtain ⟨rfl, rfl, rfl, rfl⟩ := hx
                  exact .inr (.inr (.inr (.inr ⟨hk, hall, _, hs, rfl, fun _ => hsm, rfl⟩)))
                · cases hx
              | false =>
                rw [hw] at hx hs
                simp only [Bool.false_eq_true, if_false] at hx hs
                simp only [Option.some.injEq, Prod.mk.injEq] at hx
                obtain ⟨rfl, rfl, rfl, rfl⟩ := hx
                exact .inr (.inr (.inr (.inr ⟨hk, hall, _, hs, rfl, (fun h => by cases h), rfl⟩)))
            · cases hx
          · cases hx
        · cases hx
      · cases e
    · cases e
  · rename_i us hus hw
    split at e
    · rename_i env hp
      exact ⟨undefA, st.H, st.c, _, env, ⟨us, hus, .inl ⟨hw, rfl, rfl, rfl, rfl⟩⟩, hp, e⟩
    · cases e
  · cases e

theorem keep_back {H H1 : T AObj} {xs : List Nat} {c c' fl' : Nat} (hf : fl ≤ fl') (h : Good fl' c (hideA H xs).1 c' H1) : Good fl c H c' (backA H1 (hideA H xs).2) := by
  refine ⟨h.count, fun x h1 h2 => ?_, fun hd x hx => ?_⟩
  · rw [back_get]
    by_cases hx : x ∈ xs ∧ H.get x ≠ none
    · rw [if_pos hx]
    · rw [if_neg hx, h.keep x (by omega) h2, hide_get]
      by_cases h3 : x ∈ xs
      · rw [if_pos h3]
        cases hq : H.get x with
        | none => rfl
        | some _ => exact absurd ⟨h3, by rw [hq]; simp⟩ hx
      · rw [if_neg h3]
  · rw [back_get] at hx
    by_cases h1 : x ∈ xs ∧ H.get x ≠ none
    · have := hd x h1.2
      have := h.count
      omega
    · rw [if_neg h1] at hx
      refine h.dom (fun y hy => ?_) x hx
      rw [hide_get] at hy
      split at hy
      · exact absurd rfl hy
      · exact hd y hy

theorem dstep_good {call round : CallFn} (h1 : CallGood call) (h2 : CallGood round) {ops : List Oper} {i : OpI} {rs : List Rec} {st : St} {v : AV} {H' : T AObj} {c' : Nat} {r : Rec} (_hfl : fl ≤ st.c ∨ i.wide = true ∨ True)
    (h : DStep P call round fl ops i rs st v H' c' r) : Good (min fl st.c) st.c st.H c' H' := by
  obtain ⟨us, _, h⟩ := h.us
  have weak : ∀ {c c' fl' : Nat} {H H' : T AObj}, min fl st.c ≤ fl' → Good fl' c H c' H' → Good (min fl st.c) c H c' H' := fun hle g => ⟨g.count, fun x a b => g.keep x (by omega) b, g.dom⟩
  rcases h with ⟨_, _, rfl, rfl, _⟩ | ⟨_, vs, _, h⟩
  · exact .refl _ _ _
  rcases h with ⟨_, hs, _⟩ | ⟨_, hs, _⟩ | ⟨_, a, x, _, _, _, _, hs, _⟩ | ⟨_, a, b, x, _, _, _, hs, _⟩ | ⟨_, _, H1, hs, rfl, _, _⟩
  · exact weak (Nat.min_le_left _ _) (step_good h1 h2 hs)
  · exact weak (Nat.min_le_left _ _) (step_good h1 h2 hs)
  · exact weak (Nat.min_le_left _ _) (step_good h1 h2 hs)
  · exact weak (Nat.min_le_left _ _) (step_good h1 h2 hs)
  · refine keep_back ?_ (step_good h1 h2 hs)
    cases i.wide
    · exact Nat.min_le_right _ _
    · exact Nat.min_le_left _ _

theorem regD_good {call round : CallFn} (h1 : CallGood call) (h2 : CallGood round) {ops : List Oper} : ∀ {is : List OpI} {rs : List Rec} {st st' : St}, regD P call round fl ops is rs st = some st' → Good fl st.c st.H st'.c st'.H
  | [], rs, st, st', e => by simp only [regD, Option.some.injEq] at e; subst e; exact .refl _ _ _
  | i :: is, rs, st, st', e => by
    obtain ⟨v, H', c', r, env, hd, hp, e⟩ := regD_cons e
    have g := dstep_good h1 h2 (.inr (.inr trivial)) hd
    have g' : Good fl st.c st.H c' H' := ⟨g.count, fun x a b => g.keep x (by omega) b, g.dom⟩
    exact g'.trans (regD_good h1 h2 e)

theorem callX_good {orc : CallFn} (ho : CallGood orc) {ex : ExecFn} (hex : ExecGood ex) : CallGood (callX orc P ex) := by
  intro fl f args H c v H' c' e
  unfold callX at e
  split at e
  · rename_i h; rw [e] at h; exact ho _ _ _ _ _ _ _ _ h
  · exact call_good hex _ _ _ _ _ _ _ _ e

theorem exec_good {orc : CallFn} (ho : CallGood orc) : ∀ f, ExecGood (exec orc P f) := by
  intro f
  induction f with
  | zero => intro r fl code st e st' h; simp [exec] at h
  | succ f ih =>
    intro r fl code st e st' h
    have seq : ∀ {cb : Code} {x : Option (AExit × St)}, (∀ e1 st1, x = some (e1, st1) → Good fl st.c st.H st1.c st1.H) → xSeq r fl cb (exec orc P f) x = some (e, st') → Good fl st.c st.H st'.c st'.H := by
      intro cb x hx h
      unfold xSeq at h
      split at h
      · exact (hx _ _ rfl).trans (ih _ _ _ _ _ _ h)
      · exact hx _ _ h
    cases code with
    | skip => simp only [exec, Option.some.injEq, Prod.mk.injEq] at h; obtain ⟨_, rfl⟩ := h; exact .refl _ _ _
    | label l => simp only [exec, Option.some.injEq, Prod.mk.injEq] at h; obtain ⟨_, rfl⟩ := h; exact .refl _ _ _
    | exit id => simp only [exec, Option.some.injEq, Prod.mk.injEq] at h; obtain ⟨_, rfl⟩ := h; exact .refl _ _ _
    | goto l => simp only [exec, Option.some.injEq, Prod.mk.injEq] at h; obtain ⟨_, rfl⟩ := h; exact .refl _ _ _
    | ret => simp only [exec, Option.some.injEq, Prod.mk.injEq] at h; obtain ⟨_, rfl⟩ := h; exact .refl _ _ _
    | refuse why => simp [exec] at h
    | region id ops draw =>
      simp only [exec, Bool.cond_eq_ite] at h
      cases draw with
      | true =>
        simp only [if_true] at h
        split at h
        · obtain ⟨h1, _⟩ := xReg_some h
          exact regD_good (callX_good ho ih) (round_good ih) h1
        · cases h
      | false =>
        simp only [Bool.false_eq_true, if_false] at h
        obtain ⟨h1, _⟩ := xReg_some h
        exact regS_good (callX_good ho ih) (round_good ih) h1
    | seq x y => simp only [exec] at h; exact seq (fun e1 st1 h1 => ih _ _ _ _ _ _ h1) h
    | loop x => simp only [exec] at h; exact seq (fun e1 st1 h1 => ih _ _ _ _ _ _ h1) h
    | cond c0 x y =>
      simp only [exec] at h
      unfold xCond at h
      split at h
      · rename_i t _
        cases t
        · exact ih _ _ _ _ _ _ h
        · exact ih _ _ _ _ _ _ h
      · cases h
    | block id x =>
      simp only [exec] at h
      unfold xBlock at h
      split at h
      · rename_i h1
        simp only [Bool.cond_eq_ite] at h
        split at h
        · simp only [Option.some.injEq, Prod.mk.injEq] at h; obtain ⟨_, rfl⟩ := h; exact ih _ _ _ _ _ _ h1
        · simp only [Option.some.injEq, Prod.mk.injEq] at h; obtain ⟨_, rfl⟩ := h; exact ih _ _ _ _ _ _ h1
      · exact ih _ _ _ _ _ _ h
    | scope x =>
      simp only [exec] at h
      unfold xScope at h
      split at h
      · cases h
      · exact ih _ _ _ _ _ _ h
    | rangeFunc g ps assign body => simp only [exec] at h; exact range_good ih h

end
end Go.Ev

namespace Go.Ev
open Go

section
variable {G : Nat} {P : Program}

/-- What is to be proved of a region whose order is open. -/
def DrawOK (G : Nat) (P : Program) : Prop := ∀ (call round : CallFn), CallOK G P call → RoundOK G P round → CallGood call → CallGood round → ∀ (fl : Nat) (ops : Array Oper), regOk ops.toList = true → ∀ (id : Nat) (st st' : St), regD P call round fl ops.toList (opIs ops.toList) [] st = some st' →
  ∀ (ρ : Rho) (a : Act) (w : World) (b : Option Nat) (n : Nat), SR G ρ st a w → (Code.region id ops true).wpIn (FR b) n P (PostX G ρ fl st.c w .normal st') a w

theorem callX_sound {orc : CallFn} (ho : CallOK G P orc) {ex : ExecFn} (hex : ExecOK G P ex) : CallOK G P (callX orc P ex) := by
  intro fl f args H c v H' c' e
  unfold callX at e
  split at e
  · rename_i h; rw [e] at h; exact ho _ _ _ _ _ _ _ _ h
  · exact call_sound hex _ _ _ _ _ _ _ _ e

theorem exec_sound {orc : CallFn} (ho : CallOK G P orc) (hg : CallGood orc) (hG : P.globals.size = G) (hD : DrawOK G P) : ∀ f, ExecOK G P (exec orc P f) := by
  intro f
  induction f using Nat.strongRecOn with
  | _ f ih =>
    cases f with
    | zero => intro r fl code st e st' h; simp [exec] at h
    | succ f =>
      have ihf := ih f (by omega)
      intro r fl code st e st' h ρ a w b n hs hr
      cases code with
      | skip =>
        simp only [exec, Option.some.injEq, Prod.mk.injEq] at h
        obtain ⟨rfl, rfl⟩ := h
        exact wpIn_skip ⟨rfl, .refl hs⟩
      | label l =>
        simp only [exec, Option.some.injEq, Prod.mk.injEq] at h
        obtain ⟨rfl, rfl⟩ := h
        exact wpIn_label ⟨rfl, .refl hs⟩
      | exit id =>
        simp only [exec, Option.some.injEq, Prod.mk.injEq] at h
        obtain ⟨rfl, rfl⟩ := h
        exact wpIn_exit ⟨rfl, .refl hs⟩
      | goto l =>
        simp only [exec, Option.some.injEq, Prod.mk.injEq] at h
        obtain ⟨rfl, rfl⟩ := h
        exact wpIn_goto ⟨rfl, .refl hs⟩
      | ret =>
        simp only [exec, Option.some.injEq, Prod.mk.injEq] at h
        obtain ⟨rfl, rfl⟩ := h
        exact wpIn_ret ⟨rfl, .refl hs⟩
      | refuse why => simp [exec] at h
      | region id ops draw =>
        simp only [exec, Bool.cond_eq_ite] at h
        cases draw with
        | true =>
          simp only [if_true] at h
          split at h
          · rename_i hok
            obtain ⟨h1, rfl⟩ := xReg_some h
            exact hD _ _ (callX_sound ho ihf) (round_sound ihf) (callX_good hg (exec_good hg f)) (round_good (exec_good hg f)) fl ops hok id st st' h1 ρ a w b n hs
          · cases h
        | false =>
          simp only [Bool.false_eq_true, if_false] at h
          obtain ⟨h1, rfl⟩ := xReg_some h
          exact wpIn_region_list (regS_sound hG (callX_sound ho ihf) (round_sound ihf) hs h1 fun a' w' hg => ⟨rfl, hg⟩)
      | seq x y =>
        simp only [exec] at h
        exact xSeq_sound ihf h hr fun e1 st1 h1 => ihf _ _ _ _ _ _ h1 ρ a w b n hs hr
      | cond c0 x y =>
        simp only [exec] at h
        unfold xCond at h
        split at h
        · rename_i t ht
          rw [hG] at ht
          have hv := operand_sound hs.mem hs.env ht
          simp only [VR] at hv
          refine wpIn_cond hv ?_
          cases t with
          | true => exact ihf _ _ _ _ _ _ h ρ a w b n hs hr
          | false => exact ihf _ _ _ _ _ _ h ρ a w b n hs hr
        · cases h
      | block id x =>
        simp only [exec] at h
        refine wpIn_block ?_
        unfold xBlock at h
        split at h
        · rename_i id' st1 h1
          refine wpIn_mono (ihf _ _ _ _ _ _ h1 ρ a w b n hs hr) fun e1 a1 w1 hp => ?_
          obtain ⟨rfl, hg⟩ := hp
          simp only [Bool.cond_eq_ite] at h
          simp only [AExit.conc, Exit.inBlock]
          split at h
          · rename_i hid
            have hid' : id' = id := by simpa using hid
            simp only [Option.some.injEq, Prod.mk.injEq] at h
            obtain ⟨rfl, rfl⟩ := h
            rw [if_pos hid']
            exact ⟨rfl, hg⟩
          · rename_i hid
            have hid' : ¬ id' = id := by simpa using hid
            simp only [Option.some.injEq, Prod.mk.injEq] at h
            obtain ⟨rfl, rfl⟩ := h
            rw [if_neg hid']
            exact ⟨rfl, hg⟩
        · rename_i hne
          refine wpIn_mono (ihf _ _ _ _ _ _ h ρ a w b n hs hr) fun e1 a1 w1 hp => ?_
          obtain ⟨rfl, hg⟩ := hp
          cases e with
          | exit id' => exact absurd h (hne id' st')
          | normal => exact ⟨rfl, hg⟩
          | goto l => exact ⟨rfl, hg⟩
          | ret => exact ⟨rfl, hg⟩
      | loop x =>
        refine wpIn_loop_fuel (fun g a1 w1 => g ≤ f + 1 ∧ ∃ ρ1 st1, SR G ρ1 st1 a1 w1 ∧ Ext ρ ρ1 fl w st.c st1.c ∧ Fr ρ fl w w1 ∧ exec orc P g r fl (.loop x) st1 = some (e, st')) (f + 1) ⟨Nat.le_refl _, ρ, st, hs, .refl _ _ _ _, .refl _ _ _, h⟩ ?_
        rintro g a1 w1 ⟨hg, ρ1, st1, hs1, he1, hf1, hx⟩
        cases g with
        | zero => simp [exec] at hx
        | succ g =>
          have ihg := ih g (by omega)
          simp only [exec] at hx
          unfold xSeq at hx
          split at hx
          · rename_i st2 h2
            refine wpIn_mono (ihg _ _ _ _ _ _ h2 ρ1 a1 w1 b n hs1 (hr.mono he1.le)) fun e1 a2 w2 hp => ?_
            obtain ⟨rfl, ρ2, hs2, he2, hf2⟩ := hp
            exact ⟨g, by omega, by omega, ρ2, st2, hs2, he1.trans hf1.size he2, hf1.trans he1 hf2, hx⟩
          · rename_i x' hne
            refine wpIn_mono (ihg _ _ _ _ _ _ hx ρ1 a1 w1 b n hs1 (hr.mono he1.le)) fun e1 a2 w2 hp => ?_
            have hp := hp.trans he1 hf1
            obtain ⟨rfl, hg⟩ := hp
            cases e with
            | normal => exact absurd hx (hne st')
            | exit id => exact ⟨rfl, hg⟩
            | goto l => exact ⟨rfl, hg⟩
            | ret => exact ⟨rfl, hg⟩
      | rangeFunc g ps assign body =>
        simp only [exec] at h
        exact xRange_sound hG ihf hs hr h
      | scope x =>
        simp only [exec] at h
        refine wpIn_scope_straight ?_
        unfold xScope at h
        split at h
        · cases h
        · rename_i hne
          refine wpIn_mono (ihf _ _ _ _ _ _ h ρ a w b n hs hr) fun e1 a1 w1 hp => ?_
          obtain ⟨rfl, hg⟩ := hp
          cases e with
          | goto l => exact absurd h (hne l st')
          | normal => exact ⟨by simp [AExit.conc], rfl, hg⟩
          | exit id => exact ⟨by simp [AExit.conc], rfl, hg⟩
          | ret => exact ⟨by simp [AExit.conc], rfl, hg⟩

end
end Go.Ev

