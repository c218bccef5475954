/-
  The evaluator: regions whose order is open.
-/
import Derived.Test.YtjnckbefajfgbaaEvB
namespace Go.Ev
open Go

theorem foldMask (masks : List Nat) (i : Nat) : ∀ (l : List Edge) (s : Nat), (l.foldl (fun s e => bif Region.binds .any e then s ||| 2 ^ e.on ||| masks.getD e.on 0 else s) s).testBit i = true ↔
    s.testBit i = true ∨ ∃ e ∈ l, Region.binds .any e = true ∧ (e.on = i ∨ (masks.getD e.on 0).testBit i = true)
  | [], s => by simp
  | e :: l, s => by
    simp only [List.foldl_cons, foldMask masks i l]
    cases hb : Region.binds .any e with
    | false => simp [hb]
    | true =>
      simp only [cond_true, Nat.testBit_or, Bool.or_eq_true, Nat.testBit_two_pow, decide_eq_true_eq, List.mem_cons, exists_eq_or_imp, hb, true_and]
      constructor
      · rintro (((h | h) | h) | h)
        · exact .inl h
        · exact .inr (.inl (.inl h))
        · exact .inr (.inl (.inr h))
        · exact .inr (.inr h)
      · rintro (h | (h | h) | h)
        · exact .inl (.inl (.inl h))
        · exact .inl (.inl (.inr h))
        · exact .inl (.inr h)
        · exact .inr h

theorem maskA_bit (masks : List Nat) (o : Oper) (i : Nat) : (maskA masks o).testBit i = true ↔ ∃ e ∈ o.after.toList, Region.binds .any e = true ∧ (e.on = i ∨ (masks.getD e.on 0).testBit i = true) := by
  unfold maskA
  rw [foldMask]
  simp

theorem masksA_spec : ∀ (l : List Oper) (acc : List Nat), (masksA l acc).take acc.length = acc ∧ (masksA l acc).length = acc.length + l.length ∧
    ∀ j o, l[j]? = some o → (masksA l acc)[acc.length + j]? = some (maskA ((masksA l acc).take (acc.length + j)) o)
  | [], acc => by simp [masksA]
  | o :: l, acc => by
    obtain ⟨h1, h2, h3⟩ := masksA_spec l (acc ++ [maskA acc o])
    simp only [masksA]
    have hl : (acc ++ [maskA acc o]).length = acc.length + 1 := by simp
    rw [hl] at h1 h2 h3
    have h1' : (masksA l (acc ++ [maskA acc o])).take acc.length = acc := by
      have := congrArg (List.take acc.length) h1
      rw [List.take_take, Nat.min_eq_left (Nat.le_succ _)] at this
      simpa using this
    refine ⟨h1', by rw [h2]; simp; omega, fun j o' hj => ?_⟩
    cases j with
    | zero =>
      simp only [List.getElem?_cons_zero, Option.some.injEq] at hj
      subst hj
      simp only [Nat.add_zero]
      rw [h1']
      have : (masksA l (acc ++ [maskA acc o]))[acc.length]? = ((masksA l (acc ++ [maskA acc o])).take (acc.length + 1))[acc.length]? := by
        rw [List.getElem?_take, if_pos (by omega)]
      rw [this, h1]
      simp
    | succ j =>
      have := h3 j o' (by simpa using hj)
      rw [show acc.length + (j + 1) = acc.length + 1 + j by omega]
      exact this

/-- That an operation surely comes before another. -/
def befA (L : List Oper) (j i : Nat) : Bool := ((masksA L []).getD j 0).testBit i

theorem bef_iff {L : List Oper} {j i : Nat} {o : Oper} (hj : L[j]? = some o) (hb : ∀ e ∈ o.after.toList, Region.binds .any e = true → e.on < j) :
    befA L j i = true ↔ ∃ e ∈ o.after.toList, Region.binds .any e = true ∧ (e.on = i ∨ befA L e.on i = true) := by
  obtain ⟨_, _, h3⟩ := masksA_spec L []
  have := h3 j o hj
  simp only [List.length_nil, Nat.zero_add] at this
  unfold befA
  rw [List.getD_eq_getElem?_getD, this, Option.getD_some, maskA_bit]
  constructor
  · rintro ⟨e, he, hbe, h⟩
    refine ⟨e, he, hbe, h.imp id fun h => ?_⟩
    rw [List.getD_eq_getElem?_getD, List.getElem?_take, if_pos (hb e he hbe)] at h
    rwa [List.getD_eq_getElem?_getD]
  · rintro ⟨e, he, hbe, h⟩
    refine ⟨e, he, hbe, h.imp id fun h => ?_⟩
    rw [List.getD_eq_getElem?_getD, List.getElem?_take, if_pos (hb e he hbe)]
    rwa [List.getD_eq_getElem?_getD] at h

def unA' (L : List Oper) (j : Nat) : List Nat := (List.range j).filter fun i => !befA L j i
def wideA (L : List Oper) (j : Nat) : Bool := ((List.range j).all fun i => befA L j i || lightA L i) && ((List.range L.length).all fun k => Nat.ble k j || befA L k j || lightA L k || (apA L j && nwA L k))

theorem opIs_get {L : List Oper} {j : Nat} {o : Oper} (hj : L[j]? = some o) : (opIs L)[j]? = some ⟨o, unA' L j, wideA L j⟩ := by
  simp only [opIs, List.getElem?_map, List.getElem?_zipIdx, hj, Option.map_some, Nat.zero_add]
  rfl

theorem opIs_length (L : List Oper) : (opIs L).length = L.length := by simp [opIs]

theorem mem_un {L : List Oper} {j i : Nat} : i ∈ unA' L j ↔ i < j ∧ befA L j i = false := by
  simp [unA', List.mem_filter]

theorem wide_before {L : List Oper} {j i : Nat} (h : wideA L j = true) (hi : i < j) (hb : befA L j i = false) : lightA L i = true := by
  simp only [wideA, Bool.and_eq_true, List.all_eq_true, List.mem_range, Bool.or_eq_true] at h
  exact (h.1 i hi).resolve_left (by rw [hb]; simp)
theorem wide_after {L : List Oper} {j k : Nat} (h : wideA L j = true) (hk : j < k) (hl : k < L.length) (hb : befA L k j = false) : lightA L k = true ∨ nwA L k = true := by
  simp only [wideA, Bool.and_eq_true, List.all_eq_true, List.mem_range, Bool.or_eq_true, Nat.ble_eq] at h
  rcases h.2 k hl with (h1 | h1) | h1
  · rw [hb] at h1
    rcases h1 with h1 | h1
    · omega
    · cases h1
  · exact .inl h1
  · exact .inr h1.2

/-- What a region's text grants. -/
structure RegFit (ops : Array Oper) : Prop where
  back : ∀ (j : Nat) (o : Oper), ops.toList[j]? = some o → ∀ e ∈ o.after.toList, Region.binds .any e = true → e.on < j
  apart : ∀ (i j : Nat) (p o : Oper), ops.toList[i]? = some p → ops.toList[j]? = some o → i < j → befA ops.toList j i = false → p.apart ops o = true
  noDefer : ∀ (j : Nat) (o : Oper), ops.toList[j]? = some o → ∀ k, o.op ≠ .defer k

theorem regOk_fit {ops : Array Oper} (h : regOk ops.toList = true) : RegFit ops := by
  simp only [regOk, Bool.and_eq_true] at h
  obtain ⟨⟨h1, h2⟩, h3⟩ := h
  refine ⟨fun j o hj e he hb => ?_, fun i j p o hi hj hlt hbef => ?_, fun j o hj k hk => ?_⟩
  · have := List.all_eq_true.1 h1 (o, j) (by rw [List.mem_iff_getElem?]; exact ⟨j, by simp [List.getElem?_zipIdx, hj]⟩)
    have := List.all_eq_true.1 this e he
    simpa [hb] using this
  · have hm : (⟨o, unA' ops.toList j, wideA ops.toList j⟩ : OpI) ∈ opIs ops.toList := List.mem_of_getElem? (opIs_get hj)
    have := List.all_eq_true.1 h3 _ hm
    have := List.all_eq_true.1 this i (mem_un.2 ⟨hlt, hbef⟩)
    rw [hi] at this
    simp only [Bool.and_eq_true] at this
    simpa using this.1
  · have := List.all_eq_true.1 h2 o (List.mem_of_getElem? hj)
    rw [hk] at this
    simp at this

/-! ### The text's order, step by step -/

theorem trace_exists {P : Program} {call round : CallFn} {fl : Nat} {ops : List Oper} : ∀ {is : List OpI} {rs : List Rec} {st st' : St}, regD P call round fl ops is rs st = some st' →
    ∃ (stf : Nat → St) (vf : Nat → AV) (rf : Nat → Rec), stf 0 = st ∧ stf is.length = st' ∧ ∀ j i, is[j]? = some i →
      DStep P call round fl ops i (rs ++ (List.range j).map rf) (stf j) (vf j) (stf (j + 1)).H (stf (j + 1)).c (rf j) ∧ putA (stf j).env (stf j).n i.o.dst (vf j) = some (stf (j + 1)).env ∧
        (stf (j + 1)).n = (stf j).n ∧ (stf (j + 1)).dfs = (stf j).dfs
  | [], rs, st, st', e => by
    simp only [regD, Option.some.injEq] at e
    subst e
    exact ⟨fun _ => st, fun _ => undefA, fun _ => ⟨false, none, 0, 0, none, none, none⟩, rfl, rfl, fun j i h => by simp at h⟩
  | i :: is, rs, st, st', e => by
    obtain ⟨v, H', c', r, env, hd, hp, e⟩ := regD_cons e
    obtain ⟨stf, vf, rf, h0, hn, hall⟩ := trace_exists e
    refine ⟨fun j => match j with | 0 => st | j + 1 => stf j, fun j => match j with | 0 => v | j + 1 => vf j, fun j => match j with | 0 => r | j + 1 => rf j, rfl, hn, fun j i' hi => ?_⟩
    cases j with
    | zero =>
      simp only [List.getElem?_cons_zero, Option.some.injEq] at hi
      subst hi
      simp only [List.range_zero, List.map_nil, List.append_nil, h0]
      first | exact ⟨hd, hp, rfl, rfl⟩ | exact ⟨hd, hp, trivial, trivial⟩ | exact ⟨hd, hp, trivial⟩ | simp_all
    | succ j =>
      have := hall j i' (by simpa using hi)
      simp only [List.range_succ_eq_map, List.map_cons, List.map_map]
      rw [List.append_assoc] at this
      exact this

theorem recs_map {rf : Nat → Rec} {j : Nat} : ∀ {un : List Nat} {us : List Rec}, (∀ i ∈ un, i < j) → recsAt ((List.range j).map rf) un = some us → us = un.map rf
  | [], us, _, e => by simp [recsAt] at e; simp [e]
  | i :: un, us, h, e => by
    unfold recsAt at e
    simp only [List.mapM_cons, Option.bind_eq_bind, Option.pure_def, Option.bind_eq_some_iff] at e
    obtain ⟨r, hr, us', hus, e⟩ := e
    simp only [Option.some.injEq] at e
    subst e
    have hi := h i (by simp)
    simp only [List.getElem?_map, List.getElem?_range hi, Option.map_some, Option.some.injEq] at hr
    rw [List.map_cons, hr, ← recs_map (fun i hi => h i (by simp [hi])) hus]

end Go.Ev

namespace Go.Ev
open Go

section
variable {P : Program} {call round : CallFn} {fl : Nat} {H H' : T AObj} {c c' : Nat} {op : Op} {vs : List AV} {v : AV}

theorem valV_opt1 {r : Option AV} (e : valV (opt1 r H c) = some (v, H', c')) : r = some v ∧ H' = H ∧ c' = c := by
  cases r with
  | none => simp [opt1, valV] at e
  | some r => simp only [opt1, Option.map_some, valV, Option.some.injEq, Prod.mk.injEq] at e; obtain ⟨rfl, rfl, rfl⟩ := e; exact ⟨rfl, rfl, rfl⟩

theorem free_port (hk : kindA op = .free) (e : stepA P call round fl op vs H c = some (v, H', c')) :
    H' = H ∧ c' = c ∧ ∀ fl2 H2 c2, stepA P call round fl2 op vs H2 c2 = some (v, H2, c2) := by
  have o1 : ∀ {r : Option AV}, valV (opt1 r H c) = some (v, H', c') → H' = H ∧ c' = c ∧ ∀ (H2 : T AObj) c2, valV (opt1 r H2 c2) = some (v, H2, c2) := by
    intro r h
    obtain ⟨rfl, rfl, rfl⟩ := valV_opt1 h
    exact ⟨rfl, rfl, fun _ _ => rfl⟩
  have self : ∀ {v0 : AV}, valV (some (.val v0 H c)) = some (v, H', c') → H' = H ∧ c' = c ∧ ∀ (H2 : T AObj) c2, valV (some (.val v0 H2 c2)) = some (v, H2, c2) := by
    intro v0 h
    simp only [valV, Option.some.injEq, Prod.mk.injEq] at h
    obtain ⟨rfl, rfl, rfl⟩ := h
    exact ⟨rfl, rfl, fun _ _ => rfl⟩
  have none1 : valV (none : Option ORes) = some (v, H', c') → False := fun h => by simp [valV] at h
  have lift : ∀ {g : T AObj → Nat → Option ORes}, (∀ fl2 H2 c2, stepA P call round fl2 op vs H2 c2 = valV (g H2 c2)) → (valV (g H c) = some (v, H', c') → H' = H ∧ c' = c ∧ ∀ H2 c2, valV (g H2 c2) = some (v, H2, c2)) →
      H' = H ∧ c' = c ∧ ∀ fl2 H2 c2, stepA P call round fl2 op vs H2 c2 = some (v, H2, c2) := by
    intro g hg h
    rw [hg] at e
    obtain ⟨h1, h2, h3⟩ := h e
    exact ⟨h1, h2, fun fl2 H2 c2 => (hg fl2 H2 c2).trans (h3 H2 c2)⟩
  cases op <;> simp only [kindA, reduceCtorEq] at hk
  case move x => exact lift (g := oMove vs) (fun _ _ _ => rfl) fun h => by unfold oMove at h ⊢; split at h <;> first | exact self h | exact (none1 h).elim
  case assign x => exact lift (g := oMove vs) (fun _ _ _ => rfl) fun h => by unfold oMove at h ⊢; split at h <;> first | exact self h | exact (none1 h).elim
  case pick x y z => exact lift (g := oPick vs) (fun _ _ _ => rfl) fun h => by unfold oPick at h ⊢; split at h <;> first | exact self h | exact (none1 h).elim
  case build t ps => exact lift (g := oBuild P t ps vs) (fun _ _ _ => rfl) fun h => o1 h
  case nilCheck x => exact lift (g := oNil vs) (fun _ _ _ => rfl) fun h => by unfold oNil at h ⊢; split at h <;> (try split at h) <;> first | exact self h | exact (none1 h).elim
  case binOp b t x y yt => exact lift (g := oBin P b t vs) (fun _ _ _ => rfl) fun h => by unfold oBin at h ⊢; split at h <;> first | exact o1 h | exact (none1 h).elim
  case unOp b t x => exact lift (g := oUn b vs) (fun _ _ _ => rfl) fun h => by unfold oUn at h ⊢; split at h <;> first | exact o1 h | exact (none1 h).elim
  case convert s d x => exact lift (g := oConvert P s d vs) (fun _ _ _ => rfl) fun h => by unfold oConvert at h ⊢; split at h <;> (try split at h) <;> first | exact self h | exact (none1 h).elim
  case makeFunc f a b => exact lift (g := oFunc f a.size vs) (fun _ _ _ => rfl) fun h => by unfold oFunc at h ⊢; split at h <;> first | exact self h | exact (none1 h).elim
  case slice t x lo hi mx => exact lift (g := oSlice P t lo hi mx vs) (fun _ _ _ => rfl) fun h => by unfold oSlice at h ⊢; split at h <;> first | exact o1 h | exact (none1 h).elim
  case fieldAddr t x f => exact lift (g := oFieldAddr P t f vs) (fun _ _ _ => rfl) fun h => by unfold oFieldAddr at h ⊢; split at h <;> first | exact o1 h | exact (none1 h).elim
  case field t x f => exact lift (g := oField P t f vs) (fun _ _ _ => rfl) fun h => by unfold oField at h ⊢; split at h <;> first | exact o1 h | exact (none1 h).elim
  case indexAddr t x i => exact lift (g := oIndexAddr P t vs) (fun _ _ _ => rfl) fun h => by unfold oIndexAddr at h ⊢; split at h <;> first | exact o1 h | exact (none1 h).elim
  case index t x i => exact lift (g := oIndex P t vs) (fun _ _ _ => rfl) fun h => by unfold oIndex at h ⊢; split at h <;> first | exact o1 h | exact (none1 h).elim
  case extract x i => exact lift (g := oExtract i vs) (fun _ _ _ => rfl) fun h => by unfold oExtract at h ⊢; split at h <;> first | exact o1 h | exact (none1 h).elim
  case call k =>
    obtain ⟨callee, args, ts⟩ := k
    cases callee with
    | value f => simp at hk
    | invoke r m => simp at hk
    | builtin b =>
      cases b <;> simp only [reduceCtorEq] at hk
      case len =>
        refine lift (g := fun H c => builtinA P H c fl .len ts.toList vs) (fun fl2 H2 c2 => ?_) fun h => ?_
        · simp only [stepA, isCall, cond_false, opA, oCall]; unfold builtinA
          generalize ts.toList = l
          rcases l with _ | ⟨t, l⟩ <;> rcases vs with _ | ⟨x, _ | ⟨y, vs⟩⟩ <;> first | rfl | (cases x <;> rfl)
        · unfold builtinA at h ⊢
          split at h <;> (try split at h) <;> first | exact o1 h | exact (none1 h).elim | (simp at *; done) | skip
      case min =>
        refine lift (g := fun H c => builtinA P H c fl .min ts.toList vs) (fun fl2 H2 c2 => ?_) fun h => ?_
        · simp only [stepA, isCall, cond_false, opA, oCall]; unfold builtinA
          generalize ts.toList = l
          rcases l with _ | ⟨t, l⟩ <;> rcases vs with _ | ⟨x, _ | ⟨y, vs⟩⟩ <;> first | rfl | (cases x <;> rfl)
        · unfold builtinA at h ⊢
          split at h <;> (try split at h) <;> first | exact o1 h | exact (none1 h).elim | (simp at *; done) | skip
      case max =>
        refine lift (g := fun H c => builtinA P H c fl .max ts.toList vs) (fun fl2 H2 c2 => ?_) fun h => ?_
        · simp only [stepA, isCall, cond_false, opA, oCall]; unfold builtinA
          generalize ts.toList = l
          rcases l with _ | ⟨t, l⟩ <;> rcases vs with _ | ⟨x, _ | ⟨y, vs⟩⟩ <;> first | rfl | (cases x <;> rfl)
        · unfold builtinA at h ⊢
          split at h <;> (try split at h) <;> first | exact o1 h | exact (none1 h).elim | (simp at *; done) | skip

theorem new_port (hk : kindA op = .new) (e : stepA P call round fl op vs H c = some (v, H', c')) :
    ∃ o, H' = H.set c o ∧ c' = c + 1 ∧ ∀ fl2 H2, stepA P call round fl2 op vs H2 c = some (v, H2.set c o, c + 1) := by
  have self : ∀ {v0 : AV} {o : AObj}, valV (some (.val v0 (H.set c o) (c + 1))) = some (v, H', c') → ∃ o, H' = H.set c o ∧ c' = c + 1 ∧ v0 = v := by
    intro v0 o h
    simp only [valV, Option.some.injEq, Prod.mk.injEq] at h
    obtain ⟨rfl, rfl, rfl⟩ := h
    exact ⟨o, rfl, rfl, rfl⟩
  have none1 : valV (none : Option ORes) = some (v, H', c') → False := fun h => by simp [valV] at h
  have fin : ∀ {v0 : AV} {o : AObj} {g : T AObj → Option ORes}, (∀ fl2 H2, stepA P call round fl2 op vs H2 c = valV (g H2)) → (∀ H2, g H2 = some (.val v0 (H2.set c o) (c + 1))) →
      ∃ o, H' = H.set c o ∧ c' = c + 1 ∧ ∀ fl2 H2, stepA P call round fl2 op vs H2 c = some (v, H2.set c o, c + 1) := by
    intro v0 o g hg hg2
    rw [hg, hg2] at e
    simp only [valV, Option.some.injEq, Prod.mk.injEq] at e
    obtain ⟨rfl, rfl, rfl⟩ := e
    exact ⟨o, rfl, rfl, fun fl2 H2 => by rw [hg, hg2]; rfl⟩
  have e0 := e
  cases op <;> simp only [kindA, reduceCtorEq] at hk
  case call k =>
    exfalso
    obtain ⟨callee, args, ts⟩ := k
    cases callee with
    | value f => simp at hk
    | invoke r m => simp at hk
    | builtin b => cases b <;> simp at hk
  case alloc t =>
    simp only [stepA, isCall, cond_false, opA] at e
    unfold oAlloc at e
    split at e
    · rename_i z hz
      exact fin (g := fun H2 => oAlloc P t H2 c) (fun _ _ => rfl) (fun H2 => by unfold oAlloc; rw [hz])
    · exact (none1 e).elim
  case box t x =>
    simp only [stepA, isCall, cond_false, opA] at e
    unfold oBox at e
    split at e
    · rename_i v1
      exact fin (v0 := .ptr c 0) (o := .cells v1.cells) (g := fun H2 => oBox [v1] H2 c) (fun _ _ => rfl) (fun H2 => rfl)
    · exact (none1 e).elim
  case buildSlice t len ps =>
    simp only [stepA, isCall, cond_false, opA] at e
    unfold oBuildSlice at e
    split at e
    case h_2 => exact (none1 e).elim
    rename_i elem hu
    split at e
    case h_2 => exact (none1 e).elim
    rename_i s hs
    simp only [Bool.cond_eq_ite] at e
    split at e
    case isFalse => exact (none1 e).elim
    rename_i hb
    split at e
    case h_2 => exact (none1 e).elim
    rename_i row hr
    split at e
    case h_2 => exact (none1 e).elim
    rename_i cs hc
    exact fin (v0 := .sl c 0 len len) (o := .cells cs) (g := fun H2 => oBuildSlice P t len ps vs H2 c) (fun _ _ => rfl) (fun H2 => by
      unfold oBuildSlice
      simp only [hu, hs, Bool.cond_eq_ite, hb, if_true, hr, hc])
  case makeMap t r =>
    cases r with
    | some r => simp only [stepA, isCall, cond_false, opA] at e; exact (none1 e).elim
    | none =>
      simp only [stepA, isCall, cond_false, opA] at e
      unfold oMap at e
      split at e
      · exact fin (v0 := .map c) (o := .map []) (g := fun H2 => oMap [] H2 c) (fun _ _ => rfl) (fun H2 => rfl)
      · exact (none1 e).elim
  case makeSlice t x y =>
    simp only [stepA, isCall, cond_false, opA] at e
    unfold oMakeSlice at e
    split at e
    case h_2 => exact (none1 e).elim
    rename_i a b
    split at e
    case h_2 => exact (none1 e).elim
    rename_i elem l k hu hl hk2
    split at e
    case h_2 => exact (none1 e).elim
    rename_i i row hi hrow
    simp only [Bool.cond_eq_ite] at e
    split at e
    case isFalse => exact (none1 e).elim
    rename_i hc
    exact fin (v0 := .sl c 0 l k) (o := .cells row) (g := fun H2 => oMakeSlice P t [a, b] H2 c) (fun _ _ => rfl) (fun H2 => by
      unfold oMakeSlice
      simp only [hu, hl, hk2, hi, hrow, Bool.cond_eq_ite, hc, if_true])

theorem load_port {a : AV} {bs : List AV} {x : Nat} (hk : kindA op = .load) (hn : nameL a = some x) (e : stepA P call round fl op (a :: bs) H c = some (v, H', c')) :
    H' = H ∧ c' = c ∧ ∃ o, H.get x = some o ∧ ∀ fl2 H2 c2, H2.get x = some o → stepA P call round fl2 op (a :: bs) H2 c2 = some (v, H2, c2) := by
  cases op <;> simp only [kindA, reduceCtorEq] at hk
  case call k =>
    exfalso
    obtain ⟨callee, args, ts⟩ := k
    cases callee with
    | value f => simp at hk
    | invoke r m => simp at hk
    | builtin b => cases b <;> simp at hk
  case load t y =>
    have hs : ∀ fl2 H2 c2, stepA P call round fl2 (.load t y) (a :: bs) H2 c2 = valV (oLoad P t (a :: bs) H2 c2) := fun _ _ _ => rfl
    rw [hs] at e
    cases bs with
    | cons b bs => simp [oLoad, valV] at e
    | nil =>
    cases a <;> simp only [nameL, Option.some.injEq, reduceCtorEq] at hn
    case map m => simp [oLoad, loadA, valV] at e
    subst hn
    simp only [oLoad, loadA] at e
    cases hx : H.get _ with
    | none => rw [hx] at e; simp [valV] at e
    | some o =>
      rw [hx] at e
      split at e
      · rename_i v0 hv
        simp only [valV, Option.some.injEq, Prod.mk.injEq] at e
        obtain ⟨rfl, rfl, rfl⟩ := e
        refine ⟨rfl, rfl, o, rfl, fun fl2 H2 c2 h2 => ?_⟩
        rw [hs]
        simp only [oLoad, loadA, h2, hv, valV]
      · simp [valV] at e
  case lookup t y z ok =>
    have hs : ∀ fl2 H2 c2, stepA P call round fl2 (.lookup t y z ok) (a :: bs) H2 c2 = valV (oLookup P t ok (a :: bs) H2 c2) := fun _ _ _ => rfl
    rw [hs] at e
    match bs, e with
    | [], e => simp [oLookup, valV] at e
    | _ :: _ :: _, e => simp [oLookup, valV] at e
    | [k], e =>
    have e0 := e
    simp only [oLookup, opt1] at e
    cases hv : lookupA P H t a k ok with
    | none => rw [hv] at e; simp [valV] at e
    | some v0 =>
    rw [hv] at e
    simp only [Option.map_some, valV, Option.some.injEq, Prod.mk.injEq] at e
    obtain ⟨rfl, rfl, rfl⟩ := e
    refine ⟨rfl, rfl, ?_⟩
    cases a <;> simp only [nameL, Option.some.injEq, reduceCtorEq] at hn
    case ptr p off =>
      subst hn
      simp only [lookupA] at hv
      split at hv <;> simp at hv
    subst hn
    rename_i xm
    cases hx : H.get xm with
    | none =>
      simp only [lookupA, hx] at hv
      split at hv <;> simp at hv
    | some o =>
      refine ⟨o, rfl, fun fl2 H2 c2 h2 => ?_⟩
      rw [hs]
      have : lookupA P H2 t (.map xm) k ok = some v0 := by
        rw [← hv]
        simp only [lookupA, h2, hx]
      simp only [oLookup, opt1, this, Option.map_some, valV]

theorem store_port {a b : AV} {x : Nat} (hk : kindA op = .store) (_hn : nameOf a = some x) (e : stepA P call round fl op [a, b] H c = some (v, H', c')) :
    c' = c ∧ v = undefA ∧ ∃ t ea eb, op = .store t ea eb ∧ storeA P H fl t a b = some H' := by
  cases op <;> simp only [kindA, reduceCtorEq] at hk
  case call k =>
    exfalso
    obtain ⟨callee, args, ts⟩ := k
    cases callee with
    | value f => simp at hk
    | invoke r m => simp at hk
    | builtin b => cases b <;> simp at hk
  case store t y z =>
    simp only [stepA, isCall, cond_false, opA, oStore] at e
    split at e
    · rename_i H2 h2
      simp only [valV, Option.some.injEq, Prod.mk.injEq] at e
      obtain ⟨rfl, rfl, rfl⟩ := e
      exact ⟨rfl, rfl, t, y, z, rfl, h2⟩
    · simp [valV] at e

/-- A store, to the block. -/
theorem store_exact {ρ : Rho} {w : World} {t : TypeId} {a b : AV} {u x' : Value} {x : Nat} {p : Win} {o : AObj} (hn : nameOf a = some x) (ha : VR ρ a u) (hb : VR ρ b x') (hp : ρ x = some p) (hx : H.get x = some o) (ho : ObjR ρ w p o)
    (e : storeA P H fl t a b = some H') : ∃ o' w', H' = H.set x o' ∧ o.isRo = false ∧ o'.isRo = false ∧ fl ≤ x ∧ (Instr.storeAt t u x').run P w = .ok () w' ∧ ObjR ρ w' p o' ∧
      w'.heap.size = w.heap.size ∧ w'.os = w.os ∧ w'.tape = w.tape ∧ w'.output = w.output ∧ ∀ k, k ≠ p.b → w'.heap[k]? = w.heap[k]? := by
  cases a <;> simp only [nameOf, Option.some.injEq, reduceCtorEq] at hn
  subst hn
  rename_i y off
  simp only [VR] at ha
  obtain ⟨p', hp', rfl⟩ := ha
  rw [hp] at hp'
  cases hp'
  unfold storeA at e
  split at e
  case h_2 => cases e
  rename_i y' off' s hae hs
  cases hae
  simp only [Bool.cond_eq_ite] at e
  split at e
  case isFalse => cases e
  rename_i hl
  have hc := hb.cells
  have hlen := hc.length
  have hl' : b.cells.length = s := by simpa using hl
  have hsz : x'.cells.size = s := by rw [← hl', ← hlen]; simp
  unfold Ev.putCells at e
  simp only [Bool.cond_eq_ite] at e
  split at e
  case isFalse => cases e
  rename_i hcond
  simp only [Bool.and_eq_true, Nat.ble_eq] at hcond
  have h1 := hc.one hcond.2
  have key : ∀ (cur : Array Value) (tt : TypeId), w.heap[p.b]? = some (.cells cur tt (0, 0)) → p.o = 0 → off + x'.cells.toList.length ≤ cur.size →
      (Instr.storeAt t (.pointer (some ⟨p.b, p.o + off, none⟩)) x').run P w = .ok () (w.setRow p.b (cur.toList.take off ++ x'.cells.toList ++ cur.toList.drop (off + x'.cells.toList.length)).toArray) := fun cur tt hh h0 hle => by
    have := run_storeCells_at P p.b off tt x'.cells.toList 0 cur w hh (by omega) h1
    simp only [Instr.storeAt, Instr.sureAddr, Sem.run_bind, Sem.run_pure, Result.andThen_ok, storeVar, run_size hs]
    rw [if_neg (by simp [hsz]), h0, Nat.zero_add]
    simpa using this
  rw [hx] at e
  cases o with
  | cells cs =>
    simp only [Option.map_eq_some_iff] at e
    obtain ⟨cs', e, rfl⟩ := e
    obtain ⟨h0, us0, tt, hv, hh⟩ := ho
    obtain ⟨hv', hle⟩ := hv.splice hc e
    refine ⟨_, _, rfl, rfl, rfl, hcond.1, key _ tt hh h0 (by simpa using hle), ⟨h0, _, tt, hv', by rw [setRow_heap w p.b _ _ tt (0, 0) hh]⟩, by simp, rfl, rfl, rfl, fun k hk => setRow_other _ _ _ _ hk⟩
  | grown cs s' =>
    simp only [Option.map_eq_some_iff] at e
    obtain ⟨cs', e, rfl⟩ := e
    obtain ⟨h0, us0, rest, tt, hv, hh, hlen2⟩ := ho
    obtain ⟨hv', hle⟩ := hv.splice hc e
    refine ⟨_, _, rfl, rfl, rfl, hcond.1, key _ tt hh h0 (by simp at hle ⊢; omega), ⟨h0, _, rest, tt, hv', ?_, ?_⟩, by simp, rfl, rfl, rfl, fun k hk => setRow_other _ _ _ _ hk⟩
    · rw [setRow_heap w p.b _ _ tt (0, 0) hh]
      have e1 : off ≤ us0.length := by omega
      have e2 : off + x'.cells.toList.length ≤ us0.length := hle
      rw [List.take_append_of_le_length e1, List.drop_append_of_le_length e2]
      simp [List.append_assoc]
    · rw [← hlen2]
      simp only [List.length_append, List.length_take, List.length_drop]
      omega
  | ro cs => simp at e
  | tip cs s => simp at e
  | map es => simp at e
  | loop a b c d e f g h => simp at e
  | dfr => simp at e
  | dfrDone => simp at e

end
end Go.Ev

namespace Go.Ev
open Go

/-! ### The last that was written, by the operations of a set, in the text's order -/

open Classical in
noncomputable def lw {α : Type} (S : Nat → Bool) (W : Nat → Prop) (g : Nat → α) : Nat → α
  | 0 => g 0
  | n + 1 => if S n = true ∧ W n then g (n + 1) else lw S W g n

section
variable {α : Type} {S : Nat → Bool} {W : Nat → Prop} {g : Nat → α}

theorem lw_zero : lw S W g 0 = g 0 := rfl
theorem lw_yes {n : Nat} (h : S n = true) (h2 : W n) : lw S W g (n + 1) = g (n + 1) := by
  rw [lw, if_pos ⟨h, h2⟩]
theorem lw_no {n : Nat} (h : S n = true → ¬ W n) : lw S W g (n + 1) = lw S W g n := by
  rw [lw, if_neg fun ⟨a, b⟩ => h a b]

theorem lw_skip {j m : Nat} (hjm : j ≤ m) (h : ∀ n, j ≤ n → n < m → S n = true → ¬ W n) : lw S W g m = lw S W g j := by
  induction m with
  | zero => cases Nat.le_zero.1 hjm; rfl
  | succ m ih =>
    rcases Nat.lt_or_ge m j with h1 | h1
    · have : m + 1 = j := by omega
      rw [this]
    · rw [lw_no (h m h1 (Nat.lt_succ_self _)), ih h1 fun n a b => h n a (by omega)]

theorem lw_congr {S' : Nat → Bool} {m : Nat} (h : ∀ n, n < m → S' n = S n) : lw S' W g m = lw S W g m := by
  induction m with
  | zero => rfl
  | succ m ih =>
    by_cases hs : S m = true ∧ W m
    · rw [lw_yes hs.1 hs.2, lw_yes ((h m (Nat.lt_succ_self _)).trans hs.1) hs.2]
    · rw [lw_no fun a b => hs ⟨a, b⟩, lw_no fun a b => hs ⟨(h m (Nat.lt_succ_self _)).symm.trans a, b⟩, ih fun n hn => h n (by omega)]

theorem lw_set {S' : Nat → Bool} {j m : Nat} (hj : j < m) (hS : ∀ n, n ≠ j → S' n = S n) (hSj : S' j = true) (h0 : S j = false) (hlate : W j → ∀ n, j < n → n < m → S n = true → ¬ W n) :
    (W j → lw S' W g m = g (j + 1)) ∧ (¬ W j → lw S' W g m = lw S W g m) := by
  refine ⟨fun hw => ?_, fun hw => ?_⟩
  · rw [lw_skip (j := j + 1) (by omega) fun n a b c => hlate hw n (by omega) b (by rwa [hS n (by omega)] at c), lw_yes hSj hw]
  · clear hlate hj
    induction m with
    | zero => rfl
    | succ m ih =>
      by_cases e : m = j
      · subst e
        rw [lw_no fun _ => hw, lw_no (fun h => by rw [h0] at h; cases h), ih]
      · by_cases hs : S m = true ∧ W m
        · rw [lw_yes hs.1 hs.2, lw_yes ((hS m e).trans hs.1) hs.2]
        · rw [lw_no fun a b => hs ⟨a, b⟩, lw_no fun a b => hs ⟨(hS m e).symm.trans a, b⟩, ih]

theorem lw_last {j m : Nat} (hjm : j ≤ m) : lw S W g m = lw S W g j ∨ ∃ k, j ≤ k ∧ k < m ∧ S k = true ∧ W k ∧ lw S W g m = g (k + 1) := by
  induction m with
  | zero => cases Nat.le_zero.1 hjm; exact .inl rfl
  | succ m ih =>
    rcases Nat.lt_or_ge m j with h1 | h1
    · have : m + 1 = j := by omega
      rw [this]; exact .inl rfl
    · by_cases hs : S m = true ∧ W m
      · exact .inr ⟨m, h1, Nat.lt_succ_self _, hs.1, hs.2, lw_yes hs.1 hs.2⟩
      · rw [lw_no fun a b => hs ⟨a, b⟩]
        rcases ih h1 with e | ⟨k, a, b, c, d, e⟩
        · exact .inl e
        · exact .inr ⟨k, a, by omega, c, d, e⟩

end

section
variable {α : Type} {S : Nat → Bool} {W : Nat → Prop} {g : Nat → α × Nat} {c : Nat → Nat} {N : Nat}

theorem lw_agree (hg : ∀ n, n < N → ¬ W n → (g (n + 1)).1 = (g n).1) {j : Nat} (hj : j ≤ N) (h : ∀ n, n < j → S n = false → ¬ W n) : (lw S W g j).1 = (g j).1 := by
  induction j with
  | zero => rfl
  | succ j ih =>
    have ih := ih (by omega) fun n a b => h n (by omega) b
    by_cases hs : S j = true ∧ W j
    · rw [lw_yes hs.1 hs.2]
    · rw [lw_no fun a b => hs ⟨a, b⟩, ih]
      refine (hg j (by omega) fun hw => ?_).symm
      cases hb : S j with
      | true => exact hs ⟨hb, hw⟩
      | false => exact h j (Nat.lt_succ_self _) hb hw

theorem lw_count (hg : ∀ n, (g n).2 = c n) (hc : ∀ n, n < N → c n ≤ c (n + 1)) {j : Nat} (hj : j ≤ N) : (lw S W g j).2 ≤ c j := by
  induction j with
  | zero => rw [lw_zero, hg]; exact Nat.le_refl _
  | succ j ih =>
    by_cases hs : S j = true ∧ W j
    · rw [lw_yes hs.1 hs.2, hg]; exact Nat.le_refl _
    · rw [lw_no fun a b => hs ⟨a, b⟩]
      exact Nat.le_trans (ih (by omega)) (hc j (by omega))

end

def cutR (ρ : Rho) (k : Nat) : Rho := fun x => if x < k then ρ x else none
theorem cutR_le (ρ : Rho) (k : Nat) : RLe (cutR ρ k) ρ := fun x p h => by unfold cutR at h; split at h <;> first | exact h | cases h
theorem cutR_mono {ρ : Rho} {k k' : Nat} (h : k ≤ k') : RLe (cutR ρ k) (cutR ρ k') := fun x p hx => by
  unfold cutR at hx ⊢
  split at hx
  · rw [if_pos (by omega)]; exact hx
  · cases hx
theorem cutR_le2 {ρ ρ' : Rho} (k : Nat) (h : RLe ρ ρ') : RLe (cutR ρ k) (cutR ρ' k) := fun x p hx => by
  unfold cutR at hx ⊢
  split at hx
  · rename_i hlt; rw [if_pos hlt]; exact h x p hx
  · cases hx
theorem cutR_some {ρ : Rho} {k x : Nat} {p : Win} : cutR ρ k x = some p ↔ x < k ∧ ρ x = some p := by
  unfold cutR
  by_cases h : x < k
  · simp [h]
  · simp [h]

/-! ### The trace of a region -/

structure Trc (P : Program) (call round : CallFn) (fl : Nat) (ops : Array Oper) (stf : Nat → St) (vf : Nat → AV) (rf : Nat → Rec) : Prop where
  fit : RegFit ops
  cg : CallGood call
  rg : CallGood round
  step : ∀ j o, ops.toList[j]? = some o → DStep P call round fl ops.toList ⟨o, unA' ops.toList j, wideA ops.toList j⟩ ((List.range j).map rf) (stf j) (vf j) (stf (j + 1)).H (stf (j + 1)).c (rf j)
  put : ∀ j o, ops.toList[j]? = some o → putA (stf j).env (stf j).n o.dst (vf j) = some (stf (j + 1)).env
  n : ∀ j o, ops.toList[j]? = some o → (stf (j + 1)).n = (stf j).n
  dfs : ∀ j o, ops.toList[j]? = some o → (stf (j + 1)).dfs = (stf j).dfs
  dom0 : ∀ x, (stf 0).H.get x ≠ none → x < (stf 0).c

/-- Whether an operation writes a name, or makes it. -/
def wr (L : List Oper) (stf : Nat → St) (rf : Nat → Rec) (j x : Nat) : Prop :=
  ((stf j).c ≤ x ∧ x < (stf (j + 1)).c) ∨ (rf j).st = some x ∨ ((rf j).heavy = true ∧ wideA L j = true ∧ (stf (j + 1)).H.get x ≠ (stf j).H.get x)

/-- What a record says of two operations whose order is open. -/
def Un (L : List Oper) (i j : Nat) : Prop := i < j ∧ befA L j i = false

section
variable {P : Program} {call round : CallFn} {fl : Nat} {ops : Array Oper} {stf : Nat → St} {vf : Nat → AV} {rf : Nat → Rec}

theorem get_of_lt {j : Nat} (h : j < ops.toList.length) : ∃ o, ops.toList[j]? = some o := ⟨_, List.getElem?_eq_getElem h⟩

/-- The cases of an operation. -/
inductive DCase (P : Program) (call round : CallFn) (fl : Nat) (ops : Array Oper) (stf : Nat → St) (vf : Nat → AV) (rf : Nat → Rec) (j : Nat) (o : Oper) : Prop where
  | skip (hw : wantedA ops.toList o (stf j).env = some false) (hv : vf j = undefA) (hH : (stf (j + 1)).H = (stf j).H) (hc : (stf (j + 1)).c = (stf j).c) (hr : rf j = ⟨false, none, 0, 0, none, none, none⟩)
  | free (hw : wantedA ops.toList o (stf j).env = some true) (vs : List AV) (hvs : operandsA P.globals.size (stf j).env (opArgs o.op) = some vs) (hH : (stf (j + 1)).H = (stf j).H) (hc : (stf (j + 1)).c = (stf j).c)
      (hr : rf j = ⟨false, none, (stf (j + 1)).c, (stf (j + 1)).c, none, none, none⟩) (hs : ∀ fl2 H2 c2, stepA P call round fl2 o.op vs H2 c2 = some (vf j, H2, c2)) (hk : kindA o.op = .free)
  | new (hw : wantedA ops.toList o (stf j).env = some true) (vs : List AV) (hvs : operandsA P.globals.size (stf j).env (opArgs o.op) = some vs) (ob : AObj) (hH : (stf (j + 1)).H = (stf j).H.set (stf j).c ob) (hc : (stf (j + 1)).c = (stf j).c + 1)
      (hr : rf j = ⟨false, none, (stf j).c, (stf (j + 1)).c, none, none, none⟩) (hs : ∀ fl2 H2, stepA P call round fl2 o.op vs H2 (stf j).c = some (vf j, H2.set (stf j).c ob, (stf j).c + 1)) (hk : kindA o.op = .new)
  | load (hw : wantedA ops.toList o (stf j).env = some true) (a : AV) (x : Nat) (bs : List AV) (hvs : operandsA P.globals.size (stf j).env (opArgs o.op) = some (a :: bs)) (hall : ∀ i, Un ops.toList i j → offRec x (rf i) = true ∧ offWas x (rf i) = true) (hk : kindA o.op = .load)
      (hH : (stf (j + 1)).H = (stf j).H) (hc : (stf (j + 1)).c = (stf j).c) (hn : nameL a = some x) (hr : rf j = ⟨false, some x, (stf (j + 1)).c, (stf (j + 1)).c, none, none, lookOf o.op bs (vf j)⟩) (ob : AObj) (hx : (stf j).H.get x = some ob)
      (hs : ∀ fl2 H2 c2, H2.get x = some ob → stepA P call round fl2 o.op (a :: bs) H2 c2 = some (vf j, H2, c2))
  | store (hw : wantedA ops.toList o (stf j).env = some true) (a b : AV) (x : Nat) (hvs : operandsA P.globals.size (stf j).env (opArgs o.op) = some [a, b]) (hn : nameOf a = some x)
      (hall : ∀ i, Un ops.toList i j → offRec x (rf i) = true ∧ offReads x (rf i) = true) (hc : (stf (j + 1)).c = (stf j).c) (hv : vf j = undefA) (hr : rf j = ⟨false, some x, (stf (j + 1)).c, (stf (j + 1)).c, some x, none, none⟩)
      (t : TypeId) (ea eb : Operand) (ho : o.op = .store t ea eb) (hs : storeA P (stf j).H fl t a b = some (stf (j + 1)).H) (hk : kindA o.op = .store)
  | heavy (hw : wantedA ops.toList o (stf j).env = some true) (vs : List AV) (hvs : operandsA P.globals.size (stf j).env (opArgs o.op) = some vs) (hall : ∀ i, Un ops.toList i j → (rf i).heavy = false ∧ (rf i).st = none)
      (xs : List Nat) (hxs : ∀ x, x ∈ xs ↔ ∃ i, Un ops.toList i j ∧ (rf i).lo ≤ x ∧ x < (rf i).hi) (H1 : T AObj)
      (hs : stepA P call round (bif wideA ops.toList j then fl else (stf j).c) o.op vs (hideA (stf j).H xs).1 (stf j).c = some (vf j, H1, (stf (j + 1)).c)) (hH : (stf (j + 1)).H = backA H1 (hideA (stf j).H xs).2)
      (hr : rf j = ⟨true, none, (stf j).c, (stf (j + 1)).c, none, bif wideA ops.toList j then some ((stf j).H, (stf (j + 1)).H) else none, none⟩)
      (hsame : wideA ops.toList j = true → ∀ i, Un ops.toList i j → sameR P (stf j).H (stf (j + 1)).H (rf i) = true) (hk : kindA o.op = .heavy)

theorem notBeq {x y : Nat} : (!Nat.beq x y) = true ↔ some y ≠ some x := by
  cases hb : Nat.beq x y with
  | true => have := Nat.eq_of_beq_eq_true hb; subst this; simp
  | false => exact ⟨fun _ e => (by cases e; simp at hb), fun _ => rfl⟩

theorem offRec_iff {x : Nat} {r : Rec} : offRec x r = true ↔ ¬ (r.lo ≤ x ∧ x < r.hi) ∧ r.st ≠ some x := by
  unfold offRec
  rw [Bool.and_eq_true, Bool.or_eq_true, Nat.blt_eq, Nat.ble_eq]
  refine and_congr ⟨fun h => by omega, fun h => by omega⟩ ?_
  cases h : r.st with
  | none => exact ⟨fun _ e => (by cases e), fun _ => rfl⟩
  | some y => exact notBeq

theorem offReads_iff {x : Nat} {r : Rec} : offReads x r = true ↔ r.heavy = false ∧ r.reads ≠ some x := by
  unfold offReads
  rw [Bool.and_eq_true]
  refine and_congr (by simp) ?_
  cases h : r.reads with
  | none => exact ⟨fun _ e => (by cases e), fun _ => rfl⟩
  | some y => exact notBeq

theorem Trc.cases (h : Trc P call round fl ops stf vf rf) {j : Nat} {o : Oper} (hj : ops.toList[j]? = some o) : DCase P call round fl ops stf vf rf j o := by
  obtain ⟨us, hus, hd⟩ := (h.step j o hj).us
  have hus := recs_map (fun i hi => (mem_un.1 hi).1) hus
  subst hus
  have all : ∀ {f : Rec → Bool}, ((unA' ops.toList j).map rf).all f = true → ∀ i, Un ops.toList i j → f (rf i) = true := by
    intro f hf i hi
    exact List.all_eq_true.1 hf _ (List.mem_map.2 ⟨i, mem_un.2 hi, rfl⟩)
  rcases hd with ⟨h1, h2, h3, h4, h5⟩ | ⟨h1, vs, hvs, hd⟩
  · exact .skip h1 h2 h3 h4 h5
  rcases hd with ⟨hk, hs, hr⟩ | ⟨hk, hs, hr⟩ | ⟨hk, a, x, bs, rfl, hn, hall, hs, hr⟩ | ⟨hk, a, b, x, rfl, hn, hall, hs, hr⟩ | ⟨hk, hall, H1, hs, hH, hsm, hr⟩
  · obtain ⟨e1, e2, e3⟩ := free_port hk hs
    exact .free h1 vs hvs e1 e2 hr e3 hk
  · obtain ⟨ob, e1, e2, e3⟩ := new_port hk hs
    exact .new h1 vs hvs ob e1 e2 hr e3 hk
  · obtain ⟨e1, e2, ob, e3, e4⟩ := load_port hk hn hs
    exact .load h1 a x bs hvs (fun i hi => by have := all hall i hi; simpa using this) hk e1 e2 hn hr ob e3 e4
  · obtain ⟨e1, e2, t, ea, eb, e3, e4⟩ := store_port hk hn hs
    exact .store h1 a b x hvs hn (fun i hi => by have := all hall i hi; simpa using this) e1 e2 hr t ea eb e3 e4 hk
  · refine .heavy h1 vs hvs (fun i hi => by have := all hall i hi; simpa using this) _ (fun x => ?_) H1 hs hH hr (fun hw i hi => all (hsm hw) i hi) hk
    simp only [List.mem_flatMap, List.mem_map, List.mem_range]
    constructor
    · rintro ⟨r, ⟨i, hi, rfl⟩, k, hk, rfl⟩
      exact ⟨i, mem_un.1 hi, by omega, by omega⟩
    · rintro ⟨i, hi, h1, h2⟩
      exact ⟨rf i, ⟨i, mem_un.2 hi, rfl⟩, x - (rf i).lo, by omega, by omega⟩

theorem Trc.mono (h : Trc P call round fl ops stf vf rf) {j : Nat} (hj : j < ops.toList.length) : (stf j).c ≤ (stf (j + 1)).c := by
  obtain ⟨o, ho⟩ := get_of_lt hj
  exact (dstep_good h.cg h.rg (.inr (.inr trivial)) (h.step j o ho)).count

theorem Trc.monos (h : Trc P call round fl ops stf vf rf) {i j : Nat} (hij : i ≤ j) (hj : j ≤ ops.toList.length) : (stf i).c ≤ (stf j).c := by
  induction j with
  | zero => cases Nat.le_zero.1 hij; exact Nat.le_refl _
  | succ j ih =>
    rcases Nat.lt_or_ge j i with h1 | h1
    · have : i = j + 1 := by omega
      rw [this]; exact Nat.le_refl _
    · exact Nat.le_trans (ih h1 (by omega)) (h.mono (by omega))

theorem Trc.dom (h : Trc P call round fl ops stf vf rf) {j : Nat} (hj : j ≤ ops.toList.length) : ∀ x, (stf j).H.get x ≠ none → x < (stf j).c := by
  induction j with
  | zero => exact h.dom0
  | succ j ih =>
    obtain ⟨o, ho⟩ := get_of_lt (show j < ops.toList.length by omega)
    exact (dstep_good h.cg h.rg (.inr (.inr trivial)) (h.step j o ho)).dom (ih (by omega))

theorem Trc.ns (h : Trc P call round fl ops stf vf rf) {j : Nat} (hj : j ≤ ops.toList.length) : (stf j).n = (stf 0).n ∧ (stf j).dfs = (stf 0).dfs := by
  induction j with
  | zero => exact ⟨rfl, rfl⟩
  | succ j ih =>
    obtain ⟨o, ho⟩ := get_of_lt (show j < ops.toList.length by omega)
    obtain ⟨h1, h2⟩ := ih (by omega)
    exact ⟨(h.n j o ho).trans h1, (h.dfs j o ho).trans h2⟩

/-- The names that an operation makes are those of its record. -/
theorem Trc.range (h : Trc P call round fl ops stf vf rf) {j : Nat} (hj : j < ops.toList.length) {x : Nat} : (rf j).lo ≤ x ∧ x < (rf j).hi ↔ (stf j).c ≤ x ∧ x < (stf (j + 1)).c := by
  obtain ⟨o, ho⟩ := get_of_lt hj
  cases h.cases ho with
  | skip hw hv hH hc hr => rw [hr, hc]; simp only; omega
  | free hw vs hvs hH hc hr hs hk => rw [hr, hc]
  | new hw vs hvs ob hH hc hr hs hk => rw [hr]
  | load hw a x' bs hvs hall hk hH hc hn hr ob hx hs => rw [hr, hc]
  | store hw a b x' hvs hn hall hc hv hr t ea eb hop hs hk => rw [hr, hc]
  | heavy hw vs hvs hall xs hxs H1 hs hH hr hsame hk => rw [hr]

theorem storeA_get {H H' : T AObj} {t : TypeId} {a b : AV} {x : Nat} (hn : nameOf a = some x) (e : storeA P H fl t a b = some H') : (H.get x ≠ none) ∧ ∀ y, y ≠ x → H'.get y = H.get y := by
  cases a <;> simp only [nameOf, Option.some.injEq, reduceCtorEq] at hn
  subst hn
  unfold storeA at e
  split at e
  case h_2 => cases e
  rename_i y' off' s hae hs
  cases hae
  simp only [Bool.cond_eq_ite] at e
  split at e
  case isFalse => cases e
  unfold Ev.putCells at e
  simp only [Bool.cond_eq_ite] at e
  split at e
  case isFalse => cases e
  split at e
  · rename_i hx
    simp only [Option.map_eq_some_iff] at e
    obtain ⟨cs', e, rfl⟩ := e
    exact ⟨by rw [hx]; simp, fun y hy => by rw [T.get_set, if_neg hy]⟩
  · rename_i hx
    simp only [Option.map_eq_some_iff] at e
    obtain ⟨cs', e, rfl⟩ := e
    exact ⟨by rw [hx]; simp, fun y hy => by rw [T.get_set, if_neg hy]⟩
  · cases e

/-- What an operation does not write stays. -/
theorem Trc.stay (h : Trc P call round fl ops stf vf rf) {j : Nat} (hj : j < ops.toList.length) {x : Nat} (hx : ¬ wr ops.toList stf rf j x) : (stf (j + 1)).H.get x = (stf j).H.get x := by
  obtain ⟨o, ho⟩ := get_of_lt hj
  have hm := h.mono hj
  cases h.cases ho with
  | skip hw hv hH hc hr => rw [hH]
  | free hw vs hvs hH hc hr hs hk => rw [hH]
  | new hw vs hvs ob hH hc hr hs hk =>
    rw [hH, T.get_set]
    split
    · rename_i e; exact absurd (.inl ⟨by omega, by omega⟩) hx
    · rfl
  | load hw a x' bs hvs hall hk hH hc hn hr ob hx hs => rw [hH]
  | store hw a b x' hvs hn hall hc hv hr t ea eb hop hs hk =>
    refine (storeA_get hn hs).2 x fun e => hx (.inr (.inl ?_))
    rw [hr, e]
  | heavy hw vs hvs hall xs hxs H1 hs hH hr hsame hk =>
    cases hl : wideA ops.toList j with
    | true =>
      apply Classical.byContradiction
      intro hne
      exact hx (.inr (.inr ⟨by rw [hr], hl, hne⟩))
    | false =>
      rw [hl, cond_false] at hs
      have g : Good (stf j).c (stf j).c (stf j).H (stf (j + 1)).c (stf (j + 1)).H := by
        rw [hH]
        exact keep_back (Nat.le_refl _) (step_good h.cg h.rg hs)
      rcases Nat.lt_or_ge x (stf j).c with h1 | h1
      · exact g.keep x h1 h1
      · have h2 : ¬ x < (stf (j + 1)).c := fun h2 => hx (.inl ⟨h1, h2⟩)
        have e1 : (stf (j + 1)).H.get x = none := by
          apply Classical.byContradiction
          intro hne
          exact h2 (h.dom (by omega) x hne)
        have e2 : (stf j).H.get x = none := by
          apply Classical.byContradiction
          intro hne
          have := h.dom (by omega) x hne
          omega
        rw [e1, e2]

/-- A store is of an old name, and of one that the operations whose order is open do not touch. -/
theorem Trc.stored (h : Trc P call round fl ops stf vf rf) {j : Nat} (hj : j < ops.toList.length) {x : Nat} (hx : (rf j).st = some x) : x < (stf j).c ∧ (rf j).heavy = false ∧ ∀ i, Un ops.toList i j → offRec x (rf i) = true ∧ offReads x (rf i) = true := by
  obtain ⟨o, ho⟩ := get_of_lt hj
  cases h.cases ho with
  | skip hw hv hH hc hr => rw [hr] at hx; cases hx
  | free hw vs hvs hH hc hr hs hk => rw [hr] at hx; cases hx
  | new hw vs hvs ob hH hc hr hs hk => rw [hr] at hx; cases hx
  | load hw a x' bs hvs hall hk hH hc hn hr ob hx' hs => rw [hr] at hx; cases hx
  | store hw a b x' hvs hn hall hc hv hr t ea eb hop hs hk =>
    rw [hr] at hx
    simp only [Option.some.injEq] at hx
    subst hx
    exact ⟨h.dom (by omega) _ (storeA_get hn hs).1, by rw [hr], hall⟩
  | heavy hw vs hvs hall xs hxs H1 hs hH hr hsame hk => rw [hr] at hx; cases hx

theorem light_kind {i : Nat} {o : Oper} (ho : ops.toList[i]? = some o) (h : lightA ops.toList i = true) : kindA o.op = .free ∨ kindA o.op = .load := by
  unfold lightA at h
  rw [ho] at h
  simp only [light] at h
  split at h
  · rename_i h1; exact .inl h1
  · rename_i h1; exact .inr h1
  · cases h

/-- What only reads writes nothing. -/
theorem Trc.quiet (h : Trc P call round fl ops stf vf rf) {i : Nat} (hi : i < ops.toList.length) (hl : lightA ops.toList i = true) :
    (rf i).heavy = false ∧ (rf i).st = none ∧ (stf (i + 1)).c = (stf i).c := by
  obtain ⟨o, ho⟩ := get_of_lt hi
  have hkl := light_kind ho hl
  cases h.cases ho with
  | skip hw hv hH hc hr => rw [hr]; exact ⟨rfl, rfl, hc⟩
  | free hw vs hvs hH hc hr hs hk => rw [hr]; exact ⟨rfl, rfl, hc⟩
  | new hw vs hvs ob hH hc hr hs hk => rw [hk] at hkl; rcases hkl with h | h <;> cases h
  | load hw a x' bs hvs hall hk hH hc hn hr ob hx hs => rw [hr]; exact ⟨rfl, rfl, hc⟩
  | store hw a b x' hvs hn hall hc hv hr t ea eb hop hs hk => rw [hk] at hkl; rcases hkl with h | h <;> cases h
  | heavy hw vs hvs hall xs hxs H1 hs hH hr hsame hk => rw [hk] at hkl; rcases hkl with h | h <;> cases h

theorem Trc.quiet_wr (h : Trc P call round fl ops stf vf rf) {i x : Nat} (hi : i < ops.toList.length) (hl : lightA ops.toList i = true) : ¬ wr ops.toList stf rf i x := by
  obtain ⟨h1, h2, h3⟩ := h.quiet hi hl
  rintro (hw | hw | hw)
  · omega
  · rw [h2] at hw; cases hw
  · rw [h1] at hw; cases hw.1

theorem new_kind {i : Nat} {o : Oper} (ho : ops.toList[i]? = some o) (h : nwA ops.toList i = true) : kindA o.op = .new := by
  unfold nwA at h
  rw [ho] at h
  simp only at h
  split at h
  · assumption
  · cases h

theorem Trc.new_quiet (h : Trc P call round fl ops stf vf rf) {i : Nat} (hi : i < ops.toList.length) (hl : nwA ops.toList i = true) : (rf i).heavy = false ∧ (rf i).st = none ∧ (stf (i + 1)).c ≤ (stf i).c + 1 := by
  obtain ⟨o, ho⟩ := get_of_lt hi
  have hkl := new_kind ho hl
  cases h.cases ho with
  | skip hw hv hH hc hr => rw [hr]; exact ⟨rfl, rfl, by omega⟩
  | free hw vs hvs hH hc hr hs hk => rw [hr]; exact ⟨rfl, rfl, by omega⟩
  | new hw vs hvs ob hH hc hr hs hk => rw [hr]; exact ⟨rfl, rfl, by omega⟩
  | load hw a x' bs hvs hall hk hH hc hn hr ob hx hs => rw [hr]; exact ⟨rfl, rfl, by omega⟩
  | store hw a b x' hvs hn hall hc hv hr t ea eb hop hs hk => rw [hk] at hkl; cases hkl
  | heavy hw vs hvs hall xs hxs H1 hs hH hr hsame hk => rw [hk] at hkl; cases hkl
/-- What makes a block writes no other name. -/
theorem Trc.new_wr (h : Trc P call round fl ops stf vf rf) {i x : Nat} (hi : i < ops.toList.length) (hl : nwA ops.toList i = true) (hw : wr ops.toList stf rf i x) : (stf i).c ≤ x ∧ x < (stf (i + 1)).c := by
  obtain ⟨k1, k2, _⟩ := h.new_quiet hi hl
  rcases hw with hw | hw | hw
  · exact hw
  · rw [k2] at hw; cases hw
  · rw [k1] at hw; cases hw.1

theorem Trc.was (h : Trc P call round fl ops stf vf rf) {i : Nat} (hi : i < ops.toList.length) (h1 : (rf i).heavy = true) (h2 : wideA ops.toList i = true) : (rf i).was = some ((stf i).H, (stf (i + 1)).H) := by
  obtain ⟨o, ho⟩ := get_of_lt hi
  cases h.cases ho with
  | skip hw hv hH hc hr => rw [hr] at h1; cases h1
  | free hw vs hvs hH hc hr hs hk => rw [hr] at h1; cases h1
  | new hw vs hvs ob hH hc hr hs hk => rw [hr] at h1; cases h1
  | load hw a x' bs hvs hall hk hH hc hn hr ob hx hs => rw [hr] at h1; cases h1
  | store hw a b x' hvs hn hall hc hv hr t ea eb hop hs hk => rw [hr] at h1; cases h1
  | heavy hw vs hvs hall xs hxs H1 hs hH hr hsame hk => rw [hr, h2]; rfl

theorem Trc.sames (h : Trc P call round fl ops stf vf rf) {j : Nat} (hj : j < ops.toList.length) (h1 : (rf j).heavy = true) (h2 : wideA ops.toList j = true) : ∀ i, Un ops.toList i j → sameR P (stf j).H (stf (j + 1)).H (rf i) = true := by
  obtain ⟨o, ho⟩ := get_of_lt hj
  cases h.cases ho with
  | skip hw hv hH hc hr => rw [hr] at h1; cases h1
  | free hw vs hvs hH hc hr hs hk => rw [hr] at h1; cases h1
  | new hw vs hvs ob hH hc hr hs hk => rw [hr] at h1; cases h1
  | load hw a x' bs hvs hall hk hH hc hn hr ob hx hs => rw [hr] at h1; cases h1
  | store hw a b x' hvs hn hall hc hv hr t ea eb hop hs hk => rw [hr] at h1; cases h1
  | heavy hw vs hvs hall xs hxs H1 hs hH hr hsame hk => exact hsame h2

/-- Two operations whose order is open write apart. -/
theorem Trc.apart (h : Trc P call round fl ops stf vf rf) {i j x : Nat} (hj : j < ops.toList.length) (hu : Un ops.toList i j) (h1 : wr ops.toList stf rf i x) (h2 : wr ops.toList stf rf j x) : False := by
  have hi : i < ops.toList.length := by have := hu.1; omega
  have hm := h.monos (show i + 1 ≤ j from hu.1) (by omega)
  have first : (rf i).heavy = true ∧ wideA ops.toList i = true ∧ (stf (i + 1)).H.get x ≠ (stf i).H.get x → False := fun h1 => by
    rcases wide_after h1.2.1 hu.1 hj hu.2 with hl | hl
    · exact h.quiet_wr hj hl h2
    · have h3 := h.new_wr hj hl h2
      have h4 : x < (stf (i + 1)).c := by
        apply Classical.byContradiction
        intro hc
        have e1 : (stf (i + 1)).H.get x = none := by
          apply Classical.byContradiction
          intro hne
          exact hc (h.dom (by omega) x hne)
        have e2 : (stf i).H.get x = none := by
          apply Classical.byContradiction
          intro hne
          have := h.dom (show i ≤ ops.toList.length by omega) x hne
          have := h.mono hi
          omega
        exact h1.2.2 (e1.trans e2.symm)
      omega
  rcases h2 with h2 | h2 | h2
  · rcases h1 with h1 | h1 | h1
    · omega
    · have := (h.stored hi h1).1
      have := h.mono hi
      omega
    · exact first h1
  · obtain ⟨_, _, h3⟩ := h.stored hj h2
    have h4 := offRec_iff.1 (h3 i hu).1
    rcases h1 with h1 | h1 | h1
    · exact h4.1 ((h.range hi).2 h1)
    · exact h4.2 h1
    · exact first h1
  · exact h.quiet_wr hi (wide_before h2.2.1 hu.1 hu.2) h1

end
end Go.Ev

namespace Go.Ev
open Go

theorem cutR_all {ρ : Rho} {k : Nat} (h : ∀ x, k ≤ x → ρ x = none) : cutR ρ k = ρ := by
  funext x
  unfold cutR
  split
  · rfl
  · exact (h x (by omega)).symm

theorem Fr.sup {ρ ρ' : Rho} {fl : Nat} {w w' : World} (h : RLe ρ ρ') (f : Fr ρ fl w w') : Fr ρ' fl w w' :=
  ⟨f.os, f.tape, f.output, f.size, fun b hb hn => f.keep b hb fun x p hx hp => hn x p hx (h x p hp)⟩

section
variable {G : Nat} {P : Program} {call round : CallFn} {fl : Nat} {ops : Array Oper} {stf : Nat → St} {vf : Nat → AV} {rf : Nat → Rec}

/-- Memory, and the temporaries, as a set of operations leaves them; and the count of names behind the last of them. -/
noncomputable def XS (L : List Oper) (stf : Nat → St) (rf : Nat → Rec) (S : Nat → Bool) (x : Nat) : Option AObj × Nat :=
  lw S (fun j => wr L stf rf j x) (fun n => ((stf n).H.get x, (stf n).c)) L.length
noncomputable def ES (L : List Oper) (stf : Nat → St) (S : Nat → Bool) (t : Nat) : Option AV × Nat :=
  lw S (fun j => (L[j]?).bind (·.dst) = some t) (fun n => ((stf n).env.get t, (stf n).c)) L.length

structure Inv (ops : Array Oper) (stf : Nat → St) (rf : Nat → Rec) (fl : Nat) (ρ0 : Rho) (a0 : Act) (w0 : World) (S : Nat → Bool) (ρ : Rho) (a : Act) (w : World) : Prop where
  size : a.tmps.size = (stf 0).n
  env : ∀ t v, (ES ops.toList stf S t).1 = some v → t < (stf 0).n ∧ VR (cutR ρ (ES ops.toList stf S t).2) v (a.tmps.getD t undef)
  obj : ∀ x o, (XS ops.toList stf rf S x).1 = some o → x < (XS ops.toList stf rf S x).2 ∧ ∃ p, ρ x = some p ∧ ObjR (cutR ρ (XS ops.toList stf rf S x).2) w p o
  sep : ∀ x y o o' p q, x ≠ y → (XS ops.toList stf rf S x).1 = some o → (XS ops.toList stf rf S y).1 = some o' → ρ x = some p → ρ y = some q → p.b = q.b → Apart p o q o'
  dom : ∀ x p, ρ x = some p → x < (stf 0).c ∨ ∃ i, i < ops.toList.length ∧ S i = true ∧ (stf i).c ≤ x ∧ x < (stf (i + 1)).c
  lt : ∀ x p, ρ x = some p → p.b < w.heap.size
  neu : ∀ k, k < ops.toList.length → S k = true → nwA ops.toList k = true → ∀ x y p q, (stf k).c ≤ x → x < (stf (k + 1)).c → y < x → ρ x = some p → ρ y = some q → p.b ≠ q.b
  defers : a.defers = a0.defers
  ext : Ext ρ0 ρ fl w0 (stf 0).c (stf 0).c
  fr : Fr ρ0 fl w0 w

def Clo (L : List Oper) (S : Nat → Bool) : Prop := ∀ j i, j < L.length → S j = true → befA L j i = true → S i = true
/-- An operation may come next. -/
structure Next1 (L : List Oper) (S : Nat → Bool) (j : Nat) : Prop where
  lt : j < L.length
  no : S j = false
  pre : ∀ i, befA L j i = true → S i = true

def add1 (S : Nat → Bool) (j : Nat) : Nat → Bool := fun n => if n = j then true else S n

theorem Clo.add {L : List Oper} {S : Nat → Bool} {j : Nat} (hS : Clo L S) (hj : Next1 L S j) : Clo L (add1 S j) := by
  intro k i hk hs hb
  unfold add1 at hs ⊢
  by_cases e : i = j
  · rw [if_pos e]
  · rw [if_neg e]
    by_cases e2 : k = j
    · subst e2; exact hj.pre i hb
    · rw [if_neg e2] at hs; exact hS k i hk hs hb

section
variable {S : Nat → Bool} {j : Nat} {β : Type} {W : Nat → Prop} {g : Nat → β × Nat}

theorem late_un (hS : Clo ops.toList S) (hj : Next1 ops.toList S j) {k : Nat} (hk : j < k) (hkN : k < ops.toList.length) (hs : S k = true) : Un ops.toList j k := by
  refine ⟨hk, ?_⟩
  cases hb : befA ops.toList k j with
  | false => rfl
  | true => have := hS k j hkN hs hb; rw [hj.no] at this; cases this

theorem Trc.before (h : Trc P call round fl ops stf vf rf) (hj : Next1 ops.toList S j) (hg1 : ∀ n, n < ops.toList.length → ¬ W n → (g (n + 1)).1 = (g n).1) (hg2 : ∀ n, (g n).2 = (stf n).c)
    (hb : ∀ i, Un ops.toList i j → ¬ W i) : (lw S W g j).1 = (g j).1 ∧ (lw S W g j).2 ≤ (stf j).c := by
  have hjl := hj.lt
  refine ⟨lw_agree hg1 (by omega) fun n h1 h2 => hb n ⟨h1, ?_⟩, lw_count (c := fun n => (stf n).c) hg2 (fun n hn => h.mono hn) (by omega)⟩
  cases hbf : befA ops.toList j n with
  | false => rfl
  | true => rw [hj.pre n hbf] at h2; cases h2

theorem Trc.clean (h : Trc P call round fl ops stf vf rf) (hS : Clo ops.toList S) (hj : Next1 ops.toList S j) (hg1 : ∀ n, n < ops.toList.length → ¬ W n → (g (n + 1)).1 = (g n).1) (hg2 : ∀ n, (g n).2 = (stf n).c)
    (hb : ∀ i, Un ops.toList i j → ¬ W i) (ha : ∀ k, k < ops.toList.length → Un ops.toList j k → ¬ W k) : (lw S W g ops.toList.length).1 = (g j).1 ∧ (lw S W g ops.toList.length).2 ≤ (stf j).c := by
  have hjl := hj.lt
  have e : lw S W g ops.toList.length = lw S W g j := lw_skip (by omega) fun n h1 h2 h3 => by
    by_cases e : n = j
    · subst e; rw [hj.no] at h3; cases h3
    · exact ha n h2 (late_un hS hj (by omega) h2 h3)
  rw [e]
  refine ⟨lw_agree hg1 (by omega) fun n h1 h2 => hb n ⟨h1, ?_⟩, lw_count (c := fun n => (stf n).c) hg2 (fun n hn => h.mono hn) (by omega)⟩
  cases hbf : befA ops.toList j n with
  | false => rfl
  | true => rw [hj.pre n hbf] at h2; cases h2

theorem setW (hS : Clo ops.toList S) (hj : Next1 ops.toList S j) (hap : ∀ n, n < ops.toList.length → Un ops.toList j n → W j → ¬ W n) :
    (W j → lw (add1 S j) W g ops.toList.length = g (j + 1)) ∧ (¬ W j → lw (add1 S j) W g ops.toList.length = lw S W g ops.toList.length) :=
  lw_set hj.lt (fun _n hn => if_neg hn) (if_pos rfl) hj.no fun hw n h1 h2 h3 => hap n h2 (late_un hS hj h1 h2 h3) hw

end

theorem Trc.env_stay (h : Trc P call round fl ops stf vf rf) {n t : Nat} (hn : n < ops.toList.length) (hw : ¬ (ops.toList[n]?).bind (·.dst) = some t) : (stf (n + 1)).env.get t = (stf n).env.get t := by
  obtain ⟨o, ho⟩ := get_of_lt hn
  have hp := h.put n o ho
  rw [ho] at hw
  simp only [Option.bind_some] at hw
  unfold putA at hp
  split at hp
  · simp only [Option.some.injEq] at hp; rw [hp]
  · rename_i d hd
    simp only [Bool.cond_eq_ite] at hp
    split at hp
    · simp only [Option.some.injEq] at hp
      rw [← hp, TT.get_set, if_neg]
      intro e; exact hw (by rw [hd, e])
    · cases hp

theorem Trc.env_put (h : Trc P call round fl ops stf vf rf) {n t : Nat} {o : Oper} (ho : ops.toList[n]? = some o) (hw : o.dst = some t) : (stf (n + 1)).env.get t = some (vf n) ∧ t < (stf n).n := by
  have hp := h.put n o ho
  unfold putA at hp
  rw [hw] at hp
  simp only [Bool.cond_eq_ite] at hp
  split at hp
  · rename_i hd
    simp only [Option.some.injEq] at hp
    rw [← hp, TT.get_set, if_pos rfl]
    exact ⟨rfl, by simpa using hd⟩
  · cases hp

section
variable {S : Nat → Bool} {j : Nat} {ρ0 ρ : Rho} {a0 a : Act} {w0 w : World}

/-- The start. -/
theorem Trc.start (h : Trc P call round fl ops stf vf rf) (hs : SR G ρ0 (stf 0) a0 w0) : Inv ops stf rf fl ρ0 a0 w0 (fun _ => false) ρ0 a0 w0.drew := by
  have eX : ∀ x, XS ops.toList stf rf (fun _ => false) x = ((stf 0).H.get x, (stf 0).c) := fun x => lw_skip (j := 0) (Nat.zero_le _) fun n _ _ h => by cases h
  have eE : ∀ t, ES ops.toList stf (fun _ => false) t = ((stf 0).env.get t, (stf 0).c) := fun x => lw_skip (j := 0) (Nat.zero_le _) fun n _ _ h => by cases h
  have hall : cutR ρ0 (stf 0).c = ρ0 := cutR_all hs.mem.fresh
  refine ⟨hs.env.1, fun t v ht => ?_, fun x o hx => ?_, fun x y o o' p q hxy hx hy hp hq hb => ?_, fun x p hp => .inl ?_, hs.mem.lt, fun k _ hk => (by cases hk), rfl, .refl _ _ _ _, .drew _ _ _⟩
  · rw [eE] at ht ⊢
    simp only [hall]
    exact hs.env.2 t v ht
  · rw [eX] at hx ⊢
    simp only [hall]
    obtain ⟨p, hp, ho⟩ := hs.mem.obj x o hx
    have hx' : (stf 0).H.get x = some o := hx
    refine ⟨h.dom0 x (by rw [hx']; simp), p, hp, ho.world rfl⟩
  · rw [eX] at hx hy
    exact hs.mem.sep x y o o' p q hxy hx hy hp hq hb
  · apply Classical.byContradiction
    intro hn
    rw [hs.mem.fresh x (by omega)] at hp
    cases hp

/-- What an operation may see. -/
theorem Inv.holds (hI : Inv ops stf rf fl ρ0 a0 w0 S ρ a w) (hG : ∀ g, g < G → g < (stf j).c ∧ ∃ k, ρ0 g = some ⟨g, 0, k⟩) {T0 : T AObj}
    (hT : ∀ x o, T0.get x = some o → (XS ops.toList stf rf S x).1 = some o ∧ (XS ops.toList stf rf S x).2 ≤ (stf j).c) : Holds G (cutR ρ (stf j).c) T0 (stf j).c w := by
  refine ⟨fun x o hx => ?_, fun x y o o' p q hxy hx hy hp hq hb => ?_, fun x hx => ?_, fun x p hp => hI.lt x p (cutR_le _ _ x p hp), fun g hg => ?_⟩
  · obtain ⟨h1, h2⟩ := hT x o hx
    obtain ⟨h3, p, h4, h5⟩ := hI.obj x o h1
    exact ⟨p, cutR_some.2 ⟨by omega, h4⟩, h5.mono (cutR_mono h2)⟩
  · exact hI.sep x y o o' p q hxy (hT x o hx).1 (hT y o' hy).1 (cutR_le _ _ _ _ hp) (cutR_le _ _ _ _ hq) hb
  · unfold cutR
    rw [if_neg (by omega)]
  · obtain ⟨h1, k, h2⟩ := hG g hg
    exact ⟨k, cutR_some.2 ⟨h1, hI.ext.le _ _ h2⟩⟩

theorem Trc.seen (h : Trc P call round fl ops stf vf rf) (hS : Clo ops.toList S) (hj : Next1 ops.toList S j) {x : Nat} (hb : ∀ i, Un ops.toList i j → ¬ wr ops.toList stf rf i x)
    (ha : ∀ k, k < ops.toList.length → Un ops.toList j k → ¬ wr ops.toList stf rf k x) : (XS ops.toList stf rf S x).1 = (stf j).H.get x ∧ (XS ops.toList stf rf S x).2 ≤ (stf j).c :=
  h.clean hS hj (g := fun n => ((stf n).H.get x, (stf n).c)) (fun _n hn hw => h.stay hn hw) (fun _ => rfl) hb ha

theorem Trc.looks (h : Trc P call round fl ops stf vf rf) (hS : Clo ops.toList S) (hj : Next1 ops.toList S j) {o : Oper} (ho : ops.toList[j]? = some o) {t : Nat} (ht : t ∈ o.looksAt ops) :
    (ES ops.toList stf S t).1 = (stf j).env.get t ∧ (ES ops.toList stf S t).2 ≤ (stf j).c := by
  refine h.clean hS hj (g := fun n => ((stf n).env.get t, (stf n).c)) (fun n hn hw => h.env_stay hn hw) (fun _ => rfl) (fun i hi hw => ?_) fun k hk hu hw => ?_
  · obtain ⟨p, hp⟩ := get_of_lt (ops := ops) (show i < ops.toList.length by have := hi.1; have := hj.lt; omega)
    rw [hp] at hw
    exact (Oper.apart_spec (h.fit.apart i j p o hp ho hi.1 hi.2)).1 t hw ht
  · obtain ⟨p, hp⟩ := get_of_lt (ops := ops) hk
    rw [hp] at hw
    exact (Oper.apart_spec (h.fit.apart j k o p ho hp hu.1 hu.2)).2.2 t hw ht

theorem opArgs_eq (op : Op) : opArgs op = op.operands.toList := by
  cases op <;> first | rfl | simp [opArgs, Op.operands]

theorem opArgs_looks {o : Oper} {t : Tmp} (h : Operand.tmp t ∈ opArgs o.op) : t ∈ o.looksAt ops := by
  refine List.mem_append_left _ (List.mem_filterMap.2 ⟨.tmp t, ?_, rfl⟩)
  rwa [opArgs_eq] at h

theorem Trc.tmp (h : Trc P call round fl ops stf vf rf) (hS : Clo ops.toList S) (hj : Next1 ops.toList S j) (hI : Inv ops stf rf fl ρ0 a0 w0 S ρ a w) {o : Oper} (ho : ops.toList[j]? = some o) {t : Nat} (ht : t ∈ o.looksAt ops) {v : AV}
    (e : (stf j).env.get t = some v) : t < (stf 0).n ∧ VR (cutR ρ (stf j).c) v (a.tmps.getD t undef) := by
  obtain ⟨h1, h2⟩ := h.looks hS hj ho ht
  obtain ⟨h3, h4⟩ := hI.env t v (h1.trans e)
  exact ⟨h3, h4.mono (cutR_mono h2)⟩

theorem Trc.args (h : Trc P call round fl ops stf vf rf) (hS : Clo ops.toList S) (hj : Next1 ops.toList S j) (hI : Inv ops stf rf fl ρ0 a0 w0 S ρ a w) (hG : ∀ g, g < G → g < (stf j).c ∧ ∃ k, ρ0 g = some ⟨g, 0, k⟩)
    {o : Oper} (ho : ops.toList[j]? = some o) : ∀ {xs : List Operand} {vs : List AV}, (∀ t, Operand.tmp t ∈ xs → t ∈ o.looksAt ops) → operandsA G (stf j).env xs = some vs → VRs (cutR ρ (stf j).c) vs (xs.map a.eval)
  | [], vs, _, e => by
    simp only [operandsA, Option.some.injEq] at e
    subst e
    exact .nil
  | x :: xs, vs, hx, e => by
    simp only [operandsA] at e
    split at e
    case h_2 => cases e
    rename_i v hv
    simp only [Option.map_eq_some_iff] at e
    obtain ⟨vs', e, rfl⟩ := e
    refine .cons ?_ (h.args hS hj hI hG ho (fun t ht => hx t (List.mem_cons_of_mem _ ht)) e)
    have he : EnvR (cutR ρ (stf j).c) .leaf (stf 0).n a.tmps := ⟨hI.size, fun t v ht => by simp at ht⟩
    have hH : Holds G (cutR ρ (stf j).c) .leaf (stf j).c w := hI.holds hG fun x o hx => by simp at hx
    cases x with
    | tmp t => exact (h.tmp hS hj hI ho (hx t (by simp)) hv).2
    | const u => exact operand_sound (x := .const u) hH he hv
    | global g => exact operand_sound (x := .global g) hH he hv
    | func f => exact operand_sound (x := .func f) hH he hv

theorem Trc.wants (h : Trc P call round fl ops stf vf rf) (hS : Clo ops.toList S) (hj : Next1 ops.toList S j) (hI : Inv ops stf rf fl ρ0 a0 w0 S ρ a w) {o : Oper} (ho : ops.toList[j]? = some o) {b : Bool}
    (e : wantedA ops.toList o (stf j).env = some b) : Region.wanted o (yielded ops a.tmps) = b := by
  cases hg : o.guard with
  | none =>
    refine wanted_sound (ρ := cutR ρ (stf j).c) (env := .leaf) (n := (stf 0).n) ⟨hI.size, fun t v ht => by simp at ht⟩ ?_
    unfold wantedA at e ⊢
    rw [hg] at e ⊢
    exact e
  | some gw =>
    obtain ⟨i, want⟩ := gw
    have e' := e
    unfold wantedA at e
    rw [hg] at e
    simp only at e
    split at e
    case h_2 => cases e
    rename_i d hd
    have hl : d ∈ o.looksAt ops := by
      refine List.mem_append_right _ ?_
      rw [hg]
      simp only [Option.mem_toList]
      simpa using hd
    have key : ∀ v0, (stf j).env.get d = some v0 → (match some v0 with | some (.bool b) => some (b == want) | some (.tup []) => some false | _ => none) = some b → Region.wanted o (yielded ops a.tmps) = b := fun v0 hb e0 => by
      obtain ⟨h1, h2⟩ := h.tmp hS hj hI ho hl hb
      refine wanted_sound (ρ := cutR ρ (stf j).c) (env := TT.set .leaf d v0) (n := (stf 0).n) ⟨hI.size, fun t v ht => ?_⟩ ?_
      · rw [TT.get_set] at ht
        split at ht
        · rename_i et
          cases ht
          rw [et]
          exact ⟨h1, h2⟩
        · simp at ht
      · unfold wantedA
        rw [hg]
        simp only [hd, TT.get_set, if_pos]
        exact e0
    cases hb : (stf j).env.get d with
    | none => rw [hb] at e; cases e
    | some v0 => rw [hb] at e; exact key v0 hb e

end
end
end Go.Ev

namespace Go.Ev
open Go

section
variable {G : Nat} {P : Program} {call round : CallFn} {fl : Nat} {ops : Array Oper} {stf : Nat → St} {vf : Nat → AV} {rf : Nat → Rec}
variable {S : Nat → Bool} {j : Nat} {ρ0 ρ : Rho} {a0 a : Act} {w0 w : World}

theorem put_get (a : Act) (dst : Option Tmp) (u : Value) (t : Nat) (h : t < a.tmps.size) : (a.put dst u).tmps.getD t undef = if dst = some t then u else a.tmps.getD t undef := by
  cases dst with
  | none => rfl
  | some d =>
    by_cases e : d = t
    · subst e; simp [Act.put, Array.getD, h]
    · simp [Act.put, Array.getD, h, e]

theorem put_size (a : Act) (dst : Option Tmp) (u : Value) : (a.put dst u).tmps.size = a.tmps.size := by cases dst <;> simp [Act.put]

mutual
theorem VR.narrow {σ ρ' : Rho} (h : RLe σ ρ') : ∀ (v : AV) (u u' : Value), VR σ v u → VR ρ' v u' → VR σ v u'
  | .bool _, _, _, _, k | .int _ _, _, _, _, k | .str _, _, _, _, k | .nilp, _, _, _, k | .nils, _, _, _, k | .nilm, _, _, _, k | .nilf, _, _, _, k => by simpa only [VR] using k
  | .ptr _ _, _, _, e, k | .sl _ _ _ _, _, _, e, k | .map _, _, _, e, k | .yld _, _, _, e, k => by
    simp only [VR] at e k ⊢
    obtain ⟨p, hp, _⟩ := e
    obtain ⟨q, hq, k⟩ := k
    have := h _ _ hp
    rw [hq] at this
    cases this
    exact ⟨_, hp, k⟩
  | .gs _ _, _, _, e, k | .gv _ _ _, _, _, e, k => by
    simp only [VR] at e k ⊢
    obtain ⟨p, hp, _⟩ := e
    obtain ⟨q, hq, k⟩ := k
    have := h _ _ hp
    rw [hq] at this
    cases this
    exact ⟨_, hp, k⟩
  | .fn _ a b, _, _, e, k => by
    simp only [VR] at e k ⊢
    obtain ⟨us, vs, h1, h2, _⟩ := e
    obtain ⟨us', vs', k1, k2, k⟩ := k
    exact ⟨us', vs', VRs.narrow h a us us' h1 k1, VRs.narrow h b vs vs' h2 k2, k⟩
  | .agg l, _, _, e, k => by
    simp only [VR] at e k ⊢
    obtain ⟨us, h1, _⟩ := e
    obtain ⟨us', k1, k⟩ := k
    exact ⟨us', VRs.narrow h l us us' h1 k1, k⟩
  | .tup l, _, _, e, k => by
    simp only [VR] at e k ⊢
    obtain ⟨us, h1, _⟩ := e
    obtain ⟨us', k1, k⟩ := k
    exact ⟨us', VRs.narrow h l us us' h1 k1, k⟩
theorem VRs.narrow {σ ρ' : Rho} (h : RLe σ ρ') : ∀ (l : List AV) (us us' : List Value), VRs σ l us → VRs ρ' l us' → VRs σ l us'
  | [], _, _, _, k => by simpa only [VRs] using k
  | v :: l, _, _, e, k => by
    simp only [VRs] at e k ⊢
    obtain ⟨u, us, _, h1, h2⟩ := e
    obtain ⟨u', us', e', k1, k2⟩ := k
    exact ⟨u', us', e', VR.narrow h v u u' h1 k1, VRs.narrow h l us us' h2 k2⟩
end

theorem MapsR.narrow {σ ρ' : Rho} (h : RLe σ ρ') : ∀ {es : List (AV × AV)} {ms ms' : List MapEntry}, MapsR σ es ms → MapsR ρ' es ms' → MapsR σ es ms'
  | [], _, _, _, k => k
  | (a, b) :: es, _, _, e, k => by
    obtain ⟨m, ms, _, h1, h2, h3⟩ := e
    obtain ⟨m', ms', e', k1, k2, k3⟩ := k
    exact ⟨m', ms', e', VR.narrow h a _ _ h1 k1, VR.narrow h b _ _ h2 k2, MapsR.narrow h h3 k3⟩

/-- What holds names that were known then says nothing of later ones. -/
theorem ObjR.narrow {σ ρ' : Rho} (h : RLe σ ρ') {w w' : World} {p p' : Win} {o : AObj} (e : ObjR σ w p o) (k : ObjR ρ' w' p' o) : ObjR σ w' p' o := by
  cases o with
  | cells cs => obtain ⟨_, us, t, h1, _⟩ := e; obtain ⟨k0, us', t', k1, k2⟩ := k; exact ⟨k0, us', t', VRs.narrow h cs _ _ h1 k1, k2⟩
  | grown cs s => obtain ⟨_, us, r, t, h1, _⟩ := e; obtain ⟨k0, us', r', t', k1, k2⟩ := k; exact ⟨k0, us', r', t', VRs.narrow h cs _ _ h1 k1, k2⟩
  | tip cs s => obtain ⟨_, us, r, t, h1, _⟩ := e; obtain ⟨k0, us', r', t', k1, k2⟩ := k; exact ⟨k0, us', r', t', VRs.narrow h cs _ _ h1 k1, k2⟩
  | ro cs => obtain ⟨us, h1, _⟩ := e; obtain ⟨us', k1, k2⟩ := k; exact ⟨us', VRs.narrow h cs _ _ h1 k1, k2⟩
  | map es => obtain ⟨ms, clk, _, h2, _⟩ := e; obtain ⟨ms', clk', k1, k2, k3⟩ := k; exact ⟨ms', clk', k1, MapsR.narrow h h2 k2, k3⟩
  | loop st pend env n ps as bd dn =>
    obtain ⟨fn, tmps, d, _, h2, q, h3, _⟩ := e
    obtain ⟨fn', tmps', d', k1, k2, q', k3, k4⟩ := k
    have := h _ _ h3
    rw [k3] at this
    cases this
    exact ⟨fn', tmps', d', k1, ⟨k2.1, fun t v ht => ⟨(k2.2 t v ht).1, VR.narrow h v _ _ (h2.2 t v ht).2 (k2.2 t v ht).2⟩⟩, _, h3, k4⟩
  | dfr => exact k
  | dfrDone => trivial

/-- One operation further. -/
theorem Inv.adv (h : Trc P call round fl ops stf vf rf) (hS : Clo ops.toList S) (hj : Next1 ops.toList S j) (hI : Inv ops stf rf fl ρ0 a0 w0 S ρ a w) {o : Oper} (ho : ops.toList[j]? = some o) {ρ' : Rho} {w' : World} {u : Value}
    (hv : VR ρ' (vf j) u) (h1 : ∀ x, (stf (j + 1)).c ≤ x → ρ' x = none) (h2 : RLe (cutR ρ (stf j).c) ρ') (h3 : ∀ x p, cutR ρ (stf j).c x = none → ρ' x = some p → (stf j).c ≤ x)
    (h4 : ∀ x p, cutR ρ (stf j).c x = none → ρ' x = some p → w.heap.size ≤ p.b ∨ ∃ y q, fl ≤ y ∧ y < (stf j).c ∧ ρ y = some q ∧ q.b = p.b) (h7 : nwA ops.toList j = true → ∀ x p, cutR ρ (stf j).c x = none → ρ' x = some p → w.heap.size ≤ p.b) (h5 : ∀ x p, ρ' x = some p → p.b < w'.heap.size) (h6 : Fr ρ fl w w')
    (hobj : ∀ x ob, wr ops.toList stf rf j x → (stf (j + 1)).H.get x = some ob → ∃ p, ρ' x = some p ∧ ObjR ρ' w' p ob)
    (hkeep : ∀ x ob p, ¬ wr ops.toList stf rf j x → (XS ops.toList stf rf S x).1 = some ob → ρ x = some p → ObjR (cutR ρ (XS ops.toList stf rf S x).2) w p ob → ObjR (cutR ρ (XS ops.toList stf rf S x).2) w' p ob)
    (hsep1 : ∀ x y o o' p q, x ≠ y → wr ops.toList stf rf j x → wr ops.toList stf rf j y → (stf (j + 1)).H.get x = some o → (stf (j + 1)).H.get y = some o' → ρ' x = some p → ρ' y = some q → p.b = q.b → Apart p o q o')
    (hsep2 : ∀ x y o o' p q, x ≠ y → wr ops.toList stf rf j x → ¬ wr ops.toList stf rf j y → (stf (j + 1)).H.get x = some o → (XS ops.toList stf rf S y).1 = some o' → ρ' x = some p → ρ y = some q → p.b = q.b → Apart p o q o') :
    ∃ ρn, Inv ops stf rf fl ρ0 a0 w0 (add1 S j) ρn (a.put o.dst u) w' := by
  have hjl := hj.lt
  have hm := h.mono hjl
  let ρn : Rho := fun x => if (stf j).c ≤ x ∧ x < (stf (j + 1)).c then ρ' x else ρ x
  have hn1 : ∀ x, (stf j).c ≤ x → x < (stf (j + 1)).c → ρ x = none := by
    intro x hx1 hx2
    cases hr : ρ x with
    | none => rfl
    | some p =>
      exfalso
      rcases hI.dom x p hr with hd | ⟨i, hi, hsi, hd1, hd2⟩
      · have := h.monos (Nat.zero_le j) (by omega)
        omega
      · rcases Nat.lt_trichotomy i j with e | e | e
        · have := h.monos (show i + 1 ≤ j from e) (by omega)
          omega
        · subst e; rw [hj.no] at hsi; cases hsi
        · have := h.monos (show j + 1 ≤ i from e) (by omega)
          omega
  have le : RLe ρ ρn := by
    intro x p hp
    show (if _ then _ else _) = _
    split
    · rename_i hc
      rw [hn1 x hc.1 hc.2] at hp
      cases hp
    · exact hp
  have le' : RLe ρ' (cutR ρn (stf (j + 1)).c) := by
    intro x p hp
    have hlt : x < (stf (j + 1)).c := by
      apply Classical.byContradiction
      intro hc
      rw [h1 x (by omega)] at hp
      cases hp
    refine cutR_some.2 ⟨hlt, ?_⟩
    show (if _ then _ else _) = _
    split
    · exact hp
    · rename_i hc
      have hx : x < (stf j).c := by omega
      cases hr : cutR ρ (stf j).c x with
      | none => exact absurd (h3 x p hr hp) (by omega)
      | some q =>
        have := h2 x q hr
        rw [hp] at this
        cases this
        exact cutR_le _ _ _ _ hr
  have new : ∀ x p, ρ x = none → ρn x = some p → ((stf j).c ≤ x ∧ x < (stf (j + 1)).c) ∧ ρ' x = some p := by
    intro x p hn hp
    change (if _ then _ else _) = _ at hp
    split at hp
    · rename_i hc; exact ⟨hc, hp⟩
    · rw [hn] at hp; cases hp
  have hE : Ext ρ ρn fl w (stf 0).c (stf 0).c := by
    refine ⟨le, fun x p hn hp => ?_, fun x p hn hp => ?_, Nat.le_refl _⟩
    · obtain ⟨hc, hp'⟩ := new x p hn hp
      refine (h4 x p ?_ hp').imp id fun ⟨y, q, hy, _, hq, hb⟩ => ⟨y, q, hy, hq, hb⟩
      cases hr : cutR ρ (stf j).c x with
      | none => rfl
      | some q => have := cutR_le _ _ _ _ hr; rw [hn] at this; cases this
    · obtain ⟨hc, hp'⟩ := new x p hn hp
      have := h.monos (Nat.zero_le j) (by omega)
      omega
  have hX : ∀ x, (wr ops.toList stf rf j x → XS ops.toList stf rf (add1 S j) x = ((stf (j + 1)).H.get x, (stf (j + 1)).c)) ∧ (¬ wr ops.toList stf rf j x → XS ops.toList stf rf (add1 S j) x = XS ops.toList stf rf S x) := fun x =>
    setW (W := fun j => wr ops.toList stf rf j x) (g := fun n => ((stf n).H.get x, (stf n).c)) hS hj fun n hn hu hw hw2 => h.apart hn hu hw hw2
  have hEe : ∀ t, (o.dst = some t → ES ops.toList stf (add1 S j) t = ((stf (j + 1)).env.get t, (stf (j + 1)).c)) ∧ (¬ o.dst = some t → ES ops.toList stf (add1 S j) t = ES ops.toList stf S t) := by
    intro t
    have := setW (W := fun j => (ops.toList[j]?).bind (·.dst) = some t) (g := fun n => ((stf n).env.get t, (stf n).c)) hS hj fun n hn hu hw hw2 => by
      obtain ⟨p, hp⟩ := get_of_lt (ops := ops) hn
      rw [ho] at hw
      rw [hp] at hw2
      exact (Oper.apart_spec (h.fit.apart j n o p ho hp hu.1 hu.2)).2.1 t hw hw2
    simp only [ho, Option.bind_some] at this
    exact this
  have wobj : ∀ x ob, wr ops.toList stf rf j x → (stf (j + 1)).H.get x = some ob → ∃ p, ρn x = some p ∧ ρ' x = some p ∧ ObjR ρ' w' p ob := fun x ob hw hx => by
    obtain ⟨p, hp, hob⟩ := hobj x ob hw hx
    exact ⟨p, cutR_le _ _ _ _ (le' x p hp), hp, hob⟩
  refine ⟨ρn, ?_⟩
  refine ⟨by rw [put_size]; exact hI.size, fun t v ht => ?_, fun x ob hx => ?_, fun x y o1 o2 p q hxy hx hy hp hq hb => ?_, fun x p hp => ?_, fun x p hp => ?_, fun k hk hs hkn x y p q hx1 hx2 hyx hp hq => ?_, by rw [put_defers]; exact hI.defers, hI.ext.trans hI.fr.size hE, hI.fr.trans hI.ext h6⟩
  · by_cases e : o.dst = some t
    · rw [(hEe t).1 e] at ht ⊢
      obtain ⟨e1, e2⟩ := h.env_put ho e
      simp only [e1, Option.some.injEq] at ht
      subst ht
      rw [(h.ns (by omega)).1] at e2
      refine ⟨e2, ?_⟩
      rw [put_get _ _ _ _ (by rw [hI.size]; exact e2), if_pos e]
      exact hv.mono le'
    · rw [(hEe t).2 e] at ht ⊢
      obtain ⟨e1, e2⟩ := hI.env t v ht
      refine ⟨e1, ?_⟩
      rw [put_get _ _ _ _ (by rw [hI.size]; exact e1), if_neg e]
      exact e2.mono (cutR_le2 _ le)
  · by_cases e : wr ops.toList stf rf j x
    · rw [(hX x).1 e] at hx ⊢
      obtain ⟨p, hp, hp', hob⟩ := wobj x ob e hx
      exact ⟨h.dom (by omega) x (by simp only at hx; rw [hx]; simp), p, hp, hob.mono le'⟩
    · rw [(hX x).2 e] at hx ⊢
      obtain ⟨e1, p, hp, hob⟩ := hI.obj x ob hx
      exact ⟨e1, p, le x p hp, (hkeep x ob p e hx hp hob).mono (cutR_le2 _ le)⟩
  · have old : ∀ x ob p, ¬ wr ops.toList stf rf j x → (XS ops.toList stf rf S x).1 = some ob → ρn x = some p → ρ x = some p := fun x ob p e hx hp => by
      obtain ⟨_, p', hp', _⟩ := hI.obj x ob hx
      have := le x p' hp'
      rw [hp] at this
      cases this
      exact hp'
    have neu : ∀ x ob p, wr ops.toList stf rf j x → (stf (j + 1)).H.get x = some ob → ρn x = some p → ρ' x = some p := fun x ob p e hx hp => by
      obtain ⟨p', hp', hp2, _⟩ := wobj x ob e hx
      rw [hp] at hp'
      cases hp'
      exact hp2
    by_cases e : wr ops.toList stf rf j x
    · rw [(hX x).1 e] at hx
      by_cases e' : wr ops.toList stf rf j y
      · rw [(hX y).1 e'] at hy
        exact hsep1 x y o1 o2 p q hxy e e' hx hy (neu x o1 p e hx hp) (neu y o2 q e' hy hq) hb
      · rw [(hX y).2 e'] at hy
        exact hsep2 x y o1 o2 p q hxy e e' hx hy (neu x o1 p e hx hp) (old y o2 q e' hy hq) hb
    · rw [(hX x).2 e] at hx
      by_cases e' : wr ops.toList stf rf j y
      · rw [(hX y).1 e'] at hy
        exact (hsep2 y x o2 o1 q p hxy.symm e' e hy hx (neu y o2 q e' hy hq) (old x o1 p e hx hp) hb.symm).symm
      · rw [(hX y).2 e'] at hy
        exact hI.sep x y o1 o2 p q hxy hx hy (old x o1 p e hx hp) (old y o2 q e' hy hq) hb
  · cases hr : ρ x with
    | none =>
      obtain ⟨hc, _⟩ := new x p hr hp
      exact .inr ⟨j, hjl, by simp [add1], hc.1, hc.2⟩
    | some q =>
      rcases hI.dom x q hr with hd | ⟨i, hi, hsi, hd1, hd2⟩
      · exact .inl hd
      · exact .inr ⟨i, hi, by unfold add1; split; rfl; exact hsi, hd1, hd2⟩
  · cases hr : ρ x with
    | none => exact h5 x p (new x p hr hp).2
    | some q =>
      have := le x q hr
      rw [hp] at this
      cases this
      exact Nat.lt_of_lt_of_le (hI.lt x _ hr) h6.size
  · have cut : ∀ z, ρ z = none → cutR ρ (stf j).c z = none := fun z hz => by
      unfold cutR
      split
      · exact hz
      · rfl
    by_cases e : k = j
    · subst e
      have hx : ρ x = none := hn1 x hx1 hx2
      have hb := h7 hkn x p (cut x hx) (new x p hx hp).2
      cases hr : ρ y with
      | none =>
        have := (new y q hr hq).1
        have := (h.new_quiet hk hkn).2.2
        omega
      | some q' =>
        have := le y q' hr
        rw [hq] at this
        cases this
        have := hI.lt y q hr
        omega
    · have hsk : S k = true := by
        unfold add1 at hs
        rwa [if_neg e] at hs
      have hxp : ρ x = some p := by
        cases hr : ρ x with
        | none =>
          have g := (new x p hr hp).1
          rcases Nat.lt_trichotomy k j with e2 | e2 | e2
          · have := h.monos (show k + 1 ≤ j from e2) (by omega)
            omega
          · exact absurd e2 e
          · have := h.monos (show j + 1 ≤ k from e2) (by omega)
            omega
        | some p' =>
          have := le x p' hr
          rw [hp] at this
          cases this
          rfl
      cases hr : ρ y with
      | some q' =>
        have := le y q' hr
        rw [hq] at this
        cases this
        exact hI.neu k hk hsk hkn x y p q hx1 hx2 hyx hxp hr
      | none =>
        obtain ⟨g, hq'⟩ := new y q hr hq
        rcases h4 y q (cut y hr) hq' with hb | ⟨z, t, _, hz, ht, hb⟩
        · have := hI.lt x p hxp
          omega
        · have := hI.neu k hk hsk hkn x z p t hx1 hx2 (by omega) hxp ht
          rw [← hb]
          exact this

/-- An operation that writes no old name. -/
theorem Inv.advA (h : Trc P call round fl ops stf vf rf) (hS : Clo ops.toList S) (hj : Next1 ops.toList S j) (hI : Inv ops stf rf fl ρ0 a0 w0 S ρ a w) {o : Oper} (ho : ops.toList[j]? = some o) {H1 : T AObj} {w' : World} {u : Value}
    (hst : (rf j).st = none) (hhv : ¬ ((rf j).heavy = true ∧ wideA ops.toList j = true)) (hH : ∀ x, (stf j).c ≤ x → (stf (j + 1)).H.get x = H1.get x)
    (hp : Post G (cutR ρ (stf j).c) (stf j).c (stf j).c w (vf j) H1 (stf (j + 1)).c u w') : ∃ ρn, Inv ops stf rf fl ρ0 a0 w0 (add1 S j) ρn (a.put o.dst u) w' := by
  obtain ⟨ρ', hv, hh, he, hf⟩ := hp
  have hw : ∀ x, wr ops.toList stf rf j x → (stf j).c ≤ x ∧ x < (stf (j + 1)).c := by
    rintro x (hx | hx | hx)
    · exact hx
    · rw [hst] at hx; cases hx
    · exact absurd ⟨hx.1, hx.2.1⟩ hhv
  have none' : ∀ x p, (stf j).c ≤ x → cutR ρ (stf j).c x ≠ some p := fun x p hx hp => by
    have := (cutR_some.1 hp).1
    omega
  have keep : ∀ b, b < w.heap.size → w'.heap[b]? = w.heap[b]? := fun b hb => hf.keep b hb fun x p hx hp => absurd hp (none' x p hx)
  have big : ∀ x p, (stf j).c ≤ x → ρ' x = some p → w.heap.size ≤ p.b := fun x p hx hp => by
    have hn : cutR ρ (stf j).c x = none := by
      cases hr : cutR ρ (stf j).c x with
      | none => rfl
      | some q => exact absurd hr (none' x q hx)
    rcases he.new x p hn hp with e | ⟨y, q, hy, hq, _⟩
    · exact e
    · exact absurd hq (none' y q hy)
  refine hI.adv h hS hj ho hv hh.fresh he.le he.low (fun x p hn hp => .inl (big x p (he.low x p hn hp) hp)) (fun _ x p hn hp => big x p (he.low x p hn hp) hp) hh.lt ⟨hf.os, hf.tape, hf.output, hf.size, fun b hb _ => keep b hb⟩ (fun x ob hx ho => ?_) (fun x ob p _ _ hp hob => hob.world (keep _ (hI.lt x p hp))) ?_ ?_
  · rw [hH x (hw x hx).1] at ho
    exact hh.obj x ob ho
  · intro x y o1 o2 p q hxy hx hy ho1 ho2 hp hq hb
    rw [hH x (hw x hx).1] at ho1
    rw [hH y (hw y hy).1] at ho2
    exact hh.sep x y o1 o2 p q hxy ho1 ho2 hp hq hb
  · intro x y o1 o2 p q hxy hx hy ho1 ho2 hp hq hb
    have := big x p (hw x hx).1 hp
    have := hI.lt y q hq
    omega

/-- An operation that stands alone. -/
theorem Inv.advB (h : Trc P call round fl ops stf vf rf) (hS : Clo ops.toList S) (hj : Next1 ops.toList S j) (hI : Inv ops stf rf fl ρ0 a0 w0 S ρ a w) {o : Oper} (ho : ops.toList[j]? = some o) {H1 : T AObj} {w' : World} {u : Value}
    (hhv : (rf j).heavy = true ∧ wideA ops.toList j = true) (hH : ∀ x, (stf (j + 1)).H.get x = H1.get x)
    (hp : Post G (cutR ρ (stf j).c) fl (stf j).c w (vf j) H1 (stf (j + 1)).c u w') : ∃ ρn, Inv ops stf rf fl ρ0 a0 w0 (add1 S j) ρn (a.put o.dst u) w' := by
  obtain ⟨ρ', hv, hh, he, hf⟩ := hp
  have hjl := hj.lt
  have seen : ∀ x, x < (stf j).c → (XS ops.toList stf rf S x).1 = (stf j).H.get x ∧ (XS ops.toList stf rf S x).2 ≤ (stf j).c := fun x hxc =>
    h.seen hS hj (fun i hi => h.quiet_wr (by have := hi.1; omega) (wide_before hhv.2 hi.1 hi.2)) (fun k hk hu => by
      rcases wide_after hhv.2 hu.1 hk hu.2 with hl | hl
      · exact h.quiet_wr hk hl
      · intro hw
        have := (h.new_wr hk hl hw).1
        have := h.monos (Nat.le_of_lt hu.1) (by omega)
        omega)
  have late : ∀ x p, (stf j).c ≤ x → ρ x = some p → ∀ y q, y < (stf j).c → ρ y = some q → q.b ≠ p.b := fun x p hx hp y q hy hq => by
    rcases hI.dom x p hp with hd | ⟨i, hi, hsi, hd1, hd2⟩
    · have := h.monos (Nat.zero_le j) (by omega)
      omega
    · rcases Nat.lt_trichotomy i j with e | e | e
      · have := h.monos (show i + 1 ≤ j from e) (by omega)
        omega
      · subst e; rw [hj.no] at hsi; cases hsi
      · have hu := late_un hS hj e hi hsi
        rcases wide_after hhv.2 hu.1 hi hu.2 with hl | hl
        · have := (h.quiet hi hl).2.2
          omega
        · exact (hI.neu i hi hsi hl x y p q hd1 hd2 (by omega) hp hq).symm
  have same : ∀ x ob p, x < (stf j).c → ¬ wr ops.toList stf rf j x → (XS ops.toList stf rf S x).1 = some ob → ρ x = some p → H1.get x = some ob ∧ ρ' x = some p := fun x ob p hxc hx ho hp => by
    obtain ⟨e1, e2⟩ := seen x hxc
    refine ⟨?_, he.le x p (cutR_some.2 ⟨hxc, hp⟩)⟩
    rw [← hH x, h.stay hj.lt hx, ← e1, ho]
  refine hI.adv h hS hj ho hv hh.fresh he.le he.low (fun x p hn hp => ?_) (fun hn => ?_) hh.lt (hf.sup (cutR_le _ _)) (fun x ob hx ho => ?_) (fun x ob p hx ho hp hob => ?_) ?_ ?_
  · rcases he.new x p hn hp with e | ⟨y, q, hy, hq, hb⟩
    · exact .inl e
    · exact .inr ⟨y, q, hy, (cutR_some.1 hq).1, cutR_le _ _ _ _ hq, hb⟩
  · have := (h.new_quiet hjl hn).1
    rw [hhv.1] at this
    cases this
  · rw [hH x] at ho
    exact hh.obj x ob ho
  · by_cases hxc : x < (stf j).c
    · obtain ⟨e1, e2⟩ := same x ob p hxc hx ho hp
      obtain ⟨p', hp', hob'⟩ := hh.obj x ob e1
      rw [e2] at hp'
      cases hp'
      exact hob.narrow ((cutR_mono (seen x hxc).2).trans he.le) hob'
    · exact hob.world (hf.keep p.b (hI.lt x p hp) fun y q _ hq => late x p (by omega) hp y q (cutR_some.1 hq).1 (cutR_some.1 hq).2)
  · intro x y o1 o2 p q hxy hx hy ho1 ho2 hp hq hb
    rw [hH x] at ho1
    rw [hH y] at ho2
    exact hh.sep x y o1 o2 p q hxy ho1 ho2 hp hq hb
  · intro x y o1 o2 p q hxy hx hy ho1 ho2 hp hq hb
    rw [hH x] at ho1
    by_cases hyc : y < (stf j).c
    · obtain ⟨e1, e2⟩ := same y o2 q hyc hy ho2 hq
      exact hh.sep x y o1 o2 p q hxy ho1 e1 hp e2 hb
    · exfalso
      cases hr : cutR ρ (stf j).c x with
      | some p0 =>
        have := he.le x p0 hr
        rw [hp] at this
        cases this
        exact late y q (by omega) hq x p (cutR_some.1 hr).1 (cutR_some.1 hr).2 hb
      | none =>
        rcases he.new x p hr hp with e | ⟨z, t, _, hz, hzb⟩
        · have := hI.lt y q hq
          omega
        · exact late y q (by omega) hq z t (cutR_some.1 hz).1 (cutR_some.1 hz).2 (hzb.trans hb)

/-- A store. -/
theorem Inv.advC (h : Trc P call round fl ops stf vf rf) (hS : Clo ops.toList S) (hj : Next1 ops.toList S j) (hI : Inv ops stf rf fl ρ0 a0 w0 S ρ a w) {o : Oper} (ho : ops.toList[j]? = some o) {x : Nat} {ob ob' : AObj} {p : Win} {w' : World} {u : Value}
    (hc : (stf (j + 1)).c = (stf j).c) (hst : (rf j).st = some x) (hhv : (rf j).heavy = false) (hX : (XS ops.toList stf rf S x).1 = some ob) (hxc : x < (stf j).c) (hp : ρ x = some p) (hro : ob.isRo = false) (hfl : fl ≤ x)
    (hH : (stf (j + 1)).H.get x = some ob') (hob : ObjR (cutR ρ (stf j).c) w' p ob') (hv : VR (cutR ρ (stf j).c) (vf j) u)
    (hs : w'.heap.size = w.heap.size) (hos : w'.os = w.os) (htp : w'.tape = w.tape) (hou : w'.output = w.output) (hk : ∀ k, k ≠ p.b → w'.heap[k]? = w.heap[k]?) : ∃ ρn, Inv ops stf rf fl ρ0 a0 w0 (add1 S j) ρn (a.put o.dst u) w' := by
  have hw : ∀ y, wr ops.toList stf rf j y → y = x := by
    rintro y (hy | hy | hy)
    · omega
    · rw [hst] at hy; cases hy; rfl
    · rw [hhv] at hy; cases hy.1
  have hwx : wr ops.toList stf rf j x := .inr (.inl hst)
  refine hI.adv h hS hj ho hv (fun y hy => by unfold cutR; rw [if_neg (by omega)]) (.refl _) (fun y q hn hq => by rw [hn] at hq; cases hq) (fun y q hn hq => by rw [hn] at hq; cases hq) (fun _ y q hn hq => by rw [hn] at hq; cases hq)
    (fun y q hq => by rw [hs]; exact hI.lt y q (cutR_le _ _ _ _ hq)) ⟨hos, htp, hou, by omega, fun b _ hn => hk b fun e => hn x p hfl hp e.symm⟩ (fun y o1 hy ho1 => ?_) (fun y o1 q hy ho1 hq hob' => hob'.world (hk _ fun hb => ?_)) ?_ ?_
  · rw [hw y hy] at ho1 ⊢
    rw [hH] at ho1
    cases ho1
    exact ⟨p, cutR_some.2 ⟨hxc, hp⟩, hob⟩
  · have hne : y ≠ x := fun e => hy (by rw [e]; exact hwx)
    have := (hI.sep y x o1 ob q p hne ho1 hX hq hp hb).ro.2
    rw [hro] at this
    cases this
  · intro y z o1 o2 q r hyz hy hz
    exact absurd ((hw y hy).trans (hw z hz).symm) hyz
  · intro y z o1 o2 q r hyz hy hz ho1 ho2 hq hr hb
    rw [hw y hy] at hq
    have hq' := cutR_le _ _ _ _ hq
    rw [hp] at hq'
    cases hq'
    have hne : z ≠ x := fun e => hz (by rw [e]; exact hwx)
    have := (hI.sep x z ob o2 p r hne.symm hX ho2 hp hr hb).ro.1
    rw [hro] at this
    cases this

end
end Go.Ev

namespace Go.Ev
open Go

section
variable {G : Nat} {P : Program} {call round : CallFn} {fl : Nat} {ops : Array Oper} {stf : Nat → St} {vf : Nat → AV} {rf : Nat → Rec}
variable {S : Nat → Bool} {j : Nat} {ρ0 ρ : Rho} {a0 a : Act} {w0 w : World}

theorem off_wr {i x : Nat} (h : Trc P call round fl ops stf vf rf) (hj : j < ops.toList.length) (hu : Un ops.toList i j) (ho : ¬ ((rf i).lo ≤ x ∧ x < (rf i).hi) ∧ (rf i).st ≠ some x) (hwas : (rf i).heavy = false ∨ offWas x (rf i) = true) : ¬ wr ops.toList stf rf i x := by
  have hi : i < ops.toList.length := by have := hu.1; omega
  rintro (hw | hw | hw)
  · exact ho.1 ((h.range hi).2 hw)
  · exact ho.2 hw
  · rcases hwas with e | e
    · rw [e] at hw; cases hw.1
    · unfold offWas at e
      rw [h.was hi hw.1 hw.2.1] at e
      exact hw.2.2 (sameO_eq e)

theorem later_wr {k x : Nat} (h : Trc P call round fl ops stf vf rf) (hk : k < ops.toList.length) (hu : Un ops.toList j k) (hx : x < (stf j).c) (ho : (rf j).heavy = true ∨ (rf j).reads = some x ∧ (rf j).look = none) : ¬ wr ops.toList stf rf k x := by
  have hm := h.monos (show j ≤ k from Nat.le_of_lt hu.1) (by omega)
  rintro (hw | hw | hw)
  · omega
  · obtain ⟨_, _, h3⟩ := h.stored hk hw
    have h4 := offReads_iff.1 (h3 j hu).2
    rcases ho with ho | ho
    · rw [h4.1] at ho; cases ho
    · exact h4.2 ho.1
  · have hl := wide_before hw.2.1 hu.1 hu.2
    obtain ⟨h3, _⟩ := h.quiet (by have := hu.1; omega) hl
    rcases ho with ho | ho
    · rw [h3] at ho; cases ho
    · have := h.sames hk hw.1 hw.2.1 j hu
      unfold sameR at this
      rw [ho.1, ho.2] at this
      simp only [lookSame, Bool.or_false] at this
      exact hw.2.2 (sameO_eq this)

/-- What is written behind a look-up is answered alike. -/
theorem later_look {k x : Nat} (h : Trc P call round fl ops stf vf rf) (hk : k < ops.toList.length) (hu : Un ops.toList j k) (hx : x < (stf j).c) (ho : (rf j).reads = some x) (hw : wr ops.toList stf rf k x) : lookSame P (stf (k + 1)).H x (rf j).look = true := by
  have hm := h.monos (show j ≤ k from Nat.le_of_lt hu.1) (by omega)
  rcases hw with hw | hw | hw
  · omega
  · obtain ⟨_, _, h3⟩ := h.stored hk hw
    exact absurd ho (offReads_iff.1 (h3 j hu).2).2
  · have := h.sames hk hw.1 hw.2.1 j hu
    unfold sameR at this
    rw [ho] at this
    simp only [Bool.or_eq_true] at this
    rcases this with this | this
    · exact absurd (sameO_eq this) hw.2.2
    · exact this

theorem plain1_VR {ρ ρ' : Rho} {v : AV} {u : Value} (hp : v.plain1.isSome = true) (h : VR ρ v u) : VR ρ' v u := by
  cases v <;> simp only [AV.plain1, Option.isSome_none, Bool.false_eq_true] at hp <;> simpa only [VR] using h

theorem lookOf_some {op : Op} {bs : List AV} {v : AV} {t : TypeId} {k v' : AV} (h : lookOf op bs v = some (t, k, v')) : (∃ a b, op = .lookup t a b false) ∧ bs = [k] ∧ v' = v := by
  unfold lookOf at h
  split at h
  · simp only [Option.some.injEq, Prod.mk.injEq] at h
    obtain ⟨rfl, rfl, rfl⟩ := h
    exact ⟨⟨_, _, rfl⟩, rfl, rfl⟩
  · cases h

/-- One operation, in whatever order. -/
theorem Trc.oper (h : Trc P call round fl ops stf vf rf) (hGs : P.globals.size = G) (hcall : CallOK G P call) (hround : RoundOK G P round) (hGl : ∀ g, g < G → g < (stf 0).c ∧ ∃ k, ρ0 g = some ⟨g, 0, k⟩)
    (hS : Clo ops.toList S) (hj : Next1 ops.toList S j) (hI : Inv ops stf rf fl ρ0 a0 w0 S ρ a w) {b : Option Nat} {n : Nat} {Q : Exit → Act → World → Prop} {K : Act → World → Prop}
    (hK : ∀ ρn a' w', Inv ops stf rf fl ρ0 a0 w0 (add1 S j) ρn a' w' → K a' w') : wpOpIn (FR b) n P ops Q j K a w := by
  have hjl := hj.lt
  obtain ⟨o, ho⟩ := get_of_lt hjl
  have hoA : ops[j]? = some o := by simpa using ho
  have hG : ∀ g, g < G → g < (stf j).c ∧ ∃ k, ρ0 g = some ⟨g, 0, k⟩ := fun g hg => ⟨Nat.lt_of_lt_of_le (hGl g hg).1 (h.monos (Nat.zero_le j) (by omega)), (hGl g hg).2⟩
  have args : ∀ {vs}, operandsA P.globals.size (stf j).env (opArgs o.op) = some vs → VRs (cutR ρ (stf j).c) vs ((opArgs o.op).map a.eval) := fun e => h.args hS hj hI hG ho (fun t ht => opArgs_looks ht) (by rw [← hGs]; exact e)
  have leaf : Holds G (cutR ρ (stf j).c) .leaf (stf j).c w := hI.holds hG fun x o hx => by simp at hx
  have dom : ∀ x, (stf j).c ≤ x → (stf j).H.get x = none := fun x hx => by
    apply Classical.byContradiction
    intro hne
    have := h.dom (by omega) x hne
    omega
  have fin : ∀ {u w'}, (∃ ρn, Inv ops stf rf fl ρ0 a0 w0 (add1 S j) ρn (a.put o.dst u) w') → K (a.put o.dst u) w' := fun ⟨ρn, hh⟩ => hK ρn _ _ hh
  unfold wpOpIn
  rw [hoA]
  simp only
  cases h.cases ho with
  | skip hw hv hH hc hr =>
    rw [h.wants hS hj hI ho hw, if_neg (by simp)]
    refine ⟨fun f _ => FR_fn b f, fin (hI.advA (G := G) h hS hj ho (H1 := .leaf) (by rw [hr]) (by rw [hr]; simp) (fun x hx => by rw [hH, dom x hx]; rfl) ?_)⟩
    rw [hc, hv]
    exact .same leaf (by simp only [undefA, VR]; exact ⟨[], .nil, rfl⟩)
  | free hw vs hvs hH hc hr hs hk =>
    rw [h.wants hS hj hI ho hw, if_pos rfl]
    refine step_sound hcall hround leaf (args hvs) (hs (stf j).c .leaf (stf j).c) fun u w' hp => fin (hI.advA (G := G) h hS hj ho (H1 := .leaf) (by rw [hr]) (by rw [hr]; simp) (fun x hx => by rw [hH, dom x hx]; rfl) ?_)
    rw [hc]
    exact hp
  | new hw vs hvs ob hH hc hr hs hk =>
    rw [h.wants hS hj hI ho hw, if_pos rfl]
    refine step_sound hcall hround leaf (args hvs) (hs (stf j).c .leaf) fun u w' hp => fin (hI.advA (G := G) h hS hj ho (H1 := T.set .leaf (stf j).c ob) (by rw [hr]) (by rw [hr]; simp) (fun x hx => ?_) ?_)
    · rw [hH, T.get_set, T.get_set, dom x hx]; rfl
    · rw [hc]
      exact hp
  | load hw v0 x bs hvs hall hk hH hc hn hr ob hx hs =>
    rw [h.wants hS hj hI ho hw, if_pos rfl]
    have hxc : x < (stf j).c := h.dom (by omega) x (by rw [hx]; simp)
    rcases lw_last (S := S) (W := fun j => wr ops.toList stf rf j x) (g := fun n => ((stf n).H.get x, (stf n).c)) (show j ≤ ops.toList.length by omega) with eq | ⟨k, hk1, hk2, hk3, hk4, eq⟩
    case inr =>
      have hne : k ≠ j := by intro e; subst e; rw [hj.no] at hk3; cases hk3
      have hu := late_un hS hj (show j < k by omega) hk2 hk3
      have hls := later_look h hk2 hu hxc (by rw [hr]) hk4
      rw [hr] at hls
      unfold lookSame at hls
      split at hls
      case h_2 => cases hls
      rename_i t key v' hlo
      obtain ⟨⟨ea, eb, hop⟩, rfl, rfl⟩ := lookOf_some hlo
      split at hls
      case h_2 => cases hls
      rename_i v2 hlk
      simp only [Bool.and_eq_true] at hls
      have hv2 := AV.eqB_eq _ _ hls.1
      subst hv2
      have hv0 : v0 = .map x := by
        have := hs (stf j).c (stf j).H (stf j).c hx
        rw [hop] at this
        simp only [stepA, isCall, cond_false, opA, oLookup] at this
        cases v0 <;> simp only [nameL, Option.some.injEq, reduceCtorEq] at hn
        · simp only [lookupA] at this
          split at this <;> simp [opt1, valV] at this
        · rw [hn]
      subst hv0
      have hmk := h.monos (show j ≤ k + 1 by omega) (show k + 1 ≤ ops.toList.length from hk2)
      obtain ⟨o2, ho2⟩ : ∃ o2, (stf (k + 1)).H.get x = some o2 := by
        cases hq : (stf (k + 1)).H.get x with
        | some o2 => exact ⟨o2, rfl⟩
        | none =>
          simp only [lookupA, hq] at hlk
          split at hlk <;> simp at hlk
      have hT : Holds G (cutR ρ (stf (k + 1)).c) (T.set .leaf x o2) (stf (k + 1)).c w := hI.holds (j := k + 1) (fun g hg => ⟨Nat.lt_of_lt_of_le (hG g hg).1 hmk, (hG g hg).2⟩) fun y o' hy => by
        rw [T.get_set] at hy
        split at hy
        · rename_i e
          cases hy
          rw [e]
          unfold XS
          rw [eq]
          exact ⟨ho2, Nat.le_refl _⟩
        · simp at hy
      have hvv := args hvs
      rw [hop] at hvv
      obtain ⟨hva, hvb⟩ := VRs.two (show VRs _ [_, _] [a.eval ea, a.eval eb] from hvv)
      obtain ⟨z, hz, hzv⟩ := lookup_sound (P := P) hT (ok := false) (t := t) (r := vf j) (hva.mono (cutR_mono hmk)) (hvb.mono (cutR_mono hmk)) (by rw [← hlk]; simp only [lookupA, T.get_set, if_true, ho2])
      have hrun : (execOp a.eval o).run P w = .ok (.value z) w := by
        obtain ⟨dst, op, type, pos, after, guard⟩ := o
        simp only at hop
        subst hop
        show (do pure (.value (← Instr.lookup t (a.eval ea) (a.eval eb) false)) : Sem Next).run P w = _
        simp only [Sem.run_bind, hz, Result.andThen_ok, Sem.run_pure]
      refine ⟨fun f _ => FR_fn b f, ?_⟩
      rw [semAt_eq (by intro k hk; rw [hop] at hk; cases hk), hrun]
      show K (a.put o.dst z) w
      refine fin (hI.advA (G := G) h hS hj ho (H1 := .leaf) (by rw [hr]) (by rw [hr]; simp) (fun y hy => by rw [hH, dom y hy]; rfl) ?_)
      rw [hc]
      exact .same leaf (plain1_VR hls.2 hzv)
    obtain ⟨e1, e2⟩ := h.before hj (S := S) (W := fun j => wr ops.toList stf rf j x) (g := fun n => ((stf n).H.get x, (stf n).c)) (fun n hn hw => h.stay hn hw) (fun _ => rfl) (fun i hi => off_wr h hjl hi (offRec_iff.1 (hall i hi).1) (.inr (hall i hi).2))
    rw [← eq] at e1 e2
    replace e1 : (XS ops.toList stf rf S x).1 = (stf j).H.get x := e1
    replace e2 : (XS ops.toList stf rf S x).2 ≤ (stf j).c := e2
    have hT : Holds G (cutR ρ (stf j).c) (T.set .leaf x ob) (stf j).c w := hI.holds hG fun y o' hy => by
      rw [T.get_set] at hy
      split at hy
      · rename_i e; cases hy; rw [e, e1, hx]; exact ⟨rfl, e2⟩
      · simp at hy
    refine step_sound hcall hround hT (args hvs) (hs (stf j).c _ (stf j).c (by rw [T.get_set, if_pos rfl])) fun u w' hp => fin (hI.advA (G := G) h hS hj ho (H1 := T.set .leaf x ob) (by rw [hr]) (by rw [hr]; simp) (fun y hy => ?_) ?_)
    · rw [hH, dom y hy, T.get_set, if_neg (by omega)]; rfl
    · rw [hc]
      exact hp
  | store hw v0 v1 x hvs hn hall hc hv hr t ea eb hop hs hk =>
    rw [h.wants hS hj hI ho hw, if_pos rfl]
    obtain ⟨hne, _⟩ := storeA_get hn hs
    have hxc : x < (stf j).c := h.dom (by omega) x hne
    obtain ⟨ob, hx⟩ := Option.ne_none_iff_exists'.1 hne
    obtain ⟨e1, e2⟩ := h.seen hS hj (x := x) (fun i hi => off_wr h hjl hi (offRec_iff.1 (hall i hi).1) (.inl (offReads_iff.1 (hall i hi).2).1)) (fun k hk hu => later_wr h hk hu hxc (.inr ⟨by rw [hr], by rw [hr]⟩))
    rw [hx] at e1
    obtain ⟨_, p, hp, hob⟩ := hI.obj x ob e1
    have hvv := args hvs
    rw [hop] at hvv
    obtain ⟨hv0, hv1⟩ := VRs.two (show VRs _ [_, _] [a.eval ea, a.eval eb] from hvv)
    obtain ⟨ob', w', eH, hro, _, hfl, hz, hob', hsz, hos, htp, hou, hk⟩ := store_exact (ρ := cutR ρ (stf j).c) hn hv0 hv1 (cutR_some.2 ⟨hxc, hp⟩) hx (hob.mono (cutR_mono e2)) hs
    have hrun : (execOp a.eval o).run P w = .ok .skip w' := by
      obtain ⟨dst, op, type, pos, after, guard⟩ := o
      simp only at hop
      subst hop
      show (do Instr.storeAt t (a.eval ea) (a.eval eb); pure .skip : Sem Next).run P w = _
      simp only [Sem.run_bind, hz, Result.andThen_ok, Sem.run_pure]
    refine ⟨fun f _ => FR_fn b f, ?_⟩
    rw [semAt_eq (by intro k hk; rw [hop] at hk; cases hk), hrun]
    show K (a.put o.dst undef) w'
    exact fin (hI.advC h hS hj ho hc (by rw [hr]) (by rw [hr]) e1 hxc hp hro hfl (by rw [eH, T.get_set, if_pos rfl]) hob' (by rw [hv]; simp only [undefA, VR]; exact ⟨[], .nil, rfl⟩) hsz hos htp hou hk)
  | heavy hw vs hvs hall xs hxs H1 hs hH hr hsame hk =>
    rw [h.wants hS hj hI ho hw, if_pos rfl]
    have hT : Holds G (cutR ρ (stf j).c) (hideA (stf j).H xs).1 (stf j).c w := hI.holds hG fun y o' hy => by
      rw [hide_get] at hy
      split at hy
      · cases hy
      · rename_i hnx
        have hyc : y < (stf j).c := h.dom (by omega) y (by rw [hy]; simp)
        obtain ⟨e1, e2⟩ := h.seen hS hj (x := y) (fun i hi => off_wr h hjl hi ⟨fun hr => hnx ((hxs y).2 ⟨i, hi, hr⟩), by rw [(hall i hi).2]; simp⟩ (.inl (hall i hi).1)) (fun k hk hu => later_wr h hk hu hyc (.inl (by rw [hr])))
        exact ⟨e1.trans hy, e2⟩
    refine step_sound hcall hround hT (args hvs) hs fun u w' hp => fin ?_
    cases hl : wideA ops.toList j with
    | true =>
      rw [hl, cond_true] at hp
      refine hI.advB h hS hj ho ⟨by rw [hr], hl⟩ (fun x => ?_) hp
      rw [hH, back_get, if_neg]
      rintro ⟨hx, _⟩
      obtain ⟨i, hi, hr2⟩ := (hxs x).1 hx
      have hil : i < ops.toList.length := by have := hi.1; omega
      have := (h.range hil).1 hr2
      obtain ⟨_, _, h3⟩ := h.quiet hil (wide_before hl hi.1 hi.2)
      omega
    | false =>
      rw [hl, cond_false] at hp
      refine hI.advA (G := G) h hS hj ho (by rw [hr]) (by rw [hl]; simp) (fun x hx => ?_) hp
      rw [hH, back_get, if_neg]
      rintro ⟨_, hne⟩
      exact hne (dom x hx)

/-- The end. -/
theorem Inv.done (h : Trc P call round fl ops stf vf rf) (hGl : ∀ g, g < G → g < (stf 0).c ∧ ∃ k, ρ0 g = some ⟨g, 0, k⟩) (hd : DefR ρ0 (stf 0).dfs a0.defers) (hall : ∀ j, j < ops.toList.length → S j = true) (hI : Inv ops stf rf fl ρ0 a0 w0 S ρ a w) :
    Goes G ρ0 fl (stf 0).c w0 (stf ops.toList.length) a w := by
  have eX : ∀ x, (XS ops.toList stf rf S x).1 = (stf ops.toList.length).H.get x := fun x =>
    lw_agree (g := fun n => ((stf n).H.get x, (stf n).c)) (fun n hn hw => h.stay hn hw) (Nat.le_refl _) fun n hn hs => by rw [hall n hn] at hs; cases hs
  have eE : ∀ t, (ES ops.toList stf S t).1 = (stf ops.toList.length).env.get t := fun t =>
    lw_agree (g := fun n => ((stf n).env.get t, (stf n).c)) (fun n hn hw => h.env_stay hn hw) (Nat.le_refl _) fun n hn hs => by rw [hall n hn] at hs; cases hs
  obtain ⟨hn, hdf⟩ := h.ns (Nat.le_refl ops.toList.length)
  have hm := h.monos (Nat.zero_le _) (Nat.le_refl ops.toList.length)
  refine ⟨ρ, ⟨⟨hI.size.trans hn.symm, fun t v ht => ?_⟩, ⟨fun x o hx => ?_, fun x y o o' p q hxy hx hy => ?_, fun x hx => ?_, hI.lt, fun g hg => ?_⟩, ?_⟩, ⟨hI.ext.le, hI.ext.new, hI.ext.low, hm⟩, hI.fr⟩
  · obtain ⟨h1, h2⟩ := hI.env t v ((eE t).trans ht)
    rw [hn]
    exact ⟨h1, h2.mono (cutR_le _ _)⟩
  · obtain ⟨_, p, hp, hob⟩ := hI.obj x o ((eX x).trans hx)
    exact ⟨p, hp, hob.mono (cutR_le _ _)⟩
  · exact hI.sep x y o o' p q hxy ((eX x).trans hx) ((eX y).trans hy)
  · cases hr : ρ x with
    | none => rfl
    | some p =>
      exfalso
      rcases hI.dom x p hr with hd | ⟨i, hi, _, _, hd2⟩
      · omega
      · have := h.monos (show i + 1 ≤ ops.toList.length from hi) (Nat.le_refl _)
        omega
  · obtain ⟨_, k, hk⟩ := hGl g hg
    exact ⟨k, hI.ext.le _ _ hk⟩
  · rw [hdf, hI.defers]
    exact hd.mono hI.ext.le

def unl : Nat → (Nat → Bool) → Nat
  | 0, _ => 0
  | n + 1, f => unl n f + (if f n = true then 0 else 1)

theorem unl_ge {f : Nat → Bool} : ∀ {n : Nat}, n ≤ j → unl n (add1 f j) = unl n f
  | 0, _ => rfl
  | n + 1, h => by
    rw [unl, unl, unl_ge (by omega)]
    have : add1 f j n = f n := if_neg (by omega)
    rw [this]

theorem unl_add {f : Nat → Bool} (hf : f j = false) : ∀ {n : Nat}, j < n → unl n (add1 f j) + 1 = unl n f
  | 0, h => by omega
  | n + 1, h => by
    rw [unl, unl]
    by_cases e : n = j
    · subst e
      rw [unl_ge (Nat.le_refl _), hf]
      have : add1 f n n = true := if_pos rfl
      rw [this]
      rfl
    · have : add1 f j n = f n := if_neg e
      rw [this, ← unl_add hf (show j < n by omega)]
      omega

theorem Trc.next (h : Trc P call round fl ops stf vf rf) {listed : Array Bool} (hsz : listed.size = ops.toList.length) (hS : Clo ops.toList S) (hl : ∀ n, listed.getD n false = S n) (hr : j ∈ Region.ready .any ops listed) : Next1 ops.toList S j := by
  obtain ⟨h0, o, ho, hall⟩ := mem_ready.1 hr
  have hjl : j < ops.toList.length := by simpa using (Array.getElem?_eq_some_iff.1 ho).1
  have hno : S j = false := by
    rw [← hl j]
    have hlt : j < listed.size := by omega
    simpa [Array.getD, hlt] using h0
  refine ⟨hjl, hno, fun i hb => ?_⟩
  have hoL : ops.toList[j]? = some o := by simpa using ho
  obtain ⟨e, he, hbd, hor⟩ := (bef_iff hoL (h.fit.back j o hoL)).1 hb
  have hon : S e.on = true := by rw [← hl]; exact hall e (by simpa using he) hbd
  have hlt := h.fit.back j o hoL e he hbd
  rcases hor with rfl | hor
  · exact hon
  · exact hS e.on i (by omega) hon hor

theorem ready_nil (h : Trc P call round fl ops stf vf rf) {listed : Array Bool} (hsz : listed.size = ops.toList.length) (hl : ∀ n, listed.getD n false = S n) (hr : Region.ready .any ops listed = []) : ∀ j, j < ops.toList.length → S j = true := by
  intro j
  induction j using Nat.strongRecOn with
  | _ j ih =>
    intro hj
    cases hs : S j with
    | true => rfl
    | false =>
      exfalso
      obtain ⟨o, ho⟩ := get_of_lt hj
      have : j ∈ Region.ready .any ops listed := by
        rw [mem_ready]
        refine ⟨?_, o, by simpa using ho, fun e he hb => ?_⟩
        · rw [← hl j] at hs
          have hlt : j < listed.size := by omega
          simpa [Array.getD, hlt] using hs
        · have hlt := h.fit.back j o ho e (by simpa using he) hb
          rw [hl]
          exact ih e.on hlt (by omega)
      rw [hr] at this
      cases this

theorem Trc.any (h : Trc P call round fl ops stf vf rf) (hGs : P.globals.size = G) (hcall : CallOK G P call) (hround : RoundOK G P round) (hGl : ∀ g, g < G → g < (stf 0).c ∧ ∃ k, ρ0 g = some ⟨g, 0, k⟩) (hd : DefR ρ0 (stf 0).dfs a0.defers)
    {b : Option Nat} {n : Nat} {Q : Exit → Act → World → Prop} (hQ : ∀ a w, Goes G ρ0 fl (stf 0).c w0 (stf ops.toList.length) a w → Q .normal a w) :
    ∀ (fuel : Nat) (S : Nat → Bool) (listed : Array Bool) (ρ : Rho) (a : Act) (w : World), listed.size = ops.toList.length → Clo ops.toList S → (∀ n, listed.getD n false = S n) → unl ops.toList.length S ≤ fuel → Inv ops stf rf fl ρ0 a0 w0 S ρ a w →
      wpAnyIn (FR b) n P .any ops Q fuel listed a w := by
  intro fuel
  induction fuel with
  | zero =>
    intro S listed ρ a w hsz hS hl hu hI
    have hnil : Region.ready .any ops listed = [] := by
      rw [List.eq_nil_iff_forall_not_mem]
      intro j hj
      have hn := h.next hsz hS hl hj
      have := unl_add hn.no hn.lt
      omega
    exact ⟨hnil, hQ a w (hI.done h hGl hd (ready_nil h hsz hl hnil))⟩
  | succ fuel ih =>
    intro S listed ρ a w hsz hS hl hu hI
    refine ⟨fun hnil => hQ a w (hI.done h hGl hd (ready_nil h hsz hl hnil)), fun j hj => ?_⟩
    have hn := h.next hsz hS hl hj
    have hu' := unl_add hn.no hn.lt
    refine h.oper hGs hcall hround hGl hS hn hI fun ρn a' w' hI' => ih (add1 S j) _ ρn a' w' (by simpa using hsz) (hS.add hn) (fun m => ?_) (by omega) hI'
    unfold add1
    by_cases e : m = j
    · subst e
      rw [if_pos rfl]
      have hlt : m < listed.size := by have := hn.lt; omega
      simp [Array.getD, hlt]
    · rw [if_neg e, ← hl m]
      simp [Array.getElem?_setIfInBounds_ne (Ne.symm e)]

/-- Regions whose order is open are carried out as it is said. -/
theorem draw_ok (hGs : P.globals.size = G) (hm : P.follows .mixedOrders = true) : DrawOK G P := by
  intro call round hcall hround hcg hrg fl ops hok id st st' e ρ a w b n hs
  obtain ⟨stf, vf, rf, e0, eN, hall⟩ := trace_exists e
  have hlen : (opIs ops.toList).length = ops.toList.length := opIs_length _
  rw [hlen] at eN
  have step := fun j o (hj : ops.toList[j]? = some o) => hall j _ (opIs_get hj)
  have hdom : ∀ x, st.H.get x ≠ none → x < st.c := fun x hx => by
    obtain ⟨o, ho⟩ := Option.ne_none_iff_exists'.1 hx
    obtain ⟨p, hp, _⟩ := hs.mem.obj x o ho
    apply Classical.byContradiction
    intro hn
    rw [hs.mem.fresh x (by omega)] at hp
    cases hp
  subst e0
  have h : Trc P call round fl ops stf vf rf := ⟨regOk_fit hok, hcg, hrg, fun j o hj => by simpa using (step j o hj).1, fun j o hj => (step j o hj).2.1, fun j o hj => (step j o hj).2.2.1, fun j o hj => (step j o hj).2.2.2, hdom⟩
  have hGl : ∀ g, g < G → g < (stf 0).c ∧ ∃ k, ρ g = some ⟨g, 0, k⟩ := fun g hg => by
    obtain ⟨k, hk⟩ := hs.mem.glob g hg
    refine ⟨?_, k, hk⟩
    apply Classical.byContradiction
    intro hn
    rw [hs.mem.fresh g (by omega)] at hk
    cases hk
  refine wpIn_region_any hm ?_
  refine h.any hGs hcall hround hGl hs.dfs (fun a' w' hg => ⟨rfl, by rw [← eN]; exact hg⟩) ops.size (fun _ => false) _ ρ a _ (by simp) (fun j i _ hj _ => by cases hj) (fun m => ?_) ?_ (h.start hs)
  · simp only [Array.getD_eq_getD_getElem?, Array.getElem?_replicate]
    split <;> rfl
  · have : ∀ m, unl m (fun _ => false) = m := fun m => by
      induction m with
      | zero => rfl
      | succ m ih => rw [unl, ih]; simp
    rw [this]
    simp

/-- The evaluator is sound. -/
theorem exec_ok {orc : CallFn} (ho : CallOK G P orc) (hg : CallGood orc) (hG : P.globals.size = G) (hm : P.follows .mixedOrders = true) (f : Nat) : ExecOK G P (exec orc P f) := exec_sound ho hg hG (draw_ok hG hm) f

theorem callX_ok {orc : CallFn} (ho : CallOK G P orc) (hg : CallGood orc) (hG : P.globals.size = G) (hm : P.follows .mixedOrders = true) (f : Nat) : CallOK G P (callX orc P (exec orc P f)) := callX_sound ho (exec_ok ho hg hG hm f)

end
end Go.Ev

