/- Texts of one kind, one behind the other: SyNr, SyOi, Kg, Kh, Ki, Kj, Kk, SyOj, SyFr. -/
import Derived.Test.YtpneoeoimdfjaaaRw3
set_option linter.unusedVariables false
set_option linter.unusedSimpArgs false
/- A range over a function whose rounds also read what lies beneath: Tr.range, but that the rounds' memory may name things below their floor. -/
namespace Go.Ev
open Go

/-- What of a memory lies above a floor. -/
def upM (f : Nat) (m : List (Nat × Option AObj)) : List (Nat × Option AObj) := m.filter fun e => Nat.ble f e.1
theorem upM_look {f x : Nat} {o : AObj} : ∀ {m : List (Nat × Option AObj)}, lookM (upM f m) x = some o → f ≤ x ∧ lookM m x = some o
  | [], h => by cases h
  | (d, v) :: l, h => by
    unfold upM at h
    rw [List.filter_cons] at h
    by_cases hd : Nat.ble f d = true
    · rw [if_pos hd, lookM, Bool.cond_eq_ite] at h
      rw [lookM, Bool.cond_eq_ite]
      by_cases e : Nat.beq x d = true
      · rw [if_pos e] at h ⊢
        have e' : x = d := by simpa using e
        exact ⟨by rw [e']; exact Nat.le_of_ble_eq_true hd, h⟩
      · rw [if_neg e] at h ⊢
        exact upM_look h
    · rw [if_neg hd] at h
      obtain ⟨h1, h2⟩ := upM_look h
      refine ⟨h1, ?_⟩
      rw [lookM, Bool.cond_eq_ite, if_neg]
      · exact h2
      · intro e
        have e' : x = d := by simpa using e
        exact hd (by rw [← e']; exact Nat.ble_eq_true_of_le h1)

section
variable {P : Program} {ρ : Rho} {fl cb c cc n p : Nat} {w : World} {l lC : List (Nat × AV)} {ags bd : Code} {m memT : List (Nat × Option AObj)}
variable {σ : Type} {M : σ → List (Nat × Option AObj)} {ok : σ → List AV → Prop} {stp : σ → List AV → σ × Option Code}

theorem Tr.rangeR [hP : PG P 0] {room : Nat → σ → Prop} {hroom : ∀ k s args, room (k + 1) s → (stp s args).2 = none → room k (stp s args).1} {g : Operand} {gf flT flC : Nat} {first cap : List AV} {T NC : List Nat} {s0 : σ} {R : AV → List (Nat × Option AObj) → σ × Option Code → Prop} {Q : AExit → St → Prop}
    (hg : operandL 0 l g = some (.fn gf first cap)) (hpn : Nat.blt p n = true) (hflcb : fl ≤ cb) (hcbc : cb ≤ c) (hflf : fl ≤ flC) (hflC : flC ≤ c) (hflT : fl ≤ flT) (hcc : c + 2 ≤ cc)
    (hT : allM (fun x o => x ∈ T ∧ lookM m x = some o ∧ o.ren (keepN T c) = o) memT) (hTo : ∀ x ∈ T, x < c ∧ ∃ o, lookM m x = some o ∧ (flT ≤ x → o.share = none)) (ha : AV.rens (keepN T c) (first ++ [.yld (c + 1)] ++ cap) = first ++ [.yld (c + 1)] ++ cap)
    (hl : allL (fun t v => look l t = some v ∧ v.ren (keepN NC c) = v) lC)
    (hM : allM (fun y o => y ∈ NC ∧ (y = c ∧ o = .dfr ∨ lookM m y = some o ∧ y < c) ∧ o.ren (keepN NC c) = o) (M s0)) (hN : ∀ y ∈ NC, y = c ∨ (flC ≤ y ∧ y < c ∧ y ∉ T ∧ ∃ o, lookM m y = some o ∧ o.share = none) ∨ (y < flC ∧ y < flT ∧ ∃ o, lookM m y = some o)) (hNc : c ∈ NC)
    (hMg : ∀ s y o, lookM (M s) y = some o → y ≠ c + 1)
    (hrnd : RndOK 0 P flC (c + 2) cc (c + 1) c n p lC ags bd M ok stp)
    (hcall : ∀ (ρ0 : Rho) (lb : Nat) (h : flC ≤ c + 2), YldOK P (rndC 0 ρ0 lb flC (c + 2) cc (c + 1) c n p lC ags bd M ok stp room hroom h) → OkJ 0 P (rndC 0 ρ0 lb flC (c + 2) cc (c + 1) c n p lC ags bd M ok stp room hroom h) flT (c + 1) gf (first ++ [.yld (c + 1)] ++ cap) memT (c + 2) (s0, none) R)
    (hRl : ∀ v m' s', R v m' s' → lookM m' (c + 1) = none)
    (hQ : ∀ v m' s' j, R v m' (s', j) → match j with | none => Q .normal (stL n [c] l (m' ++ upM flC (M s')) cc) | some jc => Tr 0 P fl cb none jc (stL n [c] l (m' ++ upM flC (M s')) cc) Q) :
    Tr 0 P fl cb none (.rangeFunc g #[p] ags bd) (stL n [] l m c) Q := by
  refine ⟨fun ρ a w b k hs hc hr hb => ?_⟩
  cases b with
  | some _ => exact hb.elim
  | none =>
  have hgv := operand_sound (G := 0) hs.mem hs.env (x := g) (v := .fn gf first cap) (by rw [← hg]; exact operandL_eq _ _ _)
  simp only [VR] at hgv
  obtain ⟨fs, cs, hfs, hcs, hgv⟩ := hgv
  refine wpIn_rangeFunc fun fn _ => ?_
  rw [FR_round]
  have hmem : Holds 0 ρ (ofM m) c w := hs.mem
  have hent : ∃ (q : Win) (mark : List Deferred) (w1 : World) (ρ1 : Rho), (Instr.enterLoop fn a.tmps #[p] ags bd none).run P w = .ok (q.b, mark) w1 ∧ ρ1 (c + 1) = some q ∧ Holds 0 ρ1 (ofM ((c + 1, some (lpO n p c lC ags bd .ready none)) :: (c, some .dfr) :: m)) (c + 2) w1 ∧ Ext ρ ρ1 fl w c (c + 2) ∧ Fr ρ fl w w1 ∧
      DefR ρ1 [c] (mark ++ a.defers) ∧ w.heap.size ≤ q.b := by
    have hc0 := hmem.fresh c (Nat.le_refl _)
    have A1 := hmem.alloc 0 (.deferred (some [])) .dfr alloc_new
    have e1 : Ext ρ (upd ρ c ⟨w.heap.size, 0, 0⟩) fl w c (c + 1) := .upd hc0
    have hsz : (w.alloc (.deferred (some []))).heap.size = w.heap.size + 1 := by simp
    have hc1 := A1.fresh (c + 1) (Nat.le_refl _)
    have henv : EnvR ρ (ofL lC) n a.tmps := ⟨hs.env.1, fun t v ht => hs.env.2 t v (by
      show (ofL l).get t = _
      rw [ofL_get]
      exact (allL_look hl t v (by rw [← ofL_get]; exact ht)).1)⟩
    have A2 := A1.alloc 0 (.loop { state := .ready, pending := none, fn := fn, tmps := a.tmps, params := #[p], assign := ags, body := bd, defers := w.heap.size }) (lpO n p c lC ags bd .ready none)
      ⟨fn, a.tmps, w.heap.size, by rw [alloc_new], (henv.mono e1.le).mono (upd_le hc1), ⟨w.heap.size, 0, 0⟩, upd_le hc1 _ _ (upd_same _ _ _), rfl⟩
    have e2 : Ext (upd ρ c ⟨w.heap.size, 0, 0⟩) (upd (upd ρ c ⟨w.heap.size, 0, 0⟩) (c + 1) ⟨(w.alloc (.deferred (some []))).heap.size, 0, 0⟩) fl (w.alloc (.deferred (some []))) (c + 1) (c + 1 + 1) := .upd hc1
    refine ⟨⟨w.heap.size + 1, 0, 0⟩, _, _, _, run_enterLoop_outer _ _ _ _ _, by rw [← hsz]; exact upd_same _ _ _, A2, e1.trans (by simp) e2, (Fr.alloc ρ fl w _).trans e1 (Fr.alloc _ fl _ _), ?_, by show w.heap.size ≤ w.heap.size + 1; omega⟩
    exact ⟨⟨w.heap.size, 0, 0⟩, a.defers, upd_le hc1 _ _ (upd_same _ _ _), rfl, (hs.dfs.mono e1.le).mono (upd_le hc1)⟩
  obtain ⟨q, mark, w1, ρ1, hrun, hql, hH1, he1, hf1, hd1, hqn⟩ := hent
  have hlow : ∀ x, x < c → ρ1 x = ρ x := fun x hx => by
    cases h : ρ x with
    | some t => exact he1.le x t h
    | none =>
      cases h1 : ρ1 x with
      | none => rfl
      | some t => have := he1.low x t h h1; omega
  have hnone : ∀ x, c + 2 ≤ x → ρ1 x = none := hH1.fresh
  have hget : ∀ x o, x < c → lookM m x = some o → (ofM ((c + 1, some (lpO n p c lC ags bd .ready none)) :: (c, some .dfr) :: m)).get x = some o := fun x o hx ho => by
    rw [ofM_get, lookM, lookM, Bool.cond_eq_ite, if_neg (by simp; omega), Bool.cond_eq_ite, if_neg (by simp; omega)]
    exact ho
  have hgetc : (ofM ((c + 1, some (lpO n p c lC ags bd .ready none)) :: (c, some .dfr) :: m)).get c = some .dfr := by
    rw [ofM_get, lookM, lookM, Bool.cond_eq_ite, if_neg (by simp), Bool.cond_eq_ite, if_pos (by simp)]
  have hgetl : (ofM ((c + 1, some (lpO n p c lC ags bd .ready none)) :: (c, some .dfr) :: m)).get (c + 1) = some (lpO n p c lC ags bd .ready none) := by
    rw [ofM_get, lookM, Bool.cond_eq_ite, if_pos (by simp)]
  -- what the iterator finds
  have kT : ∀ x t, ρ1 (keepN T c x) = some t → (x ∈ T ∨ x = c + 1) ∧ ρ1 x = some t := fun x t h => by
    unfold keepN at h
    split at h
    · exact ⟨by assumption, h⟩
    · rw [hnone _ (by omega)] at h; cases h
  have kC : ∀ x t, ρ1 (keepN NC c x) = some t → (x ∈ NC ∨ x = c + 1) ∧ ρ1 x = some t := fun x t h => by
    unfold keepN at h
    split at h
    · exact ⟨by assumption, h⟩
    · rw [hnone _ (by omega)] at h; cases h
  have hHT : Holds 0 (fun x => ρ1 (keepN T c x)) (ofM memT) (c + 2) w1 := by
    refine hH1.ren (keepN T c) (fun x o hx => ?_) (fun x y o o' hx hy hxy => ?_) (fun x hx => ?_) (fun g hg => by omega)
    · obtain ⟨h1, h2, h3⟩ := allM_look hT x o (by rw [← ofM_get]; exact hx)
      rw [h3, show keepN T c x = x from if_pos (.inl h1)]
      exact hget x o (hTo x h1).1 h2
    · have h1 := (allM_look hT x o (by rw [← ofM_get]; exact hx)).1
      have h2 := (allM_look hT y o' (by rw [← ofM_get]; exact hy)).1
      rw [show keepN T c x = x from if_pos (.inl h1), show keepN T c y = y from if_pos (.inl h2)]
      exact .inl hxy
    · unfold keepN
      split
      · exact hx
      · omega
  -- what the rounds find
  have hobjC : ∀ x o, (ofM ((c + 1, some (lpO n p c lC ags bd .ready none)) :: M s0)).get x = some o → (x ∈ NC ∨ x = c + 1) ∧ (ofM ((c + 1, some (lpO n p c lC ags bd .ready none)) :: (c, some .dfr) :: m)).get x = some o ∧ (x ≠ c + 1 → o.ren (keepN NC c) = o) := fun x o hx => by
    rw [ofM_get, lookM, Bool.cond_eq_ite] at hx
    split at hx
    · rename_i e
      have e' : x = c + 1 := by simpa using e
      subst e'
      cases hx
      exact ⟨.inr rfl, hgetl, fun h => absurd rfl h⟩
    · obtain ⟨h1, h2, h3⟩ := allM_look hM x o hx
      refine ⟨.inl h1, ?_, fun _ => h3⟩
      rcases h2 with ⟨rfl, rfl⟩ | ⟨h2, h4⟩
      · exact hgetc
      · exact hget x o h4 h2
  have hHC : Holds 0 (fun x => ρ1 (keepN NC c x)) (ofM ((c + 1, some (lpO n p c lC ags bd .ready none)) :: M s0)) cc w1 := by
    have kk : ∀ x, x ∈ NC ∨ x = c + 1 → keepN NC c x = x := fun x h => if_pos h
    refine ⟨fun x o hx => ?_, fun x y o o' t t' hxy hx hy ht ht' => ?_, fun x hx => ?_, fun x t ht => hH1.lt _ t ht, fun g hg => by omega⟩
    · obtain ⟨h1, h2, h3⟩ := hobjC x o hx
      obtain ⟨t, h4, h5⟩ := hH1.obj x o h2
      refine ⟨t, by show ρ1 (keepN NC c x) = _; rw [kk x h1]; exact h4, ?_⟩
      by_cases e : x = c + 1
      · subst e
        rw [hgetl] at h2
        cases h2
        obtain ⟨f0, t0, d0, g1, g2, ⟨q0, g3, g4⟩⟩ := h5
        refine ⟨f0, t0, d0, g1, ⟨g2.1, fun tt vv hv => ⟨(g2.2 tt vv hv).1, ?_⟩⟩, ⟨q0, by show ρ1 (keepN NC c c) = _; rw [kk c (.inl hNc)]; exact g3, g4⟩⟩
        have := (g2.2 tt vv hv).2
        rw [← (allL_look hl tt vv (by rw [← ofL_get]; exact hv)).2] at this
        exact (VR_ren ρ1 (keepN NC c) vv _).1 this
      · rw [← h3 e] at h5
        exact (ObjR_ren ρ1 (keepN NC c) w1 t o).1 h5
    · obtain ⟨h1, h2, _⟩ := hobjC x o hx
      obtain ⟨h3, h4, _⟩ := hobjC y o' hy
      exact hH1.sep x y o o' t t' hxy h2 h4 (kC x t ht).2 (kC y t' ht').2
    · show ρ1 (keepN NC c x) = none
      have hx' : cc ≤ x := hx
      unfold keepN
      split
      · exact hnone x (by omega)
      · exact hnone _ (by omega)
  have hcb2 : flC ≤ c + 2 := by omega
  have hNo : ∀ y, flC ≤ y → y ∈ NC ∨ y = c + 1 → y ∉ T ∧ ∃ o, (ofM ((c + 1, some (lpO n p c lC ags bd .ready none)) :: (c, some .dfr) :: m)).get y = some o ∧ o.share = none := fun y hfy hy => by
    rcases hy with hy | rfl
    · rcases hN y hy with rfl | ⟨h1, h2, h3, o, h4, h5⟩ | ⟨h1, _⟩
      · exact ⟨fun h => by have := (hTo _ h).1; omega, _, hgetc, rfl⟩
      · exact ⟨h3, o, hget y o h2 h4, h5⟩
      · omega
    · exact ⟨fun h => by have := (hTo _ h).1; omega, _, hgetl, rfl⟩
  have hbes : Beside (rndC 0 (fun x => ρ1 (keepN NC c x)) q.b flC (c + 2) cc (c + 1) c n p lC ags bd M ok stp room hroom hcb2) (fun x => ρ1 (keepN T c x)) (c + 1) flT (fun b => ∃ x t, flC ≤ x ∧ ρ1 (keepN NC c x) = some t ∧ t.b = b) (s0, none) w1 := by
    refine ⟨⟨⟨fun x => ρ1 (keepN NC c x), fun _ _ => rfl, hHC, fun x t hx ht => ⟨x, t, hx, ht, rfl⟩⟩, fun b hb => ?_⟩, fun x t hx ht hf => ?_, fun x t hx ht hf => ?_, ⟨q, by show ρ1 (keepN T c (c + 1)) = _; rw [show keepN T c (c + 1) = c + 1 from if_pos (.inr rfl)]; exact hql, rfl⟩⟩
    · rcases hb with ⟨x, t, _, ht, rfl⟩ | ⟨x, t, _, ht, rfl⟩
      · exact hH1.lt _ t ht
      · exact hH1.lt _ t ht
    · obtain ⟨y, t', hy, ht', hb'⟩ := hf
      obtain ⟨h1, h2⟩ := kT x t ht
      obtain ⟨h3, h4⟩ := kC y t' ht'
      have hxT : x ∈ T := h1.resolve_right hx
      obtain ⟨g2, oy, g3, g4⟩ := hNo y hy h3
      obtain ⟨hxc, ox, hox, _⟩ := hTo x hxT
      have hxy : x ≠ y := fun e => g2 (e ▸ hxT)
      have := (hH1.sep x y ox oy t t' hxy (hget x ox hxc hox) g3 h2 h4 hb'.symm).ro.2
      unfold AObj.isRo at this
      rw [g4] at this
      simp at this
    · obtain ⟨y, t', hy, ht', hb'⟩ := hf
      obtain ⟨h1, h2⟩ := kT x t ht
      obtain ⟨h3, h4⟩ := kC y t' ht'
      have hyN : y ∈ NC := h3.resolve_right (by omega)
      rcases hN y hyN with rfl | ⟨g1, _⟩ | ⟨g1, g2, oy, g3⟩
      · omega
      · omega
      · have hyo := hget y oy (by omega) g3
        have hxo : ∃ ox, (ofM ((c + 1, some (lpO n p c lC ags bd .ready none)) :: (c, some .dfr) :: m)).get x = some ox ∧ ox.share = none := by
          rcases h1 with h1 | rfl
          · obtain ⟨hxc, ox, hox, hs⟩ := hTo x h1
            exact ⟨ox, hget x ox hxc hox, hs hx⟩
          · exact ⟨_, hgetl, rfl⟩
        obtain ⟨ox, hox, hxs⟩ := hxo
        have := (hH1.sep x y ox oy t t' (by omega) hox hyo h2 h4 hb'.symm).ro.1
        unfold AObj.isRo at this
        rw [hxs] at this
        simp at this
  have hY := rnd_yld (cap := room) (hcap := hroom) (P := P) (G := 0) (ρ0 := fun x => ρ1 (keepN NC c x)) (lb := q.b) hcb2 (Nat.zero_le _) (by omega) (by omega) ⟨q, by show ρ1 (keepN NC c (c + 1)) = _; rw [show keepN NC c (c + 1) = c + 1 from if_pos (.inr rfl)]; exact hql, rfl⟩ hpn hrnd hcc
  have hok := hcall _ _ hcb2 hY
  have hres : (resolve a.eval (rangeCall g q.b) 0).run P w1 = .ok { target := .fn (.func gf) cs.toArray, args := fs.toArray ++ #[.func (.yield q.b) #[] #[]] } w1 := by
    have hm : Array.map a.eval #[Operand.const (Value.func (.yield q.b) #[] #[])] = #[Value.func (.yield q.b) #[] #[]] := by simp [Act.eval]
    simp only [resolve, hgv, Deferred.ofValue, hm]
    rfl
  have hargs : VRs ρ1 (first ++ [.yld (c + 1)] ++ cap) (fs ++ [.func (.yield q.b) #[] #[]] ++ cs) :=
    ((hfs.mono he1.le).append (.cons (by simp only [VR]; exact ⟨q, hql, rfl⟩) .nil)).append (hcs.mono he1.le)
  have hargsT := (VRs_ren ρ1 (keepN T c) (first ++ [.yld (c + 1)] ++ cap) _).1 (by rw [ha]; exact hargs)
  refine ⟨q.b, mark, w1, _, w1, gf, (fs ++ [Value.func (.yield q.b) #[] #[]] ++ cs).toArray, w1, hrun, hres, (fun f' _ => FR_fn none f'), ?_, (fun h => by rw [FR_depth] at h; cases h), ?_⟩
  · simp only [invoke]
    rw [show (fs ++ [Value.func (.yield q.b) #[] #[]] ++ cs).toArray = fs.toArray ++ #[.func (.yield q.b) #[] #[]] ++ cs.toArray by simp]
    exact hok.enter _ _
  · refine (hok.run _ w1 _ _ hHT hargsT hbes none (k - 1)).mono fun e2 w2 h2 => ?_
    obtain ⟨u, v, m', ⟨s', j⟩, F', rfl, hR, hvu, hH', hfr, hb', hFF⟩ := h2
    obtain ⟨⟨ρ', r1, r2, r3⟩, r4⟩ := hb'.j
    have hl4 : (ofM ((c + 1, some (lpO n p c lC ags bd (lpS j) j)) :: M s')).get (c + 1) = some (lpO n p c lC ags bd (lpS j) j) := by rw [ofM_get, lookM]; simp
    have hq' : ρ' (c + 1) = some q := by
      rw [r1 (c + 1) (by omega)]
      show ρ1 (keepN NC c (c + 1)) = _
      rw [show keepN NC c (c + 1) = c + 1 from if_pos (.inr rfl)]; exact hql
    obtain ⟨q3, hq3, fn3, tmps3, d3, hh3, henv3, hdn3⟩ := r2.obj (c + 1) _ hl4
    rw [hq'] at hq3
    cases hq3
    have hne : lpS j ≠ .busy := by cases j <;> simp [lpS]
    obtain ⟨g1, g2⟩ := put_write (fl := flC) (ob := .loop { state := .exhausted, pending := j, fn := fn3, tmps := tmps3, params := [p].toArray, assign := ags, body := bd, defers := d3 })
      (o' := lpO n p c lC ags bd .exhausted j) r2 hl4 rfl hq' (by omega) ⟨fn3, tmps3, d3, World.putObj_heap_same (obj_lt hh3), henv3, hdn3⟩
    refine ⟨j, _, run_endLoop hh3 hne, ?_⟩
    -- all names again
    have hT1 : ∀ x t, ρ1 (keepN T c x) = some t → x < c + 2 ∧ ρ1 x = some t := fun x t h => by
      obtain ⟨h1, h2⟩ := kT x t h
      refine ⟨?_, h2⟩
      rcases h1 with h1 | rfl
      · have := (hTo x h1).1; omega
      · omega
    have hC1 : ∀ x t, x < c + 2 → ρ' x = some t → ρ1 x = some t := fun x t hx h => by
      rw [r1 x hx] at h
      exact (kC x t h).2
    have hgen : ∀ x t, fl ≤ x → ρ1 x = some t → w.heap.size ≤ t.b ∨ ∃ y t', fl ≤ y ∧ ρ y = some t' ∧ t'.b = t.b := fun x t hx ht => by
      cases h : ρ x with
      | some t0 =>
        have := he1.le x t0 h
        rw [ht] at this
        cases this
        exact .inr ⟨x, t, hx, h, rfl⟩
      | none => exact he1.new x t h ht
    have hsz : ∀ (o : Obj), (w2.putObj q.b o).heap.size = w2.heap.size := fun o => by simp
    have hg : ∀ x o, x ≠ c + 1 → lookM (M s') x = some o → ((ofM ((c + 1, some (lpO n p c lC ags bd (lpS j) j)) :: M s')).set (c + 1) (lpO n p c lC ags bd .exhausted j)).get x = some o := fun x o hx ho => by
      rw [Go.Ev.T.get_set, if_neg hx, ofM_get, lookM, Bool.cond_eq_ite, if_neg (by simpa using hx)]
      exact ho
    have hnew : Holds 0 (fun x => if x < c + 2 then ρ1 x else ρ' x) (ofM (m' ++ upM flC (M s'))) cc (w2.putObj q.b (.loop { state := .exhausted, pending := j, fn := fn3, tmps := tmps3, params := [p].toArray, assign := ags, body := bd, defers := d3 })) := by
      have leT : RLe (fun x => ρ1 (keepN T c x)) (fun x => if x < c + 2 then ρ1 x else ρ' x) := fun x t h => by
        obtain ⟨h1, h2⟩ := hT1 x t h
        show (if x < c + 2 then ρ1 x else ρ' x) = _
        rw [if_pos h1]; exact h2
      have leC : RLe ρ' (fun x => if x < c + 2 then ρ1 x else ρ' x) := fun x t h => by
        show (if x < c + 2 then ρ1 x else ρ' x) = _
        split
        · exact hC1 x t (by assumption) h
        · exact h
      have hT2 : ∀ x o, lookM m' x = some o → ∃ t, ρ1 (keepN T c x) = some t ∧ ObjR (fun x => ρ1 (keepN T c x)) w2 t o ∧ x ≠ c + 1 ∧ ¬ F' t.b := fun x o ho => by
        obtain ⟨t, h1, h2⟩ := hH'.obj x o (by rw [ofM_get]; exact ho)
        have hx : x ≠ c + 1 := fun e => by rw [e, hRl v m' _ hR] at ho; cases ho
        exact ⟨t, h1, h2, hx, hb'.d x t hx h1⟩
      have hC2 : ∀ x o, lookM (upM flC (M s')) x = some o → ∃ t, ρ' x = some t ∧ ObjR ρ' (w2.putObj q.b (.loop { state := .exhausted, pending := j, fn := fn3, tmps := tmps3, params := [p].toArray, assign := ags, body := bd, defers := d3 })) t o ∧ x ≠ c + 1 ∧ F' t.b := fun x o ho => by
        obtain ⟨h3, ho⟩ := upM_look ho
        have h4 := hMg s' x o ho
        obtain ⟨t, h1, h2⟩ := g1.obj x o (hg x o h4 ho)
        exact ⟨t, h1, h2, h4, r3 x t h3 h1⟩
      refine ⟨fun x o hx => ?_, fun x y o o' t t' hxy hx hy ht ht' hb => ?_, fun x hx => ?_, fun x t ht => ?_, fun g hg => by omega⟩
      · rw [ofM_get] at hx
        rcases lookM_append hx with hx | hx
        · obtain ⟨t, h1, h2, h3, h4⟩ := hT2 x o hx
          have : t.b ≠ q.b := fun e => h4 (e ▸ r3 (c + 1) q (by omega) hq')
          exact ⟨t, leT x t h1, (h2.mono leT).world (World.putObj_heap_other this)⟩
        · obtain ⟨t, h1, h2, _⟩ := hC2 x o hx
          exact ⟨t, leC x t h1, h2.mono leC⟩
      · rw [ofM_get] at hx hy
        rcases lookM_append hx with hx | hx <;> rcases lookM_append hy with hy | hy
        · obtain ⟨t1, h1, _⟩ := hT2 x o hx
          obtain ⟨t2, h2, _⟩ := hT2 y o' hy
          obtain rfl : t = t1 := Option.some.inj (ht.symm.trans (leT x t1 h1))
          obtain rfl : t' = t2 := Option.some.inj (ht'.symm.trans (leT y t2 h2))
          exact hH'.sep x y o o' t t' hxy (by rw [ofM_get]; exact hx) (by rw [ofM_get]; exact hy) h1 h2 hb
        · obtain ⟨t1, h1, _, _, h3⟩ := hT2 x o hx
          obtain ⟨t2, h2, _, _, h4⟩ := hC2 y o' hy
          obtain rfl : t = t1 := Option.some.inj (ht.symm.trans (leT x t1 h1))
          obtain rfl : t' = t2 := Option.some.inj (ht'.symm.trans (leC y t2 h2))
          exact absurd (hb ▸ h4) h3
        · obtain ⟨t1, h1, _, _, h3⟩ := hC2 x o hx
          obtain ⟨t2, h2, _, _, h4⟩ := hT2 y o' hy
          obtain rfl : t = t1 := Option.some.inj (ht.symm.trans (leC x t1 h1))
          obtain rfl : t' = t2 := Option.some.inj (ht'.symm.trans (leT y t2 h2))
          exact absurd (hb ▸ h3) h4
        · obtain ⟨t1, h1, _, n1, _⟩ := hC2 x o hx
          obtain ⟨t2, h2, _, n2, _⟩ := hC2 y o' hy
          obtain rfl : t = t1 := Option.some.inj (ht.symm.trans (leC x t1 h1))
          obtain rfl : t' = t2 := Option.some.inj (ht'.symm.trans (leC y t2 h2))
          exact g1.sep x y o o' t t' hxy (hg x o n1 (upM_look hx).2) (hg y o' n2 (upM_look hy).2) h1 h2 hb
      · have hx' : cc ≤ x := hx
        show (if x < c + 2 then ρ1 x else ρ' x) = none
        rw [if_neg (by omega)]
        exact r2.fresh x hx
      · replace ht : (if x < c + 2 then ρ1 x else ρ' x) = some t := ht
        split at ht
        · exact Nat.lt_of_lt_of_le (hH1.lt x t ht) (by rw [hsz]; exact hfr.size)
        · exact g1.lt x t ht
    have hE : ExtB ρ (fun x => if x < c + 2 then ρ1 x else ρ' x) fl cb w := by
      have hc' : cb ≤ c := by omega
      refine ⟨fun x hx => ?_, fun x t hx ht => ?_⟩
      · show (if x < c + 2 then ρ1 x else ρ' x) = _
        rw [if_pos (by omega)]
        exact hlow x (by omega)
      · replace ht : (if x < c + 2 then ρ1 x else ρ' x) = some t := ht
        split at ht
        · exact hgen x t hx ht
        · rcases hFF t.b (r3 x t (by omega) ht) with ⟨y, t', hy, ht', hb⟩ | h
          · rw [← hb]; exact hgen y t' (by omega) (kC y t' ht').2
          · exact .inl (Nat.le_trans hf1.size h)
    have hF : Fr ρ fl w (w2.putObj q.b (.loop { state := .exhausted, pending := j, fn := fn3, tmps := tmps3, params := [p].toArray, assign := ags, body := bd, defers := d3 })) := by
      refine ⟨hfr.os.trans hf1.os, hfr.tape.trans hf1.tape, hfr.output.trans hf1.output, by rw [hsz]; exact Nat.le_trans hf1.size hfr.size, fun b hb hn => ?_⟩
      have hno : ∀ x t, fl ≤ x → ρ1 x = some t → t.b ≠ b := fun x t hx ht e => by
        rcases hgen x t hx ht with h | ⟨y, t', hy, ht', hbb⟩
        · omega
        · exact hn y t' hy ht' (hbb.trans e)
      rw [World.putObj_heap_other (show b ≠ q.b by omega), hfr.keep b (Nat.lt_of_lt_of_le hb hf1.size) (fun x t hx ht => hno x t (by omega) (kT x t ht).2) fun ⟨y, t', hy, ht', hbb⟩ => hno y t' (by omega) (kC y t' ht').2 hbb]
      exact hf1.keep b hb hn
    have le1 : RLe ρ1 (fun x => if x < c + 2 then ρ1 x else ρ' x) := fun x t h => by
      show (if x < c + 2 then ρ1 x else ρ' x) = _
      have : x < c + 2 := by
        rcases Nat.lt_or_ge x (c + 2) with h1 | h1
        · exact h1
        · rw [hnone x h1] at h; cases h
      rw [if_pos this]; exact h
    have hsr : SR 0 (fun x => if x < c + 2 then ρ1 x else ρ' x) (stL n [c] l (m' ++ upM flC (M s')) cc) { a with defers := mark ++ a.defers } (w2.putObj q.b (.loop { state := .exhausted, pending := j, fn := fn3, tmps := tmps3, params := [p].toArray, assign := ags, body := bd, defers := d3 })) :=
      ⟨(hs.env.mono he1.le).mono le1, hnew, hd1.mono le1⟩
    have hcc' : cb ≤ (stL n [c] l (m' ++ upM flC (M s')) cc).c := by show cb ≤ cc; omega
    have hq2 := hQ v m' s' j hR
    cases j with
    | none => exact ⟨.normal, _, _, rfl, hq2, hsr, hcc', hE, hF⟩
    | some jc => exact wpIn_mono (Tr.run hq2 _ _ _ none k hsr hcc' hr trivial) fun _ _ _ hp => hp.trans hE hF
end
end Go.Ev

/- Lists of numbers: append, cut to their length. -/
namespace Go.Ev
open Go

section
variable {P : Program} {fl c : Nat} {m : List (Nat × Option AObj)} {y y' z : Ty} {t t' : Nat} {x1 x2 : Operand}

theorem keptI [Tab P] {e : Nat} (h : ty P e = some z) (hk : z.kind = 0) : keptA P e = false := by
  have h1 := ty_kind h
  unfold kindOk at h1
  rw [hk] at h1
  unfold keptA
  split
  · rename_i h2
    replace h1 : okInt P e = true := h1
    unfold okInt at h1
    rw [h2] at h1
    simp at h1
  · rfl
theorem S.append_nilI [Tab P] {ats : Array Nat} {x : Nat} {news : List AV} (hat : ats.toList = [t, t']) (ht : ty P t = some y) (hk : y.kind = 5) (ht' : ty P t' = some y') (hk' : y'.kind = 5) (hz : ty P y.elem = some z) (hzk : z.kind = 0) (hzz : (Nat.beq z.zero.cells.length z.size && Nat.ble 1 z.size) = true)
    (hb : Nat.ble z.bytes 10000 = true) (ho : lookM m x = some (.cells news)) (hc : cut news 0 (1 * z.size) = some news) : OpE P fl (.call ⟨.builtin .append, #[x1, x2], ats⟩) [.nils, .sl x 0 1 1] m c (.gs c 1) ((c, some (.grown news z.size)) :: m) (c + 1) := by
  obtain ⟨i, h1, h2, h3⟩ := info_sz hz
  have hb' : z.bytes ≤ 10000 := Nat.le_of_ble_eq_true hb
  have hbb : (Nat.ble ((2 * (0 + 1) + 1000) * i.bytes) (2 ^ 48) && Nat.ble (0 + 1) (2 ^ 62)) = true := by
    rw [h2]
    simp only [Bool.and_eq_true, Nat.ble_eq]
    omega
  refine ⟨rfl, Nat.le_succ _, ?_⟩
  show opA P (ofM m) c fl _ _ = _
  simp only [opA, oCall, builtinA, hat, appendA, ty_slice ht hk, ty_slice ht' hk', h1, rowT hz hzz, sliceCells, getCells, ofM_get, ho, cellsOf, Option.bind_some, h3, hc, Option.map_some, show Nat.beq 1 0 = false from rfl, cond_false, hbb, cond_true, keptI hz hzk, growA]
  rfl
theorem S.append_gsI [Tab P] {ats : Array Nat} {x a n : Nat} {olds news : List AV} (hat : ats.toList = [t, t']) (ht : ty P t = some y) (hk : y.kind = 5) (ht' : ty P t' = some y') (hk' : y'.kind = 5) (hz : ty P y.elem = some z) (hzk : z.kind = 0) (hzz : (Nat.beq z.zero.cells.length z.size && Nat.ble 1 z.size) = true)
    (hb : Nat.ble z.bytes 10000 = true) (ho : lookM m x = some (.cells news)) (hc : cut news 0 (1 * z.size) = some news) (ha : lookM m a = some (.grown olds z.size)) (hf : Nat.ble fl a = true) (hca : cut olds 0 (n * z.size) = some olds) (hn : n ≤ 1000000) (hone : news.all AV.one = true) :
    OpE P fl (.call ⟨.builtin .append, #[x1, x2], ats⟩) [.gs a n, .sl x 0 1 1] m c (.gs c (n + 1)) ((c, some (.grown (olds ++ news) z.size)) :: (a, none) :: m) (c + 1) := by
  obtain ⟨i, h1, h2, h3⟩ := info_sz hz
  have hb' : z.bytes ≤ 10000 := Nat.le_of_ble_eq_true hb
  have hbb : (Nat.ble ((2 * (n + 1) + 1000) * i.bytes) (2 ^ 48) && Nat.ble (n + 1) (2 ^ 62)) = true := by
    rw [h2]
    simp only [Bool.and_eq_true, Nat.ble_eq]
    refine ⟨?_, by omega⟩
    calc (2 * (n + 1) + 1000) * z.bytes ≤ 3000000 * 10000 := Nat.mul_le_mul (by omega) hb'
      _ ≤ 2 ^ 48 := by decide
  refine ⟨rfl, Nat.le_succ _, ?_⟩
  show opA P (ofM m) c fl _ _ = _
  simp only [opA, oCall, builtinA, hat, appendA, ty_slice ht hk, ty_slice ht' hk', h1, rowT hz hzz, sliceCells, getCells, ofM_get, ho, ha, cellsOf, Option.bind_some, h3, hc, hca, Option.map_some, show Nat.beq 1 0 = false from rfl, cond_false, hbb, cond_true, hf, hone, Nat.beq_refl, Bool.and_self]
  rfl
theorem S.cut_gs [Tab P] {x n : Nat} {x3 x4 : Operand} (hy : ty P t = some y) (hk : y.kind = 5) (hz : ty P y.elem = some z) : OpE P fl (.slice t x1 none (some x3) (some x4)) [.gs x n, .int .i64 (n : Int), .int .i64 (n : Int)] m c (.sl x 0 n n) m c := by
  refine ⟨rfl, Nat.le_refl _, ?_⟩
  have hb : boundsA n none none (some (.int .i64 (n : Int))) (some (.int .i64 (n : Int))) = some (0, n, some n) := by
    have h : Nat.ble n n = true := by simp
    unfold boundsA
    simp [natOf_nat, h]
  simp only [opA, oSlice, takeOpt, sliceA, ty_slice hy hk, ty_size hz, hb, opt1, Nat.sub_zero, Option.map_some, Nat.zero_mul, Bool.cond_self]
theorem S.cut_nils [Tab P] {x3 x4 : Operand} (hy : ty P t = some y) (hk : y.kind = 5) (hz : ty P y.elem = some z) : OpE P fl (.slice t x1 none (some x3) (some x4)) [.nils, .int .i64 0, .int .i64 0] m c .nils m c := by
  refine ⟨rfl, Nat.le_refl _, ?_⟩
  have hb : boundsA 0 (some 0) none (some (.int .i64 0)) (some (.int .i64 0)) = some (0, 0, some 0) := rfl
  simp only [opA, oSlice, takeOpt, sliceA, ty_slice hy hk, ty_size hz, hb, opt1]
  rfl
end
end Go.Ev

/- Lists of numbers: how they grow, how they are compared. -/
namespace Go.Proofs.Ytpneoeoimdfjaaa
open Go Go.Ev

/-- The numbers of a set, below a number. -/
noncomputable def numsL (s : Int) : Nat → List Nat
  | 0 => []
  | k + 1 => bif dB (hasP s k) then numsL s k ++ [k] else numsL s k
theorem numsL_len (s : Int) : ∀ k, (numsL s k).length ≤ k
  | 0 => Nat.le_refl _
  | k + 1 => by
    have := numsL_len s k
    rw [numsL]
    cases dB (hasP s k)
    · exact Nat.le_succ_of_le this
    · rw [cond_true, List.length_append]; exact Nat.succ_le_succ this
def natV (l : List Nat) : List AV := (l.map fun k : Nat => (k : Int)).map (AV.int .i64)
theorem natV_len (l : List Nat) : (natV l).length = l.length := by simp [natV]
theorem natV_ren (σ : Nat → Nat) (l : List Nat) (n : Nat) : (AObj.grown (natV l) n).ren σ = .grown (natV l) n := by
  show AObj.grown (AV.rens σ (natV l)) n = _
  unfold natV
  rw [rens_ints]
/-- A list of numbers that grows under a name. -/
def grV (x : Nat) (l : List Nat) : AV := match l with | [] => .nils | _ :: _ => .gs x l.length
def grM (x : Nat) (l : List Nat) : List (Nat × Option AObj) := match l with | [] => [] | _ :: _ => [(x, some (.grown (natV l) 1))]
/-- A list of numbers that is full. -/
def fuV (x : Nat) (l : List Nat) : AV := match l with | [] => .nils | _ :: _ => .sl x 0 l.length l.length

def cmpI (a b : Int) : Int := if a < b then -1 else if b < a then 1 else 0
set_option maxRecDepth 100000 in
theorem isNaN_can (a : Int) : CanS 0 Try.prog 95 0 [.int .i64 a] [] 0 fun v _ _ => v = .bool false := by
  refine CanS.mk Try.func95 rfl rfl rfl ?_
  repeat' (first | refine RT.nil ?_ | refine sq_n ?_ | refine Tr.seq ?_ | refine Tr.region ?_ | refine Tr.ret ?_ | (refine RT.goK rfl rfl rfl rfl ?_; refine Nx.of (S.neq_f rfl) ?_) | (refine RT.goK rfl rfl rfl rfl ?_; apply Nx.of; (first | exact S.move | exact S.assign)))
  (first | refine rt_go rfl ?_)
  rfl
theorem isNaN_at (a : Int) (H : T AObj) (c fl : Nat) : OkAt 0 Try.prog fl 95 [.int .i64 a] H c (.bool false) H c := (isNaN_can a).pure (.bool _) (.plain fun _ => rfl) fl
set_option maxRecDepth 100000 in
theorem Compare_can (a b : Int) : CanS 0 Try.prog 88 0 [.int .i64 a, .int .i64 b] [] 0 fun v _ _ => v = .int .i64 (cmpI a b) := by
  refine CanS.mk Try.func88 rfl rfl rfl ?_
  repeat' (first | refine RT.nil ?_ | refine sq_n ?_ | refine Tr.seq ?_ | refine Tr.region ?_ | refine Tr.cond_f rfl ?_ | refine Tr.cond_d rfl (fun _ => ?_) (fun _ => ?_) | refine Tr.skip ?_ | refine Tr.ret ?_ | refine sq_r ?_ | (refine RT.call rfl rfl rfl (isNaN_at _ _ _ _) rfl rfl (Nat.le_refl _) ?_) | (refine RT.goK rfl rfl rfl rfl ?_; apply Nx.of; (first | exact S.move | exact S.assign | exact S.lss | exact S.gtr)))
  all_goals (first | refine rt_go rfl ?_)
  all_goals
    refine congrArg (AV.int .i64) ?_
    unfold cmpI
    first | (rw [if_pos (by assumption)]) | (rw [if_neg (by assumption), if_pos (by assumption)]) | (rw [if_neg (by assumption), if_neg (by assumption)])
theorem Compare_at (a b : Int) (H : T AObj) (c fl : Nat) : OkAt 0 Try.prog fl 88 [.int .i64 a, .int .i64 b] H c (.int .i64 (cmpI a b)) H c := (Compare_can a b).pure (.int _ _) (.plain fun _ => rfl) fl

set_option maxRecDepth 100000 in
theorem Or_can (a b : Int) : CanS 0 Try.prog 87 1 [.gs 0 2] [(0, some (.ro [.int .i64 a, .int .i64 b]))] 1 fun v _ _ => v = .int .i64 (if a = 0 then b else a) := by
  refine CanS.mk Try.func87 rfl rfl rfl ?_
  repeat' (first | refine RT.nil ?_ | refine sq_n ?_ | refine Tr.seq ?_ | refine Tr.region ?_ | refine Tr.block ?_ | (refine RT.goK rfl rfl rfl rfl ?_; apply Nx.of; (first | exact S.len_sl rfl rfl rfl (IsSl.gs 0 2))) | (refine RT.goK rfl rfl rfl rfl ?_; apply Nx.of; (first | exact S.move | exact S.assign)))
  refine Tr.unroll 3 ?_
  repeat' (first | refine RT.nil ?_ | refine sq_n ?_ | refine Tr.seq ?_ | refine Tr.region ?_ | refine Tr.cond_t rfl ?_ | refine Tr.cond_f rfl ?_ | refine Tr.cond_d rfl (fun _ => ?_) (fun _ => ?_) | refine Tr.skip ?_ | refine Tr.ret ?_ | refine sq_r ?_ | refine Tr.exit ?_ | refine sq_x ?_ | refine Tr.block ?_ | refine blk_n ?_ | refine blk_r ?_ | refine blk_hit rfl ?_ | refine un_n ?_ | refine un_r ?_ | refine un_x ?_ | (refine RT.goK rfl rfl rfl rfl ?_; apply Nx.of; (first | exact S.idx_slI rfl rfl rfl (IsSl.gs 0 2) (by decide) (by decide) | exact S.load1r rfl rfl rfl rfl)) | (refine RT.goK rfl rfl rfl rfl ?_; apply Nx.of; (first | exact S.lss_t (by decide) | exact S.lss_f (by decide))) | (refine RT.goK rfl rfl rfl rfl ?_; apply Nx.of; (first | exact S.move | exact S.assign | exact S.neq | exact S.add (by unfold In64; omega))))
  all_goals (first | refine rt_go rfl ?_)
  all_goals
    refine congrArg (AV.int .i64) ?_
    split <;> simp_all
theorem Or_at {H : T AObj} {x : Nat} {a b : Int} (hx : H.get x = some (.cells [.int .i64 a, .int .i64 b])) (c fl : Nat) : OkAt 0 Try.prog fl 87 [.sl x 0 2 2] H c (.int .i64 (if a = 0 then b else a)) H c :=
  (Or_can a b).pure (.int _ _) (Entry.win (W := [(x, 0, some 2)]) (CS := [[.int .i64 a, .int .i64 b]]) rfl ⟨⟨_, hx, .inr ⟨_, rfl, rfl⟩⟩, fun _ => rfl, trivial⟩ (show ArgsW [(x, 0, some 2)] [.sl x 0 2 2] [.gs 0 2] from ⟨ArgW.sl rfl (Nat.le_refl _), trivial⟩)) fl

def lexC : List Nat → List Nat → Int
  | [], [] => 0
  | [], _ :: _ => -1
  | _ :: _, [] => 1
  | a :: r, b :: q => if cmpI a b = 0 then lexC r q else cmpI a b
theorem roN_ren (σ : Nat → Nat) (l : List Nat) : (AObj.ro (natV l)).ren σ = .ro (natV l) := by
  show AObj.ro (AV.rens σ (natV l)) = _
  unfold natV
  rw [rens_ints]
theorem natV_at {l : List Nat} {k : Nat} (h : k < l.length) : (natV l)[k * 1]? = some (.int .i64 ((l[k] : Nat) : Int)) := by
  rw [Nat.mul_one]
  simp [natV, List.getElem?_eq_getElem h]
set_option maxRecDepth 100000 in
set_option maxHeartbeats 4000000 in
theorem slCmp_can (l q : List Nat) (hl : l.length ≤ 1000) (a1 a2 : AV) (h1 : IsSl a1 l.length 0) (h2 : IsSl a2 q.length 1) : CanS 0 Try.prog 89 2 [a1, a2] [(0, some (.ro (natV l))), (1, some (.ro (natV q)))] 2 fun v _ _ => v = .int .i64 (lexC l q) := by
  refine CanS.mk Try.func89 rfl rfl rfl ?_
  repeat' (first | refine RT.nil ?_ | refine sq_n ?_ | refine Tr.seq ?_ | refine Tr.region ?_ | refine Tr.block ?_ | (refine RT.goK rfl rfl rfl rfl ?_; apply Nx.of; (first | exact S.move | exact S.assign)) | (refine RT.goK rfl rfl rfl rfl ?_; apply Nx.of; (first | exact S.len_sl rfl rfl rfl (by assumption))))
  refine Tr.loop (fun k : Nat => stL Try.f89.ntmps [] [(0, a1), (1, a2), (9, a1), (10, .int .i64 l.length), (11, .int .i64 k)] [(0, some (.ro (natV l))), (1, some (.ro (natV q)))] 2) (fun k => k ≤ l.length ∧ k ≤ q.length ∧ lexC l q = lexC (l.drop k) (q.drop k)) (fun k => l.length - k) 0 ⟨Nat.zero_le _, Nat.zero_le _, rfl⟩ (by (refine Wk.same (by decide) (by decide) (by decide) (by decide) ?_ ?_ rfl; all_goals ((try simp only [allL, allM]); (repeat' (first | exact trivial | refine And.intro ?_ ?_)); all_goals (first | rfl | exact IsSl.ren (by assumption) (nm_lt (by decide)) | exact roN_ren _ _ | decide)))) (fun k ⟨hk, hkq, he⟩ => ?_)
  by_cases hlt : k < l.length
  · have hlt' : (k : Int) < l.length := by omega
    have e1 : l.drop k = l[k] :: l.drop (k + 1) := List.drop_eq_getElem_cons hlt
    have x1 := natV_at hlt
    by_cases hq : k < q.length
    · have hq' : ¬ (k : Int) ≥ q.length := by omega
      have e2 : q.drop k = q[k] :: q.drop (k + 1) := List.drop_eq_getElem_cons hq
      have x2 := natV_at hq
      rw [e1, e2, lexC] at he
      repeat' (first | refine RT.nil ?_ | refine sq_n ?_ | refine Tr.seq ?_ | refine Tr.region ?_ | refine Tr.cond_t rfl ?_ | refine Tr.cond_d rfl (fun _ => ?_) (fun _ => ?_) | refine Tr.skip ?_ | refine Tr.ret ?_ | refine sq_r ?_ | refine Tr.block ?_ | refine blk_n ?_ | refine blk_r ?_ | refine lp_r ?_ | (refine RT.goK rfl rfl rfl rfl ?_; first | refine Nx.of (S.lss_t hlt') ?_ | refine Nx.of (S.load1r rfl rfl rfl x1) ?_ | refine Nx.of (S.load1r rfl rfl rfl x2) ?_) | (refine RT.call rfl rfl rfl (Compare_at _ _ _ _ _) rfl rfl (Nat.le_refl _) ?_) | (refine RT.goK rfl rfl rfl rfl ?_; apply Nx.of; (first | exact S.move | exact S.assign | exact S.neq | exact S.geq | exact S.add_one (by omega))) | (refine RT.goK rfl rfl rfl rfl ?_; apply Nx.of; (first | exact S.idx_sl rfl rfl rfl (by assumption) (by omega) | exact S.len_sl rfl rfl rfl (by assumption))))
      · exfalso; omega
      · (first | refine rt_go rfl ?_)
        rw [he, if_neg (by assumption)]
        rfl
      · rw [if_pos (Classical.not_not.1 (by assumption))] at he
        refine lp_n (k + 1) ⟨by omega, by omega, he⟩ (by omega) (by (refine Wk.same (by decide) (by decide) (by decide) (by decide) ?_ ?_ rfl; all_goals ((try simp only [allL, allM]); (repeat' (first | exact trivial | refine And.intro ?_ ?_)); all_goals (first | rfl | exact IsSl.ren (by assumption) (nm_lt (by decide)) | exact roN_ren _ _ | decide))))
    · have e2 : q.drop k = [] := List.drop_eq_nil_of_le (by omega)
      rw [e1, e2, lexC] at he
      repeat' (first | refine RT.nil ?_ | refine sq_n ?_ | refine Tr.seq ?_ | refine Tr.region ?_ | refine Tr.cond_t rfl ?_ | refine Tr.cond_d rfl (fun _ => ?_) (fun _ => ?_) | refine Tr.skip ?_ | refine Tr.ret ?_ | refine sq_r ?_ | refine Tr.block ?_ | refine blk_r ?_ | refine lp_r ?_ | (refine RT.goK rfl rfl rfl rfl ?_; first | refine Nx.of (S.lss_t hlt') ?_ | refine Nx.of (S.load1r rfl rfl rfl x1) ?_) | (refine RT.goK rfl rfl rfl rfl ?_; apply Nx.of; (first | exact S.move | exact S.assign | exact S.geq)) | (refine RT.goK rfl rfl rfl rfl ?_; apply Nx.of; (first | exact S.idx_sl rfl rfl rfl (by assumption) (by omega) | exact S.len_sl rfl rfl rfl (by assumption))))
      · (first | refine rt_go rfl ?_)
        rw [he]
        rfl
      all_goals (exfalso; omega)
  · have hlt' : ¬ (k : Int) < l.length := by omega
    have e1 : l.drop k = [] := List.drop_eq_nil_of_le (by omega)
    rw [e1] at he
    have hkl : k = l.length := by omega
    by_cases hq : k < q.length
    · have e2 : q.drop k = q[k] :: q.drop (k + 1) := List.drop_eq_getElem_cons hq
      rw [e2, lexC] at he
      repeat' (first | refine RT.nil ?_ | refine sq_n ?_ | refine Tr.seq ?_ | refine Tr.region ?_ | refine Tr.cond_f rfl ?_ | refine Tr.cond_d rfl (fun _ => ?_) (fun _ => ?_) | refine Tr.skip ?_ | refine Tr.ret ?_ | refine sq_r ?_ | refine Tr.exit ?_ | refine sq_x ?_ | refine blk_hit rfl ?_ | refine lp_x ?_ | (refine RT.goK rfl rfl rfl rfl ?_; refine Nx.of (S.lss_f hlt') ?_) | (refine RT.goK rfl rfl rfl rfl ?_; apply Nx.of; (first | exact S.move | exact S.assign | exact S.lss)) | (refine RT.goK rfl rfl rfl rfl ?_; apply Nx.of; (first | exact S.len_sl rfl rfl rfl (by assumption))))
      · (first | refine rt_go rfl ?_)
        rw [he]
        rfl
      · exfalso; omega
    · have e2 : q.drop k = [] := List.drop_eq_nil_of_le (by omega)
      rw [e2, lexC] at he
      repeat' (first | refine RT.nil ?_ | refine sq_n ?_ | refine Tr.seq ?_ | refine Tr.region ?_ | refine Tr.cond_f rfl ?_ | refine Tr.cond_d rfl (fun _ => ?_) (fun _ => ?_) | refine Tr.skip ?_ | refine Tr.ret ?_ | refine sq_r ?_ | refine Tr.exit ?_ | refine sq_x ?_ | refine blk_hit rfl ?_ | refine lp_x ?_ | (refine RT.goK rfl rfl rfl rfl ?_; refine Nx.of (S.lss_f hlt') ?_) | (refine RT.goK rfl rfl rfl rfl ?_; apply Nx.of; (first | exact S.move | exact S.assign | exact S.lss)) | (refine RT.goK rfl rfl rfl rfl ?_; apply Nx.of; (first | exact S.len_sl rfl rfl rfl (by assumption))))
      · exfalso; omega
      · (first | refine rt_go rfl ?_)
        rw [he]
        rfl
/-- How two lists stand to one another: by length, then in order. -/
def cmpL (l q : List Nat) : Int := if cmpI l.length q.length = 0 then lexC l q else cmpI l.length q.length
/-- A full list, where it lies. -/
def LiesF (m : List (Nat × Option AObj)) (x : Nat) (l : List Nat) : Prop := l = [] ∨ lookM m x = some (.grown (natV l) 1)
def winF (x z : Nat) (l : List Nat) : Wnd := match l with | [] => (z, 0, none) | _ :: _ => (x, 0, some l.length)
def argF (i : Nat) (l : List Nat) : AV := match l with | [] => .nils | _ :: _ => .gs i l.length
theorem argF_is (i : Nat) (l : List Nat) : IsSl (argF i l) l.length i := by
  cases l with
  | nil => exact IsSl.nils i
  | cons a r => exact IsSl.gs i _
theorem argF_w {W : List Wnd} {x z i : Nat} {l : List Nat} (h : W[i]? = some (winF x z l)) : ArgW W (fuV x l) (argF i l) := by
  cases l with
  | nil => exact .pl Pl.nils
  | cons a r => exact ArgW.sl h (Nat.le_refl _)
theorem winF_ok {m : List (Nat × Option AObj)} {x z : Nat} {l : List Nat} (hx : LiesF m x l) (hz : ∃ o, lookM m z = some o) : ∃ o, (ofM m).get (winF x z l).1 = some o ∧ (natV l = [] ∨ ∃ ca, cellsOf o = some ca ∧ cut ca (winF x z l).2.1 (natV l).length = some (natV l)) := by
  obtain ⟨o, ho⟩ := hz
  cases l with
  | nil => exact ⟨o, getM ho, .inl rfl⟩
  | cons a r =>
    rcases hx with h | h
    · cases h
    · exact ⟨_, getM h, .inr ⟨_, rfl, cut_all rfl⟩⟩
theorem pls_nat (l : List Nat) : Pls (natV l) := fun σ => by unfold natV; rw [rens_ints]
set_option maxRecDepth 100000 in
set_option maxHeartbeats 4000000 in
theorem cmpLists_can (l q : List Nat) (hl : l.length ≤ 1000) (a1 a2 : AV) (h1 : IsSl a1 l.length 0) (h2 : IsSl a2 q.length 1) : CanS 0 Try.prog 76 2 [a1, a2] [(0, some (.ro (natV l))), (1, some (.ro (natV q)))] 2 fun v _ _ => v = .int .i64 (cmpL l q) := by
  refine CanS.mk Try.func76 rfl rfl rfl ?_
  repeat' (first | refine RT.nil ?_ | refine sq_n ?_ | refine Tr.seq ?_ | refine Tr.region ?_ | refine Tr.ret ?_ | (refine RT.goK rfl rfl rfl rfl ?_; first | refine Nx.of (S.len_sl rfl rfl rfl h1) ?_ | refine Nx.of (S.len_sl rfl rfl rfl h2) ?_) | (refine RT.call rfl rfl rfl (Compare_at _ _ _ _ _) rfl rfl (Nat.le_refl _) ?_) | (refine RT.call rfl rfl rfl (CanS.here (slCmp_can l q hl _ _ h1 h2) (.int _ _) _) rfl rfl (Nat.le_refl _) ?_) | (refine RT.call rfl rfl rfl (Or_at (getM rfl) _ _) rfl rfl (Nat.le_refl _) ?_) | (refine RT.goK rfl rfl rfl rfl ?_; apply Nx.of; (first | exact S.move | exact S.assign | exact S.buildSlice rfl rfl rfl rfl rfl rfl rfl)))
  (first | refine rt_go rfl ?_)
  rfl
theorem cmpLists_at {m : List (Nat × Option AObj)} {x y z : Nat} {l q : List Nat} (hl : l.length ≤ 1000) (hx : LiesF m x l) (hy : LiesF m y q) (hz : ∃ o, lookM m z = some o) (c fl : Nat) : OkAt 0 Try.prog fl 76 [fuV x l, fuV y q] (ofM m) c (.int .i64 (cmpL l q)) (ofM m) c :=
  (cmpLists_can l q hl (argF 0 l) (argF 1 q) (argF_is 0 l) (argF_is 1 q)).pure (.int _ _) (Entry.win (W := [winF x z l, winF y z q]) (CS := [natV l, natV q]) rfl ⟨winF_ok hx hz, pls_nat l, winF_ok hy hz, pls_nat q, trivial⟩
    (show ArgsW [winF x z l, winF y z q] [fuV x l, fuV y q] [argF 0 l, argF 1 q] from ⟨argF_w rfl, argF_w rfl, trivial⟩)) fl
end Go.Proofs.Ytpneoeoimdfjaaa

/- Package roll: the looks that are so. -/
namespace Go.Proofs.Ytpneoeoimdfjaaa
open Go Go.Ev

/-- The first numbers that are so. -/
noncomputable def lkL (p : Nat → Prop) (k : Nat) : List Nat := (List.range k).filter fun i => dB (p i)
theorem lkL_t {p : Nat → Prop} {k : Nat} (h : p k) : lkL p (k + 1) = lkL p k ++ [k] := by
  unfold lkL
  rw [List.range_succ, List.filter_append, List.filter_cons_of_pos (by rw [dB_tt h]), List.filter_nil]
theorem lkL_f {p : Nat → Prop} {k : Nat} (h : ¬ p k) : lkL p (k + 1) = lkL p k := by
  unfold lkL
  rw [List.range_succ, List.filter_append, List.filter_cons_of_neg (by rw [dB_ff h]; simp), List.filter_nil, List.append_nil]
theorem lkL_len (p : Nat → Prop) (k : Nat) : (lkL p k).length ≤ k := by
  have := List.length_filter_le (fun i => dB (p i)) (List.range k)
  rwa [List.length_range] at this
/-- A look that is wrong in a truth. -/
def wrP (B : RBook) (t : Tru) (i : Nat) : Prop := ¬ t.eb (B.ld i).toNat = B.lb i
set_option maxRecDepth 100000 in
theorem few1_can (d b : Int) : CanS 0 Try.prog 74 0 [.agg [.int .i64 d, .int .i64 b]] [] 0 fun v _ _ => v = .bool true := by
  refine CanS.mk Try.func74 rfl rfl rfl ?_
  repeat' (first | refine RT.nil ?_ | refine sq_n ?_ | refine Tr.seq ?_ | refine Tr.region ?_ | refine Tr.ret ?_ | (refine RT.goK rfl rfl rfl rfl ?_; apply Nx.of; (first | exact S.assign | exact S.box)))
  (first | refine rt_go rfl ?_)
  rfl
theorem few1_at (d b : Int) (H : T AObj) (c fl : Nat) : OkAt 0 Try.prog fl 74 [.agg [.int .i64 d, .int .i64 b]] H c (.bool (dB True)) H c := by
  rw [dB_tt trivial]
  exact (few1_can d b).pure (.bool _) (.plain fun _ => rfl) fl
set_option maxRecDepth 100000 in
theorem few2_can (t : Tru) (d : Nat) (hd : d < 5) (b : Int) : CanS 0 Try.prog 75 1 [.agg [.int .i64 (d : Int), .int .i64 b], .ptr 0 0] [(0, some (.cells (truC t)))] 1 fun v _ _ => v = .bool (dB (¬ t.eb d = b)) := by
  by_cases h : t.eb d = b
  · have hv : AV.bool (dB (t.eb d = b)) = .bool true := by rw [dB_tt h]
    refine CanS.mk Try.func75 rfl rfl rfl ?_
    repeat' (first | refine RT.nil ?_ | refine sq_n ?_ | refine Tr.seq ?_ | refine Tr.region ?_ | refine Tr.ret ?_ | (refine RT.call rfl rfl rfl (val_is hv (isRight_at _ t d hd b _ _)) rfl rfl (Nat.le_refl _) ?_) | (refine RT.goK rfl rfl rfl rfl ?_; apply Nx.of; (first | exact S.assign | exact S.loadNc rfl rfl rfl rfl | exact S.not_t | exact S.box)))
    (first | refine rt_go rfl ?_)
    rw [dB_ff fun q => q h]
    rfl
  · have hv : AV.bool (dB (t.eb d = b)) = .bool false := by rw [dB_ff h]
    refine CanS.mk Try.func75 rfl rfl rfl ?_
    repeat' (first | refine RT.nil ?_ | refine sq_n ?_ | refine Tr.seq ?_ | refine Tr.region ?_ | refine Tr.ret ?_ | (refine RT.call rfl rfl rfl (val_is hv (isRight_at _ t d hd b _ _)) rfl rfl (Nat.le_refl _) ?_) | (refine RT.goK rfl rfl rfl rfl ?_; apply Nx.of; (first | exact S.assign | exact S.loadNc rfl rfl rfl rfl | exact S.not_f | exact S.box)))
    (first | refine rt_go rfl ?_)
    rw [dB_tt h]
    rfl
theorem few2_at {B : RBook} {t : Tru} {i x : Nat} {m : List (Nat × Option AObj)} {c : Nat} (hi : 0 ≤ B.ld i ∧ B.ld i < 5) (hx : lookM m x = some (.cells (truC t))) (fl : Nat) : OkAt 0 Try.prog fl 75 [.agg [.int .i64 (B.ld i), .int .i64 (B.lb i)], .ptr x 0] (ofM m) c (.bool (dB (wrP B t i))) (ofM m) c := by
  obtain ⟨d, hd⟩ := Int.eq_ofNat_of_zero_le hi.1
  unfold wrP
  rw [hd, Int.toNat_natCast]
  have e0 : tau [x] c 0 = x := rfl
  have ha : AV.rens (tau [x] c) [.agg [.int .i64 (d : Int), .int .i64 (B.lb i)], .ptr 0 0] = [.agg [.int .i64 (d : Int), .int .i64 (B.lb i)], .ptr x 0] := rfl
  rw [← ha]
  refine (few2_can t d (by omega) (B.lb i)).pure (.bool _) (Entry.ren _ (fun g hg => by omega) (fun y hy => by rw [tau_ge hy]; omega) ⟨?_, trivial⟩ (fun y z o o' hy hz hyz => ?_)) fl
  · show (ofM m).get (tau [x] c 0) = some _
    rw [e0]; exact getM hx
  · have q1 := lookM_mem hy
    have q2 := lookM_mem hz
    simp at q1 q2
    exact absurd (q1.trans q2.symm) hyz
theorem lkA_wk {B : RBook} {a1 a2 a3 : AV} (h1 : IsSl a1 B.nl 0) (h2 : IsSl a2 B.nd 1) (h3 : IsSl a3 B.nk 2) {n c : Nat} {l : List (Nat × AV)} {m : List (Nat × Option AObj)} {k x : Nat} {L : List Nat} (hc : 4 ≤ c) (hx : x = 4 ∨ 5 ≤ x)
    (t1 : Go.Ev.look l 1 = some (.fn 74 [] [])) (t5 : Go.Ev.look l 5 = some (grV x L)) (t12 : Go.Ev.look l 12 = some a3) (t13 : Go.Ev.look l 13 = some (AV.int .i64 B.nk)) (t14 : Go.Ev.look l 14 = some (AV.int .i64 k))
    (g : L ≠ [] → lookM m x = some (.grown (natV L) 1)) (m0 : lookM m 0 = lookM [(0, some (oLa B)), (1, some (oDa B)), (2, some (oLo B)), (3, some (.cells (pbC B a1 a2 a3)))] 0) (m1 : lookM m 1 = lookM [(0, some (oLa B)), (1, some (oDa B)), (2, some (oLo B)), (3, some (.cells (pbC B a1 a2 a3)))] 1) (m2 : lookM m 2 = lookM [(0, some (oLa B)), (1, some (oDa B)), (2, some (oLo B)), (3, some (.cells (pbC B a1 a2 a3)))] 2) (m3 : lookM m 3 = lookM [(0, some (oLa B)), (1, some (oDa B)), (2, some (oLo B)), (3, some (.cells (pbC B a1 a2 a3)))] 3) :
    Wk 0 4 4 (stL n [] l m c) (stL n [] [(1, .fn 74 [] []), (5, grV 4 L), (12, a3), (13, .int .i64 B.nk), (14, .int .i64 k)] (grM 4 L ++ [(0, some (oLa B)), (1, some (oDa B)), (2, some (oLo B)), (3, some (.cells (pbC B a1 a2 a3)))]) 5) := by
  let σ : Nat → Nat := fun y => if y < 4 then y else if y = 4 then x else c + y
  have sb : σ 4 = x := rfl
  have p3 : (AObj.cells (pbC B a1 a2 a3)).ren σ = .cells (pbC B a1 a2 a3) := pbc_ren h1 h2 h3 rfl rfl rfl
  have base : allM (fun x o => lookM m (σ x) = some (o.ren σ)) [(0, some (oLa B)), (1, some (oDa B)), (2, some (oLo B)), (3, some (.cells (pbC B a1 a2 a3)))] := ⟨m0.trans (congrArg some ((ren_ro _ σ _).symm)), m1.trans (congrArg some ((ren_ro _ σ _).symm)), m2.trans (congrArg some ((ren_ro _ σ _).symm)), m3.trans (congrArg some (p3.symm)), trivial⟩
  refine Wk.by σ (by omega) (by decide) (by decide) ⟨t1, ?_, t12.trans (congrArg some (h3.ren (σ := σ) rfl).symm), t13, t14, trivial⟩ ?_ rfl (fun u hu v hv huv e => ?_) (fun u hu => ?_) (fun u hu => ?_) (fun u hu => ?_)
  · refine t5.trans ?_
    cases L with
    | nil => rfl
    | cons a r => rfl
  · cases L with
    | nil => exact base
    | cons a r => exact ⟨(g (by simp)).trans (congrArg some (natV_ren σ _ _).symm), base⟩
  · have low : ∀ u, u ∈ (grM 4 L ++ [(0, some (oLa B)), (1, some (oDa B)), (2, some (oLo B)), (3, some (.cells (pbC B a1 a2 a3)))] : List (Nat × Option AObj)).map (fun e => e.1) → u = 4 ∨ u = 0 ∨ u = 1 ∨ u = 2 ∨ u = 3 := fun u hu => by
      cases L <;> simp [grM] at hu <;> omega
    have q1 := low u hu
    have q2 := low v hv
    simp only [σ] at e
    (repeat' split at e) <;> omega
  all_goals (simp only [σ]; (repeat' split) <;> omega)
set_option maxRecDepth 100000 in
set_option maxHeartbeats 4000000 in
theorem lkA_can (B : RBook) (a1 a2 a3 : AV) (h1 : IsSl a1 B.nl 0) (h2 : IsSl a2 B.nd 1) (h3 : IsSl a3 B.nk 2) (hk : B.nk ≤ 4)  : CanS 0 Try.prog 73 4 [.ptr 3 0, .fn 74 [] []] [(0, some (oLa B)), (1, some (oDa B)), (2, some (oLo B)), (3, some (.cells (pbC B a1 a2 a3)))] 4 fun v H1 c1 => v = fuV 4 (lkL (fun _ => True) B.nk) ∧ c1 = 5 ∧ (lkL (fun _ => True) B.nk ≠ [] → H1.get 4 = some (.grown (natV (lkL (fun _ => True) B.nk)) 1)) := by
  refine CanS.mk Try.func73 rfl rfl rfl ?_
  repeat' (first | refine RT.nil ?_ | refine sq_n ?_ | refine Tr.seq ?_ | refine Tr.region ?_ | refine Tr.block ?_ | (refine RT.goK rfl rfl rfl rfl ?_; apply Nx.of; (first | exact S.move | exact S.assign | exact S.load1c rfl rfl rfl rfl | exact S.fieldAddr rfl rfl rfl | exact S.nilCheck)) | (refine RT.goK rfl rfl rfl rfl ?_; apply Nx.of; (first | exact S.len_sl rfl rfl rfl (by assumption))))
  refine Tr.loop (fun k : Nat => stL Try.f73.ntmps [] [(1, .fn 74 [] []), (5, grV 4 (lkL (fun _ => True) k)), (12, a3), (13, .int .i64 B.nk), (14, .int .i64 k)] (grM 4 (lkL (fun _ => True) k) ++ [(0, some (oLa B)), (1, some (oDa B)), (2, some (oLo B)), (3, some (.cells (pbC B a1 a2 a3)))]) 5) (fun k => k ≤ B.nk) (fun k => B.nk - k) 0 (Nat.zero_le _) ?_ (fun k hk => ?_)
  · exact lkA_wk h1 h2 h3 (L := []) (x := 4) (by decide) (.inl rfl) rfl rfl rfl rfl rfl (fun h => absurd rfl h) rfl rfl rfl rfl
  have hlen := lkL_len (fun _ => True) k
  by_cases hlt : k < B.nk
  · have hlt' : (k : Int) < B.nk := by omega
    by_cases hp : (fun _ => True) k
    · have hv : AV.bool (dB ((fun _ => True) k)) = .bool true := by rw [dB_tt hp]
      have e1 := lkL_t (p := fun _ => True) (k := k) hp
      cases hl : lkL (fun _ => True) k with
      | nil =>
        repeat' (first | refine RT.nil ?_ | refine sq_n ?_ | refine Tr.seq ?_ | refine Tr.region ?_ | refine Tr.cond_t rfl ?_ | refine Tr.skip ?_ | refine Tr.block ?_ | refine blk_n ?_ | (refine RT.goK rfl rfl rfl rfl ?_; first | refine Nx.of (S.lss_t hlt') ?_ | refine Nx.of (S.idx_sl rfl rfl rfl h3 hlt) ?_) | (refine RT.call rfl rfl rfl (val_is hv (few1_at _ _ _ _ _)) rfl rfl (Nat.le_refl _) ?_) | (refine RT.goK rfl rfl rfl rfl ?_; apply Nx.of; (first | exact S.append_nilI rfl rfl rfl rfl rfl rfl rfl rfl rfl rfl rfl)) | (refine RT.goK rfl rfl rfl rfl ?_; apply Nx.of; (first | exact S.move | exact S.assign | exact S.loadNc rfl rfl rfl rfl | exact S.alloc rfl | exact S.add_one (by omega) | exact S.buildSlice rfl rfl rfl rfl rfl rfl rfl)) | (refine RT.goK0 rfl rfl rfl ?_; apply Nx.of; (first | exact S.store rfl rfl rfl rfl rfl rfl)) | (refine RT.goK rfl rfl rfl rfl ?_; apply Nx.of; (first | exact S.rowN0 rfl rfl rfl (fun _ => rfl) (range_at (by omega)) rfl)))
        refine lp_n (k + 1) hlt (by omega) ?_
        rw [e1, hl]
        exact lkA_wk h1 h2 h3 (x := 7) (by decide) (.inr (by decide)) rfl rfl rfl rfl rfl (fun _ => rfl) rfl rfl rfl rfl
      | cons a r =>
        have hcut : cut (natV (a :: r)) 0 ((a :: r).length * 1) = some (natV (a :: r)) := cut_all (by rw [natV_len, Nat.mul_one])
        rw [hl] at hlen
        repeat' (first | refine RT.nil ?_ | refine sq_n ?_ | refine Tr.seq ?_ | refine Tr.region ?_ | refine Tr.cond_t rfl ?_ | refine Tr.skip ?_ | refine Tr.block ?_ | refine blk_n ?_ | (refine RT.goK rfl rfl rfl rfl ?_; first | refine Nx.of (S.lss_t hlt') ?_ | refine Nx.of (S.idx_sl rfl rfl rfl h3 hlt) ?_) | (refine RT.call rfl rfl rfl (val_is hv (few1_at _ _ _ _ _)) rfl rfl (Nat.le_refl _) ?_) | (refine RT.goK rfl rfl rfl rfl ?_; apply Nx.of; (first | exact S.append_gsI rfl rfl rfl rfl rfl rfl rfl rfl rfl rfl rfl rfl rfl hcut (by omega) rfl)) | (refine RT.goK rfl rfl rfl rfl ?_; apply Nx.of; (first | exact S.move | exact S.assign | exact S.loadNc rfl rfl rfl rfl | exact S.alloc rfl | exact S.add_one (by omega) | exact S.buildSlice rfl rfl rfl rfl rfl rfl rfl)) | (refine RT.goK0 rfl rfl rfl ?_; apply Nx.of; (first | exact S.store rfl rfl rfl rfl rfl rfl)) | (refine RT.goK rfl rfl rfl rfl ?_; apply Nx.of; (first | exact S.rowN0 rfl rfl rfl (fun _ => rfl) (range_at (by omega)) rfl)))
        refine lp_n (k + 1) hlt (by omega) ?_
        rw [e1, hl]
        refine lkA_wk h1 h2 h3 (x := 7) (by decide) (.inr (by decide)) rfl ?_ rfl rfl rfl (fun _ => ?_) rfl rfl rfl rfl
        · show _ = some (AV.gs 7 ((r ++ [k]).length + 1))
          rw [List.length_append]; rfl
        · show _ = some (AObj.grown (natV ((a :: r) ++ [k])) 1)
          unfold natV
          rw [List.map_append, List.map_append]; rfl
    · have hv : AV.bool (dB ((fun _ => True) k)) = .bool false := by rw [dB_ff hp]
      have e1 := lkL_f (p := fun _ => True) (k := k) hp
      cases hl : lkL (fun _ => True) k with
      | nil =>
        repeat' (first | refine RT.nil ?_ | refine sq_n ?_ | refine Tr.seq ?_ | refine Tr.region ?_ | refine Tr.cond_t rfl ?_ | refine Tr.cond_f rfl ?_ | refine Tr.skip ?_ | refine Tr.block ?_ | refine blk_n ?_ | (refine RT.goK rfl rfl rfl rfl ?_; first | refine Nx.of (S.lss_t hlt') ?_ | refine Nx.of (S.idx_sl rfl rfl rfl h3 hlt) ?_) | (refine RT.call rfl rfl rfl (val_is hv (few1_at _ _ _ _ _)) rfl rfl (Nat.le_refl _) ?_) | (refine RT.goK rfl rfl rfl rfl ?_; apply Nx.of; (first | exact S.move | exact S.assign | exact S.loadNc rfl rfl rfl rfl | exact S.alloc rfl | exact S.add_one (by omega))) | (refine RT.goK0 rfl rfl rfl ?_; apply Nx.of; (first | exact S.store rfl rfl rfl rfl rfl rfl)) | (refine RT.goK rfl rfl rfl rfl ?_; apply Nx.of; (first | exact S.rowN0 rfl rfl rfl (fun _ => rfl) (range_at (by omega)) rfl)))
        refine lp_n (k + 1) hlt (by omega) ?_
        rw [e1, hl]
        exact lkA_wk h1 h2 h3 (x := 4) (by decide) (.inl rfl) rfl rfl rfl rfl rfl (fun h => absurd rfl h) rfl rfl rfl rfl
      | cons a r =>
        repeat' (first | refine RT.nil ?_ | refine sq_n ?_ | refine Tr.seq ?_ | refine Tr.region ?_ | refine Tr.cond_t rfl ?_ | refine Tr.cond_f rfl ?_ | refine Tr.skip ?_ | refine Tr.block ?_ | refine blk_n ?_ | (refine RT.goK rfl rfl rfl rfl ?_; first | refine Nx.of (S.lss_t hlt') ?_ | refine Nx.of (S.idx_sl rfl rfl rfl h3 hlt) ?_) | (refine RT.call rfl rfl rfl (val_is hv (few1_at _ _ _ _ _)) rfl rfl (Nat.le_refl _) ?_) | (refine RT.goK rfl rfl rfl rfl ?_; apply Nx.of; (first | exact S.move | exact S.assign | exact S.loadNc rfl rfl rfl rfl | exact S.alloc rfl | exact S.add_one (by omega))) | (refine RT.goK0 rfl rfl rfl ?_; apply Nx.of; (first | exact S.store rfl rfl rfl rfl rfl rfl)) | (refine RT.goK rfl rfl rfl rfl ?_; apply Nx.of; (first | exact S.rowN0 rfl rfl rfl (fun _ => rfl) (range_at (by omega)) rfl)))
        refine lp_n (k + 1) hlt (by omega) ?_
        rw [e1, hl]
        exact lkA_wk h1 h2 h3 (x := 4) (by decide) (.inl rfl) rfl rfl rfl rfl rfl (fun _ => rfl) rfl rfl rfl rfl
  · obtain rfl : k = B.nk := by omega
    have hlt' : ¬ (B.nk : Int) < B.nk := by omega
    cases hl : lkL (fun _ => True) B.nk with
    | nil =>
      have hs := IsSl.nils 4
      repeat' (first | refine RT.nil ?_ | refine sq_n ?_ | refine Tr.seq ?_ | refine Tr.region ?_ | refine Tr.cond_f rfl ?_ | refine Tr.ret ?_ | refine Tr.exit ?_ | refine sq_x ?_ | refine blk_hit rfl ?_ | refine lp_x ?_ | (refine RT.goK rfl rfl rfl rfl ?_; first | refine Nx.of (S.lss_f hlt') ?_ | refine Nx.of (S.cut_nils rfl rfl rfl) ?_) | (refine RT.goK rfl rfl rfl rfl ?_; apply Nx.of; (first | exact S.move | exact S.assign)) | (refine RT.goK rfl rfl rfl rfl ?_; apply Nx.of; (first | exact S.len_sl rfl rfl rfl (by assumption))))
      (first | refine rt_go rfl ?_)
      exact ⟨rfl, rfl, fun h => absurd rfl h⟩
    | cons a r =>
      have hs := IsSl.gs 4 (r.length + 1)
      repeat' (first | refine RT.nil ?_ | refine sq_n ?_ | refine Tr.seq ?_ | refine Tr.region ?_ | refine Tr.cond_f rfl ?_ | refine Tr.ret ?_ | refine Tr.exit ?_ | refine sq_x ?_ | refine blk_hit rfl ?_ | refine lp_x ?_ | (refine RT.goK rfl rfl rfl rfl ?_; first | refine Nx.of (S.lss_f hlt') ?_ | refine Nx.of (S.cut_gs rfl rfl rfl) ?_) | (refine RT.goK rfl rfl rfl rfl ?_; apply Nx.of; (first | exact S.move | exact S.assign)) | (refine RT.goK rfl rfl rfl rfl ?_; apply Nx.of; (first | exact S.len_sl rfl rfl rfl (by assumption))))
      (first | refine rt_go rfl ?_)
      exact ⟨rfl, rfl, fun _ => getM rfl⟩
theorem lkW_wk {B : RBook} {a1 a2 a3 : AV} {t : Tru} (h1 : IsSl a1 B.nl 0) (h2 : IsSl a2 B.nd 1) (h3 : IsSl a3 B.nk 2) {n c : Nat} {l : List (Nat × AV)} {m : List (Nat × Option AObj)} {k x : Nat} {L : List Nat} (hc : 5 ≤ c) (hx : x = 5 ∨ 6 ≤ x)
    (t1 : Go.Ev.look l 1 = some (.fn 75 [] [.ptr 4 0])) (t5 : Go.Ev.look l 5 = some (grV x L)) (t12 : Go.Ev.look l 12 = some a3) (t13 : Go.Ev.look l 13 = some (AV.int .i64 B.nk)) (t14 : Go.Ev.look l 14 = some (AV.int .i64 k))
    (g : L ≠ [] → lookM m x = some (.grown (natV L) 1)) (m0 : lookM m 0 = lookM [(0, some (oLa B)), (1, some (oDa B)), (2, some (oLo B)), (3, some (.cells (pbC B a1 a2 a3))), (4, some (.cells (truC t)))] 0) (m1 : lookM m 1 = lookM [(0, some (oLa B)), (1, some (oDa B)), (2, some (oLo B)), (3, some (.cells (pbC B a1 a2 a3))), (4, some (.cells (truC t)))] 1) (m2 : lookM m 2 = lookM [(0, some (oLa B)), (1, some (oDa B)), (2, some (oLo B)), (3, some (.cells (pbC B a1 a2 a3))), (4, some (.cells (truC t)))] 2) (m3 : lookM m 3 = lookM [(0, some (oLa B)), (1, some (oDa B)), (2, some (oLo B)), (3, some (.cells (pbC B a1 a2 a3))), (4, some (.cells (truC t)))] 3) (m4 : lookM m 4 = lookM [(0, some (oLa B)), (1, some (oDa B)), (2, some (oLo B)), (3, some (.cells (pbC B a1 a2 a3))), (4, some (.cells (truC t)))] 4) :
    Wk 0 5 5 (stL n [] l m c) (stL n [] [(1, .fn 75 [] [.ptr 4 0]), (5, grV 5 L), (12, a3), (13, .int .i64 B.nk), (14, .int .i64 k)] (grM 5 L ++ [(0, some (oLa B)), (1, some (oDa B)), (2, some (oLo B)), (3, some (.cells (pbC B a1 a2 a3))), (4, some (.cells (truC t)))]) 6) := by
  let σ : Nat → Nat := fun y => if y < 5 then y else if y = 5 then x else c + y
  have sb : σ 5 = x := rfl
  have p3 : (AObj.cells (pbC B a1 a2 a3)).ren σ = .cells (pbC B a1 a2 a3) := pbc_ren h1 h2 h3 rfl rfl rfl
  have base : allM (fun x o => lookM m (σ x) = some (o.ren σ)) [(0, some (oLa B)), (1, some (oDa B)), (2, some (oLo B)), (3, some (.cells (pbC B a1 a2 a3))), (4, some (.cells (truC t)))] := ⟨m0.trans (congrArg some ((ren_ro _ σ _).symm)), m1.trans (congrArg some ((ren_ro _ σ _).symm)), m2.trans (congrArg some ((ren_ro _ σ _).symm)), m3.trans (congrArg some (p3.symm)), m4.trans (congrArg some (rfl)), trivial⟩
  refine Wk.by σ (by omega) (by decide) (by decide) ⟨t1, ?_, t12.trans (congrArg some (h3.ren (σ := σ) rfl).symm), t13, t14, trivial⟩ ?_ rfl (fun u hu v hv huv e => ?_) (fun u hu => ?_) (fun u hu => ?_) (fun u hu => ?_)
  · refine t5.trans ?_
    cases L with
    | nil => rfl
    | cons a r => rfl
  · cases L with
    | nil => exact base
    | cons a r => exact ⟨(g (by simp)).trans (congrArg some (natV_ren σ _ _).symm), base⟩
  · have low : ∀ u, u ∈ (grM 5 L ++ [(0, some (oLa B)), (1, some (oDa B)), (2, some (oLo B)), (3, some (.cells (pbC B a1 a2 a3))), (4, some (.cells (truC t)))] : List (Nat × Option AObj)).map (fun e => e.1) → u = 5 ∨ u = 0 ∨ u = 1 ∨ u = 2 ∨ u = 3 ∨ u = 4 := fun u hu => by
      cases L <;> simp [grM] at hu <;> omega
    have q1 := low u hu
    have q2 := low v hv
    simp only [σ] at e
    (repeat' split at e) <;> omega
  all_goals (simp only [σ]; (repeat' split) <;> omega)
set_option maxRecDepth 100000 in
set_option maxHeartbeats 4000000 in
theorem lkW_can (B : RBook) (a1 a2 a3 : AV) (h1 : IsSl a1 B.nl 0) (h2 : IsSl a2 B.nd 1) (h3 : IsSl a3 B.nk 2) (hk : B.nk ≤ 4) (t : Tru) (hld : ∀ i, i < B.nk → 0 ≤ B.ld i ∧ B.ld i < 5) : CanS 0 Try.prog 73 5 [.ptr 3 0, .fn 75 [] [.ptr 4 0]] [(0, some (oLa B)), (1, some (oDa B)), (2, some (oLo B)), (3, some (.cells (pbC B a1 a2 a3))), (4, some (.cells (truC t)))] 5 fun v H1 c1 => v = fuV 5 (lkL (wrP B t) B.nk) ∧ c1 = 6 ∧ (lkL (wrP B t) B.nk ≠ [] → H1.get 5 = some (.grown (natV (lkL (wrP B t) B.nk)) 1)) := by
  refine CanS.mk Try.func73 rfl rfl rfl ?_
  repeat' (first | refine RT.nil ?_ | refine sq_n ?_ | refine Tr.seq ?_ | refine Tr.region ?_ | refine Tr.block ?_ | (refine RT.goK rfl rfl rfl rfl ?_; apply Nx.of; (first | exact S.move | exact S.assign | exact S.load1c rfl rfl rfl rfl | exact S.fieldAddr rfl rfl rfl | exact S.nilCheck)) | (refine RT.goK rfl rfl rfl rfl ?_; apply Nx.of; (first | exact S.len_sl rfl rfl rfl (by assumption))))
  refine Tr.loop (fun k : Nat => stL Try.f73.ntmps [] [(1, .fn 75 [] [.ptr 4 0]), (5, grV 5 (lkL (wrP B t) k)), (12, a3), (13, .int .i64 B.nk), (14, .int .i64 k)] (grM 5 (lkL (wrP B t) k) ++ [(0, some (oLa B)), (1, some (oDa B)), (2, some (oLo B)), (3, some (.cells (pbC B a1 a2 a3))), (4, some (.cells (truC t)))]) 6) (fun k => k ≤ B.nk) (fun k => B.nk - k) 0 (Nat.zero_le _) ?_ (fun k hk => ?_)
  · exact lkW_wk h1 h2 h3 (L := []) (x := 5) (by decide) (.inl rfl) rfl rfl rfl rfl rfl (fun h => absurd rfl h) rfl rfl rfl rfl rfl
  have hlen := lkL_len (wrP B t) k
  by_cases hlt : k < B.nk
  · have hlt' : (k : Int) < B.nk := by omega
    by_cases hp : (wrP B t) k
    · have hv : AV.bool (dB ((wrP B t) k)) = .bool true := by rw [dB_tt hp]
      have e1 := lkL_t (p := wrP B t) (k := k) hp
      cases hl : lkL (wrP B t) k with
      | nil =>
        repeat' (first | refine RT.nil ?_ | refine sq_n ?_ | refine Tr.seq ?_ | refine Tr.region ?_ | refine Tr.cond_t rfl ?_ | refine Tr.skip ?_ | refine Tr.block ?_ | refine blk_n ?_ | (refine RT.goK rfl rfl rfl rfl ?_; first | refine Nx.of (S.lss_t hlt') ?_ | refine Nx.of (S.idx_sl rfl rfl rfl h3 hlt) ?_) | (refine RT.call rfl rfl rfl (val_is hv (few2_at (t := t) (x := 4) (hld k hlt) rfl _)) rfl rfl (Nat.le_refl _) ?_) | (refine RT.goK rfl rfl rfl rfl ?_; apply Nx.of; (first | exact S.append_nilI rfl rfl rfl rfl rfl rfl rfl rfl rfl rfl rfl)) | (refine RT.goK rfl rfl rfl rfl ?_; apply Nx.of; (first | exact S.move | exact S.assign | exact S.loadNc rfl rfl rfl rfl | exact S.alloc rfl | exact S.add_one (by omega) | exact S.buildSlice rfl rfl rfl rfl rfl rfl rfl)) | (refine RT.goK0 rfl rfl rfl ?_; apply Nx.of; (first | exact S.store rfl rfl rfl rfl rfl rfl)) | (refine RT.goK rfl rfl rfl rfl ?_; apply Nx.of; (first | exact S.rowN0 rfl rfl rfl (fun _ => rfl) (range_at (by omega)) rfl)))
        refine lp_n (k + 1) hlt (by omega) ?_
        rw [e1, hl]
        exact lkW_wk h1 h2 h3 (x := 8) (by decide) (.inr (by decide)) rfl rfl rfl rfl rfl (fun _ => rfl) rfl rfl rfl rfl rfl
      | cons a r =>
        have hcut : cut (natV (a :: r)) 0 ((a :: r).length * 1) = some (natV (a :: r)) := cut_all (by rw [natV_len, Nat.mul_one])
        rw [hl] at hlen
        repeat' (first | refine RT.nil ?_ | refine sq_n ?_ | refine Tr.seq ?_ | refine Tr.region ?_ | refine Tr.cond_t rfl ?_ | refine Tr.skip ?_ | refine Tr.block ?_ | refine blk_n ?_ | (refine RT.goK rfl rfl rfl rfl ?_; first | refine Nx.of (S.lss_t hlt') ?_ | refine Nx.of (S.idx_sl rfl rfl rfl h3 hlt) ?_) | (refine RT.call rfl rfl rfl (val_is hv (few2_at (t := t) (x := 4) (hld k hlt) rfl _)) rfl rfl (Nat.le_refl _) ?_) | (refine RT.goK rfl rfl rfl rfl ?_; apply Nx.of; (first | exact S.append_gsI rfl rfl rfl rfl rfl rfl rfl rfl rfl rfl rfl rfl rfl hcut (by omega) rfl)) | (refine RT.goK rfl rfl rfl rfl ?_; apply Nx.of; (first | exact S.move | exact S.assign | exact S.loadNc rfl rfl rfl rfl | exact S.alloc rfl | exact S.add_one (by omega) | exact S.buildSlice rfl rfl rfl rfl rfl rfl rfl)) | (refine RT.goK0 rfl rfl rfl ?_; apply Nx.of; (first | exact S.store rfl rfl rfl rfl rfl rfl)) | (refine RT.goK rfl rfl rfl rfl ?_; apply Nx.of; (first | exact S.rowN0 rfl rfl rfl (fun _ => rfl) (range_at (by omega)) rfl)))
        refine lp_n (k + 1) hlt (by omega) ?_
        rw [e1, hl]
        refine lkW_wk h1 h2 h3 (x := 8) (by decide) (.inr (by decide)) rfl ?_ rfl rfl rfl (fun _ => ?_) rfl rfl rfl rfl rfl
        · show _ = some (AV.gs 8 ((r ++ [k]).length + 1))
          rw [List.length_append]; rfl
        · show _ = some (AObj.grown (natV ((a :: r) ++ [k])) 1)
          unfold natV
          rw [List.map_append, List.map_append]; rfl
    · have hv : AV.bool (dB ((wrP B t) k)) = .bool false := by rw [dB_ff hp]
      have e1 := lkL_f (p := wrP B t) (k := k) hp
      cases hl : lkL (wrP B t) k with
      | nil =>
        repeat' (first | refine RT.nil ?_ | refine sq_n ?_ | refine Tr.seq ?_ | refine Tr.region ?_ | refine Tr.cond_t rfl ?_ | refine Tr.cond_f rfl ?_ | refine Tr.skip ?_ | refine Tr.block ?_ | refine blk_n ?_ | (refine RT.goK rfl rfl rfl rfl ?_; first | refine Nx.of (S.lss_t hlt') ?_ | refine Nx.of (S.idx_sl rfl rfl rfl h3 hlt) ?_) | (refine RT.call rfl rfl rfl (val_is hv (few2_at (t := t) (x := 4) (hld k hlt) rfl _)) rfl rfl (Nat.le_refl _) ?_) | (refine RT.goK rfl rfl rfl rfl ?_; apply Nx.of; (first | exact S.move | exact S.assign | exact S.loadNc rfl rfl rfl rfl | exact S.alloc rfl | exact S.add_one (by omega))) | (refine RT.goK0 rfl rfl rfl ?_; apply Nx.of; (first | exact S.store rfl rfl rfl rfl rfl rfl)) | (refine RT.goK rfl rfl rfl rfl ?_; apply Nx.of; (first | exact S.rowN0 rfl rfl rfl (fun _ => rfl) (range_at (by omega)) rfl)))
        refine lp_n (k + 1) hlt (by omega) ?_
        rw [e1, hl]
        exact lkW_wk h1 h2 h3 (x := 5) (by decide) (.inl rfl) rfl rfl rfl rfl rfl (fun h => absurd rfl h) rfl rfl rfl rfl rfl
      | cons a r =>
        repeat' (first | refine RT.nil ?_ | refine sq_n ?_ | refine Tr.seq ?_ | refine Tr.region ?_ | refine Tr.cond_t rfl ?_ | refine Tr.cond_f rfl ?_ | refine Tr.skip ?_ | refine Tr.block ?_ | refine blk_n ?_ | (refine RT.goK rfl rfl rfl rfl ?_; first | refine Nx.of (S.lss_t hlt') ?_ | refine Nx.of (S.idx_sl rfl rfl rfl h3 hlt) ?_) | (refine RT.call rfl rfl rfl (val_is hv (few2_at (t := t) (x := 4) (hld k hlt) rfl _)) rfl rfl (Nat.le_refl _) ?_) | (refine RT.goK rfl rfl rfl rfl ?_; apply Nx.of; (first | exact S.move | exact S.assign | exact S.loadNc rfl rfl rfl rfl | exact S.alloc rfl | exact S.add_one (by omega))) | (refine RT.goK0 rfl rfl rfl ?_; apply Nx.of; (first | exact S.store rfl rfl rfl rfl rfl rfl)) | (refine RT.goK rfl rfl rfl rfl ?_; apply Nx.of; (first | exact S.rowN0 rfl rfl rfl (fun _ => rfl) (range_at (by omega)) rfl)))
        refine lp_n (k + 1) hlt (by omega) ?_
        rw [e1, hl]
        exact lkW_wk h1 h2 h3 (x := 5) (by decide) (.inl rfl) rfl rfl rfl rfl rfl (fun _ => rfl) rfl rfl rfl rfl rfl
  · obtain rfl : k = B.nk := by omega
    have hlt' : ¬ (B.nk : Int) < B.nk := by omega
    cases hl : lkL (wrP B t) B.nk with
    | nil =>
      have hs := IsSl.nils 5
      repeat' (first | refine RT.nil ?_ | refine sq_n ?_ | refine Tr.seq ?_ | refine Tr.region ?_ | refine Tr.cond_f rfl ?_ | refine Tr.ret ?_ | refine Tr.exit ?_ | refine sq_x ?_ | refine blk_hit rfl ?_ | refine lp_x ?_ | (refine RT.goK rfl rfl rfl rfl ?_; first | refine Nx.of (S.lss_f hlt') ?_ | refine Nx.of (S.cut_nils rfl rfl rfl) ?_) | (refine RT.goK rfl rfl rfl rfl ?_; apply Nx.of; (first | exact S.move | exact S.assign)) | (refine RT.goK rfl rfl rfl rfl ?_; apply Nx.of; (first | exact S.len_sl rfl rfl rfl (by assumption))))
      (first | refine rt_go rfl ?_)
      exact ⟨rfl, rfl, fun h => absurd rfl h⟩
    | cons a r =>
      have hs := IsSl.gs 5 (r.length + 1)
      repeat' (first | refine RT.nil ?_ | refine sq_n ?_ | refine Tr.seq ?_ | refine Tr.region ?_ | refine Tr.cond_f rfl ?_ | refine Tr.ret ?_ | refine Tr.exit ?_ | refine sq_x ?_ | refine blk_hit rfl ?_ | refine lp_x ?_ | (refine RT.goK rfl rfl rfl rfl ?_; first | refine Nx.of (S.lss_f hlt') ?_ | refine Nx.of (S.cut_gs rfl rfl rfl) ?_) | (refine RT.goK rfl rfl rfl rfl ?_; apply Nx.of; (first | exact S.move | exact S.assign)) | (refine RT.goK rfl rfl rfl rfl ?_; apply Nx.of; (first | exact S.len_sl rfl rfl rfl (by assumption))))
      (first | refine rt_go rfl ?_)
      exact ⟨rfl, rfl, fun _ => getM rfl⟩
end Go.Proofs.Ytpneoeoimdfjaaa

/- Package roll: the looks that are so, wherever they lie; the truths of a book without looks. -/
namespace Go.Proofs.Ytpneoeoimdfjaaa
open Go Go.Ev

theorem lkA_at {B : RBook} {a1 a2 a3 : AV} {p c : Nat} {m : List (Nat × Option AObj)} (h : PbIn B a1 a2 a3 p m c) (hm : ∀ x o, lookM m x = some o → x < c) (hk : B.nk ≤ 4) (fl : Nat) : OkAt 0 Try.prog fl 73 [.ptr p 0, .fn 74 [] []] (ofM m) c (fuV c (lkL (fun _ => True) B.nk)) (ofM (grM c (lkL (fun _ => True) B.nk) ++ m)) (c + 1) := by
  let τ : Nat → Nat := fun z => if z < 3 then z else if z = 3 then p else c + (z - 4)
  have hc := h.hc
  have hp := h.hp
  have t0 : τ 0 = 0 := rfl
  have t1 : τ 1 = 1 := rfl
  have t2 : τ 2 = 2 := rfl
  have t3 : τ 3 = p := rfl
  have tb : τ 4 = c := rfl
  have hp0 : p ≠ 0 := fun e => by have := h.m4; rw [e, h.m1] at this; cases this
  have hp1 : p ≠ 1 := fun e => by have := h.m4; rw [e, h.m2] at this; cases this
  have hp2 : p ≠ 2 := fun e => by have := h.m4; rw [e, h.m3] at this; cases this
  have ha : AV.rens τ [.ptr 3 0, .fn 74 [] []] = [.ptr p 0, .fn 74 [] []] := rfl
  have low : ∀ {z : Nat} {ob : AObj}, lookM [(0, some (oLa B)), (1, some (oDa B)), (2, some (oLo B)), (3, some (.cells (pbC B a1 a2 a3)))] z = some ob → z = 0 ∨ z = 1 ∨ z = 2 ∨ z = 3 := fun {z ob} hz => by
    have := lookM_mem hz
    simpa using this
  rw [← ha]
  refine CanS.inst (lkA_can B a1 a2 a3 h.h1 h.h2 h.h3 hk ) (Nat.zero_le _) (Nat.le_refl _) τ (fun g hg => by omega) (fun z hz => by simp only [τ]; (repeat' split) <;> omega) (fun z hz => by simp only [τ]; rw [if_neg (by omega), if_neg (by omega)]) (fun z o hz => ?_) (fun x z o o' hx hz hxz => ?_) (fun z hz hz' => by omega) (fun v1 H1 c1 hk _ => ?_)
  · rcases low hz with rfl | rfl | rfl | rfl
    · cases hz; rw [t0, ren_ro]; exact getM h.m1
    · cases hz; rw [t1, ren_ro]; exact getM h.m2
    · cases hz; rw [t2, ren_ro]; exact getM h.m3
    · cases hz; rw [t3, pbc_ren h.h1 h.h2 h.h3 t0 t1 t2]; exact getM h.m4
  · refine .inl ?_
    rcases low hx with rfl | rfl | rfl | rfl <;> rcases low hz with rfl | rfl | rfl | rfl <;> simp only [t0, t1, t2, t3] <;> omega
  · obtain ⟨rfl, rfl, g1⟩ := hk
    generalize hL : lkL (fun _ => True) B.nk = L at g1
    refine ⟨?_, by omega, fun x o hx => ?_⟩
    · cases L with
      | nil => rfl
      | cons a r => rfl
    · rw [ofM_get] at hx
      cases L with
      | nil => exact .inl ⟨hm x o hx, fun z hz hz' => by omega, getM hx⟩
      | cons a r =>
        by_cases e1 : x = c
        · subst e1
          replace hx : lookM ((x, some (.grown (natV (a :: r)) 1)) :: m) x = some o := hx
          rw [lookM_hd] at hx
          cases hx
          exact .inr ⟨4, _, by omega, g1 (by simp), tb.symm, (natV_ren _ _ _).symm⟩
        · replace hx : lookM ((c, some (.grown (natV (a :: r)) 1)) :: m) x = some o := hx
          rw [lookM_tl e1] at hx
          exact .inl ⟨hm x o hx, fun z hz hz' => by omega, getM hx⟩
theorem lkW_at {B : RBook} {a1 a2 a3 : AV} {p y c : Nat} {m : List (Nat × Option AObj)} {t : Tru} (h : PbIn B a1 a2 a3 p m c) (hm : ∀ x o, lookM m x = some o → x < c) (hk : B.nk ≤ 4) (hld : ∀ i, i < B.nk → 0 ≤ B.ld i ∧ B.ld i < 5) (hy : y < c) (my : lookM m y = some (.cells (truC t))) (fl : Nat) : OkAt 0 Try.prog fl 73 [.ptr p 0, .fn 75 [] [.ptr y 0]] (ofM m) c (fuV c (lkL (wrP B t) B.nk)) (ofM (grM c (lkL (wrP B t) B.nk) ++ m)) (c + 1) := by
  let τ : Nat → Nat := fun z => if z < 3 then z else if z = 3 then p else if z = 4 then y else c + (z - 5)
  have hc := h.hc
  have hp := h.hp
  have t0 : τ 0 = 0 := rfl
  have t1 : τ 1 = 1 := rfl
  have t2 : τ 2 = 2 := rfl
  have t3 : τ 3 = p := rfl
  have t4 : τ 4 = y := rfl
  have tb : τ 5 = c := rfl
  have hp0 : p ≠ 0 := fun e => by have := h.m4; rw [e, h.m1] at this; cases this
  have hp1 : p ≠ 1 := fun e => by have := h.m4; rw [e, h.m2] at this; cases this
  have hp2 : p ≠ 2 := fun e => by have := h.m4; rw [e, h.m3] at this; cases this
  have hy0 : y ≠ 0 := fun e => by rw [e, h.m1] at my; cases my
  have hy1 : y ≠ 1 := fun e => by rw [e, h.m2] at my; cases my
  have hy2 : y ≠ 2 := fun e => by rw [e, h.m3] at my; cases my
  have hyp : y ≠ p := fun e => by rw [e, h.m4] at my; cases my
  have ha : AV.rens τ [.ptr 3 0, .fn 75 [] [.ptr 4 0]] = [.ptr p 0, .fn 75 [] [.ptr y 0]] := rfl
  have low : ∀ {z : Nat} {ob : AObj}, lookM [(0, some (oLa B)), (1, some (oDa B)), (2, some (oLo B)), (3, some (.cells (pbC B a1 a2 a3))), (4, some (.cells (truC t)))] z = some ob → z = 0 ∨ z = 1 ∨ z = 2 ∨ z = 3 ∨ z = 4 := fun {z ob} hz => by
    have := lookM_mem hz
    simpa using this
  rw [← ha]
  refine CanS.inst (lkW_can B a1 a2 a3 h.h1 h.h2 h.h3 hk t hld) (Nat.zero_le _) (Nat.le_refl _) τ (fun g hg => by omega) (fun z hz => by simp only [τ]; (repeat' split) <;> omega) (fun z hz => by simp only [τ]; rw [if_neg (by omega), if_neg (by omega), if_neg (by omega)]) (fun z o hz => ?_) (fun x z o o' hx hz hxz => ?_) (fun z hz hz' => by omega) (fun v1 H1 c1 hk _ => ?_)
  · rcases low hz with rfl | rfl | rfl | rfl | rfl
    · cases hz; rw [t0, ren_ro]; exact getM h.m1
    · cases hz; rw [t1, ren_ro]; exact getM h.m2
    · cases hz; rw [t2, ren_ro]; exact getM h.m3
    · cases hz; rw [t3, pbc_ren h.h1 h.h2 h.h3 t0 t1 t2]; exact getM h.m4
    · cases hz; rw [t4]; exact getM my
  · refine .inl ?_
    rcases low hx with rfl | rfl | rfl | rfl | rfl <;> rcases low hz with rfl | rfl | rfl | rfl | rfl <;> simp only [t0, t1, t2, t3, t4] <;> omega
  · obtain ⟨rfl, rfl, g1⟩ := hk
    generalize hL : lkL (wrP B t) B.nk = L at g1
    refine ⟨?_, by omega, fun x o hx => ?_⟩
    · cases L with
      | nil => rfl
      | cons a r => rfl
    · rw [ofM_get] at hx
      cases L with
      | nil => exact .inl ⟨hm x o hx, fun z hz hz' => by omega, getM hx⟩
      | cons a r =>
        by_cases e1 : x = c
        · subst e1
          replace hx : lookM ((x, some (.grown (natV (a :: r)) 1)) :: m) x = some o := hx
          rw [lookM_hd] at hx
          cases hx
          exact .inr ⟨5, _, by omega, g1 (by simp), tb.symm, (natV_ren _ _ _).symm⟩
        · replace hx : lookM ((c, some (.grown (natV (a :: r)) 1)) :: m) x = some o := hx
          rw [lookM_tl e1] at hx
          exact .inl ⟨hm x o hx, fun z hz hz' => by omega, getM hx⟩
/-- The book without its looks. -/
def ncB (B : RBook) : RBook := { B with nk := 0 }
theorem ncB_ok {B : RBook} (h : bkOk B) : bkOk (ncB B) := ⟨h.1, h.2.1, Nat.zero_le _, fun i hi => absurd hi (Nat.not_lt_zero i)⟩
structure PbZ (B : RBook) (a1 a2 : AV) (z p : Nat) (m : List (Nat × Option AObj)) (c : Nat) : Prop where
  h1 : IsSl a1 B.nl 0
  h2 : IsSl a2 B.nd 1
  hn : B.nk = 0
  m1 : lookM m 0 = some (oLa B)
  m2 : lookM m 1 = some (oDa B)
  m3 : lookM m z = some (oLo B)
  m4 : lookM m p = some (.cells (pbC B a1 a2 .nils))
theorem truths_z {B : RBook} {C : Cons} {a1 a2 : AV} {lo p z : Nat} {m : List (Nat × Option AObj)} {c : Nat} {s : C.γ} (hz : 2 ≤ z) (h : PbZ B a1 a2 z p m c) (hlo : lookM m lo = none) (hB : bkOk B) (hY : YldOK Try.prog C) (hC : ∀ k s t, C.lv (k + 1) s → C.ok s [trV t]) (hl : C.lv (allT B).length s) (fl : Nat) :
    OkJ 0 Try.prog C fl lo 64 [.ptr p 0, .yld lo] m c s fun v m' s' => (v = .tup [] ∧ s' = (foldC C s (allT B)).1) ∧ m' = m := by
  have e0 : tau [0, 1, z, lo, p] c 0 = 0 := rfl
  have e1 : tau [0, 1, z, lo, p] c 1 = 1 := rfl
  have e2 : tau [0, 1, z, lo, p] c 2 = z := rfl
  have e4 : tau [0, 1, z, lo, p] c 4 = p := rfl
  have h3 : IsSl .nils B.nk 2 := by rw [h.hn]; exact IsSl.nils 2
  have ha : AV.rens (tau [0, 1, z, lo, p] c) [.ptr 4 0, .yld 3] = [.ptr p 0, .yld lo] := rfl
  rw [← ha]
  have low : ∀ {u : Nat} {ob : AObj}, lookM [(0, some (oLa B)), (1, some (oDa B)), (2, some (oLo B)), (4, some (.cells (pbC B a1 a2 .nils)))] u = some ob → u = 0 ∨ u = 1 ∨ u = 2 ∨ u = 4 := fun {u ob} hz => by
    have := lookM_mem hz
    simpa using this
  have hobj : ∀ u o, lookM [(0, some (oLa B)), (1, some (oDa B)), (2, some (oLo B)), (4, some (.cells (pbC B a1 a2 .nils)))] u = some o → lookM m (tau [0, 1, z, lo, p] c u) = some (o.ren (tau [0, 1, z, lo, p] c)) := fun u o hu => by
    rcases low hu with rfl | rfl | rfl | rfl
    · cases hu; rw [e0, ren_ro]; exact h.m1
    · cases hu; rw [e1, ren_ro]; exact h.m2
    · cases hu; rw [e2, ren_ro]; exact h.m3
    · cases hu
      have : (AObj.cells (pbC B a1 a2 .nils)).ren (tau [0, 1, z, lo, p] c) = .cells (pbC B a1 a2 .nils) := by simp only [pbC, AObj.ren, AV.ren, AV.rens, h.h1.ren e0, h.h2.ren e1]
      rw [e4, this]; exact h.m4
  refine CanJ.pure (R := fun v s' => v = .tup [] ∧ s' = (foldC C s (allT B)).1) (truths_can B a1 a2 .nils h.h1 h.h2 h3 hB C hY hC s hl) (fun v s' ⟨q, _⟩ => by subst q; exact fun _ => rfl) (tau [0, 1, z, lo, p] c) (fun g hg => by omega) (fun u hu => by rw [tau_ge hu]; omega) hobj (fun u u' o o' hu hu' hne => .inl fun e => ?_) rfl (fun u hu e => ?_) hlo
  · have g1 := hobj u o hu
    have g2 := hobj u' o' hu'
    rw [e] at g1
    rw [g1] at g2
    rcases low hu with rfl | rfl | rfl | rfl <;> rcases low hu' with rfl | rfl | rfl | rfl <;> first | exact absurd rfl hne | exact absurd (show (0 : Nat) = 1 from e) (by decide) | exact absurd (show (1 : Nat) = 0 from e) (by decide) | exact absurd (show (0 : Nat) = z from e) (by omega) | exact absurd (show z = 0 from e) (by omega) | exact absurd (show (1 : Nat) = z from e) (by omega) | exact absurd (show z = 1 from e) (by omega) | (cases hu; cases hu'; simp [AObj.ren, AV.rens, AV.ren, pbC, oLa, oDa, oLo] at g2)
  · rcases (by omega : u = 0 ∨ u = 1 ∨ u = 2 ∨ u = 3 ∨ u = 4) with rfl | rfl | rfl | rfl | rfl
    · have := hobj 0 _ rfl; rw [e, hlo] at this; cases this
    · have := hobj 1 _ rfl; rw [e, hlo] at this; cases this
    · have := hobj 2 _ rfl; rw [e, hlo] at this; cases this
    · rfl
    · have := hobj 4 _ rfl; rw [e, hlo] at this; cases this
end Go.Proofs.Ytpneoeoimdfjaaa

/- Package roll: fewest. -/
namespace Go.Proofs.Ytpneoeoimdfjaaa
open Go Go.Ev

theorem S.storeF [Tab Try.prog] {t fl c x y : Nat} {a b : Operand} {m : List (Nat × Option AObj)} {L : List Nat} {old : AV} {ti : Ty} (ht : ty Try.prog t = some ti) (hf : Nat.ble fl y = true) (hsz : ti.size = 1) (ho : lookM m y = some (.cells [old])) : OpE Try.prog fl (.store t a b) [.ptr y 0, fuV x L] m c undefA ((y, some (.cells [fuV x L])) :: m) c := by
  cases L with
  | nil => exact S.store ht hf rfl (by rw [hsz]; rfl) ho rfl
  | cons a r => exact S.store ht hf rfl (by rw [hsz]; rfl) ho rfl
theorem pb_one {B : RBook} {a1 a2 a3 : AV} (h1 : IsSl a1 B.nl 0) (h2 : IsSl a2 B.nd 1) (h3 : IsSl a3 B.nk 2) : ((AV.agg (pbC B a1 a2 a3)).cells.all AV.one) = true := by
  simp only [pbC, AV.cells, List.all_cons, List.all_nil, h1.one.1, h2.one.1, h3.one.1]
  rfl
theorem pbn_ren {B : RBook} {a1 a2 : AV} (h1 : IsSl a1 B.nl 0) (h2 : IsSl a2 B.nd 1) {σ : Nat → Nat} (e1 : σ 0 = 0) (e2 : σ 1 = 1) : (AObj.cells (pbC B a1 a2 .nils)).ren σ = .cells (pbC B a1 a2 .nils) := by simp only [pbC, AObj.ren, AV.ren, AV.rens, h1.ren e1, h2.ren e2]
/-- What the rounds have: whether the list was replaced, and the best list. -/
abbrev FwS := Bool × List Nat
def fwN (s : FwS) : Nat := if s.1 then 11 else 7
def fwM (B : RBook) (a1 a2 a3 : AV) (s : FwS) : List (Nat × Option AObj) := [(8, some (.cells [fuV (fwN s) s.2])), (5, some (.cells [.ptr 4 0])), (0, some (oLa B)), (1, some (oDa B)), (2, some (oLo B)), (4, some (.cells (pbC B a1 a2 a3))), (9, some .dfr)] ++ grM (fwN s) s.2
/-- The looks that are wrong, in a truth that is handed over. -/
def decE (ags : List AV) (i : Nat) : Int := match ags with
  | [.agg cs] => match cs[0 + 10 + i * 2 + 0]? with | some (.int _ v) => v | _ => 0
  | _ => 0
theorem decE_is (t : Tru) {i : Nat} (h : i < 5) : decE [trV t] i = t.eb i := by
  show (match (truC t)[0 + 10 + i * 2 + 0]? with | some (.int _ v) => v | _ => 0) = _
  rw [truC_b h]
noncomputable def fwA (B : RBook) (ags : List AV) : List Nat := lkL (fun i => ¬ decE ags (B.ld i).toNat = B.lb i) B.nk
noncomputable def fwL (B : RBook) (t : Tru) : List Nat := lkL (wrP B t) B.nk
theorem fwA_is {B : RBook} (hld : ∀ i, i < B.nk → 0 ≤ B.ld i ∧ B.ld i < 5) (t : Tru) : fwA B [trV t] = fwL B t := by
  unfold fwA fwL lkL
  refine List.filter_congr fun i hi => ?_
  have := hld i (List.mem_range.1 hi)
  show dB (¬ decE [trV t] (B.ld i).toNat = B.lb i) = _
  rw [decE_is t (show (B.ld i).toNat < 5 by omega)]
  rfl
noncomputable def fwS (B : RBook) (s : FwS) (ags : List AV) : FwS × Option Code := (if cmpL (fwA B ags) s.2 < 0 then (true, fwA B ags) else s, none)
theorem grM_names {x : Nat} {l : List Nat} {y : Nat} (h : y ∈ (grM x l : List (Nat × Option AObj)).map (fun e => e.1)) : y = x := by
  cases l <;> simp [grM] at h; exact h
theorem foldS_all {σ : Type} {stp : σ → List AV → σ × Option Code} (h : ∀ s a, (stp s a).2 = none) : ∀ (ts : List Tru) (s : σ), (foldS stp (s, none) ts).2 = none
  | [], _ => rfl
  | t :: ts, s => by
    rw [foldS]
    have h1 := h s [trV t]
    rw [if_pos (by rw [h1]; rfl)]
    have h2 : stp s [trV t] = ((stp s [trV t]).1, none) := by rw [← h1]
    rw [h2]
    exact foldS_all h ts _
section
variable {B : RBook} {a1 a2 a3 : AV} {n c : Nat} {l : List (Nat × AV)} {m : List (Nat × Option AObj)} {t : Tru} {bs : Bool} {best W : List Nat} {lo : AObj}
theorem fu_ren (σ : Nat → Nat) {x y : Nat} (h : σ x = y) (L : List Nat) : (fuV x L).ren σ = fuV y L := by
  cases L with
  | nil => rfl
  | cons a r => show AV.sl (σ x) 0 _ _ = _; rw [h]; rfl
theorem fw_wk (h1 : IsSl a1 B.nl 0) (h2 : IsSl a2 B.nd 1) (h3 : IsSl a3 B.nk 2) {s : FwS} {z : Nat} (hz : z = fwN s ∧ z < 12 ∨ z = 13 ∧ fwN s = 11) (hc : 12 ≤ c) (hlo : ∀ σ : Nat → Nat, σ 5 = 5 → σ 8 = 8 → σ 9 = 9 → lo.ren σ = lo)
    (g10 : lookM m 10 = some lo) (g8 : lookM m 8 = some (.cells [fuV z s.2])) (gL : s.2 ≠ [] → lookM m z = some (.grown (natV s.2) 1)) (g5 : lookM m 5 = some (.cells [.ptr 4 0])) (g0 : lookM m 0 = some (oLa B)) (g1 : lookM m 1 = some (oDa B)) (g2 : lookM m 2 = some (oLo B)) (g4 : lookM m 4 = some (.cells (pbC B a1 a2 a3))) (g9 : lookM m 9 = some .dfr) :
    Wk 0 5 11 (stL n [] l m c) (stL n [] [] ((10, some lo) :: fwM B a1 a2 a3 s) 12) := by
  let σ : Nat → Nat := fun y => if y = fwN s then z else if y < 12 then y else c + y
  have hN : fwN s = 7 ∨ fwN s = 11 := by unfold fwN; split <;> simp
  have sz : σ (fwN s) = z := by show (if fwN s = fwN s then z else _) = z; exact if_pos rfl
  have sl : ∀ y, y < 12 → y ≠ fwN s → σ y = y := fun y hy hne => by simp only [σ]; rw [if_neg hne, if_pos hy]
  have s0 : σ 0 = 0 := sl 0 (by omega) (by omega)
  have s1 : σ 1 = 1 := sl 1 (by omega) (by omega)
  have s2 : σ 2 = 2 := sl 2 (by omega) (by omega)
  have s4 : σ 4 = 4 := sl 4 (by omega) (by omega)
  have s5 : σ 5 = 5 := sl 5 (by omega) (by omega)
  have s8 : σ 8 = 8 := sl 8 (by omega) (by omega)
  have s9 : σ 9 = 9 := sl 9 (by omega) (by omega)
  have s10 : σ 10 = 10 := sl 10 (by omega) (by omega)
  have base : ∀ {y : Nat} {o o' : AObj}, σ y = y → lookM m y = some o' → o.ren σ = o' → lookM m (σ y) = some (o.ren σ) := fun e1 e2 e3 => by rw [e1, e2, e3]
  have hm : allM (fun x o => lookM m (σ x) = some (o.ren σ)) ((10, some lo) :: fwM B a1 a2 a3 s) := by
    have hL : allM (fun x o => lookM m (σ x) = some (o.ren σ)) (grM (fwN s) s.2) := by
      generalize s.2 = L at gL
      cases L with
      | nil => trivial
      | cons a r => exact ⟨by show lookM m (σ (fwN s)) = some ((AObj.grown (natV (a :: r)) 1).ren σ); rw [sz, natV_ren]; exact gL (by simp), trivial⟩
    refine ⟨base s10 g10 (hlo σ s5 s8 s9), base s8 g8 (by show AObj.cells [(fuV (fwN s) s.2).ren σ] = _; rw [fu_ren σ sz]), base s5 g5 (by show AObj.cells [.ptr (σ 4) 0] = _; rw [s4]), base s0 g0 (ren_ro _ _ _), base s1 g1 (ren_ro _ _ _), base s2 g2 (ren_ro _ _ _), base s4 g4 (pbc_ren h1 h2 h3 s0 s1 s2), base s9 g9 rfl, hL⟩
  refine Wk.by σ (by decide) (by decide) (by decide) trivial hm rfl (fun x hx y hy hxy e => ?_) (fun x hx => ?_) (fun x hx => ?_) (fun x hx => ?_)
  · have low : ∀ x, x ∈ ((10, some lo) :: fwM B a1 a2 a3 s : List (Nat × Option AObj)).map (fun e => e.1) → x < 12 ∧ (x ≠ 11 ∨ x = fwN s) := fun x hx => by
      simp only [fwM, List.map_cons, List.map_append, List.mem_cons, List.mem_append, List.map_nil, List.not_mem_nil, or_false, List.cons_append, List.nil_append] at hx
      repeat (rcases hx with hx | hx; · omega)
      have := grM_names hx
      omega
    have q1 := low x hx
    have q2 := low y hy
    simp only [σ] at e
    (repeat' split at e) <;> omega
  all_goals (simp only [σ]; (repeat' split) <;> omega)
end
/-- What is left of all rounds. -/
noncomputable def fwE (B : RBook) : FwS := (foldS (fwS B) ((false, lkL (fun _ => True) B.nk), none) (allT (ncB B))).1
theorem fwS_yes {B : RBook} {t : Tru} {bs : Bool} {best W : List Nat} (hW : fwA B [trV t] = W) (h : cmpL W best < 0) : (fwS B (bs, best) [trV t]).1 = (true, W) := by
  show (if cmpL (fwA B [trV t]) best < 0 then ((true, fwA B [trV t]) : FwS) else (bs, best)) = _
  rw [hW, if_pos h]
theorem fwS_no {B : RBook} {t : Tru} {bs : Bool} {best W : List Nat} (hW : fwA B [trV t] = W) (h : ¬ cmpL W best < 0) : (fwS B (bs, best) [trV t]).1 = (bs, best) := by
  show (if cmpL (fwA B [trV t]) best < 0 then ((true, fwA B [trV t]) : FwS) else (bs, best)) = _
  rw [hW, if_neg h]
theorem fw_end {B : RBook} {a1 a2 a3 : AV} {st : St} {n : Nat} {lo : AObj} {s s' : FwS} (e : s = s') (h : Wk 0 5 11 st (stL n [] [] ((10, some lo) :: fwM B a1 a2 a3 s') 12)) : Wk 0 5 11 st (stL n [] [] ((10, some lo) :: fwM B a1 a2 a3 s) 12) := e ▸ h
set_option maxRecDepth 100000 in
set_option maxHeartbeats 4000000 in
theorem fewest_can (B : RBook) (a1 a2 a3 : AV) (h1 : IsSl a1 B.nl 0) (h2 : IsSl a2 B.nd 1) (h3 : IsSl a3 B.nk 2) (hB : bkOk B) : CanS 0 Try.prog 58 5 [.ptr 4 0] [(0, some (oLa B)), (1, some (oDa B)), (2, some (oLo B)), (3, some (oLo (ncB B))), (4, some (.cells (pbC B a1 a2 a3)))] 5 fun v H1 c1 => v = fuV (fwN (fwE B)) (fwE B).2 ∧ c1 = 12 ∧ ((fwE B).2 ≠ [] → H1.get (fwN (fwE B)) = some (.grown (natV (fwE B).2) 1)) := by
  have hnk := hB.2.2.1
  have hnd := hB.2.1.1
  have hld : ∀ i, i < B.nk → 0 ≤ B.ld i ∧ B.ld i < 5 := fun i hi => by
    have := (hB.2.2.2 i hi).1
    unfold dyQ at this
    omega
  have hn3 : IsSl .nils (ncB B).nk 2 := IsSl.nils 2
  obtain ⟨L1, hL1⟩ : ∃ L1, lkL (fun _ => True) B.nk = L1 := ⟨_, rfl⟩
  refine CanS.mk Try.func58 rfl rfl rfl ?_
  repeat' (first | refine RT.nil ?_ | refine sq_n ?_ | refine Tr.seq ?_ | refine Tr.region ?_ | refine Tr.block ?_ | (refine RT.call rfl rfl rfl (hL1 ▸ lkA_at (p := 4) ⟨h1, h2, h3, rfl, rfl, rfl, rfl, by decide, by decide⟩ (fun x o hx => by have := lookM_mem hx; simp at this; omega) hnk _) rfl rfl (by decide) ?_) | (refine RT.goK rfl rfl rfl rfl ?_; apply Nx.of; (first | exact S.assign | exact S.load1c rfl rfl rfl rfl | exact S.loadNc rfl rfl rfl rfl | exact S.fieldAddr rfl rfl rfl | exact S.box | exact S.alloc rfl | exact S.nilCheck | exact S.makeFunc)) | (refine RT.goK0 rfl rfl rfl ?_; apply Nx.of; (first | exact S.store rfl rfl rfl rfl rfl rfl | exact S.store rfl rfl (pb_one h1 h2 h3) rfl rfl rfl | exact S.storeF rfl rfl rfl rfl)))
  refine Tr.wk (?_ : Wk 0 5 5 _ (stL Try.f58.ntmps [] [(1, .ptr 5 0), (4, .ptr 8 0), (14, .fn 64 [.ptr 6 0] [])] ((8, some (.cells [fuV 7 L1])) :: ((6, some (.cells (pbC B a1 a2 .nils))) :: (5, some (.cells [.ptr 4 0])) :: [(0, some (oLa B)), (1, some (oDa B)), (2, some (oLo B)), (3, some (oLo (ncB B))), (4, some (.cells (pbC B a1 a2 a3)))]) ++ grM 7 L1) 9)) ?_
  · cases L1 with
    | nil =>
      show Wk 0 5 5 _ (stL _ [] _ ((8, some (.cells [.nils])) :: ((6, some (.cells (pbC B a1 a2 .nils))) :: (5, some (.cells [.ptr 4 0])) :: [(0, some (oLa B)), (1, some (oDa B)), (2, some (oLo B)), (3, some (oLo (ncB B))), (4, some (.cells (pbC B a1 a2 a3)))])) 9)
      (refine Wk.same (by decide) (by decide) (by decide) (by decide) ?_ ?_ rfl; all_goals ((try simp only [allL, allM]); (repeat' (first | exact trivial | refine And.intro ?_ ?_)); all_goals (first | rfl | exact ren_ro _ _ _ | exact pbn_ren h1 h2 (nm_lt (by decide)) (nm_lt (by decide)) | exact pbc_ren h1 h2 h3 (nm_lt (by decide)) (nm_lt (by decide)) (nm_lt (by decide)) | decide)))
    | cons a r =>
      show Wk 0 5 5 _ (stL _ [] _ [(8, some (.cells [.sl 7 0 (a :: r).length (a :: r).length])), (6, some (.cells (pbC B a1 a2 .nils))), (5, some (.cells [.ptr 4 0])), (0, some (oLa B)), (1, some (oDa B)), (2, some (oLo B)), (3, some (oLo (ncB B))), (4, some (.cells (pbC B a1 a2 a3))), (7, some (.grown (natV (a :: r)) 1))] 9)
      (refine Wk.same (by decide) (by decide) (by decide) (by decide) ?_ ?_ rfl; all_goals ((try simp only [allL, allM]); (repeat' (first | exact trivial | refine And.intro ?_ ?_)); all_goals (first | rfl | exact ren_ro _ _ _ | exact pbn_ren h1 h2 (nm_lt (by decide)) (nm_lt (by decide)) | exact pbc_ren h1 h2 h3 (nm_lt (by decide)) (nm_lt (by decide)) (nm_lt (by decide)) | exact natV_ren _ _ _ | decide)))
  refine Tr.rangeR (T := [0, 1, 3, 6]) (NC := [8, 5, 0, 1, 2, 4, 9] ++ (grM 7 L1).map (fun e => e.1)) (s0 := (false, L1)) (M := fwM B a1 a2 a3) (ok := anyT) (stp := fwS B) (room := fun _ _ => True) (hroom := fun _ _ _ _ _ => trivial) (lC := [(1, .ptr 5 0), (4, .ptr 8 0)]) (memT := [(0, some (oLa B)), (1, some (oDa B)), (3, some (oLo (ncB B))), (6, some (.cells (pbC (ncB B) a1 a2 .nils)))]) (flT := 5) (flC := 5) (cc := 12) (R := fun v m' s' => m' = [(0, some (oLa B)), (1, some (oDa B)), (3, some (oLo (ncB B))), (6, some (.cells (pbC (ncB B) a1 a2 .nils)))] ∧ s' = foldS (fwS B) ((false, L1), none) (allT (ncB B))) rfl rfl (by decide) (by decide) (by decide) (by decide) (by decide) (by decide) ?_ ?_ rfl ?_ ?_ ?_ (by simp) ?_ ?_ ?_ ?_ ?_
  · exact ⟨⟨by decide, rfl, ren_ro _ _ _⟩, ⟨by decide, rfl, ren_ro _ _ _⟩, ⟨by decide, rfl, ren_ro _ _ _⟩, ⟨by decide, rfl, pbn_ren h1 h2 rfl rfl⟩, trivial⟩
  · intro x hx
    simp only [List.mem_cons, List.not_mem_nil, or_false] at hx
    rcases hx with rfl | rfl | rfl | rfl
    all_goals exact ⟨by omega, _, rfl, fun h => by first | rfl | (exfalso; omega)⟩
  · exact ⟨⟨rfl, rfl⟩, ⟨rfl, rfl⟩, trivial⟩
  · cases L1 with
    | nil => exact ⟨⟨by simp, .inr ⟨rfl, by decide⟩, rfl⟩, ⟨by simp, .inr ⟨rfl, by decide⟩, rfl⟩, ⟨by simp, .inr ⟨rfl, by decide⟩, ren_ro _ _ _⟩, ⟨by simp, .inr ⟨rfl, by decide⟩, ren_ro _ _ _⟩, ⟨by simp, .inr ⟨rfl, by decide⟩, ren_ro _ _ _⟩, ⟨by simp, .inr ⟨rfl, by decide⟩, pbc_ren h1 h2 h3 rfl rfl rfl⟩, ⟨by simp, .inl ⟨rfl, rfl⟩, rfl⟩, trivial⟩
    | cons a r => exact ⟨⟨by simp, .inr ⟨rfl, by decide⟩, rfl⟩, ⟨by simp, .inr ⟨rfl, by decide⟩, rfl⟩, ⟨by simp, .inr ⟨rfl, by decide⟩, ren_ro _ _ _⟩, ⟨by simp, .inr ⟨rfl, by decide⟩, ren_ro _ _ _⟩, ⟨by simp, .inr ⟨rfl, by decide⟩, ren_ro _ _ _⟩, ⟨by simp, .inr ⟨rfl, by decide⟩, pbc_ren h1 h2 h3 rfl rfl rfl⟩, ⟨by simp, .inl ⟨rfl, rfl⟩, rfl⟩, ⟨by simp [grM, fwN], .inr ⟨rfl, (show (7 : Nat) < 9 by decide)⟩, natV_ren _ _ _⟩, trivial⟩
  · intro y hy
    have hy' : y = 8 ∨ y = 5 ∨ y = 0 ∨ y = 1 ∨ y = 2 ∨ y = 4 ∨ y = 9 ∨ (y = 7 ∧ L1 ≠ []) := by
      cases L1 <;> simp [grM] at hy <;> simp <;> omega
    rcases hy' with rfl | rfl | rfl | rfl | rfl | rfl | rfl | ⟨rfl, hne⟩
    · exact .inr (.inl ⟨by omega, by omega, by decide, _, rfl, rfl⟩)
    · exact .inr (.inl ⟨by omega, by omega, by decide, _, rfl, rfl⟩)
    · exact .inr (.inr ⟨by omega, by omega, _, rfl⟩)
    · exact .inr (.inr ⟨by omega, by omega, _, rfl⟩)
    · exact .inr (.inr ⟨by omega, by omega, _, rfl⟩)
    · exact .inr (.inr ⟨by omega, by omega, _, rfl⟩)
    · exact .inl rfl
    · cases L1 with
      | nil => exact absurd rfl hne
      | cons a r => exact .inr (.inl ⟨by omega, by omega, by decide, _, rfl, rfl⟩)
  · intro s y o h
    have := lookM_mem h
    have : y ∈ [8, 5, 0, 1, 2, 4, 9] ∨ y = fwN s := by
      unfold fwM at this
      rw [List.map_append] at this
      rcases List.mem_append.1 this with k | k
      · exact .inl (by simpa using k)
      · exact .inr (grM_names k)
    intro e
    subst e
    rcases this with k | k
    · exact absurd k (by decide)
    · unfold fwN at k
      split at k <;> omega
  · refine ⟨fun s args ⟨t, h⟩ => ⟨trV t, h, fun _ => rfl⟩, fun s v ⟨t, h⟩ => ?_⟩
    cases h
    obtain ⟨bs, best⟩ := s
    have hWl : (fwL B t).length ≤ B.nk := lkL_len _ _
    obtain ⟨W, hW⟩ : ∃ W, fwL B t = W := ⟨_, rfl⟩
    have hA : fwA B [trV t] = W := (fwA_is hld t).trans hW
    rw [hW] at hWl
    replace hW : lkL (wrP B t) B.nk = W := hW
    repeat' (first | refine RT.nil ?_ | refine Tr.region ?_ | (refine RT.goK rfl rfl rfl rfl ?_; apply Nx.of; (first | exact S.alloc rfl)) | (refine RT.goK0 rfl rfl rfl ?_; apply Nx.of; (first | exact S.store rfl rfl rfl rfl rfl rfl)))
    refine ⟨rfl, _, _, _, rfl, rfl, ?_⟩
    have lowg : ∀ (M0 : List (Nat × Option AObj)), (∀ y ∈ M0.map (fun e => e.1), y < 13) → ∀ x o, lookM M0 x = some o → x < 13 := fun M0 h x o k => h x (lookM_mem k)
    have lowf : ∀ y ∈ (fwM B a1 a2 a3 (bs, best)).map (fun e => e.1), y < 13 := fun y hy => by
      have h14 : fwN (bs, best) < 12 := by unfold fwN; split <;> omega
      simp only [fwM, List.map_cons, List.map_append, List.mem_cons, List.mem_append, List.map_nil, List.not_mem_nil, or_false, List.cons_append, List.nil_append] at hy
      repeat (rcases hy with hy | hy; · omega)
      have := grM_names hy
      omega
    cases W with
    | nil =>
      repeat' (first | refine RT.nil ?_ | refine sq_n ?_ | refine Tr.seq ?_ | refine Tr.region ?_ | refine Tr.cond_d rfl (fun _ => ?_) (fun _ => ?_) | refine Tr.skip ?_ | refine Tr.block ?_ | refine blk_n ?_ | (refine RT.call rfl rfl rfl (hW ▸ lkW_at (p := 4) (y := 12) (t := t) ⟨h1, h2, h3, rfl, rfl, rfl, rfl, by decide, by decide⟩ (lowg _ (fun y hy => by simp only [List.map_cons, List.mem_cons] at hy; rcases hy with hy | hy | hy | hy | hy <;> first | omega | exact lowf y hy)) hnk hld (by decide) rfl _) rfl rfl (by decide) ?_) | (refine RT.call rfl rfl rfl (cmpLists_at (x := 13) (y := fwN (bs, best)) (z := 8) (q := best) (by omega) (by first | exact .inl rfl) (by cases best with | nil => exact .inl rfl | cons a r => cases bs <;> exact .inr rfl) ⟨_, rfl⟩ _ _) rfl rfl (Nat.le_refl _) ?_) | (refine RT.goK rfl rfl rfl rfl ?_; apply Nx.of; (first | exact S.move | exact S.assign | exact S.load1c rfl rfl rfl rfl | exact S.lss | exact S.makeFunc)) | (refine RT.goK0 rfl rfl rfl ?_; apply Nx.of; (first | exact S.store rfl rfl rfl rfl rfl rfl)))
      · refine ⟨rfl, ?_⟩
        exact fw_end (s' := (true, [])) (fwS_yes hA (by assumption)) (fw_wk h1 h2 h3 (s := (true, [])) (z := 13) (.inr ⟨rfl, rfl⟩) (by decide) (fun σ e5 e8 e9 => lpO_ren ⟨by show AV.ptr (σ 5) 0 = _; rw [e5], by show AV.ptr (σ 8) 0 = _; rw [e8], trivial⟩ e9) rfl rfl (fun h => absurd rfl h) rfl rfl rfl rfl rfl rfl)
      · refine ⟨rfl, ?_⟩
        exact fw_end (s' := (bs, best)) (fwS_no hA (by assumption)) (fw_wk h1 h2 h3 (s := (bs, best)) (z := fwN (bs, best)) (.inl ⟨rfl, by unfold fwN; split <;> omega⟩) (by decide) (fun σ e5 e8 e9 => lpO_ren ⟨by show AV.ptr (σ 5) 0 = _; rw [e5], by show AV.ptr (σ 8) 0 = _; rw [e8], trivial⟩ e9) rfl rfl (fun h => by cases best with | nil => exact absurd rfl h | cons a r => cases bs <;> rfl) rfl rfl rfl rfl rfl rfl)
    | cons a r =>
      repeat' (first | refine RT.nil ?_ | refine sq_n ?_ | refine Tr.seq ?_ | refine Tr.region ?_ | refine Tr.cond_d rfl (fun _ => ?_) (fun _ => ?_) | refine Tr.skip ?_ | refine Tr.block ?_ | refine blk_n ?_ | (refine RT.call rfl rfl rfl (hW ▸ lkW_at (p := 4) (y := 12) (t := t) ⟨h1, h2, h3, rfl, rfl, rfl, rfl, by decide, by decide⟩ (lowg _ (fun y hy => by simp only [List.map_cons, List.mem_cons] at hy; rcases hy with hy | hy | hy | hy | hy <;> first | omega | exact lowf y hy)) hnk hld (by decide) rfl _) rfl rfl (by decide) ?_) | (refine RT.call rfl rfl rfl (cmpLists_at (x := 13) (y := fwN (bs, best)) (z := 8) (q := best) (by omega) (by first | exact .inr rfl) (by cases best with | nil => exact .inl rfl | cons a r => cases bs <;> exact .inr rfl) ⟨_, rfl⟩ _ _) rfl rfl (Nat.le_refl _) ?_) | (refine RT.goK rfl rfl rfl rfl ?_; apply Nx.of; (first | exact S.move | exact S.assign | exact S.load1c rfl rfl rfl rfl | exact S.lss | exact S.makeFunc)) | (refine RT.goK0 rfl rfl rfl ?_; apply Nx.of; (first | exact S.store rfl rfl rfl rfl rfl rfl)))
      · refine ⟨rfl, ?_⟩
        exact fw_end (s' := (true, a :: r)) (fwS_yes hA (by assumption)) (fw_wk h1 h2 h3 (s := (true, a :: r)) (z := 13) (.inr ⟨rfl, rfl⟩) (by decide) (fun σ e5 e8 e9 => lpO_ren ⟨by show AV.ptr (σ 5) 0 = _; rw [e5], by show AV.ptr (σ 8) 0 = _; rw [e8], trivial⟩ e9) rfl rfl (fun _ => rfl) rfl rfl rfl rfl rfl rfl)
      · refine ⟨rfl, ?_⟩
        exact fw_end (s' := (bs, best)) (fwS_no hA (by assumption)) (fw_wk h1 h2 h3 (s := (bs, best)) (z := fwN (bs, best)) (.inl ⟨rfl, by unfold fwN; split <;> omega⟩) (by decide) (fun σ e5 e8 e9 => lpO_ren ⟨by show AV.ptr (σ 5) 0 = _; rw [e5], by show AV.ptr (σ 8) 0 = _; rw [e8], trivial⟩ e9) rfl rfl (fun h => by cases best with | nil => exact absurd rfl h | cons a r => cases bs <;> rfl) rfl rfl rfl rfl rfl rfl)
  · intro ρ0 lb h hY
    refine OkJ.mono (truths_z (z := 3) (by decide) (B := ncB B) ⟨h1, h2, rfl, rfl, rfl, rfl, rfl⟩ rfl (ncB_ok hB) hY (fun k s t hl => ⟨hl.1, t, rfl⟩) ?_ 5) ?_
    · exact ⟨rfl, trivial⟩
    rintro v m' s' ⟨⟨hv, hs⟩, hm⟩
    subst hm
    exact ⟨rfl, by rw [hs, foldC_rnd]⟩
  · rintro v m' s' ⟨rfl, _⟩
    rfl
  · rintro v m' s' j ⟨rfl, hs⟩
    obtain rfl : j = none := by
      have := foldS_all (fun s a => rfl) (allT (ncB B)) (false, L1) (stp := fwS B)
      rw [← hs] at this
      exact this
    show blk _ _ _ _
    repeat' (first | refine RT.nil ?_ | refine sq_n ?_ | refine Tr.seq ?_ | refine Tr.region ?_ | refine Tr.ret ?_ | refine blk_n ?_ | (refine RT.goK rfl rfl rfl rfl ?_; apply Nx.of; (first | exact S.assign | exact S.load1c rfl rfl rfl rfl)))
    refine rt_goD rfl rfl rfl ?_
    have hE : fwE B = s' := by
      unfold fwE
      rw [hL1, ← hs]
    rw [hE]
    refine ⟨rfl, rfl, fun h => ?_⟩
    obtain ⟨bs, best⟩ := s'
    cases best with
    | nil => exact absurd rfl h
    | cons a r => cases bs <;> exact getM rfl
end Go.Proofs.Ytpneoeoimdfjaaa

/- Package roll: Right, Wrong; books whose lists lie anywhere. -/
namespace Go.Proofs.Ytpneoeoimdfjaaa
open Go Go.Ev

theorem prepare_at {B : RBook} {a1 a2 a3 : AV} {m : List (Nat × Option AObj)} {c : Nat} (h : BkIn B a1 a2 a3 m c) (hm : ∀ x o, lookM m x = some o → x < c) (fl : Nat) : OkAt 0 Try.prog fl 47 [bk B a1 a2 a3] (ofM m) c (.ptr (c + 1) 0) (ofM ((c + 1, some (.cells (pbC B a1 a2 a3))) :: m)) (c + 2) := by
  let τ : Nat → Nat := fun y => if y < 3 then y else c + (y - 3)
  have hc := h.hc
  have t0 : τ 0 = 0 := rfl
  have t1 : τ 1 = 1 := rfl
  have t2 : τ 2 = 2 := rfl
  have t4 : τ 4 = c + 1 := rfl
  have ha : AV.rens τ [bk B a1 a2 a3] = [bk B a1 a2 a3] := by simp only [bk, AV.ren, AV.rens, h.h1.ren t0, h.h2.ren t1, h.h3.ren t2]
  have low : ∀ {u : Nat} {ob : AObj}, lookM [(0, some (oLa B)), (1, some (oDa B)), (2, some (oLo B))] u = some ob → u = 0 ∨ u = 1 ∨ u = 2 := fun {u ob} hu => by
    have := lookM_mem hu
    simpa using this
  rw [← ha]
  refine CanS.inst (prepare_can B a1 a2 a3 h.h1 h.h2 h.h3) (Nat.zero_le _) (Nat.le_refl _) τ (fun g hg => by omega) (fun y hy => by show (if y < 3 then y else _) < c; rw [if_pos hy]; omega) (fun y hy => by show (if y < 3 then y else _) = _; rw [if_neg (by omega)]) (fun y o hy => ?_) (fun x y o o' hx hy hxy => ?_) (fun y hy hy' => by omega) (fun v1 H1 c1 hq _ => ?_)
  · rcases low hy with rfl | rfl | rfl
    · cases hy; rw [t0, ren_ro]; exact getM h.m1
    · cases hy; rw [t1, ren_ro]; exact getM h.m2
    · cases hy; rw [t2, ren_ro]; exact getM h.m3
  · refine .inl ?_
    rcases low hx with rfl | rfl | rfl <;> rcases low hy with rfl | rfl | rfl <;> simp only [t0, t1, t2] <;> omega
  · obtain ⟨rfl, rfl, g1⟩ := hq
    refine ⟨by show AV.ptr (τ 4) 0 = _; rw [t4], by omega, fun x o hx => ?_⟩
    rw [ofM_get] at hx
    by_cases e1 : x = c + 1
    · subst e1
      rw [lookM_hd] at hx
      cases hx
      exact .inr ⟨4, _, by omega, g1, t4.symm, (pbc_ren h.h1 h.h2 h.h3 t0 t1 t2).symm⟩
    · rw [lookM_tl e1] at hx
      exact .inl ⟨hm x o hx, fun y hy hy' => by omega, getM hx⟩
/-- The looks that must be wrong, as they are told. -/
noncomputable def wrongL (B : RBook) : List Nat := (fwE B).2
theorem fewest_at {B : RBook} {a1 a2 a3 : AV} {p : Nat} {m : List (Nat × Option AObj)} {c : Nat} (h : PbIn B a1 a2 a3 p m c) (hz : lookM m 3 = some (oLo (ncB B))) (hc4 : 4 ≤ c) (hm : ∀ x o, lookM m x = some o → x < c) (hB : bkOk B) (fl : Nat) :
    OkAt 0 Try.prog fl 58 [.ptr p 0] (ofM m) c (fuV (c + (fwN (fwE B) - 5)) (wrongL B)) (ofM (grM (c + (fwN (fwE B) - 5)) (wrongL B) ++ m)) (c + 7) := by
  let τ : Nat → Nat := fun y => if y < 4 then y else if y = 4 then p else c + (y - 5)
  have hp := h.hp
  have t0 : τ 0 = 0 := rfl
  have t1 : τ 1 = 1 := rfl
  have t2 : τ 2 = 2 := rfl
  have t3 : τ 3 = 3 := rfl
  have t4 : τ 4 = p := rfl
  have hp0 : p ≠ 0 := fun e => by have := h.m4; rw [e, h.m1] at this; cases this
  have hp1 : p ≠ 1 := fun e => by have := h.m4; rw [e, h.m2] at this; cases this
  have hp2 : p ≠ 2 := fun e => by have := h.m4; rw [e, h.m3] at this; cases this
  have hp3 : p ≠ 3 := fun e => by have := h.m4; rw [e, hz] at this; cases this
  have ha : AV.rens τ [.ptr 4 0] = [.ptr p 0] := rfl
  have low : ∀ {u : Nat} {ob : AObj}, lookM [(0, some (oLa B)), (1, some (oDa B)), (2, some (oLo B)), (3, some (oLo (ncB B))), (4, some (.cells (pbC B a1 a2 a3)))] u = some ob → u = 0 ∨ u = 1 ∨ u = 2 ∨ u = 3 ∨ u = 4 := fun {u ob} hu => by
    have := lookM_mem hu
    simpa using this
  have hN : fwN (fwE B) = 7 ∨ fwN (fwE B) = 11 := by unfold fwN; split <;> simp
  rw [← ha]
  refine CanS.inst (fewest_can B a1 a2 a3 h.h1 h.h2 h.h3 hB) (Nat.zero_le _) (Nat.le_refl _) τ (fun g hg => by omega) (fun y hy => by simp only [τ]; (repeat' split) <;> omega) (fun y hy => by simp only [τ]; rw [if_neg (by omega), if_neg (by omega)]) (fun y o hy => ?_) (fun x y o o' hx hy hxy => ?_) (fun y hy hy' => by omega) (fun v1 H1 c1 hk _ => ?_)
  · rcases low hy with rfl | rfl | rfl | rfl | rfl
    · cases hy; rw [t0, ren_ro]; exact getM h.m1
    · cases hy; rw [t1, ren_ro]; exact getM h.m2
    · cases hy; rw [t2, ren_ro]; exact getM h.m3
    · cases hy; rw [t3, ren_ro]; exact getM hz
    · cases hy; rw [t4, pbc_ren h.h1 h.h2 h.h3 t0 t1 t2]; exact getM h.m4
  · refine .inl ?_
    rcases low hx with rfl | rfl | rfl | rfl | rfl <;> rcases low hy with rfl | rfl | rfl | rfl | rfl <;> simp only [t0, t1, t2, t3, t4] <;> omega
  · obtain ⟨rfl, rfl, g1⟩ := hk
    have tN : τ (fwN (fwE B)) = c + (fwN (fwE B) - 5) := by simp only [τ]; rw [if_neg (by omega), if_neg (by omega)]
    refine ⟨fu_ren τ tN _, by omega, fun x o hx => ?_⟩
    unfold wrongL at hx
    rw [ofM_get] at hx
    generalize (fwE B).2 = L at g1 hx
    cases L with
    | nil => exact .inl ⟨hm x o hx, fun y hy hy' => by omega, getM hx⟩
    | cons a r =>
      replace hx : lookM ((c + (fwN (fwE B) - 5), some (.grown (natV (a :: r)) 1)) :: m) x = some o := hx
      by_cases e1 : x = c + (fwN (fwE B) - 5)
      · subst e1
        rw [lookM_hd] at hx
        cases hx
        exact .inr ⟨fwN (fwE B), _, by omega, g1 (by simp), tN.symm, (natV_ren _ _ _).symm⟩
      · rw [lookM_tl e1] at hx
        exact .inl ⟨hm x o hx, fun y hy hy' => by omega, getM hx⟩
theorem nonempty_is {α : Type} (l : List α) : (!l.isEmpty) = dB (l ≠ []) := by
  cases l with
  | nil => rw [dB_ff fun q => q rfl]; rfl
  | cons a r => rw [dB_tt (by simp)]; rfl
set_option maxRecDepth 100000 in
set_option maxHeartbeats 4000000 in
theorem Right_can (B : RBook) (a1 a2 a3 : AV) (h1 : IsSl a1 B.nl 0) (h2 : IsSl a2 B.nd 1) (h3 : IsSl a3 B.nk 2) (hn : B.nd ≤ 9223372036854775807) : CanS 0 Try.prog 17 3 [bk B a1 a2 a3] [(0, some (oLa B)), (1, some (oDa B)), (2, some (oLo B))] 3 fun v _ _ => v = rtV B := by
  refine CanS.mk Try.func17 rfl rfl rfl ?_
  by_cases hB : bkOk B
  · have hk : AV.int .i64 (ckV B) = .int .i64 0 := by unfold ckV; rw [dB_tt hB]; rfl
    have he : rtV B = .tup [.bool (!(allT B).isEmpty), .int .i64 0] := by
      rw [nonempty_is]
      unfold rtV
      rw [dB_tt hB, if_pos rfl]
    rw [he]
    repeat' (first | refine RT.nil ?_ | refine sq_n ?_ | refine Tr.seq ?_ | refine Tr.region ?_ | refine Tr.cond_f rfl ?_ | refine Tr.skip ?_ | refine Tr.ret ?_ | (refine RT.call rfl rfl rfl (val_is hk (Check_at ⟨h1, h2, h3, rfl, rfl, rfl, by decide⟩ hn _)) rfl rfl (Nat.le_refl _) ?_) | (refine RT.call rfl rfl rfl (prepare_at ⟨h1, h2, h3, rfl, rfl, rfl, by decide⟩ (fun x o hx => by have := lookM_mem hx; simp at this; omega) _) rfl rfl (by decide) ?_) | (refine RT.call rfl rfl rfl (right_at (p := 5) ⟨h1, h2, h3, rfl, rfl, rfl, rfl, by decide, by decide⟩ hB _) rfl rfl (Nat.le_refl _) ?_) | (refine RT.goK rfl rfl rfl rfl ?_; apply Nx.of; (first | exact S.neq_f (by decide))) | (refine RT.goK rfl rfl rfl rfl ?_; apply Nx.of; (first | exact S.move | exact S.assign | exact S.loadNc rfl rfl rfl rfl | exact S.box)))
    (first | refine rt_go rfl ?_)
    rfl
  · have hk : AV.int .i64 (ckV B) = .int .i64 70 := by unfold ckV; rw [dB_ff hB]; rfl
    rw [rtV_no hB]
    repeat' (first | refine RT.nil ?_ | refine sq_n ?_ | refine Tr.seq ?_ | refine Tr.region ?_ | refine Tr.cond_t rfl ?_ | refine Tr.ret ?_ | refine sq_r ?_ | (refine RT.call rfl rfl rfl (val_is hk (Check_at ⟨h1, h2, h3, rfl, rfl, rfl, by decide⟩ hn _)) rfl rfl (Nat.le_refl _) ?_) | (refine RT.goK rfl rfl rfl rfl ?_; apply Nx.of; (first | exact S.neq_t (by decide))) | (refine RT.goK rfl rfl rfl rfl ?_; apply Nx.of; (first | exact S.move | exact S.assign | exact S.loadNc rfl rfl rfl rfl | exact S.box)))
    (first | refine rt_go rfl ?_)
    rfl
theorem Right_at {B : RBook} {a1 a2 a3 : AV} {m : List (Nat × Option AObj)} {c : Nat} (h : BkIn B a1 a2 a3 m c) (hn : B.nd ≤ 9223372036854775807) (fl : Nat) : OkAt 0 Try.prog fl 17 [bk B a1 a2 a3] (ofM m) c (rtV B) (ofM m) c :=
  (Right_can B a1 a2 a3 h.h1 h.h2 h.h3 hn).pure (rtV_pl B) (h.entry [] .nil) fl
set_option maxRecDepth 100000 in
set_option maxHeartbeats 4000000 in
theorem Wrong_no (B : RBook) (a1 a2 a3 : AV) (h1 : IsSl a1 B.nl 0) (h2 : IsSl a2 B.nd 1) (h3 : IsSl a3 B.nk 2) (hn : B.nd ≤ 9223372036854775807) (hB : ¬ bkOk B) : CanS 0 Try.prog 27 3 [bk B a1 a2 a3] [(0, some (oLa B)), (1, some (oDa B)), (2, some (oLo B))] 3 fun v _ _ => v = .tup [.nils, .int .i64 70] := by
  have hk : AV.int .i64 (ckV B) = .int .i64 70 := by unfold ckV; rw [dB_ff hB]; rfl
  refine CanS.mk Try.func27 rfl rfl rfl ?_
  repeat' (first | refine RT.nil ?_ | refine sq_n ?_ | refine Tr.seq ?_ | refine Tr.region ?_ | refine Tr.cond_t rfl ?_ | refine Tr.ret ?_ | refine sq_r ?_ | (refine RT.call rfl rfl rfl (val_is hk (Check_at ⟨h1, h2, h3, rfl, rfl, rfl, by decide⟩ hn _)) rfl rfl (Nat.le_refl _) ?_) | (refine RT.goK rfl rfl rfl rfl ?_; apply Nx.of; (first | exact S.neq_t (by decide))) | (refine RT.goK rfl rfl rfl rfl ?_; apply Nx.of; (first | exact S.move | exact S.assign | exact S.loadNc rfl rfl rfl rfl | exact S.box)))
  (first | refine rt_go rfl ?_)
  rfl
set_option maxRecDepth 100000 in
set_option maxHeartbeats 4000000 in
theorem Wrong_yes (B : RBook) (a1 a2 a3 : AV) (h1 : IsSl a1 B.nl 0) (h2 : IsSl a2 B.nd 1) (h3 : IsSl a3 B.nk 2) (hn : B.nd ≤ 9223372036854775807) (hB : bkOk B) : CanS 0 Try.prog 27 4 [bk B a1 a2 a3] [(0, some (oLa B)), (1, some (oDa B)), (2, some (oLo B)), (3, some (oLo (ncB B)))] 4 fun v H1 c1 => v = .tup [fuV (7 + (fwN (fwE B) - 5)) (wrongL B), .int .i64 0] ∧ c1 = 14 ∧ (wrongL B ≠ [] → H1.get (7 + (fwN (fwE B) - 5)) = some (.grown (natV (wrongL B)) 1)) := by
  have hk : AV.int .i64 (ckV B) = .int .i64 0 := by unfold ckV; rw [dB_tt hB]; rfl
  obtain ⟨X, hX⟩ : ∃ X, 7 + (fwN (fwE B) - 5) = X := ⟨_, rfl⟩
  obtain ⟨L, hL⟩ : ∃ L, wrongL B = L := ⟨_, rfl⟩
  have hfe := fun fl => fewest_at (B := B) (a1 := a1) (a2 := a2) (a3 := a3) (p := 6) (c := 7) (m := (6, some (.cells (pbC B a1 a2 a3))) :: (4, some (.cells (bk B a1 a2 a3).cells)) :: [(0, some (oLa B)), (1, some (oDa B)), (2, some (oLo B)), (3, some (oLo (ncB B)))]) ⟨h1, h2, h3, rfl, rfl, rfl, rfl, by decide, by decide⟩ rfl (by decide) (fun x o hx => by have := lookM_mem hx; simp at this; omega) hB fl
  rw [hX, hL] at hfe
  rw [hX, hL]
  refine CanS.mk Try.func27 rfl rfl rfl ?_
  repeat' (first | refine RT.nil ?_ | refine sq_n ?_ | refine Tr.seq ?_ | refine Tr.region ?_ | refine Tr.cond_f rfl ?_ | refine Tr.skip ?_ | refine Tr.ret ?_ | (refine RT.call rfl rfl rfl (val_is hk (Check_at ⟨h1, h2, h3, rfl, rfl, rfl, by decide⟩ hn _)) rfl rfl (Nat.le_refl _) ?_) | (refine RT.call rfl rfl rfl (prepare_at ⟨h1, h2, h3, rfl, rfl, rfl, by decide⟩ (fun x o hx => by have := lookM_mem hx; simp at this; omega) _) rfl rfl (by decide) ?_) | (refine RT.call rfl rfl rfl (hfe _) rfl rfl (by decide) ?_) | (refine RT.goK rfl rfl rfl rfl ?_; apply Nx.of; (first | exact S.neq_f (by decide))) | (refine RT.goK rfl rfl rfl rfl ?_; apply Nx.of; (first | exact S.move | exact S.assign | exact S.loadNc rfl rfl rfl rfl | exact S.box)))
  (first | refine rt_go rfl ?_)
  refine ⟨rfl, rfl, fun h => ?_⟩
  cases L with
  | nil => exact absurd rfl h
  | cons a r => exact getM lookM_hd

/-- A book whose lists lie anywhere in memory. -/
structure BkX (B : RBook) (v1 v2 v3 : AV) (m : List (Nat × Option AObj)) (c : Nat) : Prop where
  ex : ∃ (W : List Wnd) (a1 a2 a3 : AV), W.length = 3 ∧ winOk (ofM m) W [flat (laE B) (List.range B.nl), flat (daE B) (List.range B.nd), flat (loE B) (List.range B.nk)] ∧ ArgW W v1 a1 ∧ ArgW W v2 a2 ∧ ArgW W v3 a3 ∧ IsSl a1 B.nl 0 ∧ IsSl a2 B.nd 1 ∧ IsSl a3 B.nk 2
/-- One list, where it lies. -/
abbrev LiesAt (m : List (Nat × Option AObj)) (v : AV) (n x : Nat) (cs : List AV) : Prop := IsSl v n x ∧ ∃ o, lookM m x = some o ∧ (cs = [] ∨ cellsOf o = some cs)
theorem BkX.of {B : RBook} {v1 v2 v3 : AV} {m : List (Nat × Option AObj)} {c x1 x2 x3 : Nat} (h1 : LiesAt m v1 B.nl x1 (flat (laE B) (List.range B.nl))) (h2 : LiesAt m v2 B.nd x2 (flat (daE B) (List.range B.nd))) (h3 : LiesAt m v3 B.nk x3 (flat (loE B) (List.range B.nk))) : BkX B v1 v2 v3 m c := by
  obtain ⟨i1, o1, g1, k1⟩ := h1
  obtain ⟨i2, o2, g2, k2⟩ := h2
  obtain ⟨i3, o3, g3, k3⟩ := h3
  have arg : ∀ {v : AV} {n x y : Nat}, IsSl v n x → [((x1, 0, none) : Wnd), (x2, 0, none), (x3, 0, none)][y]? = some (x, 0, none) → ∃ a, ArgW [(x1, 0, none), (x2, 0, none), (x3, 0, none)] v a ∧ IsSl a n y := fun {v n x y} hi hy => by
    rcases hi with rfl | ⟨rfl, rfl⟩
    · exact ⟨.gs y n, .gs hy, .gs y n⟩
    · exact ⟨.nils, .pl Pl.nils, .nils y⟩
  obtain ⟨a1, b1, d1⟩ := arg (y := 0) i1 rfl
  obtain ⟨a2, b2, d2⟩ := arg (y := 1) i2 rfl
  obtain ⟨a3, b3, d3⟩ := arg (y := 2) i3 rfl
  have win : ∀ {o : AObj} {cs : List AV}, (cs = [] ∨ cellsOf o = some cs) → cs = [] ∨ ∃ ca, cellsOf o = some ca ∧ cut ca 0 cs.length = some cs := fun {o cs} h => h.imp id fun h => ⟨cs, h, cut_all rfl⟩
  exact ⟨[(x1, 0, none), (x2, 0, none), (x3, 0, none)], a1, a2, a3, rfl, ⟨⟨o1, getM g1, win k1⟩, pls_flat _ _, ⟨o2, getM g2, win k2⟩, pls_flat _ _, ⟨o3, getM g3, win k3⟩, pls_flat _ _, trivial⟩, b1, b2, b3, d1, d2, d3⟩
theorem BkX.use {B : RBook} {v1 v2 v3 : AV} {m : List (Nat × Option AObj)} {c f : Nat} (h : BkX B v1 v2 v3 m c) (vs : List AV) (hv : Pls vs) {v : AV} (hp : Pl v) (k : ∀ a1 a2 a3, IsSl a1 B.nl 0 → IsSl a2 B.nd 1 → IsSl a3 B.nk 2 → CanS 0 Try.prog f 3 (bk B a1 a2 a3 :: vs) [(0, some (oLa B)), (1, some (oDa B)), (2, some (oLo B))] 3 fun u _ _ => u = v) (fl : Nat) : OkAt 0 Try.prog fl f (bk B v1 v2 v3 :: vs) (ofM m) c v (ofM m) c := by
  obtain ⟨W, a1, a2, a3, hl, hw, g1, g2, g3, i1, i2, i3⟩ := h.ex
  have he : ArgsW W (bk B v1 v2 v3 :: vs) (bk B a1 a2 a3 :: vs) := ⟨ArgW.agg (show ArgsW W [v1, v2, v3] [a1, a2, a3] from ⟨g1, g2, g3, trivial⟩), .pls hv⟩
  exact (k a1 a2 a3 i1 i2 i3).pure hp (Entry.win (CS := [flat (laE B) (List.range B.nl), flat (daE B) (List.range B.nd), flat (loE B) (List.range B.nk)]) hl hw he) fl
theorem Right_x {B : RBook} {v1 v2 v3 : AV} {m : List (Nat × Option AObj)} {c : Nat} (h : BkX B v1 v2 v3 m c) (hn : B.nd ≤ 9223372036854775807) (fl : Nat) : OkAt 0 Try.prog fl 17 [bk B v1 v2 v3] (ofM m) c (rtV B) (ofM m) c := h.use [] .nil (rtV_pl B) (fun a1 a2 a3 i1 i2 i3 => Right_can B a1 a2 a3 i1 i2 i3 hn) fl
end Go.Proofs.Ytpneoeoimdfjaaa

/- One number more, to an empty list that was just made. -/
namespace Go.Ev
open Go

section
variable {P : Program} {fl c : Nat} {m : List (Nat × Option AObj)} {y y' z : Ty} {t t' : Nat} {x1 x2 : Operand}
/-- One element more, to an empty list that was just made. -/
theorem S.append_e1I [Tab P] {ats : Array Nat} {x w : Nat} {news : List AV} (hat : ats.toList = [t, t']) (ht : ty P t = some y) (hk : y.kind = 5) (ht' : ty P t' = some y') (hk' : y'.kind = 5) (hz : ty P y.elem = some z) (hzk : z.kind = 0) (hzz : (Nat.beq z.zero.cells.length z.size && Nat.ble 1 z.size) = true)
    (hb : Nat.ble z.bytes 10000 = true) (hx : lookM m x = some (.cells [])) (ho : lookM m w = some (.cells news)) (hc : cut news 0 (1 * z.size) = some news) : OpE P fl (.call ⟨.builtin .append, #[x1, x2], ats⟩) [.sl x 0 0 0, .sl w 0 1 1] m c (.gs c 1) ((c, some (.grown news z.size)) :: m) (c + 1) := by
  obtain ⟨i, h1, h2, h3⟩ := info_sz hz
  have hb' : z.bytes ≤ 10000 := Nat.le_of_ble_eq_true hb
  have hbb : (Nat.ble ((2 * (0 + 1) + 1000) * i.bytes) (2 ^ 48) && Nat.ble (0 + 1) (2 ^ 62)) = true := by
    rw [h2]
    simp only [Bool.and_eq_true, Nat.ble_eq]
    omega
  have hcut0 : cut ([] : List AV) 0 (0 * i.size) = some [] := by rw [Nat.zero_mul]; rfl
  refine ⟨rfl, Nat.le_succ _, ?_⟩
  show opA P (ofM m) c fl _ _ = _
  simp only [opA, oCall, builtinA, hat, appendA, ty_slice ht hk, ty_slice ht' hk', h1, rowT hz hzz, sliceCells, getCells, ofM_get, hx, ho, cellsOf, Option.bind_some, h3, hc, hcut0, Option.map_some, show Nat.beq 1 0 = false from rfl, cond_false, hbb, cond_true, keptI hz hzk, growA, show Nat.ble (0 + 1) 0 = false from rfl, List.nil_append]
  have hcut1 : cut ([] : List AV) 0 (0 * z.size) = some [] := by rw [Nat.zero_mul]; rfl
  simp only [hcut1, Option.map_some, List.nil_append, show Nat.beq 1 0 = false from rfl, cond_false, hbb, cond_true, show Nat.ble (0 + 1) 0 = false from rfl]
  rfl
end
end Go.Ev

/- A call that writes nothing of what was, and leaves new names: from what it looks at. -/
set_option linter.unusedVariables false
namespace Go.Ev
open Go

section
variable {G : Nat} {P : Program} {c k : Nat}

/-- A call that leaves new names alone: its own are counted from where it began. -/
theorem CanS.fresh {f : Nat} {args args0 : List AV} {m0 : List (Nat × Option AObj)} {c0 : Nat} {Qf : AV → T AObj → Nat → Prop} {H H' : T AObj} {v0 : AV} (h : CanS G P f c0 args0 m0 c0 Qf) (he : Entry G H c args m0 c0 args0)
    (hout : ∀ v1 H1 c1, Qf v1 H1 c1 → v1 = v0.ren (fun y => c0 + y) ∧ c1 = c0 + k ∧ ∀ x o, H'.get x = some o → (x < c ∧ H.get x = some o) ∨ ∃ (y : Nat) (o0 : AObj), x = c + y ∧ H1.get (c0 + y) = some (o0.ren fun y => c0 + y) ∧ o = o0.ren fun y => c + y) (fl : Nat) :
    OkAt G P fl f args H c (v0.ren fun y => c + y) H' (c + k) := by
  refine ⟨h.1, fun ρ w us hH hargs r n => ?_⟩
  obtain ⟨ρ0, h0, ha⟩ := he ρ w us hH hargs
  refine (h.2 ρ0 w us h0 ha r n).mono ?_
  rintro e w' ⟨u, v1, H1, c1, ρ1, rfl, hq, h3, h4, h5, h6, h7⟩
  obtain ⟨rfl, rfl, ho⟩ := hout v1 H1 c1 hq
  have hlow : ∀ x p, ρ x = some p → x < c := fun x p hp => by
    rcases Nat.lt_or_ge x c with h | h
    · exact h
    · rw [hH.fresh x h] at hp; cases hp
  have hk : ∀ b, b < w.heap.size → w'.heap[b]? = w.heap[b]? := fun b hb => h7.keep b hb fun x p hx hp => by rw [h0.fresh x hx] at hp; cases hp
  -- new names speak of new blocks
  have hnew : ∀ y q, c0 ≤ y → ρ1 y = some q → w.heap.size ≤ q.b := fun y q hy hq => by
    rcases h6.2 y q hy hq with h | ⟨z, t, hz, ht, hzb⟩
    · exact h
    · rw [h0.fresh z hz] at ht; cases ht
  have hval : ∀ y, (fun x => if x < c then ρ x else ρ1 (c0 + (x - c))) (c + y) = ρ1 (c0 + y) := fun y => by
    show (if c + y < c then ρ (c + y) else ρ1 (c0 + (c + y - c))) = _
    rw [if_neg (by omega), show c0 + (c + y - c) = c0 + y by omega]
  have hcomp : (fun y => (fun x => if x < c then ρ x else ρ1 (c0 + (x - c))) (c + y)) = fun y => ρ1 (c0 + y) := funext hval
  have hle : RLe ρ (fun x => if x < c then ρ x else ρ1 (c0 + (x - c))) := fun x p hp => by
    show (if x < c then ρ x else _) = _
    rw [if_pos (hlow x p hp)]; exact hp
  refine ⟨u, rfl, fun x => if x < c then ρ x else ρ1 (c0 + (x - c)), ?_, ⟨?_, ?_, ?_, ?_, ?_⟩, ⟨hle, ?_, ?_, by omega⟩, ⟨h7.os, h7.tape, h7.output, h7.size, fun b hb _ => hk b hb⟩⟩
  · rw [VR_ren, hcomp]
    exact (VR_ren _ _ _ _).1 h3
  · intro x o hx
    rcases ho x o hx with ⟨hxc, hxo⟩ | ⟨y, o0, rfl, hy1, rfl⟩
    · obtain ⟨p, hp, hob⟩ := hH.obj x o hxo
      exact ⟨p, hle x p hp, (hob.mono hle).world (hk p.b (hH.lt x p hp))⟩
    · obtain ⟨p, hp, hob⟩ := h4.obj _ _ hy1
      refine ⟨p, (hval y).trans hp, ?_⟩
      rw [ObjR_ren, hcomp]
      exact (ObjR_ren _ _ _ _ _).1 hob
  · intro x x' o o' p q hxx hx hx' hp hq hb
    have cross : ∀ x o p y q, H.get x = some o → ρ x = some p → ρ1 (c0 + y) = some q → p.b ≠ q.b := fun x o p y q hx hp hq hb => by
      have h1 := hH.lt x p hp
      have h2 := hnew _ q (by omega) hq
      omega
    rcases ho x o hx with ⟨hxc, hxo⟩ | ⟨y, o0, rfl, hy1, rfl⟩
    · replace hp : (if x < c then ρ x else ρ1 (c0 + (x - c))) = some p := hp
      rw [if_pos hxc] at hp
      rcases ho x' o' hx' with ⟨hxc', hxo'⟩ | ⟨y', o0', rfl, hy1', rfl⟩
      · replace hq : (if x' < c then ρ x' else ρ1 (c0 + (x' - c))) = some q := hq
        rw [if_pos hxc'] at hq
        exact hH.sep x x' o o' p q hxx hxo hxo' hp hq hb
      · exact absurd hb (cross x o p y' q hxo hp ((hval y').symm.trans hq))
    · rcases ho x' o' hx' with ⟨hxc', hxo'⟩ | ⟨y', o0', rfl, hy1', rfl⟩
      · replace hq : (if x' < c then ρ x' else ρ1 (c0 + (x' - c))) = some q := hq
        rw [if_pos hxc'] at hq
        exact absurd hb.symm (cross x' o' q y p hxo' hq ((hval y).symm.trans hp))
      · have g := h4.sep (c0 + y) (c0 + y') _ _ p q (fun e => hxx (by omega)) hy1 hy1' ((hval y).symm.trans hp) ((hval y').symm.trans hq) hb
        exact g.congr (by rw [AObj.ren_share, AObj.ren_share]) (by rw [AObj.ren_share, AObj.ren_share])
  · intro x hx
    show (if x < c then ρ x else ρ1 (c0 + (x - c))) = none
    rw [if_neg (by omega)]
    exact h4.fresh _ (by omega)
  · intro x p hp
    replace hp : (if x < c then ρ x else ρ1 (c0 + (x - c))) = some p := hp
    split at hp
    · exact Nat.lt_of_lt_of_le (hH.lt x p hp) h7.size
    · exact h4.lt _ p hp
  · intro g hg
    obtain ⟨j, hj⟩ := hH.glob g hg
    exact ⟨j, hle g _ hj⟩
  · intro x p hx hp
    replace hp : (if x < c then ρ x else ρ1 (c0 + (x - c))) = some p := hp
    split at hp
    · rw [hx] at hp; cases hp
    · exact .inl (hnew _ p (by omega) hp)
  · intro x p hx hp
    replace hp : (if x < c then ρ x else ρ1 (c0 + (x - c))) = some p := hp
    split at hp
    · rw [hx] at hp; cases hp
    · omega

/-- The same, where the first names are the caller's own. -/
theorem CanS.freshD (d : Nat) {f : Nat} {args args0 : List AV} {m0 : List (Nat × Option AObj)} {c0 : Nat} {Qf : AV → T AObj → Nat → Prop} {H H' : T AObj} {v0 : AV} (h : CanS G P f c0 args0 m0 c0 Qf) (hdc : d ≤ c) (hd0 : d ≤ c0) (he : ∀ ρ w us, Holds G ρ H c w → VRs ρ args us → ∃ ρ0, Holds G ρ0 (ofM m0) c0 w ∧ VRs ρ0 args0 us ∧ ∀ y, y < d → ρ0 y = ρ y)
    (hout : ∀ v1 H1 c1, Qf v1 H1 c1 → v1 = v0.ren (fun y => if y < d then y else c0 + (y - d)) ∧ c1 = c0 + k ∧ ∀ x o, H'.get x = some o → (x < c ∧ H.get x = some o) ∨ ∃ (y : Nat) (o0 : AObj), x = c + y ∧ H1.get (c0 + y) = some (o0.ren fun y => c0 + y) ∧ o = o0.ren fun y => c + y) (fl : Nat) :
    OkAt G P fl f args H c (v0.ren fun y => if y < d then y else c + (y - d)) H' (c + k) := by
  refine ⟨h.1, fun ρ w us hH hargs r n => ?_⟩
  obtain ⟨ρ0, h0, ha, hsame⟩ := he ρ w us hH hargs
  refine (h.2 ρ0 w us h0 ha r n).mono ?_
  rintro e w' ⟨u, v1, H1, c1, ρ1, rfl, hq, h3, h4, h5, h6, h7⟩
  obtain ⟨rfl, rfl, ho⟩ := hout v1 H1 c1 hq
  have hlow : ∀ x p, ρ x = some p → x < c := fun x p hp => by
    rcases Nat.lt_or_ge x c with h | h
    · exact h
    · rw [hH.fresh x h] at hp; cases hp
  have hk : ∀ b, b < w.heap.size → w'.heap[b]? = w.heap[b]? := fun b hb => h7.keep b hb fun x p hx hp => by rw [h0.fresh x hx] at hp; cases hp
  -- new names speak of new blocks
  have hnew : ∀ y q, c0 ≤ y → ρ1 y = some q → w.heap.size ≤ q.b := fun y q hy hq => by
    rcases h6.2 y q hy hq with h | ⟨z, t, hz, ht, hzb⟩
    · exact h
    · rw [h0.fresh z hz] at ht; cases ht
  have hval : ∀ y, (fun x => if x < c then ρ x else ρ1 (c0 + (x - c))) (c + y) = ρ1 (c0 + y) := fun y => by
    show (if c + y < c then ρ (c + y) else ρ1 (c0 + (c + y - c))) = _
    rw [if_neg (by omega), show c0 + (c + y - c) = c0 + y by omega]
  have hcomp : (fun y => (fun x => if x < c then ρ x else ρ1 (c0 + (x - c))) (c + y)) = fun y => ρ1 (c0 + y) := funext hval
  have hle : RLe ρ (fun x => if x < c then ρ x else ρ1 (c0 + (x - c))) := fun x p hp => by
    show (if x < c then ρ x else _) = _
    rw [if_pos (hlow x p hp)]; exact hp
  refine ⟨u, rfl, fun x => if x < c then ρ x else ρ1 (c0 + (x - c)), ?_, ⟨?_, ?_, ?_, ?_, ?_⟩, ⟨hle, ?_, ?_, by omega⟩, ⟨h7.os, h7.tape, h7.output, h7.size, fun b hb _ => hk b hb⟩⟩
  · have hcomp2 : (fun y => (fun x => if x < c then ρ x else ρ1 (c0 + (x - c))) (if y < d then y else c + (y - d))) = fun y => ρ1 (if y < d then y else c0 + (y - d)) := by
      funext y
      by_cases hy : y < d
      · rw [if_pos hy, if_pos hy]
        show (if y < c then ρ y else ρ1 (c0 + (y - c))) = ρ1 y
        rw [if_pos (by omega), h6.1 y (by omega), hsame y hy]
      · rw [if_neg hy, if_neg hy]
        exact hval (y - d)
    rw [VR_ren, hcomp2]
    exact (VR_ren _ _ _ _).1 h3
  · intro x o hx
    rcases ho x o hx with ⟨hxc, hxo⟩ | ⟨y, o0, rfl, hy1, rfl⟩
    · obtain ⟨p, hp, hob⟩ := hH.obj x o hxo
      exact ⟨p, hle x p hp, (hob.mono hle).world (hk p.b (hH.lt x p hp))⟩
    · obtain ⟨p, hp, hob⟩ := h4.obj _ _ hy1
      refine ⟨p, (hval y).trans hp, ?_⟩
      rw [ObjR_ren, hcomp]
      exact (ObjR_ren _ _ _ _ _).1 hob
  · intro x x' o o' p q hxx hx hx' hp hq hb
    have cross : ∀ x o p y q, H.get x = some o → ρ x = some p → ρ1 (c0 + y) = some q → p.b ≠ q.b := fun x o p y q hx hp hq hb => by
      have h1 := hH.lt x p hp
      have h2 := hnew _ q (by omega) hq
      omega
    rcases ho x o hx with ⟨hxc, hxo⟩ | ⟨y, o0, rfl, hy1, rfl⟩
    · replace hp : (if x < c then ρ x else ρ1 (c0 + (x - c))) = some p := hp
      rw [if_pos hxc] at hp
      rcases ho x' o' hx' with ⟨hxc', hxo'⟩ | ⟨y', o0', rfl, hy1', rfl⟩
      · replace hq : (if x' < c then ρ x' else ρ1 (c0 + (x' - c))) = some q := hq
        rw [if_pos hxc'] at hq
        exact hH.sep x x' o o' p q hxx hxo hxo' hp hq hb
      · exact absurd hb (cross x o p y' q hxo hp ((hval y').symm.trans hq))
    · rcases ho x' o' hx' with ⟨hxc', hxo'⟩ | ⟨y', o0', rfl, hy1', rfl⟩
      · replace hq : (if x' < c then ρ x' else ρ1 (c0 + (x' - c))) = some q := hq
        rw [if_pos hxc'] at hq
        exact absurd hb.symm (cross x' o' q y p hxo' hq ((hval y).symm.trans hp))
      · have g := h4.sep (c0 + y) (c0 + y') _ _ p q (fun e => hxx (by omega)) hy1 hy1' ((hval y).symm.trans hp) ((hval y').symm.trans hq) hb
        exact g.congr (by rw [AObj.ren_share, AObj.ren_share]) (by rw [AObj.ren_share, AObj.ren_share])
  · intro x hx
    show (if x < c then ρ x else ρ1 (c0 + (x - c))) = none
    rw [if_neg (by omega)]
    exact h4.fresh _ (by omega)
  · intro x p hp
    replace hp : (if x < c then ρ x else ρ1 (c0 + (x - c))) = some p := hp
    split at hp
    · exact Nat.lt_of_lt_of_le (hH.lt x p hp) h7.size
    · exact h4.lt _ p hp
  · intro g hg
    obtain ⟨j, hj⟩ := hH.glob g hg
    exact ⟨j, hle g _ hj⟩
  · intro x p hx hp
    replace hp : (if x < c then ρ x else ρ1 (c0 + (x - c))) = some p := hp
    split at hp
    · rw [hx] at hp; cases hp
    · exact .inl (hnew _ p (by omega) hp)
  · intro x p hx hp
    replace hp : (if x < c then ρ x else ρ1 (c0 + (x - c))) = some p := hp
    split at hp
    · rw [hx] at hp; cases hp
    · omega

/-- The same; the new names are put in another order. -/
theorem CanS.freshT (t : Nat → Nat) {f : Nat} {args args0 : List AV} {m0 : List (Nat × Option AObj)} {c0 : Nat} {Qf : AV → T AObj → Nat → Prop} {H H' : T AObj} {v0 : AV} (h : CanS G P f c0 args0 m0 c0 Qf) (ht1 : ∀ j, k ≤ j → k ≤ t j) (ht2 : ∀ i j, t i = t j → i = j) (he : Entry G H c args m0 c0 args0)
    (hout : ∀ v1 H1 c1, Qf v1 H1 c1 → v1 = v0.ren (fun y => c0 + t y) ∧ c1 = c0 + k ∧ ∀ x o, H'.get x = some o → (x < c ∧ H.get x = some o) ∨ ∃ (y : Nat) (o0 : AObj), x = c + y ∧ H1.get (c0 + t y) = some (o0.ren fun y => c0 + t y) ∧ o = o0.ren fun y => c + y) (fl : Nat) :
    OkAt G P fl f args H c (v0.ren fun y => c + y) H' (c + k) := by
  refine ⟨h.1, fun ρ w us hH hargs r n => ?_⟩
  obtain ⟨ρ0, h0, ha⟩ := he ρ w us hH hargs
  refine (h.2 ρ0 w us h0 ha r n).mono ?_
  rintro e w' ⟨u, v1, H1, c1, ρ1, rfl, hq, h3, h4, h5, h6, h7⟩
  obtain ⟨rfl, rfl, ho⟩ := hout v1 H1 c1 hq
  have hlow : ∀ x p, ρ x = some p → x < c := fun x p hp => by
    rcases Nat.lt_or_ge x c with h | h
    · exact h
    · rw [hH.fresh x h] at hp; cases hp
  have hk : ∀ b, b < w.heap.size → w'.heap[b]? = w.heap[b]? := fun b hb => h7.keep b hb fun x p hx hp => by rw [h0.fresh x hx] at hp; cases hp
  -- new names speak of new blocks
  have hnew : ∀ y q, c0 ≤ y → ρ1 y = some q → w.heap.size ≤ q.b := fun y q hy hq => by
    rcases h6.2 y q hy hq with h | ⟨z, t, hz, ht, hzb⟩
    · exact h
    · rw [h0.fresh z hz] at ht; cases ht
  have hval : ∀ y, (fun x => if x < c then ρ x else ρ1 (c0 + t (x - c))) (c + y) = ρ1 (c0 + t y) := fun y => by
    show (if c + y < c then ρ (c + y) else ρ1 (c0 + t (c + y - c))) = _
    rw [if_neg (by omega), show c + y - c = y by omega]
  have hcomp : (fun y => (fun x => if x < c then ρ x else ρ1 (c0 + t (x - c))) (c + y)) = fun y => ρ1 (c0 + t y) := funext hval
  have hle : RLe ρ (fun x => if x < c then ρ x else ρ1 (c0 + t (x - c))) := fun x p hp => by
    show (if x < c then ρ x else _) = _
    rw [if_pos (hlow x p hp)]; exact hp
  refine ⟨u, rfl, fun x => if x < c then ρ x else ρ1 (c0 + t (x - c)), ?_, ⟨?_, ?_, ?_, ?_, ?_⟩, ⟨hle, ?_, ?_, by omega⟩, ⟨h7.os, h7.tape, h7.output, h7.size, fun b hb _ => hk b hb⟩⟩
  · rw [VR_ren, hcomp]
    exact (VR_ren _ _ _ _).1 h3
  · intro x o hx
    rcases ho x o hx with ⟨hxc, hxo⟩ | ⟨y, o0, rfl, hy1, rfl⟩
    · obtain ⟨p, hp, hob⟩ := hH.obj x o hxo
      exact ⟨p, hle x p hp, (hob.mono hle).world (hk p.b (hH.lt x p hp))⟩
    · obtain ⟨p, hp, hob⟩ := h4.obj _ _ hy1
      refine ⟨p, (hval y).trans hp, ?_⟩
      rw [ObjR_ren, hcomp]
      exact (ObjR_ren _ _ _ _ _).1 hob
  · intro x x' o o' p q hxx hx hx' hp hq hb
    have cross : ∀ x o p y q, H.get x = some o → ρ x = some p → ρ1 (c0 + t y) = some q → p.b ≠ q.b := fun x o p y q hx hp hq hb => by
      have h1 := hH.lt x p hp
      have h2 := hnew _ q (by omega) hq
      omega
    rcases ho x o hx with ⟨hxc, hxo⟩ | ⟨y, o0, rfl, hy1, rfl⟩
    · replace hp : (if x < c then ρ x else ρ1 (c0 + t (x - c))) = some p := hp
      rw [if_pos hxc] at hp
      rcases ho x' o' hx' with ⟨hxc', hxo'⟩ | ⟨y', o0', rfl, hy1', rfl⟩
      · replace hq : (if x' < c then ρ x' else ρ1 (c0 + t (x' - c))) = some q := hq
        rw [if_pos hxc'] at hq
        exact hH.sep x x' o o' p q hxx hxo hxo' hp hq hb
      · exact absurd hb (cross x o p y' q hxo hp ((hval y').symm.trans hq))
    · rcases ho x' o' hx' with ⟨hxc', hxo'⟩ | ⟨y', o0', rfl, hy1', rfl⟩
      · replace hq : (if x' < c then ρ x' else ρ1 (c0 + t (x' - c))) = some q := hq
        rw [if_pos hxc'] at hq
        exact absurd hb.symm (cross x' o' q y p hxo' hq ((hval y).symm.trans hp))
      · have g := h4.sep (c0 + t y) (c0 + t y') _ _ p q (fun e => hxx (by rw [ht2 y y' (by omega)])) hy1 hy1' ((hval y).symm.trans hp) ((hval y').symm.trans hq) hb
        exact g.congr (by rw [AObj.ren_share, AObj.ren_share]) (by rw [AObj.ren_share, AObj.ren_share])
  · intro x hx
    show (if x < c then ρ x else ρ1 (c0 + t (x - c))) = none
    rw [if_neg (by omega)]
    have := ht1 (x - c) (by omega)
    exact h4.fresh _ (by omega)
  · intro x p hp
    replace hp : (if x < c then ρ x else ρ1 (c0 + t (x - c))) = some p := hp
    split at hp
    · exact Nat.lt_of_lt_of_le (hH.lt x p hp) h7.size
    · exact h4.lt _ p hp
  · intro g hg
    obtain ⟨j, hj⟩ := hH.glob g hg
    exact ⟨j, hle g _ hj⟩
  · intro x p hx hp
    replace hp : (if x < c then ρ x else ρ1 (c0 + t (x - c))) = some p := hp
    split at hp
    · rw [hx] at hp; cases hp
    · exact .inl (hnew _ p (by omega) hp)
  · intro x p hx hp
    replace hp : (if x < c then ρ x else ρ1 (c0 + t (x - c))) = some p := hp
    split at hp
    · rw [hx] at hp; cases hp
    · omega


theorem Entry.windows {H : T AObj} {c : Nat} {args args0 : List AV} {W : List Wnd} {CS : List (List AV)} (hl : W.length = CS.length) (hw : winOk H W CS) (ha : ArgsW W args args0) : ∀ ρ w us, Holds 0 ρ H c w → VRs ρ args us → Holds 0 (winR ρ W) (ofM (winM CS 0)) CS.length w ∧ VRs (winR ρ W) args0 us := by
  intro ρ w us hH hv
  have hf : ∃ x, ρ x = none := ⟨c, hH.fresh c (Nat.le_refl _)⟩
  refine ⟨⟨fun y o hy => ?_, fun x y o o' p q hxy hx hy hp hq hb => ?_, fun x hx => ?_, fun x p hp => ?_, fun g hg => by omega⟩, ha.vrs hf hv⟩
  · rw [ofM_get] at hy
    obtain ⟨j, cs, rfl, hj, rfl⟩ := winM_look hy
    obtain ⟨x, off, cp, h1, ⟨o, h2, h3⟩, h4⟩ := winOk_at hw hj
    obtain ⟨p, hp, _⟩ := hH.obj x o h2
    refine ⟨⟨p.b, p.o + off, cp.getD p.k⟩, by simp [winR, h1, hp], ?_⟩
    rcases h3 with rfl | ⟨ca, h5, h6⟩
    · exact ⟨[], by simp only [VRs], fun j u hj => by simp at hj⟩
    · obtain ⟨us', g1, g2⟩ := hH.read h2 h5 hp
      obtain ⟨g3, _, _⟩ := g1.cut h6
      refine ⟨_, h4.vrs hf g3, fun i u hi => ?_⟩
      have : us'[off + i]? = some u := by
        rw [List.getElem?_take] at hi
        split at hi
        · rwa [List.getElem?_drop] at hi
        · cases hi
      have := g2 (off + i) u this
      rwa [show p.o + off + i = p.o + (off + i) by omega]
  · rw [ofM_get] at hx hy
    obtain ⟨_, _, _, _, rfl⟩ := winM_look hx
    obtain ⟨_, _, _, _, rfl⟩ := winM_look hy
    simp [Apart, AObj.share]
  · simp only [winR, List.getElem?_eq_none_iff.2 (show W.length ≤ x by omega)]
  · simp only [winR] at hp
    split at hp
    · rw [Option.map_eq_some_iff] at hp
      obtain ⟨p', h1, rfl⟩ := hp
      exact hH.lt _ p' h1
    · cases hp
theorem winR_id {ρ : Rho} {W : List Wnd} {y : Nat} (h : W[y]? = some (y, 0, none)) : winR ρ W y = ρ y := by
  have e : winR ρ W y = (ρ y).map fun p => ⟨p.b, p.o + 0, (none : Option Nat).getD p.k⟩ := by
    unfold winR
    rw [h]
  rw [e]
  cases ρ y <;> rfl
end
end Go.Ev
