/- Texts of one kind, one behind the other: SyFr, Dk, Dl, Dm, Dn, SyOj, Do, Dp, Du, Dq, Dr, Ds, Dt, Dv, SyFu, Ea, Eb, Ec, Ed. -/
import Derived.Test.YtlnmcadbmpiopaaQk4
set_option linter.unusedVariables false
set_option linter.unusedSimpArgs false
/- A call that writes nothing of what was, and leaves new names: from what it looks at. -/
set_option linter.unusedVariables false
namespace Go.Ev
open Go
section
variable {G : Nat} {P : Program} {c k : Nat}
theorem CanS.fresh {f : Nat} {args args0 : List AV} {m0 : List (Nat × Option AObj)} {c0 : Nat} {Qf : AV → T AObj → Nat → Prop} {H H' : T AObj} {v0 : AV} (h : CanS G P f c0 args0 m0 c0 Qf) (he : Entry G H c args m0 c0 args0)
    (hout : ∀ v1 H1 c1, Qf v1 H1 c1 → v1 = v0.ren (fun y => c0 + y) ∧ c1 = c0 + k ∧ ∀ x o, H'.get x = some o → (x < c ∧ H.get x = some o) ∨ ∃ (y : Nat) (o0 : AObj), x = c + y ∧ H1.get (c0 + y) = some (o0.ren fun y => c0 + y) ∧ o = o0.ren fun y => c + y) (fl : Nat) :
    OkAt G P fl f args H c (v0.ren fun y => c + y) H' (c + k) := by
  refine ⟨h.1, fun ρ w us hH hargs r n => ?_⟩
  obtain ⟨ρ0, h0, ha⟩ := he ρ w us hH hargs
  refine (h.2 ρ0 w us h0 ha r n).mono ?_
  rintro e w' ⟨u, v1, H1, c1, ρ1, rfl, hq, h3, h4, h5, h6, h7⟩
  obtain ⟨rfl, rfl, ho⟩ := hout v1 H1 c1 hq
  have hlow : ∀ x p, ρ x = some p → x < c := fun x p hp => by
    rcases Nat.lt_or_ge x c with h | h
    · exact h
    · rw [hH.fresh x h] at hp; cases hp
  have hk : ∀ b, b < w.heap.size → w'.heap[b]? = w.heap[b]? := fun b hb => h7.keep b hb fun x p hx hp => by rw [h0.fresh x hx] at hp; cases hp
  -- new names speak of new blocks
  have hnew : ∀ y q, c0 ≤ y → ρ1 y = some q → w.heap.size ≤ q.b := fun y q hy hq => by
    rcases h6.2 y q hy hq with h | ⟨z, t, hz, ht, hzb⟩
    · exact h
    · rw [h0.fresh z hz] at ht; cases ht
  have hval : ∀ y, (fun x => if x < c then ρ x else ρ1 (c0 + (x - c))) (c + y) = ρ1 (c0 + y) := fun y => by
    show (if c + y < c then ρ (c + y) else ρ1 (c0 + (c + y - c))) = _
    rw [if_neg (by omega), show c0 + (c + y - c) = c0 + y by omega]
  have hcomp : (fun y => (fun x => if x < c then ρ x else ρ1 (c0 + (x - c))) (c + y)) = fun y => ρ1 (c0 + y) := funext hval
  have hle : RLe ρ (fun x => if x < c then ρ x else ρ1 (c0 + (x - c))) := fun x p hp => by
    show (if x < c then ρ x else _) = _
    rw [if_pos (hlow x p hp)]; exact hp
  refine ⟨u, rfl, fun x => if x < c then ρ x else ρ1 (c0 + (x - c)), ?_, ⟨?_, ?_, ?_, ?_, ?_⟩, ⟨hle, ?_, ?_, by omega⟩, ⟨h7.os, h7.tape, h7.output, h7.size, fun b hb _ => hk b hb⟩⟩
  · rw [VR_ren, hcomp]
    exact (VR_ren _ _ _ _).1 h3
  · intro x o hx
    rcases ho x o hx with ⟨hxc, hxo⟩ | ⟨y, o0, rfl, hy1, rfl⟩
    · obtain ⟨p, hp, hob⟩ := hH.obj x o hxo
      exact ⟨p, hle x p hp, (hob.mono hle).world (hk p.b (hH.lt x p hp))⟩
    · obtain ⟨p, hp, hob⟩ := h4.obj _ _ hy1
      refine ⟨p, (hval y).trans hp, ?_⟩
      rw [ObjR_ren, hcomp]
      exact (ObjR_ren _ _ _ _ _).1 hob
  · intro x x' o o' p q hxx hx hx' hp hq hb
    have cross : ∀ x o p y q, H.get x = some o → ρ x = some p → ρ1 (c0 + y) = some q → p.b ≠ q.b := fun x o p y q hx hp hq hb => by
      have h1 := hH.lt x p hp
      have h2 := hnew _ q (by omega) hq
      omega
    rcases ho x o hx with ⟨hxc, hxo⟩ | ⟨y, o0, rfl, hy1, rfl⟩
    · replace hp : (if x < c then ρ x else ρ1 (c0 + (x - c))) = some p := hp
      rw [if_pos hxc] at hp
      rcases ho x' o' hx' with ⟨hxc', hxo'⟩ | ⟨y', o0', rfl, hy1', rfl⟩
      · replace hq : (if x' < c then ρ x' else ρ1 (c0 + (x' - c))) = some q := hq
        rw [if_pos hxc'] at hq
        exact hH.sep x x' o o' p q hxx hxo hxo' hp hq hb
      · exact absurd hb (cross x o p y' q hxo hp ((hval y').symm.trans hq))
    · rcases ho x' o' hx' with ⟨hxc', hxo'⟩ | ⟨y', o0', rfl, hy1', rfl⟩
      · replace hq : (if x' < c then ρ x' else ρ1 (c0 + (x' - c))) = some q := hq
        rw [if_pos hxc'] at hq
        exact absurd hb.symm (cross x' o' q y p hxo' hq ((hval y).symm.trans hp))
      · have g := h4.sep (c0 + y) (c0 + y') _ _ p q (fun e => hxx (by omega)) hy1 hy1' ((hval y).symm.trans hp) ((hval y').symm.trans hq) hb
        exact g.congr (by rw [AObj.ren_share, AObj.ren_share]) (by rw [AObj.ren_share, AObj.ren_share])
  · intro x hx
    show (if x < c then ρ x else ρ1 (c0 + (x - c))) = none
    rw [if_neg (by omega)]
    exact h4.fresh _ (by omega)
  · intro x p hp
    replace hp : (if x < c then ρ x else ρ1 (c0 + (x - c))) = some p := hp
    split at hp
    · exact Nat.lt_of_lt_of_le (hH.lt x p hp) h7.size
    · exact h4.lt _ p hp
  · intro g hg
    obtain ⟨j, hj⟩ := hH.glob g hg
    exact ⟨j, hle g _ hj⟩
  · intro x p hx hp
    replace hp : (if x < c then ρ x else ρ1 (c0 + (x - c))) = some p := hp
    split at hp
    · rw [hx] at hp; cases hp
    · exact .inl (hnew _ p (by omega) hp)
  · intro x p hx hp
    replace hp : (if x < c then ρ x else ρ1 (c0 + (x - c))) = some p := hp
    split at hp
    · rw [hx] at hp; cases hp
    · omega
theorem CanS.freshD (d : Nat) {f : Nat} {args args0 : List AV} {m0 : List (Nat × Option AObj)} {c0 : Nat} {Qf : AV → T AObj → Nat → Prop} {H H' : T AObj} {v0 : AV} (h : CanS G P f c0 args0 m0 c0 Qf) (hdc : d ≤ c) (hd0 : d ≤ c0) (he : ∀ ρ w us, Holds G ρ H c w → VRs ρ args us → ∃ ρ0, Holds G ρ0 (ofM m0) c0 w ∧ VRs ρ0 args0 us ∧ ∀ y, y < d → ρ0 y = ρ y)
    (hout : ∀ v1 H1 c1, Qf v1 H1 c1 → v1 = v0.ren (fun y => if y < d then y else c0 + (y - d)) ∧ c1 = c0 + k ∧ ∀ x o, H'.get x = some o → (x < c ∧ H.get x = some o) ∨ ∃ (y : Nat) (o0 : AObj), x = c + y ∧ H1.get (c0 + y) = some (o0.ren fun y => c0 + y) ∧ o = o0.ren fun y => c + y) (fl : Nat) :
    OkAt G P fl f args H c (v0.ren fun y => if y < d then y else c + (y - d)) H' (c + k) := by
  refine ⟨h.1, fun ρ w us hH hargs r n => ?_⟩
  obtain ⟨ρ0, h0, ha, hsame⟩ := he ρ w us hH hargs
  refine (h.2 ρ0 w us h0 ha r n).mono ?_
  rintro e w' ⟨u, v1, H1, c1, ρ1, rfl, hq, h3, h4, h5, h6, h7⟩
  obtain ⟨rfl, rfl, ho⟩ := hout v1 H1 c1 hq
  have hlow : ∀ x p, ρ x = some p → x < c := fun x p hp => by
    rcases Nat.lt_or_ge x c with h | h
    · exact h
    · rw [hH.fresh x h] at hp; cases hp
  have hk : ∀ b, b < w.heap.size → w'.heap[b]? = w.heap[b]? := fun b hb => h7.keep b hb fun x p hx hp => by rw [h0.fresh x hx] at hp; cases hp
  -- new names speak of new blocks
  have hnew : ∀ y q, c0 ≤ y → ρ1 y = some q → w.heap.size ≤ q.b := fun y q hy hq => by
    rcases h6.2 y q hy hq with h | ⟨z, t, hz, ht, hzb⟩
    · exact h
    · rw [h0.fresh z hz] at ht; cases ht
  have hval : ∀ y, (fun x => if x < c then ρ x else ρ1 (c0 + (x - c))) (c + y) = ρ1 (c0 + y) := fun y => by
    show (if c + y < c then ρ (c + y) else ρ1 (c0 + (c + y - c))) = _
    rw [if_neg (by omega), show c0 + (c + y - c) = c0 + y by omega]
  have hcomp : (fun y => (fun x => if x < c then ρ x else ρ1 (c0 + (x - c))) (c + y)) = fun y => ρ1 (c0 + y) := funext hval
  have hle : RLe ρ (fun x => if x < c then ρ x else ρ1 (c0 + (x - c))) := fun x p hp => by
    show (if x < c then ρ x else _) = _
    rw [if_pos (hlow x p hp)]; exact hp
  refine ⟨u, rfl, fun x => if x < c then ρ x else ρ1 (c0 + (x - c)), ?_, ⟨?_, ?_, ?_, ?_, ?_⟩, ⟨hle, ?_, ?_, by omega⟩, ⟨h7.os, h7.tape, h7.output, h7.size, fun b hb _ => hk b hb⟩⟩
  · have hcomp2 : (fun y => (fun x => if x < c then ρ x else ρ1 (c0 + (x - c))) (if y < d then y else c + (y - d))) = fun y => ρ1 (if y < d then y else c0 + (y - d)) := by
      funext y
      by_cases hy : y < d
      · rw [if_pos hy, if_pos hy]
        show (if y < c then ρ y else ρ1 (c0 + (y - c))) = ρ1 y
        rw [if_pos (by omega), h6.1 y (by omega), hsame y hy]
      · rw [if_neg hy, if_neg hy]
        exact hval (y - d)
    rw [VR_ren, hcomp2]
    exact (VR_ren _ _ _ _).1 h3
  · intro x o hx
    rcases ho x o hx with ⟨hxc, hxo⟩ | ⟨y, o0, rfl, hy1, rfl⟩
    · obtain ⟨p, hp, hob⟩ := hH.obj x o hxo
      exact ⟨p, hle x p hp, (hob.mono hle).world (hk p.b (hH.lt x p hp))⟩
    · obtain ⟨p, hp, hob⟩ := h4.obj _ _ hy1
      refine ⟨p, (hval y).trans hp, ?_⟩
      rw [ObjR_ren, hcomp]
      exact (ObjR_ren _ _ _ _ _).1 hob
  · intro x x' o o' p q hxx hx hx' hp hq hb
    have cross : ∀ x o p y q, H.get x = some o → ρ x = some p → ρ1 (c0 + y) = some q → p.b ≠ q.b := fun x o p y q hx hp hq hb => by
      have h1 := hH.lt x p hp
      have h2 := hnew _ q (by omega) hq
      omega
    rcases ho x o hx with ⟨hxc, hxo⟩ | ⟨y, o0, rfl, hy1, rfl⟩
    · replace hp : (if x < c then ρ x else ρ1 (c0 + (x - c))) = some p := hp
      rw [if_pos hxc] at hp
      rcases ho x' o' hx' with ⟨hxc', hxo'⟩ | ⟨y', o0', rfl, hy1', rfl⟩
      · replace hq : (if x' < c then ρ x' else ρ1 (c0 + (x' - c))) = some q := hq
        rw [if_pos hxc'] at hq
        exact hH.sep x x' o o' p q hxx hxo hxo' hp hq hb
      · exact absurd hb (cross x o p y' q hxo hp ((hval y').symm.trans hq))
    · rcases ho x' o' hx' with ⟨hxc', hxo'⟩ | ⟨y', o0', rfl, hy1', rfl⟩
      · replace hq : (if x' < c then ρ x' else ρ1 (c0 + (x' - c))) = some q := hq
        rw [if_pos hxc'] at hq
        exact absurd hb.symm (cross x' o' q y p hxo' hq ((hval y).symm.trans hp))
      · have g := h4.sep (c0 + y) (c0 + y') _ _ p q (fun e => hxx (by omega)) hy1 hy1' ((hval y).symm.trans hp) ((hval y').symm.trans hq) hb
        exact g.congr (by rw [AObj.ren_share, AObj.ren_share]) (by rw [AObj.ren_share, AObj.ren_share])
  · intro x hx
    show (if x < c then ρ x else ρ1 (c0 + (x - c))) = none
    rw [if_neg (by omega)]
    exact h4.fresh _ (by omega)
  · intro x p hp
    replace hp : (if x < c then ρ x else ρ1 (c0 + (x - c))) = some p := hp
    split at hp
    · exact Nat.lt_of_lt_of_le (hH.lt x p hp) h7.size
    · exact h4.lt _ p hp
  · intro g hg
    obtain ⟨j, hj⟩ := hH.glob g hg
    exact ⟨j, hle g _ hj⟩
  · intro x p hx hp
    replace hp : (if x < c then ρ x else ρ1 (c0 + (x - c))) = some p := hp
    split at hp
    · rw [hx] at hp; cases hp
    · exact .inl (hnew _ p (by omega) hp)
  · intro x p hx hp
    replace hp : (if x < c then ρ x else ρ1 (c0 + (x - c))) = some p := hp
    split at hp
    · rw [hx] at hp; cases hp
    · omega
theorem CanS.freshT (t : Nat → Nat) {f : Nat} {args args0 : List AV} {m0 : List (Nat × Option AObj)} {c0 : Nat} {Qf : AV → T AObj → Nat → Prop} {H H' : T AObj} {v0 : AV} (h : CanS G P f c0 args0 m0 c0 Qf) (ht1 : ∀ j, k ≤ j → k ≤ t j) (ht2 : ∀ i j, t i = t j → i = j) (he : Entry G H c args m0 c0 args0)
    (hout : ∀ v1 H1 c1, Qf v1 H1 c1 → v1 = v0.ren (fun y => c0 + t y) ∧ c1 = c0 + k ∧ ∀ x o, H'.get x = some o → (x < c ∧ H.get x = some o) ∨ ∃ (y : Nat) (o0 : AObj), x = c + y ∧ H1.get (c0 + t y) = some (o0.ren fun y => c0 + t y) ∧ o = o0.ren fun y => c + y) (fl : Nat) :
    OkAt G P fl f args H c (v0.ren fun y => c + y) H' (c + k) := by
  refine ⟨h.1, fun ρ w us hH hargs r n => ?_⟩
  obtain ⟨ρ0, h0, ha⟩ := he ρ w us hH hargs
  refine (h.2 ρ0 w us h0 ha r n).mono ?_
  rintro e w' ⟨u, v1, H1, c1, ρ1, rfl, hq, h3, h4, h5, h6, h7⟩
  obtain ⟨rfl, rfl, ho⟩ := hout v1 H1 c1 hq
  have hlow : ∀ x p, ρ x = some p → x < c := fun x p hp => by
    rcases Nat.lt_or_ge x c with h | h
    · exact h
    · rw [hH.fresh x h] at hp; cases hp
  have hk : ∀ b, b < w.heap.size → w'.heap[b]? = w.heap[b]? := fun b hb => h7.keep b hb fun x p hx hp => by rw [h0.fresh x hx] at hp; cases hp
  -- new names speak of new blocks
  have hnew : ∀ y q, c0 ≤ y → ρ1 y = some q → w.heap.size ≤ q.b := fun y q hy hq => by
    rcases h6.2 y q hy hq with h | ⟨z, t, hz, ht, hzb⟩
    · exact h
    · rw [h0.fresh z hz] at ht; cases ht
  have hval : ∀ y, (fun x => if x < c then ρ x else ρ1 (c0 + t (x - c))) (c + y) = ρ1 (c0 + t y) := fun y => by
    show (if c + y < c then ρ (c + y) else ρ1 (c0 + t (c + y - c))) = _
    rw [if_neg (by omega), show c + y - c = y by omega]
  have hcomp : (fun y => (fun x => if x < c then ρ x else ρ1 (c0 + t (x - c))) (c + y)) = fun y => ρ1 (c0 + t y) := funext hval
  have hle : RLe ρ (fun x => if x < c then ρ x else ρ1 (c0 + t (x - c))) := fun x p hp => by
    show (if x < c then ρ x else _) = _
    rw [if_pos (hlow x p hp)]; exact hp
  refine ⟨u, rfl, fun x => if x < c then ρ x else ρ1 (c0 + t (x - c)), ?_, ⟨?_, ?_, ?_, ?_, ?_⟩, ⟨hle, ?_, ?_, by omega⟩, ⟨h7.os, h7.tape, h7.output, h7.size, fun b hb _ => hk b hb⟩⟩
  · rw [VR_ren, hcomp]
    exact (VR_ren _ _ _ _).1 h3
  · intro x o hx
    rcases ho x o hx with ⟨hxc, hxo⟩ | ⟨y, o0, rfl, hy1, rfl⟩
    · obtain ⟨p, hp, hob⟩ := hH.obj x o hxo
      exact ⟨p, hle x p hp, (hob.mono hle).world (hk p.b (hH.lt x p hp))⟩
    · obtain ⟨p, hp, hob⟩ := h4.obj _ _ hy1
      refine ⟨p, (hval y).trans hp, ?_⟩
      rw [ObjR_ren, hcomp]
      exact (ObjR_ren _ _ _ _ _).1 hob
  · intro x x' o o' p q hxx hx hx' hp hq hb
    have cross : ∀ x o p y q, H.get x = some o → ρ x = some p → ρ1 (c0 + t y) = some q → p.b ≠ q.b := fun x o p y q hx hp hq hb => by
      have h1 := hH.lt x p hp
      have h2 := hnew _ q (by omega) hq
      omega
    rcases ho x o hx with ⟨hxc, hxo⟩ | ⟨y, o0, rfl, hy1, rfl⟩
    · replace hp : (if x < c then ρ x else ρ1 (c0 + t (x - c))) = some p := hp
      rw [if_pos hxc] at hp
      rcases ho x' o' hx' with ⟨hxc', hxo'⟩ | ⟨y', o0', rfl, hy1', rfl⟩
      · replace hq : (if x' < c then ρ x' else ρ1 (c0 + t (x' - c))) = some q := hq
        rw [if_pos hxc'] at hq
        exact hH.sep x x' o o' p q hxx hxo hxo' hp hq hb
      · exact absurd hb (cross x o p y' q hxo hp ((hval y').symm.trans hq))
    · rcases ho x' o' hx' with ⟨hxc', hxo'⟩ | ⟨y', o0', rfl, hy1', rfl⟩
      · replace hq : (if x' < c then ρ x' else ρ1 (c0 + t (x' - c))) = some q := hq
        rw [if_pos hxc'] at hq
        exact absurd hb.symm (cross x' o' q y p hxo' hq ((hval y).symm.trans hp))
      · have g := h4.sep (c0 + t y) (c0 + t y') _ _ p q (fun e => hxx (by rw [ht2 y y' (by omega)])) hy1 hy1' ((hval y).symm.trans hp) ((hval y').symm.trans hq) hb
        exact g.congr (by rw [AObj.ren_share, AObj.ren_share]) (by rw [AObj.ren_share, AObj.ren_share])
  · intro x hx
    show (if x < c then ρ x else ρ1 (c0 + t (x - c))) = none
    rw [if_neg (by omega)]
    have := ht1 (x - c) (by omega)
    exact h4.fresh _ (by omega)
  · intro x p hp
    replace hp : (if x < c then ρ x else ρ1 (c0 + t (x - c))) = some p := hp
    split at hp
    · exact Nat.lt_of_lt_of_le (hH.lt x p hp) h7.size
    · exact h4.lt _ p hp
  · intro g hg
    obtain ⟨j, hj⟩ := hH.glob g hg
    exact ⟨j, hle g _ hj⟩
  · intro x p hx hp
    replace hp : (if x < c then ρ x else ρ1 (c0 + t (x - c))) = some p := hp
    split at hp
    · rw [hx] at hp; cases hp
    · exact .inl (hnew _ p (by omega) hp)
  · intro x p hx hp
    replace hp : (if x < c then ρ x else ρ1 (c0 + t (x - c))) = some p := hp
    split at hp
    · rw [hx] at hp; cases hp
    · omega
theorem Entry.windows {H : T AObj} {c : Nat} {args args0 : List AV} {W : List Wnd} {CS : List (List AV)} (hl : W.length = CS.length) (hw : winOk H W CS) (ha : ArgsW W args args0) : ∀ ρ w us, Holds 0 ρ H c w → VRs ρ args us → Holds 0 (winR ρ W) (ofM (winM CS 0)) CS.length w ∧ VRs (winR ρ W) args0 us := by
  intro ρ w us hH hv
  have hf : ∃ x, ρ x = none := ⟨c, hH.fresh c (Nat.le_refl _)⟩
  refine ⟨⟨fun y o hy => ?_, fun x y o o' p q hxy hx hy hp hq hb => ?_, fun x hx => ?_, fun x p hp => ?_, fun g hg => by omega⟩, ha.vrs hf hv⟩
  · rw [ofM_get] at hy
    obtain ⟨j, cs, rfl, hj, rfl⟩ := winM_look hy
    obtain ⟨x, off, cp, h1, ⟨o, h2, h3⟩, h4⟩ := winOk_at hw hj
    obtain ⟨p, hp, _⟩ := hH.obj x o h2
    refine ⟨⟨p.b, p.o + off, cp.getD p.k⟩, by simp [winR, h1, hp], ?_⟩
    rcases h3 with rfl | ⟨ca, h5, h6⟩
    · exact ⟨[], by simp only [VRs], fun j u hj => by simp at hj⟩
    · obtain ⟨us', g1, g2⟩ := hH.read h2 h5 hp
      obtain ⟨g3, _, _⟩ := g1.cut h6
      refine ⟨_, h4.vrs hf g3, fun i u hi => ?_⟩
      have : us'[off + i]? = some u := by
        rw [List.getElem?_take] at hi
        split at hi
        · rwa [List.getElem?_drop] at hi
        · cases hi
      have := g2 (off + i) u this
      rwa [show p.o + off + i = p.o + (off + i) by omega]
  · rw [ofM_get] at hx hy
    obtain ⟨_, _, _, _, rfl⟩ := winM_look hx
    obtain ⟨_, _, _, _, rfl⟩ := winM_look hy
    simp [Apart, AObj.share]
  · simp only [winR, List.getElem?_eq_none_iff.2 (show W.length ≤ x by omega)]
  · simp only [winR] at hp
    split at hp
    · rw [Option.map_eq_some_iff] at hp
      obtain ⟨p', h1, rfl⟩ := hp
      exact hH.lt _ p' h1
    · cases hp
theorem winR_id {ρ : Rho} {W : List Wnd} {y : Nat} (h : W[y]? = some (y, 0, none)) : winR ρ W y = ρ y := by
  have e : winR ρ W y = (ρ y).map fun p => ⟨p.b, p.o + 0, (none : Option Nat).getD p.k⟩ := by
    unfold winR
    rw [h]
  rw [e]
  cases ρ y <;> rfl
end
end Go.Ev
/- Package claim: Wrong, for a book whose lists lie anywhere. -/
namespace Go.Proofs.Ytlnmcadbmpiopaa
open Go Go.Ev
theorem winR_le (ρ : Rho) (W X : List Wnd) : RLe (winR ρ W) (winR ρ (W ++ X)) := fun y p h => by
  rcases Nat.lt_or_ge y W.length with hy | hy
  · simp only [winR, List.getElem?_append_left hy] at h ⊢
    exact h
  · simp [winR, List.getElem?_eq_none_iff.2 hy] at h
theorem ArgW.more {W : List Wnd} (X : List Wnd) {v v0 : AV} (h : ArgW W v v0) : ArgW (W ++ X) v v0 := fun ρ u hf hv => (h ρ u hf hv).mono (winR_le ρ W X)
noncomputable def wrO (B : CBook) : Nat := 4 + (fwN (fwE B []) - 5)
theorem wrO_is (B : CBook) : wrO B = 6 ∨ wrO B = 13 := by
  unfold wrO fwN
  split
  · exact .inr rfl
  · exact .inl rfl
theorem BkX.three {B : CBook} {v1 v2 : AV} {m : List (Nat × Option AObj)} {c : Nat} (h : BkX B v1 v2 m c) : ∃ (a1 a2 : AV), IsSl a1 B.ns 0 ∧ IsSl a2 B.nc 1 ∧ Entry 0 (ofM m) c [bk B v1 v2] [(0, some (oSt B)), (1, some (oCk B)), (2, some (oCk (ncB B)))] 3 [bk B a1 a2] := by
  obtain ⟨W, a1, a2, hl, hw, g1, g2, i1, i2⟩ := h.ex
  match W, hl with
  | [(x0, o0, p0), (x1, o1, p1)], _ =>
    have hw2 := hw
    obtain ⟨⟨ob, k1, _⟩, _⟩ := hw
    refine ⟨a1, a2, i1, i2, ?_⟩
    have q1 := ArgW.more [(x0, 0, none)] g1
    have q2 := ArgW.more [(x0, 0, none)] g2
    exact Entry.win (W := [(x0, o0, p0), (x1, o1, p1), (x0, 0, none)]) (CS := [flat (stE B) (List.range B.ns), flat (ckE B) (List.range B.nc), []]) rfl
      ⟨hw2.1, hw2.2.1, hw2.2.2.1, hw2.2.2.2.1, ⟨ob, k1, .inl rfl⟩, Pls.nil, trivial⟩
      ⟨ArgW.agg (show ArgsW _ [v1, .int .i64 B.wea, .int .i64 (B.cost 0), .int .i64 (B.cost 1), .int .i64 (B.cost 2), v2, .int .i64 B.rate] [a1, .int .i64 B.wea, .int .i64 (B.cost 0), .int .i64 (B.cost 1), .int .i64 (B.cost 2), a2, .int .i64 B.rate] from
        ⟨q1, .pl (fun _ => rfl), .pl (fun _ => rfl), .pl (fun _ => rfl), .pl (fun _ => rfl), q2, .pl (fun _ => rfl), trivial⟩), trivial⟩
theorem Wrong_xn {B : CBook} {v1 v2 : AV} {m : List (Nat × Option AObj)} {c : Nat} (h : BkX B v1 v2 m c) (hn : B.ns ≤ 9223372036854775807) (hB : ¬ bkOk B) (fl : Nat) :
    OkAt 0 Try.prog fl 32 [bk B v1 v2] (ofM m) c (.tup [.nils, .int .i64 60]) (ofM m) c := by
  obtain ⟨a1, a2, i1, i2, he⟩ := h.three
  exact (Wrong_no B a1 a2 i1 i2 hn hB).pure (fun _ => rfl) he fl
end Go.Proofs.Ytlnmcadbmpiopaa
/- Package claim: which clocks must be wrong: plain facts. -/
namespace Go.Proofs.Ytlnmcadbmpiopaa
open Go Go.Ev
theorem or_has : ∀ a b : Fin 16, ∀ k : Fin 5, (andI ((orI a.1 b.1).fdiv (2 ^ k.1)) 1 = 1 ↔ (andI ((a.1 : Int).fdiv (2 ^ k.1)) 1 = 1 ∨ andI ((b.1 : Int).fdiv (2 ^ k.1)) 1 = 1)) ∧ 0 ≤ orI a.1 b.1 ∧ orI a.1 b.1 < 16 := by decide +kernel
theorem hasP_or {a b : Int} {k : Nat} (ha : 0 ≤ a ∧ a < 16) (hb : 0 ≤ b ∧ b < 16) (hk : k < 5) : (hasP (orI a b) k ↔ hasP a k ∨ hasP b k) ∧ 0 ≤ orI a b ∧ orI a b < 16 := by
  obtain ⟨n, rfl⟩ := Int.eq_ofNat_of_zero_le ha.1
  obtain ⟨j, rfl⟩ := Int.eq_ofNat_of_zero_le hb.1
  exact or_has ⟨n, by omega⟩ ⟨j, by omega⟩ ⟨k, hk⟩
theorem has_bit : ∀ j : Fin 4, ∀ k : Fin 5, (andI (((1 * 2 ^ j.1 : Int)).fdiv (2 ^ k.1)) 1 = 1 ↔ k.1 = j.1) ∧ (0 : Int) ≤ 1 * 2 ^ j.1 ∧ (1 : Int) * 2 ^ j.1 < 16 := by decide +kernel
theorem hasP_bit {j k : Nat} (hj : j < 4) (hk : k < 5) : (hasP (1 * 2 ^ j) k ↔ k = j) ∧ (0 : Int) ≤ 1 * 2 ^ j ∧ (1 : Int) * 2 ^ j < 16 := has_bit ⟨j, hj⟩ ⟨k, hk⟩
theorem has_0 : ∀ k : Fin 5, ¬ andI ((0 : Int).fdiv (2 ^ k.1)) 1 = 1 := by decide +kernel
theorem hasP_0 {k : Nat} (hk : k < 5) : ¬ hasP 0 k := has_0 ⟨k, hk⟩
theorem wrS_has (B : CBook) (s mi : Int) {k : Nat} (hk : k < 5) : ∀ n, n ≤ 4 → (hasP (wrS B s mi n) k ↔ k < n ∧ B.ck k = s ∧ ¬ (B.rd k - B.er k ≤ mi ∧ mi ≤ B.rd k + B.er k)) ∧ 0 ≤ wrS B s mi n ∧ wrS B s mi n < 16
  | 0, _ => ⟨⟨fun h => absurd h (hasP_0 hk), fun h => absurd h.1 (Nat.not_lt_zero k)⟩, Int.le_refl _, by show (0 : Int) < 16; decide⟩
  | n + 1, hn => by
    obtain ⟨ih, b0, b1⟩ := wrS_has B s mi hk n (by omega)
    rw [wrS]
    by_cases hp : B.ck n = s ∧ ¬ (B.rd n - B.er n ≤ mi ∧ mi ≤ B.rd n + B.er n)
    · rw [dB_tt hp, cond_true]
      obtain ⟨e1, e2, e3⟩ := hasP_bit (j := n) (by omega) hk
      obtain ⟨f1, f2, f3⟩ := hasP_or ⟨b0, b1⟩ ⟨e2, e3⟩ hk
      refine ⟨?_, f2, f3⟩
      rw [f1, ih, e1]
      constructor
      · rintro (⟨g1, g2⟩ | rfl)
        · exact ⟨by omega, g2⟩
        · exact ⟨by omega, hp⟩
      · rintro ⟨g1, g2⟩
        by_cases g : k = n
        · exact .inr g
        · exact .inl ⟨by omega, g2⟩
    · rw [dB_ff hp, cond_false]
      refine ⟨?_, b0, b1⟩
      rw [ih]
      constructor
      · rintro ⟨g1, g2⟩
        exact ⟨by omega, g2⟩
      · rintro ⟨g1, g2⟩
        refine ⟨?_, g2⟩
        by_cases g : k = n
        · subst g; exact absurd g2 hp
        · omega
def clkW (B : CBook) (t : Tru) (k : Nat) : Prop := ¬ (B.rd k - B.er k ≤ t.c (B.ck k).toNat ∧ t.c (B.ck k).toNat ≤ B.rd k + B.er k)
theorem wnS_has {B : CBook} (hc : cksOk B) (t : Tru) {k : Nat} (hk : k < 5) : ∀ n, (hasP (wnS B t n) k ↔ k < B.nc ∧ B.ck k < n ∧ clkW B t k) ∧ 0 ≤ wnS B t n ∧ wnS B t n < 16
  | 0 => ⟨⟨fun h => absurd h (hasP_0 hk), fun ⟨h1, h2, _⟩ => by
      have := (hc.2 k h1).1.1
      omega⟩, Int.le_refl _, by show (0 : Int) < 16; decide⟩
  | n + 1 => by
    obtain ⟨ih, b0, b1⟩ := wnS_has hc t hk n
    obtain ⟨e1, e2, e3⟩ := wrS_has B (n : Int) (t.c n) hk B.nc hc.1
    obtain ⟨f1, f2, f3⟩ := hasP_or ⟨b0, b1⟩ ⟨e2, e3⟩ hk
    rw [wnS]
    refine ⟨?_, f2, f3⟩
    show hasP (orI (wnS B t n) (wrS B (n : Int) (t.c n) B.nc)) k ↔ _
    rw [f1, ih, e1]
    constructor
    · rintro (⟨g1, g2, g3⟩ | ⟨g1, g2, g3⟩)
      · exact ⟨g1, by omega, g3⟩
      · refine ⟨g1, by omega, ?_⟩
        unfold clkW
        rw [g2, Int.toNat_natCast]
        exact g3
    · rintro ⟨g1, g2, g3⟩
      by_cases g : B.ck k = (n : Int)
      · refine .inr ⟨g1, g, ?_⟩
        unfold clkW at g3
        rw [g, Int.toNat_natCast] at g3
        exact g3
      · exact .inl ⟨g1, by omega, g3⟩
theorem numsL_filter (s : Int) : ∀ n, numsL s n = (List.range n).filter fun k => dB (hasP s k)
  | 0 => rfl
  | n + 1 => by
    rw [numsL, numsL_filter s n, List.range_succ, List.filter_append]
    by_cases h : hasP s n
    · rw [dB_tt h, cond_true, List.filter_cons_of_pos (by exact dB_tt h)]; rfl
    · rw [dB_ff h, cond_false, List.filter_cons_of_neg (by rw [dB_ff h]; decide)]; simp
theorem dB_eq {p : Prop} : dB p = true ↔ p := by
  by_cases h : p
  · rw [dB_tt h]; exact iff_of_true rfl h
  · rw [dB_ff h]; exact iff_of_false (by decide) h
theorem dB_congr {p q : Prop} (h : p ↔ q) : dB p = dB q := by rw [propext h]
theorem fwL_filter {B : CBook} (hc : cksOk B) (t : Tru) : fwL B t = (List.range B.nc).filter fun k => dB (clkW B t k) := by
  unfold fwL
  rw [numsL_filter]
  refine List.filter_congr fun k hk => ?_
  have hk := List.mem_range.1 hk
  have h4 := hc.1
  refine dB_congr ?_
  rw [(wnS_has hc t (show k < 5 by omega) B.ns).1]
  have := (hc.2 k hk).1
  exact ⟨fun h => h.2.2, fun h => ⟨hk, by omega, h⟩⟩
theorem has_all : ∀ n : Fin 5, ∀ k : Fin 4, k.1 < n.1 → andI (((1 * 2 ^ n.1 - 1 : Int)).fdiv (2 ^ k.1)) 1 = 1 := by decide +kernel
theorem nums_all {n : Nat} (h : n ≤ 4) : numsL (1 * 2 ^ n - 1) n = List.range n := by
  rw [numsL_filter]
  refine List.filter_eq_self.2 fun k hk => ?_
  have hk := List.mem_range.1 hk
  exact dB_eq.2 (has_all ⟨n, by omega⟩ ⟨k, by omega⟩ hk)
theorem cmpI_0 {a b : Int} : cmpI a b = 0 ↔ a = b := by unfold cmpI; split <;> (try split) <;> omega
theorem cmpI_lt {a b : Int} : cmpI a b < 0 ↔ a < b := by unfold cmpI; split <;> (try split) <;> omega
theorem lexC_self : ∀ a : List Nat, lexC a a = 0
  | [] => rfl
  | x :: a => by rw [lexC, if_pos (cmpI_0.2 rfl)]; exact lexC_self a
theorem lexC_cons {x y : Nat} {a b : List Nat} : lexC (x :: a) (y :: b) < 0 ↔ x < y ∨ x = y ∧ lexC a b < 0 := by
  rw [lexC]
  by_cases h : (x : Int) = y
  · rw [if_pos (cmpI_0.2 h)]
    exact ⟨fun g => .inr ⟨by omega, g⟩, fun g => by rcases g with g | g; · omega
                                                    · exact g.2⟩
  · rw [if_neg (fun g => h (cmpI_0.1 g)), cmpI_lt]
    omega
theorem lexC_trans : ∀ {a b d : List Nat}, lexC a b < 0 → lexC b d < 0 → lexC a d < 0
  | [], [], _, h, _ => absurd h (by decide)
  | [], _ :: _, [], _, h => absurd h (by show ¬ (1 : Int) < 0; decide)
  | [], _ :: _, _ :: _, _, _ => by show (-1 : Int) < 0; decide
  | _ :: _, [], _, h, _ => absurd h (by show ¬ (1 : Int) < 0; decide)
  | _ :: _, _ :: _, [], _, h => absurd h (by show ¬ (1 : Int) < 0; decide)
  | x :: a, y :: b, z :: d, h, k => by
    rw [lexC_cons] at h k ⊢
    rcases h with h | ⟨h, h'⟩ <;> rcases k with k | ⟨k, k'⟩
    · exact .inl (by omega)
    · exact .inl (by omega)
    · exact .inl (by omega)
    · exact .inr ⟨by omega, lexC_trans h' k'⟩
theorem lexC_neg : ∀ {a b d : List Nat}, ¬ lexC a b < 0 → ¬ lexC b d < 0 → ¬ lexC a d < 0
  | [], [], _, _, h => h
  | [], _ :: _, _, h, _ => absurd (show (-1 : Int) < 0 by decide) h
  | _ :: _, _, [], _, _ => by show ¬ (1 : Int) < 0; decide
  | _ :: _, [], _ :: _, _, h => absurd (show (-1 : Int) < 0 by decide) h
  | x :: a, y :: b, z :: d, h, k => by
    rw [lexC_cons] at h k ⊢
    have ih : ¬ lexC a b < 0 → ¬ lexC b d < 0 → ¬ lexC a d < 0 := lexC_neg
    rintro (g | ⟨g, g'⟩)
    · refine h ?_
      by_cases e : x < y
      · exact .inl e
      · exact absurd (.inl (by omega)) k
    · by_cases e : x = y
      · have h1 : ¬ lexC a b < 0 := fun q => h (.inr ⟨e, q⟩)
        have h2 : ¬ lexC b d < 0 := fun q => k (.inr ⟨by omega, q⟩)
        exact ih h1 h2 g'
      · by_cases e2 : x < y
        · exact h (.inl e2)
        · exact k (.inl (by omega))
theorem cmpL_lt {a b : List Nat} : cmpL a b < 0 ↔ a.length < b.length ∨ a.length = b.length ∧ lexC a b < 0 := by
  unfold cmpL
  by_cases h : (a.length : Int) = b.length
  · rw [if_pos (cmpI_0.2 h)]
    exact ⟨fun g => .inr ⟨by omega, g⟩, fun g => by rcases g with g | g; · omega
                                                    · exact g.2⟩
  · rw [if_neg (fun g => h (cmpI_0.1 g)), cmpI_lt]
    omega
theorem cmpL_self (a : List Nat) : ¬ cmpL a a < 0 := by rw [cmpL_lt, lexC_self]; omega
theorem cmpL_trans {a b d : List Nat} (h : cmpL a b < 0) (k : cmpL b d < 0) : cmpL a d < 0 := by
  rw [cmpL_lt] at h k ⊢
  rcases h with h | ⟨h, h'⟩ <;> rcases k with k | ⟨k, k'⟩
  · exact .inl (by omega)
  · exact .inl (by omega)
  · exact .inl (by omega)
  · exact .inr ⟨by omega, lexC_trans h' k'⟩
theorem cmpL_neg {a b d : List Nat} (h : ¬ cmpL a b < 0) (k : ¬ cmpL b d < 0) : ¬ cmpL a d < 0 := by
  rw [cmpL_lt] at h k ⊢
  rintro (g | ⟨g, g'⟩)
  · by_cases e : a.length < b.length
    · exact h (.inl e)
    · exact k (.inl (by omega))
  · by_cases e : a.length = b.length
    · exact lexC_neg (fun q => h (.inr ⟨e, q⟩)) (fun q => k (.inr ⟨by omega, q⟩)) g'
    · by_cases e2 : a.length < b.length
      · exact h (.inl e2)
      · exact k (.inl (by omega))
theorem fw_best (B : CBook) : ∀ (ts : List Tru) (s : FwS), (∀ t ∈ ts, ¬ cmpL (fwL B t) (foldS (fwS B) (s, none) ts).1.2.1 < 0) ∧ ¬ cmpL s.2.1 (foldS (fwS B) (s, none) ts).1.2.1 < 0 ∧ ((foldS (fwS B) (s, none) ts).1.2.1 = s.2.1 ∨ ∃ t ∈ ts, (foldS (fwS B) (s, none) ts).1.2.1 = fwL B t)
  | [], s => ⟨fun t ht => (by cases ht), cmpL_self _, .inl rfl⟩
  | t :: ts, s => by
    have e : foldS (fwS B) (s, none) (t :: ts) = foldS (fwS B) ((fwS B s [trV t]).1, none) ts := rfl
    rw [e]
    obtain ⟨i1, i2, i3⟩ := fw_best B ts (fwS B s [trV t]).1
    generalize (foldS (fwS B) ((fwS B s [trV t]).1, none) ts).1.2.1 = r at *
    by_cases h : cmpL (fwL B t) s.2.1 < 0
    · have e2 : (fwS B s [trV t]).1.2.1 = fwL B t := by
        show (if cmpL (fwL B t) s.2.1 < 0 then ((true, fwL B t, lsS t s.2.2 B.ns) : FwS) else (s.1, s.2.1, lsS t s.2.2 B.ns)).2.1 = _
        rw [if_pos h]
      rw [e2] at i2 i3
      refine ⟨fun u hu => ?_, fun g => i2 (cmpL_trans h g), .inr ?_⟩
      · rcases List.mem_cons.1 hu with rfl | hu
        · exact i2
        · exact i1 u hu
      · rcases i3 with i3 | ⟨u, hu, i3⟩
        · exact ⟨t, List.mem_cons_self, i3⟩
        · exact ⟨u, List.mem_cons_of_mem _ hu, i3⟩
    · have e2 : (fwS B s [trV t]).1.2.1 = s.2.1 := by
        show (if cmpL (fwL B t) s.2.1 < 0 then ((true, fwL B t, lsS t s.2.2 B.ns) : FwS) else (s.1, s.2.1, lsS t s.2.2 B.ns)).2.1 = _
        rw [if_neg h]
      rw [e2] at i2 i3
      refine ⟨fun u hu => ?_, i2, ?_⟩
      · rcases List.mem_cons.1 hu with rfl | hu
        · exact cmpL_neg h i2
        · exact i1 u hu
      · rcases i3 with i3 | ⟨u, hu, i3⟩
        · exact .inl i3
        · exact .inr ⟨u, List.mem_cons_of_mem _ hu, i3⟩
section
variable {B : CBook}
theorem wr_best {t : Tru} (ht : t ∈ Ws (ncB B)) : ¬ cmpL (fwL B t) (wrongL B) < 0 := (fw_best B (Ws (ncB B)) _).1 t ht
theorem wr_is (hB : bkOk B) : wrongL B = List.range B.nc ∨ ∃ t ∈ Ws (ncB B), wrongL B = fwL B t := by
  have := (fw_best B (Ws (ncB B)) (false, numsL (1 * 2 ^ B.nc - 1) B.nc, [])).2.2
  rcases this with h | h
  · exact .inl (h.trans (nums_all hB.2.2.1.1))
  · exact .inr h
theorem fw_len (t : Tru) : (fwL B t).length ≤ B.nc := numsL_len _ _
theorem wr_len (hB : bkOk B) : (wrongL B).length ≤ B.nc := by
  rcases wr_is hB with h | ⟨t, _, h⟩
  · rw [h, List.length_range]; exact Nat.le_refl _
  · rw [h]; exact fw_len t
end
end Go.Proofs.Ytlnmcadbmpiopaa
/- ClaimMore: what it needs: Inner, the length of a list, what is known with a clock more. -/
namespace Go.Proofs.Ytlnmcadbmpiopaa
open Go Go.Ev
theorem eqBt (b : Bool) : eqA Try.prog 4 (.bool b) (.bool b) = some true := by cases b <;> kernel_rfl
section
variable {B B' : CBook}
end
end Go.Proofs.Ytlnmcadbmpiopaa
/- Lists of numbers in the reference: Place, Rising, Sooner, Fewer, All. -/
namespace Go.Proofs.Ytlnmcadbmpiopaa
open Go Go.Ev
open Classical in
noncomputable def plV (L : List Nat) (n : Nat) : Int := if h : ∃ k : Nat, L[k]? = some n ∧ ∀ j : Nat, j < k → L[j]? ≠ some n then (h.choose : Int) else -1
def RisL (L : List Nat) (n : Nat) : Prop := (∀ k x : Nat, L[k]? = some x → x < n) ∧ ∀ k x y : Nat, L[k]? = some x → L[k + 1]? = some y → x < y
def lastV (L : List Nat) : Nat → Int
  | 0 => -1
  | k + 1 => ((L[k]?.getD 0 : Nat) : Int)
set_option maxRecDepth 100000 in
set_option maxHeartbeats 4000000 in
theorem Sooner_can (l q : List Nat) (hl : l.length ≤ 1000) (a1 a2 : AV) (h1 : IsSl a1 l.length 0) (h2 : IsSl a2 q.length 1) : CanS 0 Try.prog 87 2 [a1, a2] [(0, some (.ro (natV l))), (1, some (.ro (natV q)))] 2 fun v _ _ => v = .bool (decide (lexC l q < 0)) := by
  refine CanS.mk Try.func87 rfl rfl rfl ?_
  repeat' (first | refine RT.nil ?_ | refine sq_n ?_ | refine Tr.seq ?_ | refine Tr.region ?_ | refine Tr.block ?_ | (refine RT.goK rfl rfl rfl rfl ?_; apply Nx.of; (first | exact S.assign)))
  refine Tr.loop (fun k : Nat => stL Try.f87.ntmps [] [(0, a1), (1, a2), (5, .int .i64 k)] [(0, some (.ro (natV l))), (1, some (.ro (natV q)))] 2) (fun k => k ≤ l.length ∧ k ≤ q.length ∧ lexC l q = lexC (l.drop k) (q.drop k)) (fun k => l.length - k) 0 ⟨Nat.zero_le _, Nat.zero_le _, rfl⟩ (by (refine Wk.same (by decide) (by decide) (by decide) (by decide) ?_ ?_ rfl; all_goals ((try simp only [allL, allM]); (repeat' (first | exact trivial | refine And.intro ?_ ?_)); all_goals (first | rfl | exact IsSl.ren (by assumption) (nm_lt (by decide)) | exact roN_ren _ _ | decide)))) (fun k ⟨hk, hkq, he⟩ => ?_)
  by_cases hlt : k < l.length
  · have hlt' : (k : Int) < l.length := by omega
    have e1 : l.drop k = l[k] :: l.drop (k + 1) := List.drop_eq_getElem_cons hlt
    have x1 := natV_at hlt
    by_cases hq : k < q.length
    · have hq' : (k : Int) < q.length := by omega
      have e2 : q.drop k = q[k] :: q.drop (k + 1) := List.drop_eq_getElem_cons hq
      have x2 := natV_at hq
      rw [e1, e2, lexC] at he
      by_cases hne : ((l[k] : Nat) : Int) = ((q[k] : Nat) : Int)
      · rw [if_pos (cmpI_0.2 hne)] at he
        repeat' (first | refine RT.nil ?_ | refine sq_n ?_ | refine Tr.seq ?_ | refine Tr.region ?_ | refine Tr.cond_t rfl ?_ | refine Tr.skip ?_ | refine Tr.block ?_ | (refine RT.goK rfl rfl rfl rfl ?_; first | refine Nx.of (S.lss_t hlt') ?_ | refine Nx.of (S.lss_t hq') ?_) | (refine RT.goK rfl rfl rfl rfl ?_; apply Nx.of; (first | exact S.move | exact S.pick_tt)) | (refine RT.goK rfl rfl rfl rfl ?_; apply Nx.of; (first | exact S.len_sl rfl rfl rfl (by assumption))))
        refine Tr.openK un87_4 (by kernel_rfl) (by kernel_rfl) noCall noCall_calm ?_
        repeat' (first | (refine RD.free rfl rfl rfl rfl rfl rfl ?_; apply Nx.of; (first | exact S.neq_f hne)) | (refine RD.load rfl rfl rfl rfl rfl rfl rfl rfl ?_; apply Nx.of; (first | exact S.load1r rfl rfl rfl x1 | exact S.load1r rfl rfl rfl x2)) | (refine RD.free rfl rfl rfl rfl rfl rfl ?_; apply Nx.of; (first | exact S.move | exact S.idx_sl rfl rfl rfl (by assumption) (by omega))) | refine RD.nil ⟨Nat.le_of_ble_eq_true rfl, ?_⟩)
        repeat' (first | refine RT.nil ?_ | refine sq_n ?_ | refine Tr.region ?_ | refine Tr.cond_f rfl ?_ | refine Tr.skip ?_ | refine blk_n ?_ | (refine RT.goK rfl rfl rfl rfl ?_; apply Nx.of; (first | exact S.move | exact S.assign | exact S.add_one (by omega))))
        refine lp_n (k + 1) ⟨by omega, by omega, he⟩ (by omega) (by (refine Wk.same (by decide) (by decide) (by decide) (by decide) ?_ ?_ rfl; all_goals ((try simp only [allL, allM]); (repeat' (first | exact trivial | refine And.intro ?_ ?_)); all_goals (first | rfl | exact IsSl.ren (by assumption) (nm_lt (by decide)) | exact roN_ren _ _ | decide))))
      · rw [if_neg (fun g => hne (cmpI_0.1 g))] at he
        repeat' (first | refine RT.nil ?_ | refine sq_n ?_ | refine Tr.seq ?_ | refine Tr.region ?_ | refine Tr.cond_t rfl ?_ | refine Tr.skip ?_ | refine Tr.block ?_ | (refine RT.goK rfl rfl rfl rfl ?_; first | refine Nx.of (S.lss_t hlt') ?_ | refine Nx.of (S.lss_t hq') ?_) | (refine RT.goK rfl rfl rfl rfl ?_; apply Nx.of; (first | exact S.move | exact S.pick_tt)) | (refine RT.goK rfl rfl rfl rfl ?_; apply Nx.of; (first | exact S.len_sl rfl rfl rfl (by assumption))))
        refine Tr.openK un87_4 (by kernel_rfl) (by kernel_rfl) noCall noCall_calm ?_
        repeat' (first | (refine RD.free rfl rfl rfl rfl rfl rfl ?_; apply Nx.of; (first | exact S.neq_t hne)) | (refine RD.load rfl rfl rfl rfl rfl rfl rfl rfl ?_; apply Nx.of; (first | exact S.load1r rfl rfl rfl x1 | exact S.load1r rfl rfl rfl x2)) | (refine RD.free rfl rfl rfl rfl rfl rfl ?_; apply Nx.of; (first | exact S.move | exact S.idx_sl rfl rfl rfl (by assumption) (by omega))) | refine RD.nil ⟨Nat.le_of_ble_eq_true rfl, ?_⟩)
        repeat' (first | refine sq_n ?_ | refine Tr.seq ?_ | refine Tr.cond_t rfl ?_)
        refine Tr.openK un87_5 (by kernel_rfl) (by kernel_rfl) noCall noCall_calm ?_
        repeat' (first | (refine RD.load rfl rfl rfl rfl rfl rfl rfl rfl ?_; apply Nx.of; (first | exact S.load1r rfl rfl rfl x1 | exact S.load1r rfl rfl rfl x2)) | (refine RD.free rfl rfl rfl rfl rfl rfl ?_; apply Nx.of; (first | exact S.move | exact S.assign | exact S.lss | exact S.idx_sl rfl rfl rfl (by assumption) (by omega))) | refine RD.nil ⟨Nat.le_of_ble_eq_true rfl, ?_⟩)
        repeat' (first | refine sq_n ?_ | refine Tr.ret ?_ | refine sq_r ?_ | refine blk_r ?_ | refine lp_r ?_)
        (first | refine rt_go rfl ?_)
        rw [he]
        exact congrArg AV.bool (decide_eq_decide.2 cmpI_lt.symm)
    · have hq' : ¬ (k : Int) < q.length := by omega
      have e2 : q.drop k = [] := List.drop_eq_nil_of_le (by omega)
      rw [e1, e2, lexC] at he
      have hf : ¬ ((l.length : Nat) : Int) < q.length := by omega
      repeat' (first | refine RT.nil ?_ | refine sq_n ?_ | refine Tr.seq ?_ | refine Tr.region ?_ | refine Tr.cond_f rfl ?_ | refine Tr.ret ?_ | refine Tr.exit ?_ | refine sq_x ?_ | refine blk_hit rfl ?_ | refine lp_x ?_ | (refine RT.goK rfl rfl rfl rfl ?_; first | refine Nx.of (S.lss_t hlt') ?_ | refine Nx.of (S.lss_f hq') ?_ | refine Nx.of (S.lss_f hf) ?_) | (refine RT.goK rfl rfl rfl rfl ?_; apply Nx.of; (first | exact S.move | exact S.assign | exact S.pick_tt)) | (refine RT.goK rfl rfl rfl rfl ?_; apply Nx.of; (first | exact S.len_sl rfl rfl rfl (by assumption))))
      (first | refine rt_go rfl ?_)
      rw [he]
      rfl
  · have hlt' : ¬ (k : Int) < l.length := by omega
    have e1 : l.drop k = [] := List.drop_eq_nil_of_le (by omega)
    rw [e1] at he
    have hkl : k = l.length := by omega
    by_cases hq : k < q.length
    · have e2 : q.drop k = q[k] :: q.drop (k + 1) := List.drop_eq_getElem_cons hq
      rw [e2, lexC] at he
      have hf : ((l.length : Nat) : Int) < q.length := by omega
      repeat' (first | refine RT.nil ?_ | refine sq_n ?_ | refine Tr.seq ?_ | refine Tr.region ?_ | refine Tr.cond_f rfl ?_ | refine Tr.ret ?_ | refine Tr.exit ?_ | refine sq_x ?_ | refine blk_hit rfl ?_ | refine lp_x ?_ | (refine RT.goK rfl rfl rfl rfl ?_; first | refine Nx.of (S.lss_f hlt') ?_ | refine Nx.of (S.lss_t hf) ?_) | (refine RT.goK rfl rfl rfl rfl ?_; apply Nx.of; (first | exact S.move | exact S.assign | exact S.pick_ff)) | (refine RT.goK rfl rfl rfl rfl ?_; apply Nx.of; (first | exact S.len_sl rfl rfl rfl (by assumption))) | (refine RT.no rfl rfl rfl ?_))
      (first | refine rt_go rfl ?_)
      rw [he]
      rfl
    · have e2 : q.drop k = [] := List.drop_eq_nil_of_le (by omega)
      rw [e2, lexC] at he
      have hf : ¬ ((l.length : Nat) : Int) < q.length := by omega
      repeat' (first | refine RT.nil ?_ | refine sq_n ?_ | refine Tr.seq ?_ | refine Tr.region ?_ | refine Tr.cond_f rfl ?_ | refine Tr.ret ?_ | refine Tr.exit ?_ | refine sq_x ?_ | refine blk_hit rfl ?_ | refine lp_x ?_ | (refine RT.goK rfl rfl rfl rfl ?_; first | refine Nx.of (S.lss_f hlt') ?_ | refine Nx.of (S.lss_f hf) ?_) | (refine RT.goK rfl rfl rfl rfl ?_; apply Nx.of; (first | exact S.move | exact S.assign | exact S.pick_ff)) | (refine RT.goK rfl rfl rfl rfl ?_; apply Nx.of; (first | exact S.len_sl rfl rfl rfl (by assumption))) | (refine RT.no rfl rfl rfl ?_))
      (first | refine rt_go rfl ?_)
      rw [he]
      rfl
set_option maxRecDepth 100000 in
set_option maxHeartbeats 4000000 in
theorem Fewer_can (l q : List Nat) (hl : l.length ≤ 1000) (a1 a2 : AV) (h1 : IsSl a1 l.length 0) (h2 : IsSl a2 q.length 1) : CanS 0 Try.prog 48 2 [a1, a2] [(0, some (.ro (natV l))), (1, some (.ro (natV q)))] 2 fun v _ _ => v = .bool (decide (cmpL l q < 0)) := by
  refine CanS.mk Try.func48 rfl rfl rfl ?_
  by_cases he : ((l.length : Nat) : Int) = q.length
  · repeat' (first | refine RT.nil ?_ | refine sq_n ?_ | refine Tr.seq ?_ | refine Tr.region ?_ | refine Tr.cond_f rfl ?_ | refine Tr.skip ?_ | refine Tr.ret ?_ | (refine RT.goK rfl rfl rfl rfl ?_; first | refine Nx.of (S.len_sl rfl rfl rfl h1) ?_ | refine Nx.of (S.len_sl rfl rfl rfl h2) ?_) | (refine RT.goK rfl rfl rfl rfl ?_; first | refine Nx.of (S.neq_f he) ?_) | (refine RT.call rfl rfl rfl (CanS.here (Sooner_can l q hl _ _ h1 h2) (.bool _) _) rfl rfl (Nat.le_refl _) ?_) | (refine RT.goK rfl rfl rfl rfl ?_; apply Nx.of; (first | exact S.move | exact S.assign)))
    (first | refine rt_go rfl ?_)
    refine congrArg AV.bool (decide_eq_decide.2 ?_)
    rw [cmpL_lt]
    exact ⟨fun g => .inr ⟨by omega, g⟩, fun g => by rcases g with g | g; · omega
                                                    · exact g.2⟩
  · repeat' (first | refine RT.nil ?_ | refine sq_n ?_ | refine Tr.seq ?_ | refine Tr.region ?_ | refine Tr.cond_t rfl ?_ | refine Tr.ret ?_ | refine sq_r ?_ | (refine RT.goK rfl rfl rfl rfl ?_; first | refine Nx.of (S.len_sl rfl rfl rfl h1) ?_ | refine Nx.of (S.len_sl rfl rfl rfl h2) ?_) | (refine RT.goK rfl rfl rfl rfl ?_; first | refine Nx.of (S.neq_t he) ?_) | (refine RT.goK rfl rfl rfl rfl ?_; apply Nx.of; (first | exact S.move | exact S.assign | exact S.lss)))
    (first | refine rt_go rfl ?_)
    refine congrArg AV.bool (decide_eq_decide.2 ?_)
    rw [cmpL_lt]
    omega
end Go.Proofs.Ytlnmcadbmpiopaa
/- One number more, to an empty list that was just made. -/
namespace Go.Ev
open Go
section
variable {P : Program} {fl c : Nat} {m : List (Nat × Option AObj)} {y y' z : Ty} {t t' : Nat} {x1 x2 : Operand}
theorem S.append_e1I [Tab P] {ats : Array Nat} {x w : Nat} {news : List AV} (hat : ats.toList = [t, t']) (ht : ty P t = some y) (hk : y.kind = 5) (ht' : ty P t' = some y') (hk' : y'.kind = 5) (hz : ty P y.elem = some z) (hzk : z.kind = 0) (hzz : (Nat.beq z.zero.cells.length z.size && Nat.ble 1 z.size) = true)
    (hb : Nat.ble z.bytes 10000 = true) (hx : lookM m x = some (.cells [])) (ho : lookM m w = some (.cells news)) (hc : cut news 0 (1 * z.size) = some news) : OpE P fl (.call ⟨.builtin .append, #[x1, x2], ats⟩) [.sl x 0 0 0, .sl w 0 1 1] m c (.gs c 1) ((c, some (.grown news z.size)) :: m) (c + 1) := by
  obtain ⟨i, h1, h2, h3⟩ := info_sz hz
  have hb' : z.bytes ≤ 10000 := Nat.le_of_ble_eq_true hb
  have hbb : (Nat.ble ((2 * (0 + 1) + 1000) * i.bytes) (2 ^ 48) && Nat.ble (0 + 1) (2 ^ 62)) = true := by
    rw [h2]
    simp only [Bool.and_eq_true, Nat.ble_eq]
    omega
  have hcut0 : cut ([] : List AV) 0 (0 * i.size) = some [] := by rw [Nat.zero_mul]; rfl
  refine ⟨rfl, Nat.le_succ _, ?_⟩
  show opA P (ofM m) c fl _ _ = _
  simp only [opA, oCall, builtinA, hat, appendA, ty_slice ht hk, ty_slice ht' hk', h1, rowT hz hzz, sliceCells, getCells, ofM_get, hx, ho, cellsOf, Option.bind_some, h3, hc, hcut0, Option.map_some, show Nat.beq 1 0 = false from rfl, cond_false, hbb, cond_true, keptI hz hzk, growA, show Nat.ble (0 + 1) 0 = false from rfl, List.nil_append]
  have hcut1 : cut ([] : List AV) 0 (0 * z.size) = some [] := by rw [Nat.zero_mul]; rfl
  simp only [hcut1, Option.map_some, List.nil_append, show Nat.beq 1 0 = false from rfl, cond_false, hbb, cond_true, show Nat.ble (0 + 1) 0 = false from rfl]
  rfl
end
end Go.Ev
/- The numbers of a set in the reference; a book without some of its clocks: where they lie. -/
namespace Go.Proofs.Ytlnmcadbmpiopaa
open Go Go.Ev
def alV (x : Nat) (L : List Nat) : AV := match L with | [] => .sl x 0 0 0 | _ :: _ => .gs x L.length
def alO (L : List Nat) : AObj := match L with | [] => .cells [] | _ :: _ => .grown (natV L) 1
theorem alV_ren (σ : Nat → Nat) {x y : Nat} (h : σ x = y) (L : List Nat) : (alV x L).ren σ = alV y L := by
  cases L with
  | nil => show AV.sl (σ x) 0 0 0 = _; rw [h]; rfl
  | cons a r => show AV.gs (σ x) _ = _; rw [h]; rfl
theorem alO_ren (σ : Nat → Nat) (L : List Nat) : (alO L).ren σ = alO L := by
  cases L with
  | nil => rfl
  | cons a r => exact natV_ren σ _ _
theorem al_wk {n c x : Nat} {l : List (Nat × AV)} {m : List (Nat × Option AObj)} {s b k : Int} {L : List Nat}
    (t0 : Go.Ev.look l 0 = some (AV.int .i64 s)) (t1 : Go.Ev.look l 1 = some (AV.int .i64 b)) (t5 : Go.Ev.look l 5 = some (alV x L)) (t6 : Go.Ev.look l 6 = some (AV.int .i64 k)) (g : lookM m x = some (alO L)) :
    Wk 0 0 0 (stL n [] l m c) (stL n [] [(0, .int .i64 s), (1, .int .i64 b), (5, alV 0 L), (6, .int .i64 k)] [(0, some (alO L))] 1) := by
  refine Wk.by (fun y => if y = 0 then x else c + y) (by decide) (by decide) (by decide) ⟨t0, t1, ?_, t6, trivial⟩ ⟨?_, trivial⟩ rfl ?_ (fun y hy => ?_) (fun y hy => ?_) (fun y hy => Nat.zero_le _)
  · exact t5.trans (congrArg some (alV_ren (x := 0) (y := x) (fun y => if y = 0 then x else c + y) rfl L).symm)
  · exact g.trans (congrArg some (alO_ren _ L).symm)
  · simp
  · show c ≤ if y = 0 then x else c + y
    rw [if_neg (by omega)]; omega
  · omega
set_option maxRecDepth 100000 in
set_option maxHeartbeats 4000000 in
theorem All_can (s : Int) (b : Nat) (hb : b ≤ 62) : CanS 0 Try.prog 46 0 [.int .i64 s, .int .i64 (b : Int)] [] 0 fun v H1 c1 => v = alV 0 (numsL s b) ∧ c1 = 1 ∧ H1.get 0 = some (alO (numsL s b)) := by
  refine CanS.mk Try.func46 rfl rfl rfl ?_
  repeat' (first | refine RT.nil ?_ | refine sq_n ?_ | refine Tr.seq ?_ | refine Tr.region ?_ | refine Tr.block ?_ | (refine RT.goK rfl rfl rfl rfl ?_; apply Nx.of; (first | exact S.assign | exact S.buildSlice0 rfl rfl rfl)))
  refine Tr.loop (fun k : Nat => stL Try.f46.ntmps [] [(0, .int .i64 s), (1, .int .i64 (b : Int)), (5, alV 0 (numsL s k)), (6, .int .i64 k)] [(0, some (alO (numsL s k)))] 1) (fun k => k ≤ b) (fun k => b - k) 0 (Nat.zero_le _) (al_wk (L := []) rfl rfl rfl rfl rfl) (fun k hk => ?_)
  have hlen := numsL_len s k
  by_cases hlt : k < b
  · have hlt' : (k : Int) < b := by omega
    by_cases hp : hasP s k
    · have hv : AV.bool (dB (hasP s k)) = .bool true := by rw [dB_tt hp]
      have e1 : numsL s (k + 1) = numsL s k ++ [k] := by rw [numsL, dB_tt hp]; rfl
      cases hl : numsL s k with
      | nil =>
        repeat' (first | refine RT.nil ?_ | refine sq_n ?_ | refine Tr.seq ?_ | refine Tr.region ?_ | refine Tr.cond_t rfl ?_ | refine Tr.skip ?_ | refine Tr.block ?_ | refine blk_n ?_ | (refine RT.goK rfl rfl rfl rfl ?_; refine Nx.of (S.lss_t hlt') ?_) | (refine RT.call rfl rfl rfl (val_is hv (In_at s k (by omega) _ _ _)) rfl rfl (Nat.le_refl _) ?_) | (refine RT.goK rfl rfl rfl rfl ?_; apply Nx.of; (first | exact S.append_e1I rfl rfl rfl rfl rfl rfl rfl rfl rfl rfl rfl rfl)) | (refine RT.goK rfl rfl rfl rfl ?_; apply Nx.of; (first | exact S.move | exact S.assign | exact S.add_one (by omega) | exact S.buildSlice rfl rfl rfl rfl rfl rfl rfl)))
        refine lp_n (k + 1) hlt (by omega) ?_
        rw [e1, hl]
        exact al_wk (x := 2) rfl rfl rfl rfl rfl
      | cons a r =>
        have hcut : cut (natV (a :: r)) 0 ((a :: r).length * 1) = some (natV (a :: r)) := cut_all (by rw [natV_len, Nat.mul_one])
        rw [hl] at hlen
        repeat' (first | refine RT.nil ?_ | refine sq_n ?_ | refine Tr.seq ?_ | refine Tr.region ?_ | refine Tr.cond_t rfl ?_ | refine Tr.skip ?_ | refine Tr.block ?_ | refine blk_n ?_ | (refine RT.goK rfl rfl rfl rfl ?_; refine Nx.of (S.lss_t hlt') ?_) | (refine RT.call rfl rfl rfl (val_is hv (In_at s k (by omega) _ _ _)) rfl rfl (Nat.le_refl _) ?_) | (refine RT.goK rfl rfl rfl rfl ?_; apply Nx.of; (first | exact S.append_gsI rfl rfl rfl rfl rfl rfl rfl rfl rfl rfl rfl rfl rfl hcut (by omega) rfl)) | (refine RT.goK rfl rfl rfl rfl ?_; apply Nx.of; (first | exact S.move | exact S.assign | exact S.add_one (by omega) | exact S.buildSlice rfl rfl rfl rfl rfl rfl rfl)))
        refine lp_n (k + 1) hlt (by omega) ?_
        rw [e1, hl]
        refine al_wk (x := 2) rfl rfl ?_ rfl ?_
        · show _ = some (AV.gs 2 ((r ++ [k]).length + 1))
          rw [List.length_append]; rfl
        · show _ = some (AObj.grown (natV ((a :: r) ++ [k])) 1)
          unfold natV
          rw [List.map_append, List.map_append]; rfl
    · have hv : AV.bool (dB (hasP s k)) = .bool false := by rw [dB_ff hp]
      have e1 : numsL s (k + 1) = numsL s k := by rw [numsL, dB_ff hp]; rfl
      repeat' (first | refine RT.nil ?_ | refine sq_n ?_ | refine Tr.seq ?_ | refine Tr.region ?_ | refine Tr.cond_t rfl ?_ | refine Tr.cond_f rfl ?_ | refine Tr.skip ?_ | refine Tr.block ?_ | refine blk_n ?_ | (refine RT.goK rfl rfl rfl rfl ?_; refine Nx.of (S.lss_t hlt') ?_) | (refine RT.call rfl rfl rfl (val_is hv (In_at s k (by omega) _ _ _)) rfl rfl (Nat.le_refl _) ?_) | (refine RT.goK rfl rfl rfl rfl ?_; apply Nx.of; (first | exact S.move | exact S.assign | exact S.add_one (by omega))))
      refine lp_n (k + 1) hlt (by omega) ?_
      rw [e1]
      exact al_wk (x := 0) rfl rfl rfl rfl rfl
  · obtain rfl : k = b := by omega
    have hlt' : ¬ (k : Int) < k := by omega
    repeat' (first | refine RT.nil ?_ | refine sq_n ?_ | refine Tr.seq ?_ | refine Tr.region ?_ | refine Tr.cond_f rfl ?_ | refine Tr.ret ?_ | refine Tr.exit ?_ | refine sq_x ?_ | refine blk_hit rfl ?_ | refine lp_x ?_ | (refine RT.goK rfl rfl rfl rfl ?_; refine Nx.of (S.lss_f hlt') ?_) | (refine RT.goK rfl rfl rfl rfl ?_; apply Nx.of; (first | exact S.move | exact S.assign)))
    (first | refine rt_go rfl ?_)
    exact ⟨rfl, rfl, getM rfl⟩
theorem All_at (s : Int) (b : Nat) (hb : b ≤ 62) {m : List (Nat × Option AObj)} {c : Nat} (hm : ∀ x o, lookM m x = some o → x < c) (fl : Nat) : OkAt 0 Try.prog fl 46 [.int .i64 s, .int .i64 (b : Int)] (ofM m) c (alV c (numsL s b)) (ofM ((c, some (alO (numsL s b))) :: m)) (c + 1) := by
  have := CanS.fresh (H' := ofM ((c, some (alO (numsL s b))) :: m)) (k := 1) (v0 := alV 0 (numsL s b)) (All_can s b hb) (Entry.plain (H := ofM m) (c := c) (fun _ => rfl)) (fun v1 H1 c1 ⟨g1, g2, g3⟩ => ?_) fl
  · rw [alV_ren _ rfl] at this
    exact this
  · refine ⟨by rw [g1, alV_ren _ rfl], g2, fun x o hx => ?_⟩
    rw [ofM_get] at hx
    by_cases e1 : x = c
    · subst e1
      rw [lookM_hd] at hx
      cases hx
      exact .inr ⟨0, alO (numsL s b), rfl, by rw [alO_ren]; exact g3, (alO_ren _ _).symm⟩
    · rw [lookM_tl e1] at hx
      exact .inl ⟨hm x o hx, getM hx⟩
noncomputable def kpL (L : List Nat) (k : Nat) : List Nat := (List.range k).filter fun i => dB (i ∉ L)
theorem kpL_t {L : List Nat} {k : Nat} (h : k ∉ L) : kpL L (k + 1) = kpL L k ++ [k] := by
  unfold kpL
  rw [List.range_succ, List.filter_append, List.filter_cons_of_pos (by exact dB_tt h)]; rfl
theorem kpL_f {L : List Nat} {k : Nat} (h : k ∈ L) : kpL L (k + 1) = kpL L k := by
  unfold kpL
  rw [List.range_succ, List.filter_append, List.filter_cons_of_neg (by rw [dB_ff (fun q => q h)]; decide)]; simp
theorem kpL_len (L : List Nat) (k : Nat) : (kpL L k).length ≤ k := by
  have := List.length_filter_le (fun i => dB (i ∉ L)) (List.range k)
  rwa [List.length_range] at this
def kpM (B : CBook) (x : Nat) (K : List Nat) : List (Nat × Option AObj) := match K with | [] => [] | _ :: _ => [(x, some (.grown (flat (ckE B) K) 3))]
def zbk : CBook := ⟨0, fun _ => 0, fun _ => 0, fun _ => 0, fun _ => 0, fun _ => 0, fun _ => 0, fun _ => 0, 0, fun _ => 0, 0, fun _ => 0, fun _ => 0, fun _ => 0, 0⟩
theorem grV_ren (σ : Nat → Nat) {x y : Nat} (h : σ x = y) (L : List Nat) : (grV x L).ren σ = grV y L := by
  cases L with
  | nil => rfl
  | cons a r => show AV.gs (σ x) _ = _; rw [h]; rfl
theorem grV_one (x : Nat) (L : List Nat) : (grV x L).one = true := by cases L <;> rfl
theorem bkr_one {B : CBook} {a1 : AV} {x : Nat} {K : List Nat} (h1 : IsSl a1 B.ns 0) : ((bk B a1 (grV x K)).cells.all AV.one) = true := by
  simp only [bk, AV.cells, List.all_cons, List.all_nil, h1.one.1, grV_one]
  rfl
theorem bkr_ren {B : CBook} {a1 : AV} {x y : Nat} {K : List Nat} (h1 : IsSl a1 B.ns 0) {σ : Nat → Nat} (e1 : σ 0 = 0) (e2 : σ x = y) : (AObj.cells (bk B a1 (grV x K)).cells).ren σ = .cells (bk B a1 (grV y K)).cells := by simp only [bk, AObj.ren, AV.cells, AV.ren, AV.rens, h1.ren e1, grV_ren σ e2]
end Go.Proofs.Ytlnmcadbmpiopaa
/- What ClaimWrong needs: Wrong and without at any memory, the truths of a book without some clocks. -/
namespace Go.Proofs.Ytlnmcadbmpiopaa
open Go Go.Ev
theorem lookM_app {ms g : List (Nat × Option AObj)} {x : Nat} {o : AObj} (h : lookM (ms ++ g) x = some o) : lookM ms x = some o ∨ lookM g x = some o := by
  induction ms with
  | nil => exact .inr h
  | cons e ms ih =>
    obtain ⟨y, ob⟩ := e
    rw [List.cons_append, lookM, Bool.cond_eq_ite] at h
    rw [lookM, Bool.cond_eq_ite]
    split at h
    · rename_i hy
      rw [if_pos hy]; exact .inl h
    · rename_i hy
      rw [if_neg hy]; exact ih h
def swT (a : Nat) (j : Nat) : Nat := if j = 0 then a else if j = a then 0 else j
theorem swT_inj {a : Nat} (i j : Nat) (h : swT a i = swT a j) : i = j := by
  unfold swT at h
  (repeat' split at h) <;> omega
theorem Wrong_w {B : CBook} {v1 v2 : AV} {m : List (Nat × Option AObj)} {c : Nat} (h : BkX B v1 v2 m c) (hm : ∀ x o, lookM m x = some o → x < c) (hn : B.ns ≤ 9223372036854775807) (hB : bkOk B) (fl : Nat) :
    OkAt 0 Try.prog fl 32 [bk B v1 v2] (ofM m) c (.tup [fuV c (wrongL B), .int .i64 0]) (ofM (m ++ grM c (wrongL B))) (c + 14) := by
  obtain ⟨a1, a2, i1, i2, he⟩ := h.three
  have e0 : ∀ (σ : Nat → Nat) (x : Nat), (AV.tup [fuV x (wrongL B), .int .i64 0]).ren σ = .tup [fuV (σ x) (wrongL B), .int .i64 0] := fun σ x => by
    show AV.tup [(fuV x (wrongL B)).ren σ, .int .i64 0] = _
    rw [fu_ren σ rfl]
  have hw := wrO_is B
  have := CanS.freshT (swT (wrO B)) (H' := ofM (m ++ grM c (wrongL B))) (k := 14) (v0 := .tup [fuV 0 (wrongL B), .int .i64 0]) (Wrong_yes B a1 a2 i1 i2 hn hB) (fun j hj => by unfold swT; (repeat' split) <;> omega) swT_inj he (fun v1 H1 c1 ⟨g1, g2, g3⟩ => ?_) fl
  · rw [e0] at this
    exact this
  · have hw2 : 7 + (fwN (fwE B []) - 5) = 3 + wrO B := by unfold wrO; omega
    rw [hw2] at g2 g3
    have s0 : swT (wrO B) 0 = wrO B := rfl
    refine ⟨by rw [g2, e0, s0], by omega, fun x o hx => ?_⟩
    rw [ofM_get] at hx
    rcases lookM_app hx with k | k
    · exact .inl ⟨hm x o k, getM k⟩
    · generalize wrongL B = L at g3 k
      cases L with
      | nil => cases k
      | cons a r =>
        replace k : lookM ((c, some (.grown (natV (a :: r)) 1)) :: []) x = some o := k
        by_cases e1 : x = c
        · subst e1
          rw [lookM_hd] at k
          cases k
          exact .inr ⟨0, .grown (natV (a :: r)) 1, rfl, by rw [natV_ren, s0]; exact g3 (by simp), (natV_ren _ _ _).symm⟩
        · rw [lookM_tl e1] at k
          cases k
structure Lw (m : List (Nat × Option AObj)) (v : AV) (L : List Nat) : Prop where
  ex : ∃ w : Wnd, (∃ o, (ofM m).get w.1 = some o ∧ (natV L = [] ∨ ∃ ca, cellsOf o = some ca ∧ cut ca w.2.1 (natV L).length = some (natV L))) ∧ ∀ (W : List Wnd) (i : Nat), W[i]? = some w → ∃ a, ArgW W v a ∧ IsSl a L.length i
theorem Lw.fu {m : List (Nat × Option AObj)} {x z : Nat} {L : List Nat} (hx : LiesF m x L) (hz : ∃ o, lookM m z = some o) : Lw m (fuV x L) L := ⟨winF x z L, winF_ok hx hz, fun W i h => ⟨argF i L, argF_w h, argF_is i L⟩⟩
theorem Lw.al {m : List (Nat × Option AObj)} {x : Nat} {L : List Nat} (hx : lookM m x = some (alO L)) : Lw m (alV x L) L := by
  cases L with
  | nil => exact ⟨(x, 0, some 0), ⟨_, getM hx, .inl rfl⟩, fun W i h => ⟨.gs i 0, ArgW.sl h (Nat.le_refl _), IsSl.gs i 0⟩⟩
  | cons a r => exact ⟨(x, 0, none), ⟨_, getM hx, .inr ⟨_, rfl, cut_all rfl⟩⟩, fun W i h => ⟨.gs i (a :: r).length, ArgW.gs h, IsSl.gs i _⟩⟩
theorem Fewer_at {m : List (Nat × Option AObj)} {c : Nat} {v u : AV} {L Q : List Nat} (h : Lw m v L) (k : Lw m u Q) (hl : L.length ≤ 1000) (fl : Nat) : OkAt 0 Try.prog fl 48 [v, u] (ofM m) c (.bool (decide (cmpL L Q < 0))) (ofM m) c := by
  obtain ⟨w, hw, ha⟩ := h.ex
  obtain ⟨x, hx, hb⟩ := k.ex
  obtain ⟨a, h1, h2⟩ := ha [w, x] 0 rfl
  obtain ⟨b, k1, k2⟩ := hb [w, x] 1 rfl
  exact (Fewer_can L Q hl a b h2 k2).pure (.bool _) (Entry.win (W := [w, x]) (CS := [natV L, natV Q]) rfl ⟨hw, pls_nat L, hx, pls_nat Q, trivial⟩ (show ArgsW [w, x] [v, u] [a, b] from ⟨h1, k1, trivial⟩)) fl
noncomputable def woB (B : CBook) (K : List Nat) : CBook := { B with nc := K.length, ck := fun i => B.ck (K[i]?.getD 0), rd := fun i => B.rd (K[i]?.getD 0), er := fun i => B.er (K[i]?.getD 0) }
theorem flat_wo (B : CBook) (K : List Nat) : flat (ckE (woB B K)) (List.range K.length) = flat (ckE B) K := by
  have : flat (ckE (woB B K)) (List.range K.length) = flat (ckE B) ((List.range K.length).map fun i => K[i]?.getD 0) := by
    unfold flat
    rw [List.map_map]
    rfl
  rw [this]
  refine congrArg _ (List.ext_getElem? fun i => ?_)
  rw [List.getElem?_map]
  by_cases h : i < K.length
  · rw [List.getElem?_range h, List.getElem?_eq_getElem h]
    show some (K[i]?.getD 0) = _
    rw [List.getElem?_eq_getElem h]; rfl
  · rw [List.getElem?_eq_none (by rw [List.length_range]; omega), List.getElem?_eq_none (by omega)]; rfl
section
variable {B : CBook} {K : List Nat}
theorem woB_ok (hB : bkOk B) (hK : ∀ k ∈ K, k < B.nc) (hl : K.length ≤ 4) : bkOk (woB B K) := by
  refine ⟨⟨hB.1.1, fun i hi => ?_⟩, hB.2.1, ⟨hl, fun i hi => ?_⟩, hB.2.2.2⟩
  · have := hB.1.2 i hi
    unfold stOk at this ⊢
    have e : before (woB B K) i = before B i := by cases i <;> rfl
    rw [e]
    exact this
  · have hi : i < K.length := hi
    show ckOk B (B.ck (K[i]?.getD 0)) (B.rd (K[i]?.getD 0)) (B.er (K[i]?.getD 0))
    rw [List.getElem?_eq_getElem hi]
    exact hB.2.2.1.2 _ (hK _ (List.getElem_mem hi))
theorem bits_0 : ∀ a : Fin 16, (∀ k : Fin 5, ¬ andI ((a.1 : Int).fdiv (2 ^ k.1)) 1 = 1) → (a.1 : Int) = 0 := by decide +kernel
theorem wrV_0 (hB : B.nc ≤ 4) (q : Int × Int) : wrV B q = 0 ↔ ∀ k, k < B.nc → B.ck k = q.1 → B.rd k - B.er k ≤ q.2 ∧ q.2 ≤ B.rd k + B.er k := by
  constructor
  · intro h k hk he
    refine Classical.byContradiction fun hn => ?_
    have := (wrS_has B q.1 q.2 (k := k) (by omega) B.nc hB).1.2 ⟨hk, he, hn⟩
    rw [show wrS B q.1 q.2 B.nc = 0 from h] at this
    exact hasP_0 (by omega) this
  · intro h
    obtain ⟨_, b0, b1⟩ := wrS_has B q.1 q.2 (k := 0) (by omega) B.nc hB
    have hb : ∀ k : Fin 5, ¬ hasP (wrV B q) k.1 := fun k hk => by
      obtain ⟨k1, k2, k3⟩ := (wrS_has B q.1 q.2 k.2 B.nc hB).1.1 hk
      exact k3 (h k.1 k1 k2)
    show wrV B q = 0
    replace b0 : 0 ≤ wrV B q := b0
    replace b1 : wrV B q < 16 := b1
    generalize wrV B q = a at *
    obtain ⟨n, rfl⟩ := Int.eq_ofNat_of_zero_le b0
    exact bits_0 ⟨n, by omega⟩ hb
theorem mem_nc (hB : bkOk B) {t : Tru} : t ∈ Ws B ↔ t ∈ Ws (ncB B) ∧ ∀ k, k < B.nc → ¬ clkW B t k := by
  have h2 := ncB_ok hB
  rw [mem_Ws hB.1 hB.2.1, mem_Ws h2.1 h2.2.1]
  have hck := hB.2.2.1
  constructor
  · intro h
    refine ⟨⟨h.w, fun i hi => ⟨(h.st i hi).1, (h.st i hi).2.1, rfl⟩, h.z⟩, fun k hk hw => hw ?_⟩
    have g := (hck.2 k hk).1
    have := (wrV_0 hck.1 _).1 (h.st (B.ck k).toNat (by omega)).2.2 k hk (by show B.ck k = ((B.ck k).toNat : Int); omega)
    exact this
  · rintro ⟨h, hw⟩
    refine ⟨h.w, fun i hi => ⟨(h.st i hi).1, (h.st i hi).2.1, (wrV_0 hck.1 _).2 fun k hk he => ?_⟩, h.z⟩
    have := Classical.not_not.1 (hw k hk)
    rw [he, Int.toNat_natCast] at this
    exact this
theorem mem_wo (hB : bkOk B) (hK : ∀ k ∈ K, k < B.nc) (hl : K.length ≤ 4) {t : Tru} : t ∈ Ws (woB B K) ↔ t ∈ Ws (ncB B) ∧ ∀ k ∈ K, ¬ clkW B t k := by
  have hw := woB_ok hB hK hl
  rw [mem_nc hw]
  have h1 := ncB_ok hw
  have h2 := ncB_ok hB
  rw [mem_Ws h1.1 h1.2.1, mem_Ws h2.1 h2.2.1]
  refine and_congr ⟨fun h => ⟨h.w, h.st, h.z⟩, fun h => ⟨h.w, h.st, h.z⟩⟩ ⟨fun h k hk => ?_, fun h i hi => ?_⟩
  · obtain ⟨i, hi⟩ := List.getElem?_of_mem hk
    have hlt : i < K.length := Classical.byContradiction fun q => by rw [List.getElem?_eq_none (by omega)] at hi; cases hi
    have := h i hlt
    show ¬ clkW B t k
    unfold clkW woB at this
    simp only [hi] at this
    exact this
  · have hi : i < K.length := hi
    have := h K[i] (List.getElem_mem hi)
    unfold clkW woB
    simp only [List.getElem?_eq_getElem hi]
    exact this
theorem kpL_mem {L : List Nat} {n k : Nat} : k ∈ kpL L n ↔ k < n ∧ k ∉ L := by
  unfold kpL
  rw [List.mem_filter, List.mem_range]
  exact and_congr Iff.rfl dB_eq
theorem nc_ne (hB : bkOk B) : Ws (ncB B) ≠ [] := ne_nc (ncB_ok hB) (wrV_nc _)
theorem wr_rest (hB : bkOk B) : Ws (woB B (kpL (wrongL B) B.nc)) ≠ [] := by
  have hK : ∀ k ∈ kpL (wrongL B) B.nc, k < B.nc := fun k hk => (kpL_mem.1 hk).1
  have hl : (kpL (wrongL B) B.nc).length ≤ 4 := Nat.le_trans (kpL_len _ _) hB.2.2.1.1
  have key : ∃ t, t ∈ Ws (woB B (kpL (wrongL B) B.nc)) := by
    rcases wr_is hB with h | ⟨t, ht, h⟩
    · obtain ⟨t, ht⟩ := List.exists_mem_of_ne_nil _ (nc_ne hB)
      refine ⟨t, (mem_wo hB hK hl).2 ⟨ht, fun k hk => ?_⟩⟩
      obtain ⟨k1, k2⟩ := kpL_mem.1 hk
      rw [h] at k2
      exact absurd (List.mem_range.2 k1) k2
    · refine ⟨t, (mem_wo hB hK hl).2 ⟨ht, fun k hk hw => ?_⟩⟩
      obtain ⟨k1, k2⟩ := kpL_mem.1 hk
      rw [h, fwL_filter hB.2.2.1] at k2
      exact k2 (List.mem_filter.2 ⟨List.mem_range.2 k1, dB_eq.2 hw⟩)
  intro e
  obtain ⟨t, ht⟩ := key
  rw [e] at ht
  cases ht
theorem wr_less (hB : bkOk B) {s : Int} (h : cmpL (numsL s B.nc) (wrongL B) < 0) : Ws (woB B (kpL (numsL s B.nc) B.nc)) = [] := by
  refine Classical.byContradiction fun hne => ?_
  obtain ⟨t, ht⟩ := List.exists_mem_of_ne_nil _ hne
  have hK : ∀ k ∈ kpL (numsL s B.nc) B.nc, k < B.nc := fun k hk => (kpL_mem.1 hk).1
  have hl : (kpL (numsL s B.nc) B.nc).length ≤ 4 := Nat.le_trans (kpL_len _ _) hB.2.2.1.1
  obtain ⟨h1, h2⟩ := (mem_wo hB hK hl).1 ht
  have hbest := wr_best h1
  have hsub : ∀ k, k < B.nc → clkW B t k → k ∈ numsL s B.nc := fun k hk hw => Classical.byContradiction fun q => h2 k (kpL_mem.2 ⟨hk, q⟩) hw
  have e : fwL B t = (numsL s B.nc).filter fun k => dB (clkW B t k) := by
    rw [fwL_filter hB.2.2.1, numsL_filter, List.filter_filter]
    refine List.filter_congr fun k hk => ?_
    have hk := List.mem_range.1 hk
    by_cases hw : clkW B t k
    · have := hsub k hk hw
      rw [numsL_filter, List.mem_filter] at this
      rw [dB_tt hw, this.2]; rfl
    · rw [dB_ff hw]; rfl
  by_cases hall : ∀ k ∈ numsL s B.nc, clkW B t k
  · rw [List.filter_eq_self.2 fun k hk => dB_eq.2 (hall k hk)] at e
    rw [e] at hbest
    exact hbest h
  · obtain ⟨k, hk⟩ := Classical.not_forall.1 hall
    obtain ⟨hk1, hk2⟩ := Classical.not_imp.1 hk
    have hlt : (fwL B t).length < (numsL s B.nc).length := by
      rw [e]
      exact List.length_filter_lt_length_iff_exists.2 ⟨k, hk1, by rw [dB_ff hk2]; decide⟩
    exact hbest (cmpL_trans (cmpL_lt.2 (.inl hlt)) h)
end
end Go.Proofs.Ytlnmcadbmpiopaa
/- Names of a memory below a number; look-ups behind lists that may be absent. -/
namespace Go.Proofs.Ytlnmcadbmpiopaa
open Go Go.Ev
def Kb (m : List (Nat × Option AObj)) (b : Nat) : Prop := ∀ e ∈ m, e.1 < b
theorem Kb.nil {b : Nat} : Kb [] b := fun e h => by cases h
theorem Kb.cons {m : List (Nat × Option AObj)} {b x : Nat} {o : Option AObj} (hx : x < b) (h : Kb m b) : Kb ((x, o) :: m) b := fun e he => by
  rcases List.mem_cons.1 he with rfl | he
  · exact hx
  · exact h e he
theorem Kb.app {m g : List (Nat × Option AObj)} {b : Nat} (h : Kb m b) (k : Kb g b) : Kb (m ++ g) b := fun e he => (List.mem_append.1 he).elim (h e) (k e)
theorem Kb.gr {x b : Nat} {L : List Nat} (h : x < b) : Kb (grM x L) b := by
  cases L with
  | nil => exact Kb.nil
  | cons a r => exact Kb.cons h Kb.nil
theorem Kb.kp {B : CBook} {x b : Nat} {K : List Nat} (h : x < b) : Kb (kpM B x K) b := by
  cases K with
  | nil => exact Kb.nil
  | cons a r => exact Kb.cons h Kb.nil
theorem Kb.hm {m : List (Nat × Option AObj)} {c : Nat} (h : Kb m c) : ∀ x o, lookM m x = some o → x < c := fun x o hx => by
  have := lookM_mem hx
  obtain ⟨e, he, rfl⟩ := List.mem_map.1 this
  exact h e he
theorem look_kp {B : CBook} {x : Nat} {K : List Nat} (hne : K ≠ []) : ∀ {m : List (Nat × Option AObj)}, Kb m x → lookM (m ++ kpM B x K) x = some (.grown (flat (ckE B) K) 3)
  | [], _ => by
    cases K with
    | nil => exact absurd rfl hne
    | cons a r => exact lookM_hd
  | (y, o) :: m, h => by
    have hy : y < x := h (y, o) List.mem_cons_self
    rw [List.cons_append, lookM_tl (by omega)]
    exact look_kp hne fun e he => h e (List.mem_cons_of_mem _ he)
theorem look_gr {x : Nat} {L : List Nat} (hne : L ≠ []) : ∀ {m : List (Nat × Option AObj)}, (∀ e ∈ m, e.1 ≠ x) → lookM (m ++ grM x L) x = some (.grown (natV L) 1)
  | [], _ => by
    cases L with
    | nil => exact absurd rfl hne
    | cons a r => exact lookM_hd
  | (y, o) :: m, h => by
    have hy : y ≠ x := h (y, o) List.mem_cons_self
    rw [List.cons_append, lookM_tl hy.symm]
    exact look_gr hne fun e he => h e (List.mem_cons_of_mem _ he)
theorem look_left {m g : List (Nat × Option AObj)} {x : Nat} {o : AObj} (h : lookM m x = some o) : lookM (m ++ g) x = some o := by
  induction m with
  | nil => cases h
  | cons e m ih =>
    obtain ⟨y, ob⟩ := e
    rw [List.cons_append, lookM, Bool.cond_eq_ite]
    rw [lookM, Bool.cond_eq_ite] at h
    split at h
    · rename_i hy
      rw [if_pos hy]; exact h
    · rename_i hy
      rw [if_neg hy]; exact ih h
theorem Lw.of {m : List (Nat × Option AObj)} {x z : Nat} {L : List Nat} {o : AObj} (h : L ≠ [] → lookM m x = some (.grown (natV L) 1)) (hz : lookM m z = some o) : Lw m (fuV x L) L := Lw.fu (z := z) (by
  by_cases k : L = []
  · exact .inl k
  · exact .inr (h k)) ⟨o, hz⟩
theorem BkX.wo {B : CBook} {K : List Nat} {a1 : AV} {x : Nat} {m : List (Nat × Option AObj)} {c : Nat} (h1 : IsSl a1 B.ns 0) (m0 : lookM m 0 = some (oSt B)) (hK : K ≠ [] → lookM m x = some (.grown (flat (ckE B) K) 3)) : BkX (woB B K) a1 (grV x K) m c := by
  have st : LiesAt m a1 (woB B K).ns 0 (flat (stE (woB B K)) (List.range (woB B K).ns)) := ⟨h1, _, m0, .inr rfl⟩
  have e := flat_wo B K
  cases K with
  | nil => exact BkX.of (x1 := 0) (x2 := 0) st ⟨IsSl.nils 0, _, m0, .inl rfl⟩
  | cons a r => exact BkX.of (x1 := 0) (x2 := x) st ⟨IsSl.gs x _, _, hK (by simp), .inr (congrArg some e.symm)⟩
end Go.Proofs.Ytlnmcadbmpiopaa
/- Numbers chosen by numbers: Wrap, Pick, From; Total, Holds. -/
namespace Go.Proofs.Ytlnmcadbmpiopaa
open Go Go.Ev
abbrev fE (f : Nat → Int) (n : Nat) : List AV := flat (fun i => [f i]) (List.range n)
theorem fE_len (f : Nat → Int) (n : Nat) : (fE f n).length = n := by rw [flat_len (s := 1) (fun _ => rfl), List.length_range, Nat.mul_one]
theorem fE_succ (f : Nat → Int) (n : Nat) : fE f (n + 1) = fE f n ++ [.int .i64 (f n)] := by
  show flat _ (List.range (n + 1)) = _
  rw [List.range_succ, flat_append, flat_one]; rfl
theorem fE_pls (f : Nat → Int) (n : Nat) : Pls (fE f n) := fun σ => rens_flat _ σ _
def pkV (f : Nat → Int) (n : Nat) (p : Int) : Int := if n = 0 then 0 else f (wrapV p n).toNat
structure Li (m : List (Nat × Option AObj)) (v : AV) (f : Nat → Int) (n : Nat) : Prop where
  ex : ∃ w : Wnd, (∃ o, (ofM m).get w.1 = some o ∧ (fE f n = [] ∨ ∃ ca, cellsOf o = some ca ∧ cut ca w.2.1 (fE f n).length = some (fE f n))) ∧ ∀ (W : List Wnd) (i : Nat), W[i]? = some w → ∃ a, ArgW W v a ∧ IsSl a n i
theorem Li.sl {m : List (Nat × Option AObj)} {v : AV} {f : Nat → Int} {n x : Nat} {o : AObj} (h : IsSl v n x) (hx : lookM m x = some o) (hc : cellsOf o = some (fE f n)) : Li m v f n := by
  rcases h with rfl | ⟨rfl, rfl⟩
  · exact ⟨(x, 0, none), ⟨o, getM hx, .inr ⟨_, hc, cut_all rfl⟩⟩, fun W i h => ⟨.gs i n, ArgW.gs h, IsSl.gs i n⟩⟩
  · exact ⟨(x, 0, none), ⟨o, getM hx, .inl rfl⟩, fun W i h => ⟨.nils, .pl Pl.nils, IsSl.nils i⟩⟩
noncomputable def pickF (v : AV) (f : Nat → Int) (n : Nat) : CallFn := famA (α := Int) 84 (fun p => [v, .int .i64 p]) (fun p => .int .i64 (pkV f n p)) fun _ H _ => ∃ m, H = ofM m ∧ Li m v f n
def frV (lo hi p : Int) : Int := lo + wrapV p (hi - lo + 1)
noncomputable def fromF : CallFn := famA (α := Int × Int × Int) 85 (fun a => [.agg [.int .i64 a.1, .int .i64 a.2.1], .int .i64 a.2.2]) (fun a => .int .i64 (frV a.1 a.2.1 a.2.2)) fun a _ _ => -100000 ≤ a.1 ∧ a.2.1 ≤ 100000 ∧ a.1 ≤ a.2.1
def totV (f : Nat → Int) : Nat → Int
  | 0 => 0
  | k + 1 => totV f k + f k
end Go.Proofs.Ytlnmcadbmpiopaa
/- truly: what is so, as numbers choose it. -/
namespace Go.Proofs.Ytlnmcadbmpiopaa
open Go Go.Ev
theorem cost_at {B : CBook} {a1 a2 : AV} {w : Nat} (h : w < 3) : (bk B a1 a2).cells[2 + w * 1]? = some (.int .i64 (B.cost w)) := by
  obtain rfl | rfl | rfl : w = 0 ∨ w = 1 ∨ w = 2 := by omega
  all_goals rfl
section
variable (B : CBook) (bv : Nat → Int) (nb w : Nat)
def rT (i : Nat) : Int := frV (B.rl i) (B.rh i) (pkV bv nb ((i + 1 : Nat) : Int))
def dT (i : Nat) : Int := frV (B.dl i) (B.dh i) (pkV bv nb ((i : Int) + 2))
def sT (i : Nat) : Int := frV (B.sl i) (B.sh i) (pkV bv nb ((i : Int) + 3))
def nowT : Nat → Int
  | 0 => 0
  | k + 1 => nowT k + (dT B bv nb k + rT B bv nb k + B.cost w) + sT B bv nb k
def coT (k : Nat) : Int := nowT B bv nb w k + (dT B bv nb k + rT B bv nb k + B.cost w)
end
def grI (x k : Nat) : AV := match k with | 0 => .nils | j + 1 => .gs x (j + 1)
def glM (r c : Nat → Int) (k : Nat) : List (Nat × Option AObj) := match k with | 0 => [] | j + 1 => [(7, some (.grown (fE r (j + 1)) 1)), (8, some (.grown (fE c (j + 1)) 1))]
theorem grI_ren (σ : Nat → Nat) {x y : Nat} (h : σ x = y) (k : Nat) : (grI x k).ren σ = grI y k := by
  cases k with
  | zero => rfl
  | succ j => show AV.gs (σ x) _ = _; rw [h]; rfl
section
variable {B : CBook} {bv : Nat → Int} {nb w : Nat}
end
end Go.Proofs.Ytlnmcadbmpiopaa
/- rightly: a book whose clocks are right, as a number lets them be. -/
namespace Go.Proofs.Ytlnmcadbmpiopaa
open Go Go.Ev
def rdV (B : CBook) (e : Nat → Int) (n : Int) (k : Nat) : Int := e (B.ck k).toNat + frV (-(B.er k)) (B.er k) (IntKind.i64.wrap (n + (k : Int)))
def riE (B : CBook) (rv : Nat → Int) (k : Nat) : List Int := [B.ck k, rv k, B.er k]
noncomputable def riL (rv : Nat → Int) (k : Nat) : List Nat := (List.range k).filter fun i => dB (0 ≤ rv i ∧ rv i ≤ 600)
def rwM (enc : Nat → List Int) (x : Nat) (K : List Nat) : List (Nat × Option AObj) := match K with | [] => [] | _ :: _ => [(x, some (.grown (flat enc K) 3))]
end Go.Proofs.Ytlnmcadbmpiopaa
/- What ClaimTrue needs: truly and rightly at any memory; what is so is a truth of the book whose clocks are right. -/
namespace Go.Proofs.Ytlnmcadbmpiopaa
open Go Go.Ev
theorem sl_arg {W : List Wnd} {v : AV} {n x : Nat} (hi : IsSl v n x) (hx : W[x]? = some (x, 0, none)) : ArgW W v v := by
  rcases hi with rfl | ⟨rfl, rfl⟩
  · exact ArgW.gs hx
  · exact .pl Pl.nils
theorem bk_arg {W : List Wnd} {B : CBook} {a1 a2 : AV} (h1 : IsSl a1 B.ns 0) (h2 : IsSl a2 B.nc 1) (w0 : W[0]? = some (0, 0, none)) (w1 : W[1]? = some (1, 0, none)) : ArgW W (bk B a1 a2) (bk B a1 a2) :=
  ArgW.agg (show ArgsW _ [a1, .int .i64 B.wea, .int .i64 (B.cost 0), .int .i64 (B.cost 1), .int .i64 (B.cost 2), a2, .int .i64 B.rate] [a1, .int .i64 B.wea, .int .i64 (B.cost 0), .int .i64 (B.cost 1), .int .i64 (B.cost 2), a2, .int .i64 B.rate] from
    ⟨sl_arg h1 w0, .pl (fun _ => rfl), .pl (fun _ => rfl), .pl (fun _ => rfl), .pl (fun _ => rfl), sl_arg h2 w1, .pl (fun _ => rfl), trivial⟩)
noncomputable def riB (B : CBook) (rv : Nat → Int) (K : List Nat) : CBook := { B with nc := K.length, ck := fun i => B.ck (K[i]?.getD 0), rd := fun i => rv (K[i]?.getD 0), er := fun i => B.er (K[i]?.getD 0) }
section
variable {B : CBook} {rv : Nat → Int} {K : List Nat}
noncomputable def trT (B : CBook) (bv : Nat → Int) (nb w : Nat) : Tru := toT (w : Int) B.ns (rT B bv nb) (coT B bv nb w)
end
end Go.Proofs.Ytlnmcadbmpiopaa
/- Look-ups behind rows that may be absent. -/
namespace Go.Proofs.Ytlnmcadbmpiopaa
open Go Go.Ev
theorem S.gtr_t {P : Program} {fl c t yt : Nat} {m : List (Nat × Option AObj)} {x1 x2 : Operand} {a b : Int} (h : b < a) : OpE P fl (.binOp .gtr t x1 x2 yt) [.int .i64 a, .int .i64 b] m c (.bool true) m c := by
  have := S.gtr (P := P) (fl := fl) (m := m) (c := c) (t := t) (yt := yt) (x1 := x1) (x2 := x2) (a := a) (b := b)
  rwa [decide_eq_true h] at this
noncomputable def holdF : CallFn := famA (α := Int × Int × Int) 40 (fun a => [.agg [.int .i64 a.1, .int .i64 a.2.1], .int .i64 a.2.2]) (fun _ => .bool true) fun a _ _ => a.1 ≤ a.2.2 ∧ a.2.2 ≤ a.2.1
noncomputable def totF (x : Nat) (f : Nat → Int) (n : Nat) : CallFn := one1 41 [grI x n] (.int .i64 (totV f n)) fun H _ => ∃ m, H = ofM m ∧ lookM m x = some (.grown (fE f n) 1)
end Go.Proofs.Ytlnmcadbmpiopaa
/- A call that leaves new names, not all of them used; append of lists of rows. -/
set_option linter.unusedVariables false
namespace Go.Ev
open Go
section
variable {G : Nat} {P : Program} {c k : Nat}
theorem CanS.freshU (t : Nat → Nat) {f : Nat} {args args0 : List AV} {m0 : List (Nat × Option AObj)} {c0 : Nat} {Qf : AV → T AObj → Nat → Prop} {H H' : T AObj} {v0 : AV} (h : CanS G P f c0 args0 m0 c0 Qf) (ht1 : ∀ j, k ≤ j → k ≤ t j) (ht2 : ∀ i j, t i = t j → i = j) (he : Entry G H c args m0 c0 args0)
    (hout : ∀ v1 H1 c1, Qf v1 H1 c1 → v1 = v0.ren (fun y => c0 + t y) ∧ c1 ≤ c0 + k ∧ ∀ x o, H'.get x = some o → (x < c ∧ H.get x = some o) ∨ ∃ (y : Nat) (o0 : AObj), x = c + y ∧ H1.get (c0 + t y) = some (o0.ren fun y => c0 + t y) ∧ o = o0.ren fun y => c + y) (fl : Nat) :
    OkAt G P fl f args H c (v0.ren fun y => c + y) H' (c + k) := by
  refine ⟨h.1, fun ρ w us hH hargs r n => ?_⟩
  obtain ⟨ρ0, h0, ha⟩ := he ρ w us hH hargs
  refine (h.2 ρ0 w us h0 ha r n).mono ?_
  rintro e w' ⟨u, v1, H1, c1, ρ1, rfl, hq, h3, h4, h5, h6, h7⟩
  obtain ⟨rfl, hc1, ho⟩ := hout v1 H1 c1 hq
  have hlow : ∀ x p, ρ x = some p → x < c := fun x p hp => by
    rcases Nat.lt_or_ge x c with h | h
    · exact h
    · rw [hH.fresh x h] at hp; cases hp
  have hk : ∀ b, b < w.heap.size → w'.heap[b]? = w.heap[b]? := fun b hb => h7.keep b hb fun x p hx hp => by rw [h0.fresh x hx] at hp; cases hp
  -- new names speak of new blocks
  have hnew : ∀ y q, c0 ≤ y → ρ1 y = some q → w.heap.size ≤ q.b := fun y q hy hq => by
    rcases h6.2 y q hy hq with h | ⟨z, t, hz, ht, hzb⟩
    · exact h
    · rw [h0.fresh z hz] at ht; cases ht
  have hval : ∀ y, (fun x => if x < c then ρ x else ρ1 (c0 + t (x - c))) (c + y) = ρ1 (c0 + t y) := fun y => by
    show (if c + y < c then ρ (c + y) else ρ1 (c0 + t (c + y - c))) = _
    rw [if_neg (by omega), show c + y - c = y by omega]
  have hcomp : (fun y => (fun x => if x < c then ρ x else ρ1 (c0 + t (x - c))) (c + y)) = fun y => ρ1 (c0 + t y) := funext hval
  have hle : RLe ρ (fun x => if x < c then ρ x else ρ1 (c0 + t (x - c))) := fun x p hp => by
    show (if x < c then ρ x else _) = _
    rw [if_pos (hlow x p hp)]; exact hp
  refine ⟨u, rfl, fun x => if x < c then ρ x else ρ1 (c0 + t (x - c)), ?_, ⟨?_, ?_, ?_, ?_, ?_⟩, ⟨hle, ?_, ?_, by omega⟩, ⟨h7.os, h7.tape, h7.output, h7.size, fun b hb _ => hk b hb⟩⟩
  · rw [VR_ren, hcomp]
    exact (VR_ren _ _ _ _).1 h3
  · intro x o hx
    rcases ho x o hx with ⟨hxc, hxo⟩ | ⟨y, o0, rfl, hy1, rfl⟩
    · obtain ⟨p, hp, hob⟩ := hH.obj x o hxo
      exact ⟨p, hle x p hp, (hob.mono hle).world (hk p.b (hH.lt x p hp))⟩
    · obtain ⟨p, hp, hob⟩ := h4.obj _ _ hy1
      refine ⟨p, (hval y).trans hp, ?_⟩
      rw [ObjR_ren, hcomp]
      exact (ObjR_ren _ _ _ _ _).1 hob
  · intro x x' o o' p q hxx hx hx' hp hq hb
    have cross : ∀ x o p y q, H.get x = some o → ρ x = some p → ρ1 (c0 + t y) = some q → p.b ≠ q.b := fun x o p y q hx hp hq hb => by
      have h1 := hH.lt x p hp
      have h2 := hnew _ q (by omega) hq
      omega
    rcases ho x o hx with ⟨hxc, hxo⟩ | ⟨y, o0, rfl, hy1, rfl⟩
    · replace hp : (if x < c then ρ x else ρ1 (c0 + t (x - c))) = some p := hp
      rw [if_pos hxc] at hp
      rcases ho x' o' hx' with ⟨hxc', hxo'⟩ | ⟨y', o0', rfl, hy1', rfl⟩
      · replace hq : (if x' < c then ρ x' else ρ1 (c0 + t (x' - c))) = some q := hq
        rw [if_pos hxc'] at hq
        exact hH.sep x x' o o' p q hxx hxo hxo' hp hq hb
      · exact absurd hb (cross x o p y' q hxo hp ((hval y').symm.trans hq))
    · rcases ho x' o' hx' with ⟨hxc', hxo'⟩ | ⟨y', o0', rfl, hy1', rfl⟩
      · replace hq : (if x' < c then ρ x' else ρ1 (c0 + t (x' - c))) = some q := hq
        rw [if_pos hxc'] at hq
        exact absurd hb.symm (cross x' o' q y p hxo' hq ((hval y).symm.trans hp))
      · have g := h4.sep (c0 + t y) (c0 + t y') _ _ p q (fun e => hxx (by rw [ht2 y y' (by omega)])) hy1 hy1' ((hval y).symm.trans hp) ((hval y').symm.trans hq) hb
        exact g.congr (by rw [AObj.ren_share, AObj.ren_share]) (by rw [AObj.ren_share, AObj.ren_share])
  · intro x hx
    show (if x < c then ρ x else ρ1 (c0 + t (x - c))) = none
    rw [if_neg (by omega)]
    have := ht1 (x - c) (by omega)
    exact h4.fresh _ (by omega)
  · intro x p hp
    replace hp : (if x < c then ρ x else ρ1 (c0 + t (x - c))) = some p := hp
    split at hp
    · exact Nat.lt_of_lt_of_le (hH.lt x p hp) h7.size
    · exact h4.lt _ p hp
  · intro g hg
    obtain ⟨j, hj⟩ := hH.glob g hg
    exact ⟨j, hle g _ hj⟩
  · intro x p hx hp
    replace hp : (if x < c then ρ x else ρ1 (c0 + t (x - c))) = some p := hp
    split at hp
    · rw [hx] at hp; cases hp
    · exact .inl (hnew _ p (by omega) hp)
  · intro x p hx hp
    replace hp : (if x < c then ρ x else ρ1 (c0 + t (x - c))) = some p := hp
    split at hp
    · rw [hx] at hp; cases hp
    · omega
end
section
variable {P : Program} {fl c : Nat} {m : List (Nat × Option AObj)} {y y' z : Ty} {t t' : Nat} {x1 x2 : Operand}
theorem S.append_eI [Tab P] {ats : Array Nat} {v : AV} {x w n : Nat} {news : List AV} {ob : AObj} (hat : ats.toList = [t, t']) (ht : ty P t = some y) (hk : y.kind = 5) (ht' : ty P t' = some y') (hk' : y'.kind = 5) (hz : ty P y.elem = some z) (hzk : z.kind = 0) (hzz : (Nat.beq z.zero.cells.length z.size && Nat.ble 1 z.size) = true)
    (hb : Nat.ble z.bytes 10000 = true) (hx : lookM m x = some (.cells [])) (hv : IsSl v n w) (ho : lookM m w = some ob) (hcs : cellsOf ob = some news) (hl : news.length = n * z.size) (hn : n ≤ 1000000) (h0 : 0 < n) :
    OpE P fl (.call ⟨.builtin .append, #[x1, x2], ats⟩) [.sl x 0 0 0, v] m c (.gs c n) ((c, some (.grown news z.size)) :: m) (c + 1) := by
  obtain ⟨i, h1, h2, h3⟩ := info_sz hz
  have hb' : z.bytes ≤ 10000 := Nat.le_of_ble_eq_true hb
  have hbb : (Nat.ble ((2 * n + 1000) * i.bytes) (2 ^ 48) && Nat.ble n (2 ^ 62)) = true := by
    rw [h2]
    simp only [Bool.and_eq_true, Nat.ble_eq]
    refine ⟨?_, by omega⟩
    calc (2 * n + 1000) * z.bytes ≤ 3000000 * 10000 := Nat.mul_le_mul (by omega) hb'
      _ ≤ 2 ^ 48 := by decide
  rcases hv with rfl | ⟨rfl, rfl⟩
  · have hc0 : Nat.ble n 0 = false := Bool.eq_false_iff.2 fun h => by have := Nat.le_of_ble_eq_true h; omega
    have hn0 : Nat.beq n 0 = false := Bool.eq_false_iff.2 fun h => by have := Nat.eq_of_beq_eq_true h; omega
    have hcut0 : cut ([] : List AV) 0 (0 * z.size) = some [] := by rw [Nat.zero_mul]; rfl
    have hcut : cut news 0 (n * z.size) = some news := cut_all hl
    have hce : cellsOf (.cells []) = some [] := rfl
    rw [← h3] at hcut0 hcut
    refine ⟨rfl, Nat.le_succ _, ?_⟩
    show opA P (ofM m) c fl _ _ = _
    simp only [opA, oCall, builtinA, hat, appendA, ty_slice ht hk, ty_slice ht' hk', h1, rowT hz hzz, sliceCells, getCells, ofM_get, hx, ho, hcs, hce, Option.bind_some, hcut0, hcut, Option.map_some, hn0, cond_false, hbb, cond_true, hc0, keptI hz hzk, growA, Nat.zero_add, List.nil_append]
    rw [h3]
    rfl
  · omega
structure SlC (m : List (Nat × Option AObj)) (v : AV) (n s : Nat) (cs : List AV) : Prop where
  ex : (∃ x cp ob ca, (v = .gs x n ∨ v = .sl x 0 n cp) ∧ lookM m x = some ob ∧ cellsOf ob = some ca ∧ cut ca 0 (n * s) = some cs)
theorem SlC.gs {x n s : Nat} {ob : AObj} {cs : List AV} (h : lookM m x = some ob) (hc : cellsOf ob = some cs) (hl : cs.length = n * s) : SlC m (.gs x n) n s cs := ⟨x, 0, ob, cs, .inl rfl, h, hc, cut_all hl⟩
theorem SlC.sl {x n s cp : Nat} {ob : AObj} {cs : List AV} (h : lookM m x = some ob) (hc : cellsOf ob = some cs) (hl : cs.length = n * s) : SlC m (.sl x 0 n cp) n s cs := ⟨x, cp, ob, cs, .inr rfl, h, hc, cut_all hl⟩
theorem SlC.cells {v : AV} {n s : Nat} {cs : List AV} (h : SlC m v n s cs) : sliceCells (ofM m) s v = some (n, cs) := by
  obtain ⟨x, cp, ob, ca, hv, h1, h2, h3⟩ := h.ex
  rcases hv with rfl | rfl
  all_goals simp only [sliceCells, getCells, ofM_get, h1, h2, Option.bind_some, h3, Option.map_some]
theorem S.append_n [Tab P] {ats : Array Nat} {v : AV} {n : Nat} {news : List AV} (hat : ats.toList = [t, t']) (ht : ty P t = some y) (hk : y.kind = 5) (ht' : ty P t' = some y') (hk' : y'.kind = 5) (hz : ty P y.elem = some z) (hzk : z.kind = 3) (hzz : (Nat.beq z.zero.cells.length z.size && Nat.ble 1 z.size) = true)
    (hb : Nat.ble z.bytes 10000 = true) (hv : SlC m v n z.size news) (hn : n ≤ 1000000) (h0 : 0 < n) :
    OpE P fl (.call ⟨.builtin .append, #[x1, x2], ats⟩) [.nils, v] m c (.gs c n) ((c, some (.grown news z.size)) :: m) (c + 1) := by
  obtain ⟨i, h1, h2, h3⟩ := info_sz hz
  have hb' : z.bytes ≤ 10000 := Nat.le_of_ble_eq_true hb
  have hbb : (Nat.ble ((2 * (0 + n) + 1000) * i.bytes) (2 ^ 48) && Nat.ble (0 + n) (2 ^ 62)) = true := by
    rw [h2]
    simp only [Bool.and_eq_true, Nat.ble_eq]
    refine ⟨?_, by omega⟩
    calc (2 * (0 + n) + 1000) * z.bytes ≤ 3000000 * 10000 := Nat.mul_le_mul (by omega) hb'
      _ ≤ 2 ^ 48 := by decide
  have hn0 : Nat.beq n 0 = false := Bool.eq_false_iff.2 fun h => by have := Nat.eq_of_beq_eq_true h; omega
  have hvc := hv.cells
  refine ⟨rfl, Nat.le_succ _, ?_⟩
  show opA P (ofM m) c fl _ _ = _
  have e0 : sliceCells (ofM m) z.size .nils = some (0, []) := rfl
  simp only [opA, oCall, builtinA, hat, appendA, ty_slice ht hk, ty_slice ht' hk', h1, rowT hz hzz, h3, hvc, e0, hn0, cond_false, hbb, cond_true, keptF hz hzk, growA]
  rfl
theorem S.append_g [Tab P] {ats : Array Nat} {v : AV} {a k n : Nat} {olds news : List AV} (hat : ats.toList = [t, t']) (ht : ty P t = some y) (hk : y.kind = 5) (ht' : ty P t' = some y') (hk' : y'.kind = 5) (hz : ty P y.elem = some z) (hzk : z.kind = 3) (hzz : (Nat.beq z.zero.cells.length z.size && Nat.ble 1 z.size) = true)
    (hb : Nat.ble z.bytes 10000 = true) (hv : SlC m v n z.size news) (hn : n ≤ 1000000) (h0 : 0 < n) (ha : lookM m a = some (.grown olds z.size)) (hf : Nat.ble fl a = true) (hca : cut olds 0 (k * z.size) = some olds) (hkn : k ≤ 1000000) (hone : news.all AV.one = true) :
    OpE P fl (.call ⟨.builtin .append, #[x1, x2], ats⟩) [.gs a k, v] m c (.gs c (k + n)) ((c, some (.grown (olds ++ news) z.size)) :: (a, none) :: m) (c + 1) := by
  obtain ⟨i, h1, h2, h3⟩ := info_sz hz
  have hb' : z.bytes ≤ 10000 := Nat.le_of_ble_eq_true hb
  have hbb : (Nat.ble ((2 * (k + n) + 1000) * i.bytes) (2 ^ 48) && Nat.ble (k + n) (2 ^ 62)) = true := by
    rw [h2]
    simp only [Bool.and_eq_true, Nat.ble_eq]
    refine ⟨?_, by omega⟩
    calc (2 * (k + n) + 1000) * z.bytes ≤ 5000000 * 10000 := Nat.mul_le_mul (by omega) hb'
      _ ≤ 2 ^ 48 := by decide
  have hn0 : Nat.beq n 0 = false := Bool.eq_false_iff.2 fun h => by have := Nat.eq_of_beq_eq_true h; omega
  have hvc := hv.cells
  have e0 : sliceCells (ofM m) z.size (.gs a k) = some (k, olds) := by simp only [sliceCells, getCells, ofM_get, ha, cellsOf, Option.bind_some, hca, Option.map_some]
  refine ⟨rfl, Nat.le_succ _, ?_⟩
  show opA P (ofM m) c fl _ _ = _
  simp only [opA, oCall, builtinA, hat, appendA, ty_slice ht hk, ty_slice ht' hk', h1, rowT hz hzz, h3, hvc, e0, hn0, cond_false, hbb, cond_true, ofM_get, ha, hf, hone, Nat.beq_refl, Bool.and_self]
  rfl
theorem S.append_z [Tab P] {ats : Array Nat} {v : AV} {n s : Nat} {cs : List AV} (hat : ats.toList = [t, t']) (ht : ty P t = some y) (hk : y.kind = 5) (ht' : ty P t' = some y') (hk' : y'.kind = 5) (hz : ty P y.elem = some z) (hzz : (Nat.beq z.zero.cells.length z.size && Nat.ble 1 z.size) = true)
    (hv : v = .nils ∨ ∃ a olds, v = .gs a n ∧ lookM m a = some (.grown olds z.size) ∧ cut olds 0 (n * z.size) = some olds) : OpE P fl (.call ⟨.builtin .append, #[x1, x2], ats⟩) [v, .nils] m c v m c := by
  obtain ⟨i, h1, h2, h3⟩ := info_sz hz
  have e0 : sliceCells (ofM m) z.size .nils = some (0, []) := rfl
  refine ⟨rfl, Nat.le_refl _, ?_⟩
  show opA P (ofM m) c fl _ _ = _
  rcases hv with rfl | ⟨a, olds, rfl, ha, hca⟩
  · simp only [opA, oCall, builtinA, hat, appendA, ty_slice ht hk, ty_slice ht' hk', h1, rowT hz hzz, h3, e0, Nat.beq_refl, cond_true]
    rfl
  · have e1 : sliceCells (ofM m) z.size (.gs a n) = some (n, olds) := by simp only [sliceCells, getCells, ofM_get, ha, cellsOf, Option.bind_some, hca, Option.map_some]
    simp only [opA, oCall, builtinA, hat, appendA, ty_slice ht hk, ty_slice ht' hk', h1, rowT hz hzz, h3, e0, e1, Nat.beq_refl, cond_true]
    rfl
end
end Go.Ev
/- The reference of layer 6: right; Put. -/
namespace Go.Proofs.Ytlnmcadbmpiopaa
open Go Go.Ev
def rgtP (B : CBook) (s mi : Int) (n : Nat) : Prop := ∀ k, k < n → B.ck k = s → -(B.er k) ≤ B.rd k - mi ∧ B.rd k - mi ≤ B.er k
def bk5 (B : CBook) : Prop := stsOk B ∧ weaOk B ∧ (B.nc ≤ 5 ∧ ∀ i, i < B.nc → ckOk B (B.ck i) (B.rd i) (B.er i)) ∧ 0 ≤ B.rate ∧ B.rate ≤ 99
theorem bkOk.five {B : CBook} (h : bkOk B) : bk5 B := ⟨h.1, h.2.1, ⟨Nat.le_trans h.2.2.1.1 (by decide), h.2.2.1.2⟩, h.2.2.2⟩
theorem or_bd5 : ∀ k : Fin 5, ∀ a : Fin 16, a.1 < 2 ^ k.1 → 0 < orI (a.1 : Int) (1 * 2 ^ k.1) ∧ orI (a.1 : Int) (1 * 2 ^ k.1) < 2 ^ (k.1 + 1) := by decide +kernel
theorem or_bd5' {k : Nat} {a : Int} (hk : k < 5) (h0 : 0 ≤ a) (h1 : a < 2 ^ k) : 0 < orI a (1 * 2 ^ k) ∧ orI a (1 * 2 ^ k) < 2 ^ (k + 1) := by
  obtain ⟨n, rfl⟩ := Int.eq_ofNat_of_zero_le h0
  have h2 : (2 : Int) ^ k ≤ 16 := by
    obtain rfl | rfl | rfl | rfl | rfl : k = 0 ∨ k = 1 ∨ k = 2 ∨ k = 3 ∨ k = 4 := by omega
    all_goals decide
  have h3 : n < 2 ^ k := by exact_mod_cast h1
  exact or_bd5 ⟨k, hk⟩ ⟨n, by omega⟩ h3
theorem wrS_bd5 (B : CBook) (s mi : Int) : ∀ k, k ≤ 5 → 0 ≤ wrS B s mi k ∧ wrS B s mi k < 2 ^ k
  | 0, _ => by simp [wrS]
  | k + 1, h => by
    have ih := wrS_bd5 B s mi k (by omega)
    rw [wrS]
    by_cases hp : B.ck k = s ∧ ¬ (B.rd k - B.er k ≤ mi ∧ mi ≤ B.rd k + B.er k)
    · rw [dB_tt hp]
      have := or_bd5' (by omega) ih.1 ih.2
      exact ⟨Int.le_of_lt this.1, this.2⟩
    · rw [dB_ff hp]
      refine ⟨ih.1, Int.lt_of_lt_of_le ih.2 ?_⟩
      show (2 : Int) ^ k ≤ 2 ^ (k + 1)
      rw [Int.pow_succ]
      have : (0 : Int) ≤ 2 ^ k := Int.le_trans ih.1 (Int.le_of_lt ih.2)
      omega
theorem wrS_05 (B : CBook) (s mi : Int) : ∀ k, k ≤ 5 → (wrS B s mi k = 0 ↔ ∀ j, j < k → B.ck j = s → B.rd j - B.er j ≤ mi ∧ mi ≤ B.rd j + B.er j)
  | 0, _ => ⟨fun _ j hj => absurd hj (Nat.not_lt_zero j), fun _ => rfl⟩
  | k + 1, h => by
    have ih := wrS_05 B s mi k (by omega)
    have hb := wrS_bd5 B s mi k (by omega)
    rw [wrS]
    by_cases hp : B.ck k = s ∧ ¬ (B.rd k - B.er k ≤ mi ∧ mi ≤ B.rd k + B.er k)
    · rw [dB_tt hp]
      have := or_bd5' (by omega) hb.1 hb.2
      exact ⟨fun q => absurd q (Int.ne_of_gt this.1), fun q => absurd (q k (by omega) hp.1) hp.2⟩
    · rw [dB_ff hp]
      show wrS B s mi k = 0 ↔ _
      rw [ih]
      refine ⟨fun q j hj e => ?_, fun q j hj e => q j (by omega) e⟩
      by_cases g : j = k
      · subst g
        exact Classical.byContradiction fun u => hp ⟨e, u⟩
      · exact q j (by omega) e
theorem wrV_05 {B : CBook} (hB : B.nc ≤ 5) (q : Int × Int) : wrV B q = 0 ↔ ∀ k, k < B.nc → B.ck k = q.1 → B.rd k - B.er k ≤ q.2 ∧ q.2 ≤ B.rd k + B.er k := wrS_05 B q.1 q.2 B.nc hB
theorem rgtP_wr {B : CBook} (hB : B.nc ≤ 5) {s mi : Int} : rgtP B s mi B.nc ↔ wrV B (s, mi) = 0 := by
  rw [wrV_05 hB]
  exact ⟨fun h k hk e => by have := h k hk e; show B.rd k - B.er k ≤ mi ∧ mi ≤ B.rd k + B.er k; omega, fun h k hk e => by have : B.rd k - B.er k ≤ mi ∧ mi ≤ B.rd k + B.er k := h k hk e; omega⟩
set_option maxRecDepth 100000 in
set_option maxHeartbeats 4000000 in
theorem right_can6 (B : CBook) (a1 a2 : AV) (h1 : IsSl a1 B.ns 0) (h2 : IsSl a2 B.nc 1) (hck : B.nc ≤ 5 ∧ ∀ i, i < B.nc → ckOk B (B.ck i) (B.rd i) (B.er i)) (s mi : Int) (hmi : -100000 ≤ mi ∧ mi ≤ 100000) : CanS 0 Try.prog 112 2 [bk B a1 a2, .int .i64 s, .int .i64 mi] [(0, some (oSt B)), (1, some (oCk B))] 2 fun v _ _ => v = .bool (dB (rgtP B s mi B.nc)) := by
  have hnc := hck.1
  refine CanS.mk Try.func112 rfl rfl rfl ?_
  repeat' (first | refine RT.nil ?_ | refine sq_n ?_ | refine Tr.seq ?_ | refine Tr.region ?_ | refine Tr.block ?_ | (refine RT.goK rfl rfl rfl rfl ?_; apply Nx.of; (first | exact S.assign | exact S.box)))
  refine Tr.loop (fun k : Nat => stL Try.f112.ntmps [] [(1, .int .i64 s), (2, .int .i64 mi), (3, .ptr 2 0), (7, .int .i64 k)] [(2, some (.cells (bk B a1 a2).cells)), (0, some (oSt B)), (1, some (oCk B))] 3) (fun k => k ≤ B.nc ∧ rgtP B s mi k) (fun k => B.nc - k) 0 ⟨Nat.zero_le _, fun j hj => absurd hj (Nat.not_lt_zero j)⟩ (by (refine Wk.same (by decide) (by decide) (by decide) (by decide) ?_ ?_ rfl; all_goals ((try simp only [allL, allM]); (repeat' (first | exact trivial | refine And.intro ?_ ?_)); all_goals (first | rfl | exact ren_ro _ _ _ | exact bkc_ren h1 h2 (nm_lt (by decide)) (nm_lt (by decide)) | decide)))) (fun k ⟨hk, hp⟩ => ?_)
  by_cases hlt : k < B.nc
  · have hlt' : (k : Int) < B.nc := by omega
    have hc := hck.2 k hlt
    unfold ckOk at hc
    by_cases hs : B.ck k = s
    · by_cases ha : -(B.er k) ≤ B.rd k - mi ∧ B.rd k - mi ≤ B.er k
      · have hA : AV.bool (decide (-(B.er k) ≤ B.rd k - mi ∧ B.rd k - mi ≤ B.er k)) = .bool true := by rw [decide_eq_true ha]
        repeat' (first | refine RT.nil ?_ | refine sq_n ?_ | refine Tr.seq ?_ | refine Tr.region ?_ | refine Tr.cond_t rfl ?_ | refine Tr.cond_f rfl ?_ | refine Tr.skip ?_ | refine Tr.block ?_ | refine blk_n ?_ | (refine RT.goK rfl rfl rfl rfl ?_; first | refine Nx.of (S.lss_t hlt') ?_ | refine Nx.of (S.eql_t hs) ?_) | (refine RT.call rfl rfl rfl (val_is hA (Amid_at _ _ _ _ _ _)) rfl rfl (Nat.le_refl _) ?_) | (refine RT.goK rfl rfl rfl rfl ?_; apply Nx.of; (first | exact S.move | exact S.assign | exact S.load1c rfl rfl rfl rfl | exact S.fieldAddr rfl rfl rfl | exact S.not_t | exact S.pick_tt | exact S.alloc rfl | exact S.add_one (by omega) | exact S.sub (by unfold In64; omega) | exact S.neg (by unfold In64; omega))) | (refine RT.goK0 rfl rfl rfl ?_; apply Nx.of; (first | exact S.store rfl rfl rfl rfl rfl rfl)) | (refine RT.goK rfl rfl rfl rfl ?_; apply Nx.of; (first | exact S.idx_sl rfl rfl rfl (by assumption) (by omega) | exact S.rowN0 rfl rfl rfl (fun _ => rfl) (range_at (by omega)) rfl | exact S.len_sl rfl rfl rfl (by assumption))))
        refine lp_n (k + 1) ⟨hlt, fun j hj e => ?_⟩ (by omega) (by (refine Wk.same (by decide) (by decide) (by decide) (by decide) ?_ ?_ rfl; all_goals ((try simp only [allL, allM]); (repeat' (first | exact trivial | refine And.intro ?_ ?_)); all_goals (first | rfl | exact ren_ro _ _ _ | exact bkc_ren h1 h2 (nm_lt (by decide)) (nm_lt (by decide)) | decide))))
        by_cases g : j = k
        · subst g; exact ha
        · exact hp j (by omega) e
      · have hA : AV.bool (decide (-(B.er k) ≤ B.rd k - mi ∧ B.rd k - mi ≤ B.er k)) = .bool false := by rw [decide_eq_false ha]
        repeat' (first | refine RT.nil ?_ | refine sq_n ?_ | refine Tr.seq ?_ | refine Tr.region ?_ | refine Tr.cond_t rfl ?_ | refine Tr.skip ?_ | refine Tr.ret ?_ | refine sq_r ?_ | refine Tr.block ?_ | refine blk_r ?_ | refine lp_r ?_ | (refine RT.goK rfl rfl rfl rfl ?_; first | refine Nx.of (S.lss_t hlt') ?_ | refine Nx.of (S.eql_t hs) ?_) | (refine RT.call rfl rfl rfl (val_is hA (Amid_at _ _ _ _ _ _)) rfl rfl (Nat.le_refl _) ?_) | (refine RT.goK rfl rfl rfl rfl ?_; apply Nx.of; (first | exact S.move | exact S.assign | exact S.load1c rfl rfl rfl rfl | exact S.fieldAddr rfl rfl rfl | exact S.not_f | exact S.pick_tt | exact S.alloc rfl | exact S.sub (by unfold In64; omega) | exact S.neg (by unfold In64; omega))) | (refine RT.goK0 rfl rfl rfl ?_; apply Nx.of; (first | exact S.store rfl rfl rfl rfl rfl rfl)) | (refine RT.goK rfl rfl rfl rfl ?_; apply Nx.of; (first | exact S.idx_sl rfl rfl rfl (by assumption) (by omega) | exact S.rowN0 rfl rfl rfl (fun _ => rfl) (range_at (by omega)) rfl | exact S.len_sl rfl rfl rfl (by assumption))))
        (first | refine rt_go rfl ?_)
        rw [dB_ff fun g => ha (g k hlt hs)]
        rfl
    · repeat' (first | refine RT.nil ?_ | refine sq_n ?_ | refine Tr.seq ?_ | refine Tr.region ?_ | refine Tr.cond_t rfl ?_ | refine Tr.cond_f rfl ?_ | refine Tr.skip ?_ | refine Tr.block ?_ | refine blk_n ?_ | (refine RT.goK rfl rfl rfl rfl ?_; first | refine Nx.of (S.lss_t hlt') ?_ | refine Nx.of (S.eql_f hs) ?_) | (refine RT.goK rfl rfl rfl rfl ?_; apply Nx.of; (first | exact S.move | exact S.assign | exact S.load1c rfl rfl rfl rfl | exact S.fieldAddr rfl rfl rfl | exact S.pick_ff | exact S.alloc rfl | exact S.add_one (by omega))) | (refine RT.goK0 rfl rfl rfl ?_; apply Nx.of; (first | exact S.store rfl rfl rfl rfl rfl rfl)) | (refine RT.goK rfl rfl rfl rfl ?_; apply Nx.of; (first | exact S.idx_sl rfl rfl rfl (by assumption) (by omega) | exact S.rowN0 rfl rfl rfl (fun _ => rfl) (range_at (by omega)) rfl | exact S.len_sl rfl rfl rfl (by assumption))) | (refine RT.no rfl rfl rfl ?_))
      refine lp_n (k + 1) ⟨hlt, fun j hj e => ?_⟩ (by omega) (by (refine Wk.same (by decide) (by decide) (by decide) (by decide) ?_ ?_ rfl; all_goals ((try simp only [allL, allM]); (repeat' (first | exact trivial | refine And.intro ?_ ?_)); all_goals (first | rfl | exact ren_ro _ _ _ | exact bkc_ren h1 h2 (nm_lt (by decide)) (nm_lt (by decide)) | decide))))
      by_cases g : j = k
      · subst g; exact absurd e hs
      · exact hp j (by omega) e
  · obtain rfl : k = B.nc := by omega
    have hlt' : ¬ (B.nc : Int) < B.nc := by omega
    repeat' (first | refine RT.nil ?_ | refine sq_n ?_ | refine Tr.seq ?_ | refine Tr.region ?_ | refine Tr.cond_f rfl ?_ | refine Tr.ret ?_ | refine Tr.exit ?_ | refine sq_x ?_ | refine blk_hit rfl ?_ | refine lp_x ?_ | (refine RT.goK rfl rfl rfl rfl ?_; first | refine Nx.of (S.lss_f hlt') ?_) | (refine RT.goK rfl rfl rfl rfl ?_; apply Nx.of; (first | exact S.move | exact S.assign | exact S.load1c rfl rfl rfl rfl | exact S.fieldAddr rfl rfl rfl)) | (refine RT.goK rfl rfl rfl rfl ?_; apply Nx.of; (first | exact S.len_sl rfl rfl rfl (by assumption))))
    (first | refine rt_go rfl ?_)
    rw [dB_tt hp]
    rfl
theorem right6_at {B : CBook} {a1 a2 : AV} {m : List (Nat × Option AObj)} {c : Nat} (h : BkIn B a1 a2 m c) (hck : B.nc ≤ 5 ∧ ∀ i, i < B.nc → ckOk B (B.ck i) (B.rd i) (B.er i)) (s mi : Int) (hmi : -100000 ≤ mi ∧ mi ≤ 100000) (fl : Nat) : OkAt 0 Try.prog fl 112 [bk B a1 a2, .int .i64 s, .int .i64 mi] (ofM m) c (.bool (dB (rgtP B s mi B.nc))) (ofM m) c :=
  (right_can6 B a1 a2 h.h1 h.h2 hck s mi hmi).pure (.bool _) (h.entry _ fun _ => rfl) fl
def puX (n : Nat) : Nat := if n = 0 then 2 else 3
def puF (f : Nat → Int) (n : Nat) (p : Int) : Nat → Int := fun i => if i = n then p else f i
theorem fE_congr {f g : Nat → Int} : ∀ {n : Nat}, (∀ i, i < n → f i = g i) → fE f n = fE g n
  | 0, _ => rfl
  | n + 1, h => by rw [fE_succ, fE_succ, fE_congr fun i hi => h i (by omega), h n (Nat.lt_succ_self n)]
theorem puF_E (f : Nat → Int) (n : Nat) (p : Int) : fE (puF f n p) (n + 1) = fE f n ++ [.int .i64 p] := by
  rw [fE_succ, fE_congr (f := puF f n p) (g := f) fun i hi => if_neg (by omega)]
  show _ ++ [AV.int .i64 (if n = n then p else f n)] = _
  rw [if_pos rfl]
set_option maxRecDepth 100000 in
set_option maxHeartbeats 4000000 in
theorem Put_can (f : Nat → Int) (n : Nat) (a : AV) (h1 : IsSl a n 0) (hn : n ≤ 1000) (p : Int) : CanS 0 Try.prog 113 1 [a, .int .i64 p] [(0, some (.ro (fE f n)))] 1 fun v H1 c1 => v = .gs (1 + puX n) (n + 1) ∧ c1 ≤ 1 + 4 ∧ H1.get (1 + puX n) = some (.grown (fE f n ++ [.int .i64 p]) 1) := by
  refine CanS.mk Try.func113 rfl rfl rfl ?_
  by_cases h0 : n = 0
  · have hw : puX n = 2 := by unfold puX; rw [if_pos h0]
    rw [hw, h0]
    rw [h0] at h1
    repeat' (first | refine RT.nil ?_ | refine sq_n ?_ | refine Tr.seq ?_ | refine Tr.region ?_ | refine Tr.ret ?_ | (refine RT.goK rfl rfl rfl rfl ?_; apply Nx.of; (first | exact S.append_e0 rfl rfl rfl rfl rfl rfl rfl rfl h1 rfl rfl | exact S.append_e1I rfl rfl rfl rfl rfl rfl rfl rfl rfl rfl rfl rfl)) | (refine RT.goK rfl rfl rfl rfl ?_; apply Nx.of; (first | exact S.move | exact S.assign | exact S.buildSlice0 rfl rfl rfl | exact S.buildSlice rfl rfl rfl rfl rfl rfl rfl)))
    (first | refine rt_go rfl ?_)
    exact ⟨rfl, by decide, getM rfl⟩
  · have hw : puX n = 3 := by unfold puX; rw [if_neg h0]
    rw [hw]
    repeat' (first | refine RT.nil ?_ | refine sq_n ?_ | refine Tr.seq ?_ | refine Tr.region ?_ | refine Tr.ret ?_ | (refine RT.goK rfl rfl rfl rfl ?_; apply Nx.of; (first | exact S.append_eI rfl rfl rfl rfl rfl rfl rfl rfl rfl rfl h1 rfl rfl (by rw [fE_len, Nat.mul_one]) (by omega) (by omega) | exact S.append_gsI rfl rfl rfl rfl rfl rfl rfl rfl rfl rfl rfl rfl rfl (cut_all (by rw [fE_len, Nat.mul_one])) (by omega) rfl)) | (refine RT.goK rfl rfl rfl rfl ?_; apply Nx.of; (first | exact S.move | exact S.assign | exact S.buildSlice0 rfl rfl rfl | exact S.buildSlice rfl rfl rfl rfl rfl rfl rfl)))
    (first | refine rt_go rfl ?_)
    exact ⟨rfl, by decide, getM rfl⟩
theorem Put_at {m : List (Nat × Option AObj)} {c : Nat} {v : AV} {f : Nat → Int} {n : Nat} (h : Li m v f n) (hm : ∀ x o, lookM m x = some o → x < c) (hn : n ≤ 1000) (p : Int) (fl : Nat) : OkAt 0 Try.prog fl 113 [v, .int .i64 p] (ofM m) c (.gs c (n + 1)) (ofM ((c, some (.grown (fE (puF f n p) (n + 1)) 1)) :: m)) (c + 4) := by
  obtain ⟨w, hw, ha⟩ := h.ex
  obtain ⟨a, h1, h2⟩ := ha [w] 0 rfl
  have hx : puX n = 2 ∨ puX n = 3 := by unfold puX; split <;> omega
  have e0 : ∀ (σ : Nat → Nat) (x k : Nat), (AV.gs x k).ren σ = .gs (σ x) k := fun _ _ _ => rfl
  have := CanS.freshU (swT (puX n)) (H' := ofM ((c, some (.grown (fE (puF f n p) (n + 1)) 1)) :: m)) (k := 4) (v0 := .gs 0 (n + 1)) (Put_can f n a h2 hn p) (fun j hj => by unfold swT; (repeat' split) <;> omega) swT_inj
    (Entry.win (H := ofM m) (c := c) (W := [w]) (CS := [fE f n]) rfl ⟨hw, fE_pls f n, trivial⟩ (show ArgsW [w] [v, .int .i64 p] [a, .int .i64 p] from ⟨h1, .pl (.int _ _), trivial⟩)) (fun v1 H1 c1 ⟨g1, g2, g3⟩ => ?_) fl
  · exact this
  · refine ⟨g1, g2, fun x o hxx => ?_⟩
    rw [ofM_get] at hxx
    by_cases e1 : x = c
    · subst e1
      rw [lookM_hd] at hxx
      cases hxx
      refine .inr ⟨0, .grown (fE (puF f n p) (n + 1)) 1, rfl, ?_, (ren_grown _ _ _ _).symm⟩
      rw [ren_grown]
      show H1.get (1 + puX n) = some (.grown (fE (puF f n p) (n + 1)) 1)
      rw [puF_E]
      exact g3
    · rw [lookM_tl e1] at hxx
      exact .inl ⟨hm x o hxx, getM hxx⟩
end Go.Proofs.Ytlnmcadbmpiopaa
/- Lists of truths of the reference: structs with lists, under names in a row. -/
namespace Go.Proofs.Ytlnmcadbmpiopaa
open Go Go.Ev
section
variable (f g : Nat → Nat) (k : Nat)
def tcsF : Nat → List Tru → List AV
  | _, [] => []
  | i, t :: L => .int .i64 t.w :: grI (f i) k :: grI (g i) k :: tcsF (i + 1) L
def tmsF : Nat → List Tru → List (Nat × Option AObj)
  | _, [] => []
  | i, t :: L => (f i, some (.grown (fE t.r k) 1)) :: (g i, some (.grown (fE t.c k) 1)) :: tmsF (i + 1) L
end
def fA (i : Nat) : Nat := 100 + 2 * i
def gA (i : Nat) : Nat := 101 + 2 * i
section
variable {f g : Nat → Nat} {k : Nat}
theorem tcsF_len : ∀ (L : List Tru) (i : Nat), (tcsF f g k i L).length = L.length * 3
  | [], _ => rfl
  | t :: L, i => by
    show (tcsF f g k (i + 1) L).length + 1 + 1 + 1 = (L.length + 1) * 3
    rw [tcsF_len L (i + 1)]; omega
theorem tcsF_app : ∀ (L M : List Tru) (i : Nat), tcsF f g k i (L ++ M) = tcsF f g k i L ++ tcsF f g k (i + L.length) M
  | [], _, _ => rfl
  | t :: L, M, i => by
    show _ :: _ :: _ :: tcsF f g k (i + 1) (L ++ M) = _ :: _ :: _ :: (tcsF f g k (i + 1) L ++ _)
    rw [tcsF_app L M (i + 1), List.length_cons, show i + 1 + L.length = i + (L.length + 1) by omega]
theorem tcsF_ren (σ : Nat → Nat) : ∀ (L : List Tru) (i : Nat), AV.rens σ (tcsF f g k i L) = tcsF (fun j => σ (f j)) (fun j => σ (g j)) k i L
  | [], _ => rfl
  | t :: L, i => by simp only [tcsF, AV.rens, AV.ren, grI_ren σ rfl, tcsF_ren σ L (i + 1)]
theorem tcsF_congr {f' g' : Nat → Nat} : ∀ (L : List Tru) (i i' : Nat), (∀ j, j < L.length → f (i + j) = f' (i' + j) ∧ g (i + j) = g' (i' + j)) → tcsF f g k i L = tcsF f' g' k i' L
  | [], _, _, _ => rfl
  | t :: L, i, i', h => by
    have h0 := h 0 (by simp)
    simp only [Nat.add_zero] at h0
    rw [tcsF, tcsF, h0.1, h0.2, tcsF_congr L (i + 1) (i' + 1) fun j hj => by
      have := h (j + 1) (by simp; omega)
      rwa [show i + (j + 1) = i + 1 + j by omega, show i' + (j + 1) = i' + 1 + j by omega] at this]
theorem grI_one (x n : Nat) : (grI x n).one = true := by cases n <;> rfl
theorem tcsF_one : ∀ (L : List Tru) (i : Nat), (tcsF f g k i L).all AV.one = true
  | [], _ => rfl
  | t :: L, i => by simp only [tcsF, List.all_cons, grI_one, tcsF_one L (i + 1), Bool.and_true]; rfl
theorem allM_tms {p : Nat → AObj → Prop} : ∀ (L : List Tru) (i : Nat), (∀ j t, L[j]? = some t → p (f (i + j)) (.grown (fE t.r k) 1) ∧ p (g (i + j)) (.grown (fE t.c k) 1)) → allM p (tmsF f g k i L)
  | [], _, _ => trivial
  | t :: L, i, h => by
    have h0 := h 0 t rfl
    exact ⟨h0.1, h0.2, allM_tms L (i + 1) fun j u hu => by
      have := h (j + 1) u (by simpa using hu)
      rwa [show i + (j + 1) = i + 1 + j by omega] at this⟩
theorem allM_app {p : Nat → AObj → Prop} : ∀ {ms gs : List (Nat × Option AObj)}, allM p ms → allM p gs → allM p (ms ++ gs)
  | [], _, _, h => h
  | (x, some o) :: ms, gs, h, k => ⟨h.1, allM_app h.2 k⟩
  | (x, none) :: ms, gs, h, k => allM_app (ms := ms) h k
theorem look_skip {x : Nat} : ∀ {ms gs : List (Nat × Option AObj)}, (∀ e ∈ ms, e.1 ≠ x) → lookM (ms ++ gs) x = lookM gs x
  | [], _, _ => rfl
  | (y, o) :: ms, gs, h => by
    have hy : y ≠ x := h (y, o) List.mem_cons_self
    rw [List.cons_append, lookM_tl hy.symm]
    exact look_skip fun e he => h e (List.mem_cons_of_mem _ he)
structure Fam (f g : Nat → Nat) (n : Nat) : Prop where
  hf : ∀ i j, i < n → j < n → f i = f j → i = j
  hg : ∀ i j, i < n → j < n → g i = g j → i = j
  hd : ∀ i j, i < n → j < n → f i ≠ g j
theorem look_tms : ∀ (L : List Tru) (i j n : Nat) (t : Tru), Fam f g n → i + L.length ≤ n → L[j]? = some t → lookM (tmsF f g k i L) (f (i + j)) = some (.grown (fE t.r k) 1) ∧ lookM (tmsF f g k i L) (g (i + j)) = some (.grown (fE t.c k) 1)
  | [], _, _, _, _, _, _, h => by simp at h
  | t :: L, i, 0, n, u, hF, hn, h => by
    simp only [List.getElem?_cons_zero, Option.some.injEq] at h
    subst h
    simp only [List.length_cons] at hn
    refine ⟨lookM_hd, ?_⟩
    show lookM ((f i, _) :: (g i, _) :: _) (g i) = _
    rw [lookM_tl (hF.hd i i (by omega) (by omega)).symm]
    exact lookM_hd
  | t :: L, i, j + 1, n, u, hF, hn, h => by
    simp only [List.length_cons] at hn
    have hj : j < L.length := Classical.byContradiction fun q => by rw [List.getElem?_cons_succ, List.getElem?_eq_none (by omega)] at h; cases h
    have := look_tms L (i + 1) j n u hF (by omega) (by simpa using h)
    rw [show i + 1 + j = i + (j + 1) by omega] at this
    constructor
    · show lookM ((f i, _) :: (g i, _) :: _) (f (i + (j + 1))) = _
      rw [lookM_tl (fun e => by have := hF.hf _ _ (by omega) (by omega) e; omega), lookM_tl (hF.hd _ _ (by omega) (by omega))]
      exact this.1
    · show lookM ((f i, _) :: (g i, _) :: _) (g (i + (j + 1))) = _
      rw [lookM_tl (hF.hd i _ (by omega) (by omega)).symm, lookM_tl (fun e => by have := hF.hg _ _ (by omega) (by omega) e; omega)]
      exact this.2
theorem keys_tms : ∀ (L : List Tru) (i : Nat), ∀ e ∈ tmsF f g k i L, ∃ j, j < L.length ∧ (e.1 = f (i + j) ∨ e.1 = g (i + j))
  | [], _, e, h => by cases h
  | t :: L, i, e, h => by
    rcases List.mem_cons.1 h with rfl | h
    · exact ⟨0, by simp, .inl rfl⟩
    rcases List.mem_cons.1 h with rfl | h
    · exact ⟨0, by simp, .inr rfl⟩
    obtain ⟨j, hj, h1⟩ := keys_tms L (i + 1) e h
    exact ⟨j + 1, by simp; omega, by rwa [show i + (j + 1) = i + 1 + j by omega]⟩
end
theorem famA_ok (n : Nat) : Fam fA gA n := ⟨fun i j _ _ h => by unfold fA at h; omega, fun i j _ _ h => by unfold gA at h; omega, fun i j _ _ => by unfold fA gA; omega⟩
def ouM (f g : Nat → Nat) (n x : Nat) (L : List Tru) : List (Nat × Option AObj) := match L with | [] => [] | _ :: _ => [(x, some (.grown (tcsF f g n 0 L) 3))]
theorem pinX_nc {f : Nat} {args : List AV} {m m' : List (Nat × Option AObj)} {c c' c1 fl f1 : Nat} {v : AV} {args1 : List AV} {H1 : T AObj} (h : c1 ≠ c) : pinX f args m c v m' c' fl f1 args1 H1 c1 = none := by
  unfold pinX
  rw [if_neg fun q => h q.2.2.2]
noncomputable def gL (B : CBook) : Nat → Nat → Tru → Int → List Tru
  | 0, _, t, _ => [t]
  | rem + 1, i, t, fr => (ints (B.dl i) (B.dh i)).flatMap fun d => (ints (B.rl i) (B.rh i)).flatMap fun r =>
    if wrV B ((i : Int), fr + d + r + B.cost t.w.toNat) = 0 then (ints (B.sl i) (B.sh i)).flatMap fun s => gL B rem (i + 1) (tru2 t i r (fr + d + r + B.cost t.w.toNat)) (fr + d + r + B.cost t.w.toNat + s) else []
theorem flatMap_len {α β : Type} {f : α → List β} {K : Nat} : ∀ {l : List α}, (∀ a ∈ l, (f a).length ≤ K) → (l.flatMap f).length ≤ l.length * K
  | [], _ => by simp
  | a :: l, h => by
    rw [List.flatMap_cons, List.length_append, List.length_cons, Nat.succ_mul]
    have h1 := h a List.mem_cons_self
    have h2 := flatMap_len (l := l) fun b hb => h b (List.mem_cons_of_mem _ hb)
    omega
end Go.Proofs.Ytlnmcadbmpiopaa
/- The reference of layer 6: goes: its end, and how its lists are renamed. -/
namespace Go.Proofs.Ytlnmcadbmpiopaa
open Go Go.Ev
set_option maxRecDepth 100000 in
set_option maxHeartbeats 4000000 in
theorem leaf_can (B : CBook) (a1 a2 : AV) (w : Int) (h1 : IsSl a1 B.ns 0) (h2 : IsSl a2 B.nc 1) (fr : Int) : CanS 0 Try.prog 89 4 [bk B a1 a2, .agg [.int .i64 w, .gs 2 B.ns, .gs 3 B.ns], .int .i64 fr] [(0, some (oSt B))] 4 fun v H1 c1 => v = .sl 6 0 1 1 ∧ c1 = 7 ∧ H1.get 6 = some (.cells [.int .i64 w, .gs 2 B.ns, .gs 3 B.ns]) := by
  have hs := IsSl.gs 3 B.ns
  have he : (B.ns : Int) = B.ns := rfl
  refine CanS.mk Try.func89 rfl rfl rfl ?_
  repeat' (first | refine RT.nil ?_ | refine sq_n ?_ | refine Tr.seq ?_ | refine Tr.region ?_ | refine Tr.cond_t rfl ?_ | refine Tr.ret ?_ | refine sq_r ?_ | (refine RT.goK rfl rfl rfl rfl ?_; refine Nx.of (S.eql_t he) ?_) | (refine RT.goK rfl rfl rfl rfl ?_; apply Nx.of; (first | exact S.move | exact S.assign | exact S.load1c rfl rfl rfl rfl | exact S.loadNc rfl rfl rfl rfl | exact S.fieldAddr rfl rfl rfl | exact S.box | exact S.buildSlice rfl rfl rfl rfl rfl rfl rfl)) | (refine RT.goK rfl rfl rfl rfl ?_; apply Nx.of; (first | exact S.len_sl rfl rfl rfl (by assumption))))
  (first | refine rt_go rfl ?_)
  exact ⟨rfl, rfl, getM rfl⟩
theorem leaf_at {B : CBook} {a1 a2 : AV} {w : Int} (h1 : IsSl a1 B.ns 0) (h2 : IsSl a2 B.nc 1) (fr : Int) {m : List (Nat × Option AObj)} {c y z : Nat} (hm : ∀ x o, lookM m x = some o → x < c) (hc : 4 ≤ c) (hy : y < c) (hz : z < c) (m0 : lookM m 0 = some (oSt B)) (fl : Nat) :
    OkAt 0 Try.prog fl 89 [bk B a1 a2, .agg [.int .i64 w, .gs y B.ns, .gs z B.ns], .int .i64 fr] (ofM m) c (.sl (c + 2) 0 1 1) (ofM ((c + 2, some (.cells [.int .i64 w, .gs y B.ns, .gs z B.ns])) :: m)) (c + 3) := by
  let τ : Nat → Nat := fun q => if q = 0 then 0 else if q = 1 then 1 else if q = 2 then y else if q = 3 then z else c + (q - 4)
  have t0 : τ 0 = 0 := rfl
  have t1 : τ 1 = 1 := rfl
  have t2 : τ 2 = y := rfl
  have t3 : τ 3 = z := rfl
  have t6 : τ 6 = c + 2 := rfl
  have ha : AV.rens τ [bk B a1 a2, .agg [.int .i64 w, .gs 2 B.ns, .gs 3 B.ns], .int .i64 fr] = [bk B a1 a2, .agg [.int .i64 w, .gs y B.ns, .gs z B.ns], .int .i64 fr] := by
    simp only [bk, AV.ren, AV.rens, h1.ren t0, h2.ren t1, t2, t3]
  rw [← ha]
  have low : ∀ {u : Nat} {ob : AObj}, lookM [(0, some (oSt B))] u = some ob → u = 0 := fun {u ob} hu => by
    have := lookM_mem hu
    simpa using this
  refine CanS.inst (leaf_can B a1 a2 w h1 h2 fr) (Nat.zero_le _) (Nat.le_refl _) τ (fun g hg => by omega) (fun q hq => by simp only [τ]; (repeat' split) <;> omega) (fun q hq => by simp only [τ]; rw [if_neg (by omega), if_neg (by omega), if_neg (by omega), if_neg (by omega)]) (fun q o hq => ?_) (fun p q o o' hp hq hpq => ?_) (fun q hq hq' => by omega) (fun v1 H1 c1 hk _ => ?_)
  · obtain rfl := low hq
    cases hq
    rw [t0, ren_ro]
    exact getM m0
  · exact absurd ((low hp).trans (low hq).symm) hpq
  · obtain ⟨rfl, rfl, g1⟩ := hk
    refine ⟨by show AV.sl (τ 6) 0 1 1 = _; rw [t6], by omega, fun p o hp => ?_⟩
    rw [ofM_get] at hp
    by_cases e1 : p = c + 2
    · subst e1
      rw [lookM_hd] at hp
      cases hp
      refine .inr ⟨6, _, by omega, g1, t6.symm, ?_⟩
      simp only [AObj.ren, AV.ren, AV.rens, t2, t3]
    · rw [lookM_tl e1] at hp
      exact .inl ⟨hm p o hp, fun q hq hq' => by omega, getM hp⟩
def gsg (a b A A' x c : Nat) (y : Nat) : Nat := if y = 7 then x else if y < 100 then y else if y < 100 + 2 * a then y else if y < 100 + 2 * (a + b) then (if y % 2 = 0 then A + (y - (100 + 2 * a)) else A' + (y - (101 + 2 * a))) else c + y
set_option maxHeartbeats 4000000 in
theorem go_wk {B : CBook} {a1 a2 a3 a4 : AV} {r e : Nat → Int} {w : Int} {k : Nat} (h1 : IsSl a1 B.ns 0) (h2 : IsSl a2 B.nc 1) (h3 : IsSl a3 k 2) (h4 : IsSl a4 k 3) {nt c x A A' n : Nat} {l l2 : List (Nat × AV)} {m : List (Nat × Option AObj)} {L L' : List Tru}
    (hN : L.length + L'.length ≤ 20000) (hA : 100000 ≤ A) (hA' : 100000 ≤ A') (hAA : A' = A + 1 ∨ (L'.length ≤ 1 ∧ A ≠ A')) (hx : x = 7 ∨ (A + 2 * L'.length ≤ x ∧ A' + 2 * L'.length ≤ x ∧ 100000 ≤ x))
    (hl : allL (fun t v => Go.Ev.look l t = some (v.ren (gsg L.length L'.length A A' x c))) l2) (t9 : Go.Ev.look l 9 = some (grI x (L ++ L').length))
    (g6 : lookM m 6 = some (.cells [.int .i64 (B.due k), .int .i64 (B.dl k), .int .i64 (B.dh k), .int .i64 (B.rl k), .int .i64 (B.rh k), .int .i64 (B.sl k), .int .i64 (B.sh k)])) (g5 : lookM m 5 = some (.cells [.int .i64 w, a3, a4])) (g4 : lookM m 4 = some (.cells (bk B a1 a2).cells)) (g0 : lookM m 0 = some (oSt B)) (g1 : lookM m 1 = some (oCk B)) (g2 : lookM m 2 = some (.ro (fE r k))) (g3 : lookM m 3 = some (.ro (fE e k)))
    (gO : L ++ L' ≠ [] → lookM m x = some (.grown (tcsF fA gA n 0 L ++ tcsF (fun j => A + 2 * j) (fun j => A' + 2 * j) n 0 L') 3))
    (gold : ∀ j t, L[j]? = some t → lookM m (fA j) = some (.grown (fE t.r n) 1) ∧ lookM m (gA j) = some (.grown (fE t.c n) 1))
    (gnew : ∀ j t, L'[j]? = some t → lookM m (A + 2 * j) = some (.grown (fE t.r n) 1) ∧ lookM m (A' + 2 * j) = some (.grown (fE t.c n) 1)) :
    Wk 0 4 4 (stL nt [] l m c) (stL nt [] ((9, grI 7 (L ++ L').length) :: l2) ([(6, some (.cells [.int .i64 (B.due k), .int .i64 (B.dl k), .int .i64 (B.dh k), .int .i64 (B.rl k), .int .i64 (B.rh k), .int .i64 (B.sl k), .int .i64 (B.sh k)])), (5, some (.cells [.int .i64 w, a3, a4])), (4, some (.cells (bk B a1 a2).cells)), (0, some (oSt B)), (1, some (oCk B)), (2, some (.ro (fE r k))), (3, some (.ro (fE e k)))] ++ (ouM fA gA n 7 (L ++ L') ++ tmsF fA gA n 0 (L ++ L'))) 100000) := by
  obtain ⟨σ, hσ⟩ : ∃ σ, gsg L.length L'.length A A' x c = σ := ⟨_, rfl⟩
  rw [hσ] at hl
  have s7 : σ 7 = x := by rw [← hσ]; rfl
  have sl : ∀ y, y < 7 → σ y = y := fun y hy => by rw [← hσ]; unfold gsg; rw [if_neg (by omega), if_pos (by omega)]
  have sold : ∀ j, j < L.length → σ (fA j) = fA j ∧ σ (gA j) = gA j := fun j hj => by
    rw [← hσ]
    unfold gsg fA gA
    refine ⟨?_, ?_⟩
    · rw [if_neg (by omega), if_neg (by omega), if_pos (by omega)]
    · rw [if_neg (by omega), if_neg (by omega), if_pos (by omega)]
  have snew : ∀ j, j < L'.length → σ (fA (L.length + j)) = A + 2 * j ∧ σ (gA (L.length + j)) = A' + 2 * j := fun j hj => by
    rw [← hσ]
    unfold gsg fA gA
    refine ⟨?_, ?_⟩
    · rw [if_neg (by omega), if_neg (by omega), if_neg (by omega), if_pos (by omega), if_pos (by omega)]; omega
    · rw [if_neg (by omega), if_neg (by omega), if_neg (by omega), if_pos (by omega), if_neg (by omega)]; omega
  have hm : allM (fun y o => lookM m (σ y) = some (o.ren σ)) ([(6, some (.cells [.int .i64 (B.due k), .int .i64 (B.dl k), .int .i64 (B.dh k), .int .i64 (B.rl k), .int .i64 (B.rh k), .int .i64 (B.sl k), .int .i64 (B.sh k)])), (5, some (.cells [.int .i64 w, a3, a4])), (4, some (.cells (bk B a1 a2).cells)), (0, some (oSt B)), (1, some (oCk B)), (2, some (.ro (fE r k))), (3, some (.ro (fE e k)))] ++ (ouM fA gA n 7 (L ++ L') ++ tmsF fA gA n 0 (L ++ L'))) := by
    refine allM_app ?_ (allM_app ?_ ?_)
    · have e5 : (AObj.cells [.int .i64 w, a3, a4]).ren σ = .cells [.int .i64 w, a3, a4] := by
        simp only [AObj.ren, AV.ren, AV.rens, h3.ren (sl 2 (by decide)), h4.ren (sl 3 (by decide))]
      refine ⟨?_, ?_, ?_, ?_, ?_, ?_, ?_, trivial⟩
      · show lookM m (σ 6) = _; rw [sl 6 (by decide), g6]; rfl
      · show lookM m (σ 5) = _; rw [sl 5 (by decide), g5, e5]
      · show lookM m (σ 4) = _; rw [sl 4 (by decide), g4, bkc_ren h1 h2 (sl 0 (by decide)) (sl 1 (by decide))]
      · show lookM m (σ 0) = _; rw [sl 0 (by decide), g0, ren_ro]
      · show lookM m (σ 1) = _; rw [sl 1 (by decide), g1, ren_ro]
      · show lookM m (σ 2) = _; rw [sl 2 (by decide), g2, ren_ro]
      · show lookM m (σ 3) = _; rw [sl 3 (by decide), g3, ren_ro]
    · by_cases hLL : L ++ L' = []
      · rw [hLL]; trivial
      · have e : ouM fA gA n 7 (L ++ L') = [(7, some (.grown (tcsF fA gA n 0 (L ++ L')) 3))] := by
          cases hq : L ++ L' with
          | nil => exact absurd hq hLL
          | cons a q => rfl
        rw [e]
        refine ⟨?_, trivial⟩
        show lookM m (σ 7) = some (AObj.grown (AV.rens σ (tcsF fA gA n 0 (L ++ L'))) 3)
        rw [s7, gO hLL, tcsF_ren, tcsF_app]
        refine congrArg some (congrArg (fun cs => AObj.grown cs 3) (congr (congrArg _ ?_) ?_))
        · exact tcsF_congr L 0 0 fun j hj => by
            rw [Nat.zero_add]
            exact ⟨(sold j hj).1.symm, (sold j hj).2.symm⟩
        · exact tcsF_congr L' 0 (0 + L.length) fun j hj => by
            rw [Nat.zero_add, Nat.zero_add]
            exact ⟨(snew j hj).1.symm, (snew j hj).2.symm⟩
    · refine allM_tms _ _ fun j t ht => ?_
      show lookM m (σ (fA (0 + j))) = some (AObj.ren σ _) ∧ lookM m (σ (gA (0 + j))) = some (AObj.ren σ _)
      rw [Nat.zero_add, ren_grown, ren_grown]
      by_cases hj : j < L.length
      · rw [List.getElem?_append_left hj] at ht
        rw [(sold j hj).1, (sold j hj).2]
        exact gold j t ht
      · rw [List.getElem?_append_right (by omega)] at ht
        have hj2 : j - L.length < L'.length := Classical.byContradiction fun q => by rw [List.getElem?_eq_none (by omega)] at ht; cases ht
        have := snew (j - L.length) hj2
        rw [show L.length + (j - L.length) = j by omega] at this
        rw [this.1, this.2]
        exact gnew _ t ht
  have t9' : Go.Ev.look l 9 = some ((grI 7 (L ++ L').length).ren σ) := by rw [grI_ren σ s7]; exact t9
  have keys : ∀ u, u ∈ ([(6, some (.cells [.int .i64 (B.due k), .int .i64 (B.dl k), .int .i64 (B.dh k), .int .i64 (B.rl k), .int .i64 (B.rh k), .int .i64 (B.sl k), .int .i64 (B.sh k)])), (5, some (.cells [.int .i64 w, a3, a4])), (4, some (.cells (bk B a1 a2).cells)), (0, some (oSt B)), (1, some (oCk B)), (2, some (.ro (fE r k))), (3, some (.ro (fE e k)))] ++ (ouM fA gA n 7 (L ++ L') ++ tmsF fA gA n 0 (L ++ L')) : List (Nat × Option AObj)).map (fun e => e.1) → u < 7 ∨ u = 7 ∨ (100 ≤ u ∧ u < 100 + 2 * (L.length + L'.length)) := fun u hu => by
    obtain ⟨q, hq, rfl⟩ := List.mem_map.1 hu
    rcases List.mem_append.1 hq with hq | hq
    · simp at hq
      rcases hq with rfl | rfl | rfl | rfl | rfl | rfl | rfl <;> simp
    rcases List.mem_append.1 hq with hq | hq
    · have : q.1 = 7 := by
        cases hq2 : L ++ L' with
        | nil => rw [hq2] at hq; cases hq
        | cons a s => rw [hq2] at hq; simp [ouM] at hq; rw [hq]
      exact .inr (.inl this)
    · obtain ⟨j, hj, h⟩ := keys_tms _ _ q hq
      rw [List.length_append] at hj
      unfold fA gA at h
      omega
  refine Wk.by σ (by decide) (by decide) (by decide) ⟨t9', hl⟩ hm rfl (fun u hu v hv huv ee => ?_) (fun u hu => ?_) (fun u hu => ?_) (fun u hu => ?_)
  · have q1 := keys u hu
    have q2 := keys v hv
    rw [← hσ] at ee
    unfold gsg at ee
    (repeat' split at ee) <;> omega
  · rw [← hσ]; unfold gsg; (repeat' split) <;> omega
  · exact sl u (by omega)
  · rw [← hσ]; unfold gsg; (repeat' split) <;> omega
end Go.Proofs.Ytlnmcadbmpiopaa
/- The reference of layer 6: what goes leaves behind, at any memory. -/
namespace Go.Proofs.Ytlnmcadbmpiopaa
open Go Go.Ev
def preL {α : Type} (a : Int) (F : Int → List α) : Nat → List α
  | 0 => []
  | q + 1 => preL a F q ++ F (a + (q : Int))
theorem preL_range {α : Type} (a : Int) (F : Int → List α) : ∀ q, preL a F q = (List.range q).flatMap fun k : Nat => F (a + (k : Int))
  | 0 => rfl
  | q + 1 => by rw [preL, preL_range a F q, List.range_succ, List.flatMap_append]; simp
theorem preL_all {α : Type} (a b : Int) (F : Int → List α) {q : Nat} (h : q = (b - a + 1).toNat) : preL a F q = (ints a b).flatMap F := by
  rw [preL_range, h]
  unfold ints
  rw [List.flatMap_map]
theorem preL_len {α : Type} {a : Int} {F : Int → List α} {K : Nat} (h : ∀ d, (F d).length ≤ K) : ∀ q, (preL a F q).length ≤ q * K
  | 0 => by simp [preL]
  | q + 1 => by
    rw [preL, List.length_append, Nat.succ_mul]
    have := preL_len (a := a) h q
    have := h (a + (q : Int))
    omega
theorem gL_len {B : CBook} (hB : bk5 B) : ∀ (rem k : Nat) (t : Tru) (fr : Int), k + rem = B.ns → (gL B rem k t fr).length ≤ 27 ^ rem
  | 0, _, _, _, _ => by simp [gL]
  | rem + 1, k, t, fr, h => by
    have hs := hB.1.2 k (by omega)
    unfold stOk at hs
    have l3 : ∀ {a b : Int}, a ≤ b → b - a ≤ 2 → (ints a b).length ≤ 3 := fun {a b} h1 h2 => by rw [ints_len]; omega
    rw [gL]
    have h1 : ∀ d r, (if wrV B ((k : Int), fr + d + r + B.cost t.w.toNat) = 0 then (ints (B.sl k) (B.sh k)).flatMap fun s => gL B rem (k + 1) (tru2 t k r (fr + d + r + B.cost t.w.toNat)) (fr + d + r + B.cost t.w.toNat + s) else []).length ≤ 3 * 27 ^ rem := fun d r => by
      split
      · refine Nat.le_trans (flatMap_len fun s _ => gL_len hB rem (k + 1) _ _ (by omega)) ?_
        exact Nat.mul_le_mul_right _ (l3 (by omega) (by omega))
      · simp
    have h2 := fun d => flatMap_len (l := ints (B.rl k) (B.rh k)) fun r _ => h1 d r
    have h3 : ∀ d, ((ints (B.rl k) (B.rh k)).flatMap fun r => if wrV B ((k : Int), fr + d + r + B.cost t.w.toNat) = 0 then (ints (B.sl k) (B.sh k)).flatMap fun s => gL B rem (k + 1) (tru2 t k r (fr + d + r + B.cost t.w.toNat)) (fr + d + r + B.cost t.w.toNat + s) else []).length ≤ 3 * (3 * 27 ^ rem) := fun d =>
      Nat.le_trans (h2 d) (Nat.mul_le_mul_right _ (l3 (by omega) (by omega)))
    refine Nat.le_trans (flatMap_len fun d _ => h3 d) ?_
    refine Nat.le_trans (Nat.mul_le_mul_right _ (l3 (by omega) (by omega))) ?_
    rw [Nat.pow_succ]; omega
def fC (c j : Nat) : Nat := c + 1 + 2 * j
def gC (c j : Nat) : Nat := c + 2 + 2 * j
theorem famC_ok (c n : Nat) : Fam (fC c) (gC c) n := ⟨fun i j _ _ h => by unfold fC at h; omega, fun i j _ _ h => by unfold gC at h; omega, fun i j _ _ => by unfold fC gC; omega⟩
noncomputable def goM (B : CBook) (c : Nat) (L : List Tru) : List (Nat × Option AObj) := ouM (fC c) (gC c) B.ns c L ++ tmsF (fC c) (gC c) B.ns 0 L
noncomputable def goA (B : CBook) (L : List Tru) : List (Nat × Option AObj) := ouM fA gA B.ns 7 L ++ tmsF fA gA B.ns 0 L
theorem ouM_keys {f g : Nat → Nat} {n x : Nat} {L : List Tru} : ∀ e ∈ ouM f g n x L, e.1 = x := fun e h => by
  cases L with
  | nil => cases h
  | cons a r => simp [ouM] at h; rw [h]
theorem ouM_hd {f g : Nat → Nat} {n x : Nat} {L : List Tru} (h : L ≠ []) : ouM f g n x L = [(x, some (.grown (tcsF f g n 0 L) 3))] := by
  cases L with
  | nil => exact absurd rfl h
  | cons a r => rfl
theorem look_app {ms gs : List (Nat × Option AObj)} {x : Nat} {o : AObj} (h : lookM ms x = some o) : lookM (ms ++ gs) x = some o := by
  induction ms with
  | nil => cases h
  | cons e ms ih =>
    obtain ⟨y, p⟩ := e
    by_cases hy : x = y
    · subst hy
      rw [lookM_hd] at h
      subst h
      exact lookM_hd
    · rw [lookM_tl hy] at h
      rw [List.cons_append, lookM_tl hy]
      exact ih h
theorem goM_keys {B : CBook} {c : Nat} {L : List Tru} : ∀ e ∈ goM B c L, c ≤ e.1 ∧ e.1 < c + 1 + 2 * L.length := fun e he => by
  rcases List.mem_append.1 he with h | h
  · rw [ouM_keys e h]; omega
  · obtain ⟨j, hj, h1⟩ := keys_tms _ _ e h
    unfold fC gC at h1
    omega
theorem goM_list {B : CBook} {c : Nat} {L : List Tru} (h : L ≠ []) : lookM (goM B c L) c = some (.grown (tcsF (fC c) (gC c) B.ns 0 L) 3) := by
  unfold goM
  rw [ouM_hd h]
  exact lookM_hd
theorem goM_tr {B : CBook} {c j : Nat} {L : List Tru} {t : Tru} (h : L[j]? = some t) : lookM (goM B c L) (fC c j) = some (.grown (fE t.r B.ns) 1) ∧ lookM (goM B c L) (gC c j) = some (.grown (fE t.c B.ns) 1) := by
  have := look_tms (k := B.ns) (f := fC c) (g := gC c) L 0 j L.length t (famC_ok c _) (by omega) h
  rw [Nat.zero_add] at this
  unfold goM
  rw [look_skip fun e he => by rw [ouM_keys e he]; unfold fC; omega, look_skip fun e he => by rw [ouM_keys e he]; unfold gC; omega]
  exact this
theorem goA_list {B : CBook} {L : List Tru} (h : L ≠ []) : lookM (goA B L) 7 = some (.grown (tcsF fA gA B.ns 0 L) 3) := by
  unfold goA
  rw [ouM_hd h]
  exact lookM_hd
theorem goA_tr {B : CBook} {j : Nat} {L : List Tru} {t : Tru} (h : L[j]? = some t) : lookM (goA B L) (fA j) = some (.grown (fE t.r B.ns) 1) ∧ lookM (goA B L) (gA j) = some (.grown (fE t.c B.ns) 1) := by
  have := look_tms (k := B.ns) (f := fA) (g := gA) L 0 j L.length t (famA_ok _) (by omega) h
  rw [Nat.zero_add] at this
  unfold goA
  rw [look_skip fun e he => by rw [ouM_keys e he]; unfold fA; omega, look_skip fun e he => by rw [ouM_keys e he]; unfold gA; omega]
  exact this
theorem goA_keys {B : CBook} {L : List Tru} : ∀ e ∈ goA B L, 7 ≤ e.1 ∧ e.1 < 100 + 2 * L.length := fun e he => by
  rcases List.mem_append.1 he with h | h
  · rw [ouM_keys e h]; omega
  · obtain ⟨j, hj, h1⟩ := keys_tms _ _ e h
    unfold fA gA at h1
    omega
theorem goM_look {B : CBook} {c x : Nat} {L : List Tru} {o : AObj} (h : lookM (goM B c L) x = some o) : (x = c ∧ L ≠ [] ∧ o = .grown (tcsF (fC c) (gC c) B.ns 0 L) 3) ∨ ∃ j t, L[j]? = some t ∧ ((x = fC c j ∧ o = .grown (fE t.r B.ns) 1) ∨ (x = gC c j ∧ o = .grown (fE t.c B.ns) 1)) := by
  have hk := lookM_mem h
  obtain ⟨e, he, hx⟩ := List.mem_map.1 hk
  rcases List.mem_append.1 he with h1 | h1
  · have hL : L ≠ [] := fun q => by rw [q] at h1; cases h1
    have := ouM_keys e h1
    rw [hx] at this
    subst this
    rw [goM_list hL] at h
    exact .inl ⟨rfl, hL, (Option.some.inj h).symm⟩
  · obtain ⟨j, hj, h2⟩ := keys_tms _ _ e h1
    rw [hx, Nat.zero_add] at h2
    obtain ⟨t, ht⟩ : ∃ t, L[j]? = some t := ⟨_, List.getElem?_eq_getElem hj⟩
    have := goM_tr (B := B) (c := c) ht
    rcases h2 with rfl | rfl
    · rw [this.1] at h; exact .inr ⟨j, t, ht, .inl ⟨rfl, (Option.some.inj h).symm⟩⟩
    · rw [this.2] at h; exact .inr ⟨j, t, ht, .inr ⟨rfl, (Option.some.inj h).symm⟩⟩
theorem good_app {fl c c' : Nat} {mm mN : List (Nat × Option AObj)} (hc : c ≤ c') (h : ∀ e ∈ mN, c ≤ e.1 ∧ e.1 < c') : Go.Ev.Good fl c (ofM mm) c' (ofM (mN ++ mm)) := by
  refine ⟨hc, fun x h1 h2 => ?_, fun hd x hx => ?_⟩
  · rw [ofM_get, ofM_get]
    exact look_skip fun e he => by have := h e he; omega
  · by_cases hk : ∀ e ∈ mN, e.1 ≠ x
    · have := hd x (by rwa [ofM_get, look_skip hk, ← ofM_get] at hx)
      omega
    · obtain ⟨e, he⟩ := Classical.not_forall.1 hk
      obtain ⟨he1, he2⟩ := Classical.not_imp.1 he
      have := h e he1
      have : e.1 = x := Classical.byContradiction he2
      omega
def tGo (j : Nat) : Nat := if j = 0 then 3 else 95 + j
theorem tGo_inj : ∀ i j, tGo i = tGo j → i = j := fun i j h => by unfold tGo at h; (repeat' split at h) <;> omega
theorem goes_at {B : CBook} {a1 a2 : AV} {w k : Nat} {fr : Int} {t : Tru} {L : List Tru} (h1 : IsSl a1 B.ns 0) (h2 : IsSl a2 B.nc 1) (hL : L.length ≤ 20000)
    (hcan : CanS 0 Try.prog 89 4 [bk B a1 a2, .agg [.int .i64 (w : Int), .gs 2 k, .gs 3 k], .int .i64 fr] [(0, some (oSt B)), (1, some (oCk B)), (2, some (.ro (fE t.r k))), (3, some (.ro (fE t.c k)))] 4 fun v H1 c1 => v = grI 7 L.length ∧ c1 ≤ 100000 ∧ ∀ x o, lookM (goA B L) x = some o → H1.get x = some o)
    {m : List (Nat × Option AObj)} {c y z : Nat} (hm : ∀ x o, lookM m x = some o → x < c) (m0 : lookM m 0 = some (oSt B)) (m1 : lookM m 1 = some (oCk B)) (my : lookM m y = some (.grown (fE t.r k) 1)) (mz : lookM m z = some (.grown (fE t.c k) 1)) (fl : Nat) :
    OkAt 0 Try.prog fl 89 [bk B a1 a2, .agg [.int .i64 (w : Int), .gs y k, .gs z k], .int .i64 fr] (ofM m) c (grI c L.length) (ofM (goM B c L ++ m)) (c + 100000) := by
  have := CanS.freshU tGo (H' := ofM (goM B c L ++ m)) (k := 100000) (v0 := grI 0 L.length) hcan (fun j hj => by unfold tGo; split <;> omega) tGo_inj
    (Entry.win (H := ofM m) (c := c) (W := [(0, 0, none), (1, 0, none), (y, 0, none), (z, 0, none)]) (CS := [flat (stE B) (List.range B.ns), flat (ckE B) (List.range B.nc), fE t.r k, fE t.c k]) rfl
      ⟨⟨_, getM m0, .inr ⟨_, rfl, cut_all rfl⟩⟩, pls_flat _ _, ⟨_, getM m1, .inr ⟨_, rfl, cut_all rfl⟩⟩, pls_flat _ _, ⟨_, getM my, .inr ⟨_, rfl, cut_all rfl⟩⟩, fE_pls _ _, ⟨_, getM mz, .inr ⟨_, rfl, cut_all rfl⟩⟩, fE_pls _ _, trivial⟩
      (args := [bk B a1 a2, .agg [.int .i64 (w : Int), .gs y k, .gs z k], .int .i64 fr]) (args0 := [bk B a1 a2, .agg [.int .i64 (w : Int), .gs 2 k, .gs 3 k], .int .i64 fr])
      ⟨bk_arg h1 h2 rfl rfl, ArgW.agg (show ArgsW _ [.int .i64 (w : Int), .gs y k, .gs z k] [.int .i64 (w : Int), .gs 2 k, .gs 3 k] from ⟨.pl (fun _ => rfl), ArgW.gs rfl, ArgW.gs rfl, trivial⟩), .pl (fun _ => rfl), trivial⟩) (fun v1 H1 c1 ⟨g1, g2, g3⟩ => ?_) fl
  · rw [grI_ren (fun y => c + y) (y := c) rfl] at this
    exact this
  · refine ⟨by rw [g1, grI_ren (fun y => 4 + tGo y) (y := 7) rfl], by omega, fun x o hx => ?_⟩
    rw [ofM_get] at hx
    by_cases hk : ∀ e ∈ goM B c L, e.1 ≠ x
    · rw [look_skip hk] at hx
      exact .inl ⟨hm x o hx, getM hx⟩
    · obtain ⟨e, he⟩ := Classical.not_forall.1 hk
      obtain ⟨he1, he2⟩ := Classical.not_imp.1 he
      have hex : e.1 = x := Classical.byContradiction he2
      refine .inr ?_
      have h5 : ∃ o2, lookM (goM B c L) x = some o2 := by
        rcases List.mem_append.1 he1 with h | h
        · have hL : L ≠ [] := fun q => by rw [q] at h; cases h
          have := ouM_keys e h
          rw [hex] at this
          subst this
          exact ⟨_, goM_list hL⟩
        · obtain ⟨j, hj, h2⟩ := keys_tms _ _ e h
          rw [hex, Nat.zero_add] at h2
          have := goM_tr (B := B) (c := c) (List.getElem?_eq_getElem hj)
          rcases h2 with rfl | rfl
          · exact ⟨_, this.1⟩
          · exact ⟨_, this.2⟩
      obtain ⟨o2, h5⟩ := h5
      have h6 := look_app (gs := m) h5
      rw [hx] at h6
      cases h6
      have eA : ∀ j, j < L.length → 4 + tGo (1 + 2 * j) = fA j ∧ 4 + tGo (2 + 2 * j) = gA j := fun j hj => by
        unfold tGo fA gA
        rw [if_neg (by omega), if_neg (by omega)]; omega
      have eC : ∀ j, c + (1 + 2 * j) = fC c j ∧ c + (2 + 2 * j) = gC c j := fun j => by unfold fC gC; omega
      rcases goM_look h5 with ⟨rfl, hne, rfl⟩ | ⟨j, u, hj, h | h⟩
      · refine ⟨0, .grown (tcsF (fun j => 1 + 2 * j) (fun j => 2 + 2 * j) B.ns 0 L) 3, by omega, ?_, ?_⟩
        · show H1.get 7 = some (AObj.grown (AV.rens _ (tcsF _ _ B.ns 0 L)) 3)
          rw [tcsF_ren, g3 7 _ (goA_list hne)]
          refine congrArg some (congrArg (fun cs => AObj.grown cs 3) ?_)
          exact tcsF_congr L 0 0 fun j hj => by
            rw [Nat.zero_add]
            exact ⟨(eA j hj).1.symm, (eA j hj).2.symm⟩
        · show _ = AObj.grown (AV.rens _ (tcsF _ _ B.ns 0 L)) 3
          rw [tcsF_ren]
          refine congrArg (fun cs => AObj.grown cs 3) ?_
          exact tcsF_congr L 0 0 fun j hj => by
            rw [Nat.zero_add]
            exact ⟨(eC j).1.symm, (eC j).2.symm⟩
      · obtain ⟨rfl, rfl⟩ := h
        have hjl : j < L.length := Classical.byContradiction fun q => by rw [List.getElem?_eq_none (by omega)] at hj; cases hj
        refine ⟨1 + 2 * j, .grown (fE u.r B.ns) 1, (eC j).1.symm, ?_, (ren_grown _ _ _ _).symm⟩
        rw [ren_grown, (eA j hjl).1]
        exact g3 _ _ (goA_tr hj).1
      · obtain ⟨rfl, rfl⟩ := h
        have hjl : j < L.length := Classical.byContradiction fun q => by rw [List.getElem?_eq_none (by omega)] at hj; cases hj
        refine ⟨2 + 2 * j, .grown (fE u.c B.ns) 1, (eC j).2.symm, ?_, (ren_grown _ _ _ _).symm⟩
        rw [ren_grown, (eA j hjl).2]
        exact g3 _ _ (goA_tr hj).2
structure GoRes (B : CBook) (a1 a2 : AV) (w k : Nat) (fr : Int) (mm : List (Nat × Option AObj)) (L : List Tru) : Prop where
  ex : ∃ (v : AV) (mN : List (Nat × Option AObj)) (c' A A' : Nat), (∀ fl, OkAt 0 Try.prog fl 89 [bk B a1 a2, .agg [.int .i64 (w : Int), .gs 100000 (k + 1), .gs 100004 (k + 1)], .int .i64 fr] (ofM mm) 100008 v (ofM (mN ++ mm)) c') ∧ 100008 ≤ c' ∧ (∀ e ∈ mN, 100008 ≤ e.1 ∧ e.1 < c') ∧
    (L = [] → v = .nils ∧ mN = []) ∧ (L ≠ [] → SlC (mN ++ mm) v L.length 3 (tcsF (fun j => A + 2 * j) (fun j => A' + 2 * j) B.ns 0 L)) ∧ 100000 ≤ A ∧ 100000 ≤ A' ∧ (A' = A + 1 ∨ (L.length ≤ 1 ∧ A ≠ A')) ∧ A + 2 * L.length ≤ c' ∧ A' + 2 * L.length ≤ c' ∧
    ∀ j t, L[j]? = some t → lookM (mN ++ mm) (A + 2 * j) = some (.grown (fE t.r B.ns) 1) ∧ lookM (mN ++ mm) (A' + 2 * j) = some (.grown (fE t.c B.ns) 1)
theorem GoRes.leaf {B : CBook} {a1 a2 : AV} {w k : Nat} {fr : Int} {t : Tru} (h1 : IsSl a1 B.ns 0) (h2 : IsSl a2 B.nc 1) (hk : k + 1 = B.ns) (htw : t.w = (w : Int)) {mm : List (Nat × Option AObj)} (hm : ∀ x o, lookM mm x = some o → x < 100008) (m0 : lookM mm 0 = some (oSt B))
    (my : lookM mm 100000 = some (.grown (fE t.r (k + 1)) 1)) (mz : lookM mm 100004 = some (.grown (fE t.c (k + 1)) 1)) : GoRes B a1 a2 w k fr mm [t] := by
  refine ⟨.sl 100010 0 1 1, [(100010, some (.cells [.int .i64 (w : Int), .gs 100000 (k + 1), .gs 100004 (k + 1)]))], 100011, 100000, 100004, fun fl => ?_, by decide, fun e he => ?_, fun h => absurd h (by simp), fun _ => ?_, by decide, by decide, .inr ⟨by simp, by decide⟩, by simp, by simp, fun j u hu => ?_⟩
  · have := leaf_at (c := 100008) (y := 100000) (z := 100004) h1 h2 fr hm (by decide) (by decide) (by decide) m0 fl (w := (w : Int))
    rw [hk]
    exact this
  · simp only [List.mem_singleton] at he
    subst he
    exact ⟨show 100008 ≤ 100010 by decide, show 100010 < 100011 by decide⟩
  · have : tcsF (fun j => 100000 + 2 * j) (fun j => 100004 + 2 * j) B.ns 0 [t] = [.int .i64 (w : Int), .gs 100000 (k + 1), .gs 100004 (k + 1)] := by
      rw [← hk]; show [AV.int .i64 t.w, _, _] = _; rw [htw]; rfl
    rw [this]
    exact SlC.sl lookM_hd rfl rfl
  · cases j with
    | zero =>
      simp only [List.getElem?_cons_zero, Option.some.injEq] at hu
      subst hu
      rw [← hk]
      exact ⟨(lookM_tl (by decide)).trans my, (lookM_tl (by decide)).trans mz⟩
    | succ j => simp at hu
theorem GoRes.node {B : CBook} {a1 a2 : AV} {w k : Nat} {fr : Int} {t : Tru} {L : List Tru} (h1 : IsSl a1 B.ns 0) (h2 : IsSl a2 B.nc 1) (hL : L.length ≤ 20000)
    (hcan : CanS 0 Try.prog 89 4 [bk B a1 a2, .agg [.int .i64 (w : Int), .gs 2 (k + 1), .gs 3 (k + 1)], .int .i64 fr] [(0, some (oSt B)), (1, some (oCk B)), (2, some (.ro (fE t.r (k + 1)))), (3, some (.ro (fE t.c (k + 1))))] 4 fun v H1 c1 => v = grI 7 L.length ∧ c1 ≤ 100000 ∧ ∀ x o, lookM (goA B L) x = some o → H1.get x = some o)
    {mm : List (Nat × Option AObj)} (hm : ∀ x o, lookM mm x = some o → x < 100008) (m0 : lookM mm 0 = some (oSt B)) (m1 : lookM mm 1 = some (oCk B))
    (my : lookM mm 100000 = some (.grown (fE t.r (k + 1)) 1)) (mz : lookM mm 100004 = some (.grown (fE t.c (k + 1)) 1)) : GoRes B a1 a2 w k fr mm L := by
  refine ⟨grI 100008 L.length, goM B 100008 L, 200008, 100009, 100010, fun fl => goes_at h1 h2 hL hcan hm m0 m1 my mz fl, by decide, fun e he => ?_, fun h => ?_, fun h => ?_, by decide, by decide, .inl rfl, by omega, by omega, fun j u hu => ?_⟩
  · have := goM_keys e he
    omega
  · subst h
    exact ⟨rfl, rfl⟩
  · have e : grI 100008 L.length = .gs 100008 L.length := by
      cases L with
      | nil => exact absurd rfl h
      | cons a r => rfl
    rw [e]
    refine SlC.gs (look_app (goM_list h)) (congrArg some ?_) (tcsF_len _ _)
    exact tcsF_congr L 0 0 fun j hj => by unfold fC gC; omega
  · have := goM_tr (B := B) (c := 100008) hu
    unfold fC gC at this
    exact ⟨look_app this.1, look_app this.2⟩
end Go.Proofs.Ytlnmcadbmpiopaa
