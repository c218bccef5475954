/- Texts of one kind, one behind the other: Kf, SyNr, SyOi, Kg, Kh, Ki, Kj, Kk, SyOj, SyFr, Kl, Km, Kn, Ko, Qc, Qf, SyMe, Kp, Kq1, Kr1, Kq2. -/
import Derived.Test.YtjnckbefajfgbaaRm3
import Derived.Test.YtjnckbefajfgbaaXRoot
import Derived.Test.YtjnckbefajfgbaaRows
import Derived.ProofKit
import Derived.OpenShut
set_option linter.unusedVariables false
set_option linter.unusedSimpArgs false
/- Package roll: all truths; right, prepare, Right. -/
namespace Go.Proofs.Ytjnckbefajfgbaa
open Go Go.Ev

theorem live_can (B : RBook) (a1 a2 a3 : AV) (h1 : IsSl a1 B.nl 0) (h2 : IsSl a2 B.nd 1) (h3 : IsSl a3 B.nk 2) (hB : bkOk B) (C : Cons) (hY : YldOK Try.prog C) (hC : ∀ k s t, C.lv (k + 1) s → C.ok s [trV t]) : ∀ (k d : Nat), d + k = B.nd → ∀ (t : Tru) (s : C.γ) (r : Nat), C.lv (r + (trs B k d t).length) s → LvOk B t d →
    CanJ 0 Try.prog C 8 3 93 [.int .i64 (d : Int), trV t, .ptr 5 0, .ptr 6 0, .ptr 7 0] [(0, some (oLa B)), (1, some (oDa B)), (2, some (oLo B)), (4, some (.cells (pbC B a1 a2 a3))), (5, some (.cells [.ptr 4 0])), (6, some (.cells [.yld 3])), (7, some (.cells [.fn 93 [] [.ptr 5 0, .ptr 6 0, .ptr 7 0]]))] 8 s fun v _ s' => v = .bool (foldC C s (trs B k d t)).2 ∧ s' = (foldC C s (trs B k d t)).1
  | 0, d, e, t, s, r, hl, _ => by
    obtain rfl : d = B.nd := by omega
    exact live0_can B a1 a2 a3 h1 h2 h3 C hY hC t s r hl
  | k + 1, d, e, t, s, r, hl, ht => live1_can B a1 a2 a3 h1 h2 h3 hB C k d (by omega) t ht s r hl fun t s r hl ht => live_can B a1 a2 a3 h1 h2 h3 hB C hY hC k (d + 1) (by omega) t s r hl ht
/-- A truth before the first day, and all truths. -/
abbrev tru0 : Tru := ⟨fun _ => 0, fun _ => 0, fun _ => 0, fun _ => 0, fun _ => 0, fun _ => 0⟩
noncomputable def allT (B : RBook) : List Tru := trs B B.nd 0 tru0
theorem tru0_ok {B : RBook} : LvOk B tru0 0 := by
  have hz : noLa tru0 := ⟨rfl, rfl, rfl, rfl⟩
  have e1 : befB tru0 0 = 0 := by unfold befB; rw [dB_tt hz]; rfl
  have e2 : befR tru0 0 = 0 := by unfold befR; rw [dB_tt hz]; rfl
  exact ⟨.inl hz, by rw [e1]; omega, by rw [e2]; omega, fun _ => e2, fun _ _ => ⟨Int.le_refl _, Int.le_refl _⟩, fun _ _ => ⟨Int.le_refl _, Int.le_refl _⟩⟩
set_option maxRecDepth 100000 in
set_option maxHeartbeats 8000000 in
theorem truths_can (B : RBook) (a1 a2 a3 : AV) (h1 : IsSl a1 B.nl 0) (h2 : IsSl a2 B.nd 1) (h3 : IsSl a3 B.nk 2) (hB : bkOk B) (C : Cons) (hY : YldOK Try.prog C) (hC : ∀ k s t, C.lv (k + 1) s → C.ok s [trV t]) (s : C.γ) (hl : C.lv (allT B).length s) :
    CanJ 0 Try.prog C 5 3 74 [.ptr 4 0, .yld 3] [(0, some (oLa B)), (1, some (oDa B)), (2, some (oLo B)), (4, some (.cells (pbC B a1 a2 a3)))] 5 s fun v _ s' => v = .tup [] ∧ s' = (foldC C s (allT B)).1 := by
  refine CanJ.mk' Try.func74 rfl rfl rfl (by decide) (by decide) ?_
  repeat' (first | refine RTJ.nil ?_ | refine sqJ_n ?_ | refine TrJ.seq ?_ | refine TrJ.region ?_ | (refine RTJ.goK rfl rfl rfl rfl ?_; apply Nx.of; (first | exact S.load1c rfl rfl rfl rfl | exact S.box | exact S.alloc rfl | exact S.build rfl rfl rfl | exact S.makeFunc)) | (refine RTJ.goK0 rfl rfl rfl ?_; apply Nx.of; (first | exact S.store rfl rfl rfl rfl rfl rfl)))
  refine RTJ.callJ rfl rfl rfl (live_ok (B := B) (t := tru0) (i := 0) (s := s) ⟨⟨h1, h2, h3, rfl, rfl, rfl, rfl, by decide, by decide⟩, rfl, rfl, rfl, rfl⟩ (live_can B a1 a2 a3 h1 h2 h3 hB C hY hC B.nd 0 (by omega) tru0 s 0 (by rw [Nat.zero_add]; exact hl) tru0_ok) 5) rfl rfl ?_
  rintro v m' s' ⟨⟨hv, hs⟩, hm⟩
  subst hm hv
  repeat' (first | refine RTJ.nil ?_)
  refine ⟨rt_gon rfl ?_⟩
  exact ⟨rfl, hs⟩
theorem truths_ok {B : RBook} {C : Cons} {a1 a2 a3 : AV} {lo p : Nat} {m : List (Nat × Option AObj)} {c : Nat} {s : C.γ} (h : PbIn B a1 a2 a3 p m c) (hlo : lookM m lo = none) (hB : bkOk B) (hY : YldOK Try.prog C) (hC : ∀ k s t, C.lv (k + 1) s → C.ok s [trV t]) (hl : C.lv (allT B).length s) (fl : Nat) :
    OkJ 0 Try.prog C fl lo 74 [.ptr p 0, .yld lo] m c s fun v m' s' => (v = .tup [] ∧ s' = (foldC C s (allT B)).1) ∧ m' = m := by
  have e0 : tau [0, 1, 2, lo, p] c 0 = 0 := rfl
  have e1 : tau [0, 1, 2, lo, p] c 1 = 1 := rfl
  have e2 : tau [0, 1, 2, lo, p] c 2 = 2 := rfl
  have e4 : tau [0, 1, 2, lo, p] c 4 = p := rfl
  have ha : AV.rens (tau [0, 1, 2, lo, p] c) [.ptr 4 0, .yld 3] = [.ptr p 0, .yld lo] := rfl
  rw [← ha]
  have low : ∀ {u : Nat} {ob : AObj}, lookM [(0, some (oLa B)), (1, some (oDa B)), (2, some (oLo B)), (4, some (.cells (pbC B a1 a2 a3)))] u = some ob → u = 0 ∨ u = 1 ∨ u = 2 ∨ u = 4 := fun {u ob} hz => by
    have := lookM_mem hz
    simpa using this
  have hobj : ∀ u o, lookM [(0, some (oLa B)), (1, some (oDa B)), (2, some (oLo B)), (4, some (.cells (pbC B a1 a2 a3)))] u = some o → lookM m (tau [0, 1, 2, lo, p] c u) = some (o.ren (tau [0, 1, 2, lo, p] c)) := fun u o hu => by
    rcases low hu with rfl | rfl | rfl | rfl
    · cases hu; rw [e0, ren_ro]; exact h.m1
    · cases hu; rw [e1, ren_ro]; exact h.m2
    · cases hu; rw [e2, ren_ro]; exact h.m3
    · cases hu; rw [e4, pbc_ren h.h1 h.h2 h.h3 e0 e1 e2]; exact h.m4
  refine CanJ.pure (R := fun v s' => v = .tup [] ∧ s' = (foldC C s (allT B)).1) (truths_can B a1 a2 a3 h.h1 h.h2 h.h3 hB C hY hC s hl) (fun v s' ⟨q, _⟩ => by subst q; exact fun _ => rfl) (tau [0, 1, 2, lo, p] c) (fun g hg => by omega) (fun u hu => by rw [tau_ge hu]; omega) hobj (fun u u' o o' hu hu' hne => .inl fun e => ?_) rfl (fun u hu e => ?_) hlo
  · have g1 := hobj u o hu
    have g2 := hobj u' o' hu'
    rw [e] at g1
    rw [g1] at g2
    rcases low hu with rfl | rfl | rfl | rfl <;> rcases low hu' with rfl | rfl | rfl | rfl <;> first | exact absurd rfl hne | exact absurd (show (0 : Nat) = 1 from e) (by decide) | exact absurd (show (1 : Nat) = 0 from e) (by decide) | exact absurd (show (0 : Nat) = 2 from e) (by decide) | exact absurd (show (2 : Nat) = 0 from e) (by decide) | exact absurd (show (1 : Nat) = 2 from e) (by decide) | exact absurd (show (2 : Nat) = 1 from e) (by decide) | (cases hu; cases hu'; simp [AObj.ren, AV.rens, AV.ren, pbC, oLa, oDa, oLo] at g2)
  · rcases (by omega : u = 0 ∨ u = 1 ∨ u = 2 ∨ u = 3 ∨ u = 4) with rfl | rfl | rfl | rfl | rfl
    · have := hobj 0 _ rfl; rw [e, hlo] at this; cases this
    · have := hobj 1 _ rfl; rw [e, hlo] at this; cases this
    · have := hobj 2 _ rfl; rw [e, hlo] at this; cases this
    · rfl
    · have := hobj 4 _ rfl; rw [e, hlo] at this; cases this
/-- Rounds, one after another. -/
def foldS {σ : Type} (stp : σ → List AV → σ × Option Code) : σ × Option Code → List Tru → σ × Option Code
  | s, [] => s
  | s, t :: ts => if (stp s.1 [trV t]).2.isNone then foldS stp (stp s.1 [trV t]) ts else stp s.1 [trV t]
theorem foldC_cons (C : Cons) (s : C.γ) (t : Tru) (ts : List Tru) : foldC C s (t :: ts) = if (C.step s [trV t]).2 = true then foldC C (C.step s [trV t]).1 ts else ((C.step s [trV t]).1, false) := rfl
theorem foldC_rnd {σ : Type} {M : σ → List (Nat × Option AObj)} {ok : σ → List AV → Prop} {stp : σ → List AV → σ × Option Code} {ρ0 : Rho} {lb fl cb cc lo dn n p : Nat} {l : List (Nat × AV)} {ac bd : Code} {cap : Nat → σ → Prop} {hcap : ∀ k s args, cap (k + 1) s → (stp s args).2 = none → cap k (stp s args).1} {h : fl ≤ cb} : ∀ (ts : List Tru) (s : σ × Option Code),
    (foldC (rndC 0 ρ0 lb fl cb cc lo dn n p l ac bd M ok stp cap hcap h) s ts).1 = foldS stp s ts
  | [], s => rfl
  | t :: ts, s => by
    rw [show foldC (rndC 0 ρ0 lb fl cb cc lo dn n p l ac bd M ok stp cap hcap h) s (t :: ts) = _ from foldC_cons _ _ _ _, foldS]
    by_cases hh : (stp s.1 [trV t]).2.isNone = true
    · have h2 : ((rndC 0 ρ0 lb fl cb cc lo dn n p l ac bd M ok stp cap hcap h).step s [trV t]).2 = true := hh
      rw [if_pos h2, if_pos hh]
      exact foldC_rnd ts _
    · have h2 : ¬ ((rndC 0 ρ0 lb fl cb cc lo dn n p l ac bd M ok stp cap hcap h).step s [trV t]).2 = true := hh
      rw [if_neg h2, if_neg hh]
      rfl
def rgM (s : Bool) : List (Nat × Option AObj) := [(4, some (.cells [.bool s])), (5, some .dfr)]
def rgS (_ : Bool) (_ : List AV) : Bool × Option Code := (true, some .ret)
def anyT {σ : Type} (_ : σ) (args : List AV) : Prop := ∃ t : Tru, args = [trV t]
set_option maxRecDepth 100000 in
set_option maxHeartbeats 4000000 in
theorem right_can (B : RBook) (a1 a2 a3 : AV) (h1 : IsSl a1 B.nl 0) (h2 : IsSl a2 B.nd 1) (h3 : IsSl a3 B.nk 2) (hB : bkOk B) :
    CanS 0 Try.prog 65 4 [.ptr 3 0] [(0, some (oLa B)), (1, some (oDa B)), (2, some (oLo B)), (3, some (.cells (pbC B a1 a2 a3)))] 4 fun v _ _ => v = .bool (!(allT B).isEmpty) := by
  refine CanS.mk Try.func65 rfl rfl rfl ?_
  repeat' (first | refine RT.nil ?_ | refine sq_n ?_ | refine Tr.seq ?_ | refine Tr.region ?_ | refine Tr.block ?_ | (refine RT.goK rfl rfl rfl rfl ?_; apply Nx.of; (first | exact S.move | exact S.alloc rfl | exact S.makeFunc)))
  refine Tr.range (T := [0, 1, 2, 3]) (NC := [4, 5]) (s0 := false) (M := rgM) (ok := anyT) (stp := rgS) (lC := [(2, .ptr 4 0)]) (memT := [(0, some (oLa B)), (1, some (oDa B)), (2, some (oLo B)), (3, some (.cells (pbC B a1 a2 a3)))]) (flT := 4) (flC := 4) (cc := 7) (room := fun _ _ => True) (hroom := fun _ _ _ _ _ => trivial) (R := fun v m' s' => m' = [(0, some (oLa B)), (1, some (oDa B)), (2, some (oLo B)), (3, some (.cells (pbC B a1 a2 a3)))] ∧ s' = foldS rgS (false, none) (allT B)) rfl rfl (by decide) (by decide) (by decide) (by decide) (by decide) ?_ ?_ rfl ?_ ?_ ?_ (by decide) ?_ ?_ ?_ ?_ ?_
  · exact ⟨⟨by decide, rfl, ren_ro _ _ _⟩, ⟨by decide, rfl, ren_ro _ _ _⟩, ⟨by decide, rfl, ren_ro _ _ _⟩, ⟨by decide, rfl, pbc_ren h1 h2 h3 (by decide) (by decide) (by decide)⟩, trivial⟩
  · intro x hx
    simp only [List.mem_cons, List.not_mem_nil, or_false] at hx
    rcases hx with rfl | rfl | rfl | rfl
    all_goals exact ⟨by omega, _, rfl, fun h => by first | rfl | (exfalso; omega)⟩
  · exact ⟨⟨rfl, rfl⟩, trivial⟩
  · exact ⟨⟨by decide, .inr ⟨rfl, by omega⟩, rfl⟩, ⟨by decide, .inl ⟨rfl, rfl⟩, rfl⟩, trivial⟩
  · intro y hy
    simp only [List.mem_cons, List.not_mem_nil, or_false] at hy
    rcases hy with rfl | rfl
    · exact .inr (.inl ⟨by omega, by omega, by decide, _, rfl, rfl⟩)
    · exact .inl rfl
  · intro s y o h
    have := lookM_mem h
    simp [rgM] at this
    omega
  · refine ⟨fun s args ⟨t, h⟩ => ⟨trV t, h, fun _ => rfl⟩, fun s v ⟨t, h⟩ => ?_⟩
    cases h
    refine Tr.skip ⟨rfl, _, _, _, rfl, rfl, ?_⟩
    repeat' (first | refine RT.nil ?_ | refine sq_n ?_ | refine Tr.seq ?_ | refine Tr.region ?_ | refine Tr.ret ?_ | refine Tr.block ?_ | refine blk_r ?_ | (refine RT.goK0 rfl rfl rfl ?_; apply Nx.of; (first | exact S.store rfl rfl rfl rfl rfl rfl)))
    refine ⟨rfl, ?_⟩
    (refine Wk.same (by decide) (by decide) (by decide) (by decide) ?_ ?_ rfl; all_goals ((try simp only [allL, allM]); (repeat' (first | exact trivial | refine And.intro ?_ ?_)); all_goals (first | rfl | decide)))
  · intro ρ0 lb h hY
    refine OkJ.mono (truths_ok ⟨h1, h2, h3, rfl, rfl, rfl, rfl, by decide, by decide⟩ rfl hB hY (fun k s t hl => ⟨hl.1, t, rfl⟩) ?_ 4) ?_
    · exact ⟨rfl, trivial⟩
    rintro v m' s' ⟨⟨hv, hs⟩, hm⟩
    subst hm
    exact ⟨rfl, by rw [hs, foldC_rnd]⟩
  · rintro v m' s' ⟨rfl, _⟩
    rfl
  · rintro v m' s' j ⟨rfl, hs⟩
    cases hq : allT B with
    | nil =>
      rw [hq] at hs
      cases hs
      show blk _ _ _ _
      repeat' (first | refine RT.nil ?_ | refine sq_n ?_ | refine Tr.seq ?_ | refine Tr.region ?_ | refine Tr.ret ?_ | refine blk_n ?_ | (refine RT.goK0 rfl rfl rfl ?_; apply Nx.of; (first | exact S.store rfl rfl rfl rfl rfl rfl)))
      refine rt_goD rfl rfl rfl ?_
      rfl
    | cons t ts =>
      rw [hq] at hs
      cases hs
      show Tr _ _ _ _ _ _ _ _
      repeat' (first | refine Tr.ret ?_ | refine sq_r ?_ | refine blk_r ?_)
      refine rt_goD rfl rfl rfl ?_
      rfl
theorem right_at {B : RBook} {a1 a2 a3 : AV} {p : Nat} {m : List (Nat × Option AObj)} {c : Nat} (h : PbIn B a1 a2 a3 p m c) (hB : bkOk B) (fl : Nat) : OkAt 0 Try.prog fl 65 [.ptr p 0] (ofM m) c (.bool (!(allT B).isEmpty)) (ofM m) c :=
  (right_can B a1 a2 a3 h.h1 h.h2 h.h3 hB).pure (.bool _) (h.entry [] .nil) fl
/-- Whether a book can be true, as it is answered. -/
noncomputable def rtV (B : RBook) : AV := if dB (bkOk B) = true then .tup [.bool (dB (allT B ≠ [])), .int .i64 0] else .tup [.bool false, .int .i64 70]
theorem rtV_no {B : RBook} (h : ¬ bkOk B) : rtV B = .tup [.bool false, .int .i64 70] := by unfold rtV; rw [dB_ff h, if_neg (by decide)]
theorem rtV_t {B : RBook} (h : bkOk B) (hW : allT B ≠ []) : rtV B = .tup [.bool true, .int .i64 0] := by unfold rtV; rw [dB_tt h, if_pos rfl, dB_tt hW]
theorem rtV_f {B : RBook} (h : bkOk B) (hW : allT B = []) : rtV B = .tup [.bool false, .int .i64 0] := by unfold rtV; rw [dB_tt h, if_pos rfl, dB_ff (fun k => k hW)]
theorem rtV_pl (B : RBook) : Pl (rtV B) := by unfold rtV; split <;> exact fun _ => rfl
set_option maxRecDepth 100000 in
set_option maxHeartbeats 4000000 in
theorem prepare_can (B : RBook) (a1 a2 a3 : AV) (h1 : IsSl a1 B.nl 0) (h2 : IsSl a2 B.nd 1) (h3 : IsSl a3 B.nk 2) : CanS 0 Try.prog 64 3 [bk B a1 a2 a3] [(0, some (oLa B)), (1, some (oDa B)), (2, some (oLo B))] 3 fun v H1 c1 => v = .ptr 4 0 ∧ c1 = 5 ∧ H1.get 4 = some (.cells (pbC B a1 a2 a3)) := by
  refine CanS.mk Try.func64 rfl rfl rfl ?_
  repeat' (first | refine RT.nil ?_ | refine sq_n ?_ | refine Tr.seq ?_ | refine Tr.region ?_ | refine Tr.ret ?_ | (refine RT.goK rfl rfl rfl rfl ?_; apply Nx.of; (first | exact S.assign | exact S.loadNc rfl rfl rfl rfl | exact S.box | exact S.build rfl rfl rfl)))
  (first | refine rt_go rfl ?_)
  exact ⟨rfl, rfl, getM rfl⟩
end Go.Proofs.Ytjnckbefajfgbaa

/- A range over a function whose rounds also read what lies beneath: Tr.range, but that the rounds' memory may name things below their floor. -/
namespace Go.Ev
open Go

/-- What of a memory lies above a floor. -/
def upM (f : Nat) (m : List (Nat × Option AObj)) : List (Nat × Option AObj) := m.filter fun e => Nat.ble f e.1
theorem upM_look {f x : Nat} {o : AObj} : ∀ {m : List (Nat × Option AObj)}, lookM (upM f m) x = some o → f ≤ x ∧ lookM m x = some o
  | [], h => by cases h
  | (d, v) :: l, h => by
    unfold upM at h
    rw [List.filter_cons] at h
    by_cases hd : Nat.ble f d = true
    · rw [if_pos hd, lookM, Bool.cond_eq_ite] at h
      rw [lookM, Bool.cond_eq_ite]
      by_cases e : Nat.beq x d = true
      · rw [if_pos e] at h ⊢
        have e' : x = d := by simpa using e
        exact ⟨by rw [e']; exact Nat.le_of_ble_eq_true hd, h⟩
      · rw [if_neg e] at h ⊢
        exact upM_look h
    · rw [if_neg hd] at h
      obtain ⟨h1, h2⟩ := upM_look h
      refine ⟨h1, ?_⟩
      rw [lookM, Bool.cond_eq_ite, if_neg]
      · exact h2
      · intro e
        have e' : x = d := by simpa using e
        exact hd (by rw [← e']; exact Nat.ble_eq_true_of_le h1)

section
variable {P : Program} {ρ : Rho} {fl cb c cc n p : Nat} {w : World} {l lC : List (Nat × AV)} {ags bd : Code} {m memT : List (Nat × Option AObj)}
variable {σ : Type} {M : σ → List (Nat × Option AObj)} {ok : σ → List AV → Prop} {stp : σ → List AV → σ × Option Code}

theorem Tr.rangeR [hP : PG P 0] {room : Nat → σ → Prop} {hroom : ∀ k s args, room (k + 1) s → (stp s args).2 = none → room k (stp s args).1} {g : Operand} {gf flT flC : Nat} {first cap : List AV} {T NC : List Nat} {s0 : σ} {R : AV → List (Nat × Option AObj) → σ × Option Code → Prop} {Q : AExit → St → Prop}
    (hg : operandL 0 l g = some (.fn gf first cap)) (hpn : Nat.blt p n = true) (hflcb : fl ≤ cb) (hcbc : cb ≤ c) (hflf : fl ≤ flC) (hflC : flC ≤ c) (hflT : fl ≤ flT) (hcc : c + 2 ≤ cc)
    (hT : allM (fun x o => x ∈ T ∧ lookM m x = some o ∧ o.ren (keepN T c) = o) memT) (hTo : ∀ x ∈ T, x < c ∧ ∃ o, lookM m x = some o ∧ (flT ≤ x → o.share = none)) (ha : AV.rens (keepN T c) (first ++ [.yld (c + 1)] ++ cap) = first ++ [.yld (c + 1)] ++ cap)
    (hl : allL (fun t v => look l t = some v ∧ v.ren (keepN NC c) = v) lC)
    (hM : allM (fun y o => y ∈ NC ∧ (y = c ∧ o = .dfr ∨ lookM m y = some o ∧ y < c) ∧ o.ren (keepN NC c) = o) (M s0)) (hN : ∀ y ∈ NC, y = c ∨ (flC ≤ y ∧ y < c ∧ y ∉ T ∧ ∃ o, lookM m y = some o ∧ o.share = none) ∨ (y < flC ∧ y < flT ∧ ∃ o, lookM m y = some o)) (hNc : c ∈ NC)
    (hMg : ∀ s y o, lookM (M s) y = some o → y ≠ c + 1)
    (hrnd : RndOK 0 P flC (c + 2) cc (c + 1) c n p lC ags bd M ok stp)
    (hcall : ∀ (ρ0 : Rho) (lb : Nat) (h : flC ≤ c + 2), YldOK P (rndC 0 ρ0 lb flC (c + 2) cc (c + 1) c n p lC ags bd M ok stp room hroom h) → OkJ 0 P (rndC 0 ρ0 lb flC (c + 2) cc (c + 1) c n p lC ags bd M ok stp room hroom h) flT (c + 1) gf (first ++ [.yld (c + 1)] ++ cap) memT (c + 2) (s0, none) R)
    (hRl : ∀ v m' s', R v m' s' → lookM m' (c + 1) = none)
    (hQ : ∀ v m' s' j, R v m' (s', j) → match j with | none => Q .normal (stL n [c] l (m' ++ upM flC (M s')) cc) | some jc => Tr 0 P fl cb none jc (stL n [c] l (m' ++ upM flC (M s')) cc) Q) :
    Tr 0 P fl cb none (.rangeFunc g #[p] ags bd) (stL n [] l m c) Q := by
  refine ⟨fun ρ a w b k hs hc hr hb => ?_⟩
  cases b with
  | some _ => exact hb.elim
  | none =>
  have hgv := operand_sound (G := 0) hs.mem hs.env (x := g) (v := .fn gf first cap) (by rw [← hg]; exact operandL_eq _ _ _)
  simp only [VR] at hgv
  obtain ⟨fs, cs, hfs, hcs, hgv⟩ := hgv
  refine wpIn_rangeFunc fun fn _ => ?_
  rw [FR_round]
  have hmem : Holds 0 ρ (ofM m) c w := hs.mem
  have hent : ∃ (q : Win) (mark : List Deferred) (w1 : World) (ρ1 : Rho), (Instr.enterLoop fn a.tmps #[p] ags bd none).run P w = .ok (q.b, mark) w1 ∧ ρ1 (c + 1) = some q ∧ Holds 0 ρ1 (ofM ((c + 1, some (lpO n p c lC ags bd .ready none)) :: (c, some .dfr) :: m)) (c + 2) w1 ∧ Ext ρ ρ1 fl w c (c + 2) ∧ Fr ρ fl w w1 ∧
      DefR ρ1 [c] (mark ++ a.defers) ∧ w.heap.size ≤ q.b := by
    have hc0 := hmem.fresh c (Nat.le_refl _)
    have A1 := hmem.alloc 0 (.deferred (some [])) .dfr alloc_new
    have e1 : Ext ρ (upd ρ c ⟨w.heap.size, 0, 0⟩) fl w c (c + 1) := .upd hc0
    have hsz : (w.alloc (.deferred (some []))).heap.size = w.heap.size + 1 := by simp
    have hc1 := A1.fresh (c + 1) (Nat.le_refl _)
    have henv : EnvR ρ (ofL lC) n a.tmps := ⟨hs.env.1, fun t v ht => hs.env.2 t v (by
      show (ofL l).get t = _
      rw [ofL_get]
      exact (allL_look hl t v (by rw [← ofL_get]; exact ht)).1)⟩
    have A2 := A1.alloc 0 (.loop { state := .ready, pending := none, fn := fn, tmps := a.tmps, params := #[p], assign := ags, body := bd, defers := w.heap.size }) (lpO n p c lC ags bd .ready none)
      ⟨fn, a.tmps, w.heap.size, by rw [alloc_new], (henv.mono e1.le).mono (upd_le hc1), ⟨w.heap.size, 0, 0⟩, upd_le hc1 _ _ (upd_same _ _ _), rfl⟩
    have e2 : Ext (upd ρ c ⟨w.heap.size, 0, 0⟩) (upd (upd ρ c ⟨w.heap.size, 0, 0⟩) (c + 1) ⟨(w.alloc (.deferred (some []))).heap.size, 0, 0⟩) fl (w.alloc (.deferred (some []))) (c + 1) (c + 1 + 1) := .upd hc1
    refine ⟨⟨w.heap.size + 1, 0, 0⟩, _, _, _, run_enterLoop_outer _ _ _ _ _, by rw [← hsz]; exact upd_same _ _ _, A2, e1.trans (by simp) e2, (Fr.alloc ρ fl w _).trans e1 (Fr.alloc _ fl _ _), ?_, by show w.heap.size ≤ w.heap.size + 1; omega⟩
    exact ⟨⟨w.heap.size, 0, 0⟩, a.defers, upd_le hc1 _ _ (upd_same _ _ _), rfl, (hs.dfs.mono e1.le).mono (upd_le hc1)⟩
  obtain ⟨q, mark, w1, ρ1, hrun, hql, hH1, he1, hf1, hd1, hqn⟩ := hent
  have hlow : ∀ x, x < c → ρ1 x = ρ x := fun x hx => by
    cases h : ρ x with
    | some t => exact he1.le x t h
    | none =>
      cases h1 : ρ1 x with
      | none => rfl
      | some t => have := he1.low x t h h1; omega
  have hnone : ∀ x, c + 2 ≤ x → ρ1 x = none := hH1.fresh
  have hget : ∀ x o, x < c → lookM m x = some o → (ofM ((c + 1, some (lpO n p c lC ags bd .ready none)) :: (c, some .dfr) :: m)).get x = some o := fun x o hx ho => by
    rw [ofM_get, lookM, lookM, Bool.cond_eq_ite, if_neg (by simp; omega), Bool.cond_eq_ite, if_neg (by simp; omega)]
    exact ho
  have hgetc : (ofM ((c + 1, some (lpO n p c lC ags bd .ready none)) :: (c, some .dfr) :: m)).get c = some .dfr := by
    rw [ofM_get, lookM, lookM, Bool.cond_eq_ite, if_neg (by simp), Bool.cond_eq_ite, if_pos (by simp)]
  have hgetl : (ofM ((c + 1, some (lpO n p c lC ags bd .ready none)) :: (c, some .dfr) :: m)).get (c + 1) = some (lpO n p c lC ags bd .ready none) := by
    rw [ofM_get, lookM, Bool.cond_eq_ite, if_pos (by simp)]
  -- what the iterator finds
  have kT : ∀ x t, ρ1 (keepN T c x) = some t → (x ∈ T ∨ x = c + 1) ∧ ρ1 x = some t := fun x t h => by
    unfold keepN at h
    split at h
    · exact ⟨by assumption, h⟩
    · rw [hnone _ (by omega)] at h; cases h
  have kC : ∀ x t, ρ1 (keepN NC c x) = some t → (x ∈ NC ∨ x = c + 1) ∧ ρ1 x = some t := fun x t h => by
    unfold keepN at h
    split at h
    · exact ⟨by assumption, h⟩
    · rw [hnone _ (by omega)] at h; cases h
  have hHT : Holds 0 (fun x => ρ1 (keepN T c x)) (ofM memT) (c + 2) w1 := by
    refine hH1.ren (keepN T c) (fun x o hx => ?_) (fun x y o o' hx hy hxy => ?_) (fun x hx => ?_) (fun g hg => by omega)
    · obtain ⟨h1, h2, h3⟩ := allM_look hT x o (by rw [← ofM_get]; exact hx)
      rw [h3, show keepN T c x = x from if_pos (.inl h1)]
      exact hget x o (hTo x h1).1 h2
    · have h1 := (allM_look hT x o (by rw [← ofM_get]; exact hx)).1
      have h2 := (allM_look hT y o' (by rw [← ofM_get]; exact hy)).1
      rw [show keepN T c x = x from if_pos (.inl h1), show keepN T c y = y from if_pos (.inl h2)]
      exact .inl hxy
    · unfold keepN
      split
      · exact hx
      · omega
  -- what the rounds find
  have hobjC : ∀ x o, (ofM ((c + 1, some (lpO n p c lC ags bd .ready none)) :: M s0)).get x = some o → (x ∈ NC ∨ x = c + 1) ∧ (ofM ((c + 1, some (lpO n p c lC ags bd .ready none)) :: (c, some .dfr) :: m)).get x = some o ∧ (x ≠ c + 1 → o.ren (keepN NC c) = o) := fun x o hx => by
    rw [ofM_get, lookM, Bool.cond_eq_ite] at hx
    split at hx
    · rename_i e
      have e' : x = c + 1 := by simpa using e
      subst e'
      cases hx
      exact ⟨.inr rfl, hgetl, fun h => absurd rfl h⟩
    · obtain ⟨h1, h2, h3⟩ := allM_look hM x o hx
      refine ⟨.inl h1, ?_, fun _ => h3⟩
      rcases h2 with ⟨rfl, rfl⟩ | ⟨h2, h4⟩
      · exact hgetc
      · exact hget x o h4 h2
  have hHC : Holds 0 (fun x => ρ1 (keepN NC c x)) (ofM ((c + 1, some (lpO n p c lC ags bd .ready none)) :: M s0)) cc w1 := by
    have kk : ∀ x, x ∈ NC ∨ x = c + 1 → keepN NC c x = x := fun x h => if_pos h
    refine ⟨fun x o hx => ?_, fun x y o o' t t' hxy hx hy ht ht' => ?_, fun x hx => ?_, fun x t ht => hH1.lt _ t ht, fun g hg => by omega⟩
    · obtain ⟨h1, h2, h3⟩ := hobjC x o hx
      obtain ⟨t, h4, h5⟩ := hH1.obj x o h2
      refine ⟨t, by show ρ1 (keepN NC c x) = _; rw [kk x h1]; exact h4, ?_⟩
      by_cases e : x = c + 1
      · subst e
        rw [hgetl] at h2
        cases h2
        obtain ⟨f0, t0, d0, g1, g2, ⟨q0, g3, g4⟩⟩ := h5
        refine ⟨f0, t0, d0, g1, ⟨g2.1, fun tt vv hv => ⟨(g2.2 tt vv hv).1, ?_⟩⟩, ⟨q0, by show ρ1 (keepN NC c c) = _; rw [kk c (.inl hNc)]; exact g3, g4⟩⟩
        have := (g2.2 tt vv hv).2
        rw [← (allL_look hl tt vv (by rw [← ofL_get]; exact hv)).2] at this
        exact (VR_ren ρ1 (keepN NC c) vv _).1 this
      · rw [← h3 e] at h5
        exact (ObjR_ren ρ1 (keepN NC c) w1 t o).1 h5
    · obtain ⟨h1, h2, _⟩ := hobjC x o hx
      obtain ⟨h3, h4, _⟩ := hobjC y o' hy
      exact hH1.sep x y o o' t t' hxy h2 h4 (kC x t ht).2 (kC y t' ht').2
    · show ρ1 (keepN NC c x) = none
      have hx' : cc ≤ x := hx
      unfold keepN
      split
      · exact hnone x (by omega)
      · exact hnone _ (by omega)
  have hcb2 : flC ≤ c + 2 := by omega
  have hNo : ∀ y, flC ≤ y → y ∈ NC ∨ y = c + 1 → y ∉ T ∧ ∃ o, (ofM ((c + 1, some (lpO n p c lC ags bd .ready none)) :: (c, some .dfr) :: m)).get y = some o ∧ o.share = none := fun y hfy hy => by
    rcases hy with hy | rfl
    · rcases hN y hy with rfl | ⟨h1, h2, h3, o, h4, h5⟩ | ⟨h1, _⟩
      · exact ⟨fun h => by have := (hTo _ h).1; omega, _, hgetc, rfl⟩
      · exact ⟨h3, o, hget y o h2 h4, h5⟩
      · omega
    · exact ⟨fun h => by have := (hTo _ h).1; omega, _, hgetl, rfl⟩
  have hbes : Beside (rndC 0 (fun x => ρ1 (keepN NC c x)) q.b flC (c + 2) cc (c + 1) c n p lC ags bd M ok stp room hroom hcb2) (fun x => ρ1 (keepN T c x)) (c + 1) flT (fun b => ∃ x t, flC ≤ x ∧ ρ1 (keepN NC c x) = some t ∧ t.b = b) (s0, none) w1 := by
    refine ⟨⟨⟨fun x => ρ1 (keepN NC c x), fun _ _ => rfl, hHC, fun x t hx ht => ⟨x, t, hx, ht, rfl⟩⟩, fun b hb => ?_⟩, fun x t hx ht hf => ?_, fun x t hx ht hf => ?_, ⟨q, by show ρ1 (keepN T c (c + 1)) = _; rw [show keepN T c (c + 1) = c + 1 from if_pos (.inr rfl)]; exact hql, rfl⟩⟩
    · rcases hb with ⟨x, t, _, ht, rfl⟩ | ⟨x, t, _, ht, rfl⟩
      · exact hH1.lt _ t ht
      · exact hH1.lt _ t ht
    · obtain ⟨y, t', hy, ht', hb'⟩ := hf
      obtain ⟨h1, h2⟩ := kT x t ht
      obtain ⟨h3, h4⟩ := kC y t' ht'
      have hxT : x ∈ T := h1.resolve_right hx
      obtain ⟨g2, oy, g3, g4⟩ := hNo y hy h3
      obtain ⟨hxc, ox, hox, _⟩ := hTo x hxT
      have hxy : x ≠ y := fun e => g2 (e ▸ hxT)
      have := (hH1.sep x y ox oy t t' hxy (hget x ox hxc hox) g3 h2 h4 hb'.symm).ro.2
      unfold AObj.isRo at this
      rw [g4] at this
      simp at this
    · obtain ⟨y, t', hy, ht', hb'⟩ := hf
      obtain ⟨h1, h2⟩ := kT x t ht
      obtain ⟨h3, h4⟩ := kC y t' ht'
      have hyN : y ∈ NC := h3.resolve_right (by omega)
      rcases hN y hyN with rfl | ⟨g1, _⟩ | ⟨g1, g2, oy, g3⟩
      · omega
      · omega
      · have hyo := hget y oy (by omega) g3
        have hxo : ∃ ox, (ofM ((c + 1, some (lpO n p c lC ags bd .ready none)) :: (c, some .dfr) :: m)).get x = some ox ∧ ox.share = none := by
          rcases h1 with h1 | rfl
          · obtain ⟨hxc, ox, hox, hs⟩ := hTo x h1
            exact ⟨ox, hget x ox hxc hox, hs hx⟩
          · exact ⟨_, hgetl, rfl⟩
        obtain ⟨ox, hox, hxs⟩ := hxo
        have := (hH1.sep x y ox oy t t' (by omega) hox hyo h2 h4 hb'.symm).ro.1
        unfold AObj.isRo at this
        rw [hxs] at this
        simp at this
  have hY := rnd_yld (cap := room) (hcap := hroom) (P := P) (G := 0) (ρ0 := fun x => ρ1 (keepN NC c x)) (lb := q.b) hcb2 (Nat.zero_le _) (by omega) (by omega) ⟨q, by show ρ1 (keepN NC c (c + 1)) = _; rw [show keepN NC c (c + 1) = c + 1 from if_pos (.inr rfl)]; exact hql, rfl⟩ hpn hrnd hcc
  have hok := hcall _ _ hcb2 hY
  have hres : (resolve a.eval (rangeCall g q.b) 0).run P w1 = .ok { target := .fn (.func gf) cs.toArray, args := fs.toArray ++ #[.func (.yield q.b) #[] #[]] } w1 := by
    have hm : Array.map a.eval #[Operand.const (Value.func (.yield q.b) #[] #[])] = #[Value.func (.yield q.b) #[] #[]] := by simp [Act.eval]
    simp only [resolve, hgv, Deferred.ofValue, hm]
    rfl
  have hargs : VRs ρ1 (first ++ [.yld (c + 1)] ++ cap) (fs ++ [.func (.yield q.b) #[] #[]] ++ cs) :=
    ((hfs.mono he1.le).append (.cons (by simp only [VR]; exact ⟨q, hql, rfl⟩) .nil)).append (hcs.mono he1.le)
  have hargsT := (VRs_ren ρ1 (keepN T c) (first ++ [.yld (c + 1)] ++ cap) _).1 (by rw [ha]; exact hargs)
  refine ⟨q.b, mark, w1, _, w1, gf, (fs ++ [Value.func (.yield q.b) #[] #[]] ++ cs).toArray, w1, hrun, hres, (fun f' _ => FR_fn none f'), ?_, (fun h => by rw [FR_depth] at h; cases h), ?_⟩
  · simp only [invoke]
    rw [show (fs ++ [Value.func (.yield q.b) #[] #[]] ++ cs).toArray = fs.toArray ++ #[.func (.yield q.b) #[] #[]] ++ cs.toArray by simp]
    exact hok.enter _ _
  · refine (hok.run _ w1 _ _ hHT hargsT hbes none (k - 1)).mono fun e2 w2 h2 => ?_
    obtain ⟨u, v, m', ⟨s', j⟩, F', rfl, hR, hvu, hH', hfr, hb', hFF⟩ := h2
    obtain ⟨⟨ρ', r1, r2, r3⟩, r4⟩ := hb'.j
    have hl4 : (ofM ((c + 1, some (lpO n p c lC ags bd (lpS j) j)) :: M s')).get (c + 1) = some (lpO n p c lC ags bd (lpS j) j) := by rw [ofM_get, lookM]; simp
    have hq' : ρ' (c + 1) = some q := by
      rw [r1 (c + 1) (by omega)]
      show ρ1 (keepN NC c (c + 1)) = _
      rw [show keepN NC c (c + 1) = c + 1 from if_pos (.inr rfl)]; exact hql
    obtain ⟨q3, hq3, fn3, tmps3, d3, hh3, henv3, hdn3⟩ := r2.obj (c + 1) _ hl4
    rw [hq'] at hq3
    cases hq3
    have hne : lpS j ≠ .busy := by cases j <;> simp [lpS]
    obtain ⟨g1, g2⟩ := put_write (fl := flC) (ob := .loop { state := .exhausted, pending := j, fn := fn3, tmps := tmps3, params := [p].toArray, assign := ags, body := bd, defers := d3 })
      (o' := lpO n p c lC ags bd .exhausted j) r2 hl4 rfl hq' (by omega) ⟨fn3, tmps3, d3, World.putObj_heap_same (obj_lt hh3), henv3, hdn3⟩
    refine ⟨j, _, run_endLoop hh3 hne, ?_⟩
    -- all names again
    have hT1 : ∀ x t, ρ1 (keepN T c x) = some t → x < c + 2 ∧ ρ1 x = some t := fun x t h => by
      obtain ⟨h1, h2⟩ := kT x t h
      refine ⟨?_, h2⟩
      rcases h1 with h1 | rfl
      · have := (hTo x h1).1; omega
      · omega
    have hC1 : ∀ x t, x < c + 2 → ρ' x = some t → ρ1 x = some t := fun x t hx h => by
      rw [r1 x hx] at h
      exact (kC x t h).2
    have hgen : ∀ x t, fl ≤ x → ρ1 x = some t → w.heap.size ≤ t.b ∨ ∃ y t', fl ≤ y ∧ ρ y = some t' ∧ t'.b = t.b := fun x t hx ht => by
      cases h : ρ x with
      | some t0 =>
        have := he1.le x t0 h
        rw [ht] at this
        cases this
        exact .inr ⟨x, t, hx, h, rfl⟩
      | none => exact he1.new x t h ht
    have hsz : ∀ (o : Obj), (w2.putObj q.b o).heap.size = w2.heap.size := fun o => by simp
    have hg : ∀ x o, x ≠ c + 1 → lookM (M s') x = some o → ((ofM ((c + 1, some (lpO n p c lC ags bd (lpS j) j)) :: M s')).set (c + 1) (lpO n p c lC ags bd .exhausted j)).get x = some o := fun x o hx ho => by
      rw [Go.Ev.T.get_set, if_neg hx, ofM_get, lookM, Bool.cond_eq_ite, if_neg (by simpa using hx)]
      exact ho
    have hnew : Holds 0 (fun x => if x < c + 2 then ρ1 x else ρ' x) (ofM (m' ++ upM flC (M s'))) cc (w2.putObj q.b (.loop { state := .exhausted, pending := j, fn := fn3, tmps := tmps3, params := [p].toArray, assign := ags, body := bd, defers := d3 })) := by
      have leT : RLe (fun x => ρ1 (keepN T c x)) (fun x => if x < c + 2 then ρ1 x else ρ' x) := fun x t h => by
        obtain ⟨h1, h2⟩ := hT1 x t h
        show (if x < c + 2 then ρ1 x else ρ' x) = _
        rw [if_pos h1]; exact h2
      have leC : RLe ρ' (fun x => if x < c + 2 then ρ1 x else ρ' x) := fun x t h => by
        show (if x < c + 2 then ρ1 x else ρ' x) = _
        split
        · exact hC1 x t (by assumption) h
        · exact h
      have hT2 : ∀ x o, lookM m' x = some o → ∃ t, ρ1 (keepN T c x) = some t ∧ ObjR (fun x => ρ1 (keepN T c x)) w2 t o ∧ x ≠ c + 1 ∧ ¬ F' t.b := fun x o ho => by
        obtain ⟨t, h1, h2⟩ := hH'.obj x o (by rw [ofM_get]; exact ho)
        have hx : x ≠ c + 1 := fun e => by rw [e, hRl v m' _ hR] at ho; cases ho
        exact ⟨t, h1, h2, hx, hb'.d x t hx h1⟩
      have hC2 : ∀ x o, lookM (upM flC (M s')) x = some o → ∃ t, ρ' x = some t ∧ ObjR ρ' (w2.putObj q.b (.loop { state := .exhausted, pending := j, fn := fn3, tmps := tmps3, params := [p].toArray, assign := ags, body := bd, defers := d3 })) t o ∧ x ≠ c + 1 ∧ F' t.b := fun x o ho => by
        obtain ⟨h3, ho⟩ := upM_look ho
        have h4 := hMg s' x o ho
        obtain ⟨t, h1, h2⟩ := g1.obj x o (hg x o h4 ho)
        exact ⟨t, h1, h2, h4, r3 x t h3 h1⟩
      refine ⟨fun x o hx => ?_, fun x y o o' t t' hxy hx hy ht ht' hb => ?_, fun x hx => ?_, fun x t ht => ?_, fun g hg => by omega⟩
      · rw [ofM_get] at hx
        rcases lookM_append hx with hx | hx
        · obtain ⟨t, h1, h2, h3, h4⟩ := hT2 x o hx
          have : t.b ≠ q.b := fun e => h4 (e ▸ r3 (c + 1) q (by omega) hq')
          exact ⟨t, leT x t h1, (h2.mono leT).world (World.putObj_heap_other this)⟩
        · obtain ⟨t, h1, h2, _⟩ := hC2 x o hx
          exact ⟨t, leC x t h1, h2.mono leC⟩
      · rw [ofM_get] at hx hy
        rcases lookM_append hx with hx | hx <;> rcases lookM_append hy with hy | hy
        · obtain ⟨t1, h1, _⟩ := hT2 x o hx
          obtain ⟨t2, h2, _⟩ := hT2 y o' hy
          obtain rfl : t = t1 := Option.some.inj (ht.symm.trans (leT x t1 h1))
          obtain rfl : t' = t2 := Option.some.inj (ht'.symm.trans (leT y t2 h2))
          exact hH'.sep x y o o' t t' hxy (by rw [ofM_get]; exact hx) (by rw [ofM_get]; exact hy) h1 h2 hb
        · obtain ⟨t1, h1, _, _, h3⟩ := hT2 x o hx
          obtain ⟨t2, h2, _, _, h4⟩ := hC2 y o' hy
          obtain rfl : t = t1 := Option.some.inj (ht.symm.trans (leT x t1 h1))
          obtain rfl : t' = t2 := Option.some.inj (ht'.symm.trans (leC y t2 h2))
          exact absurd (hb ▸ h4) h3
        · obtain ⟨t1, h1, _, _, h3⟩ := hC2 x o hx
          obtain ⟨t2, h2, _, _, h4⟩ := hT2 y o' hy
          obtain rfl : t = t1 := Option.some.inj (ht.symm.trans (leC x t1 h1))
          obtain rfl : t' = t2 := Option.some.inj (ht'.symm.trans (leT y t2 h2))
          exact absurd (hb ▸ h3) h4
        · obtain ⟨t1, h1, _, n1, _⟩ := hC2 x o hx
          obtain ⟨t2, h2, _, n2, _⟩ := hC2 y o' hy
          obtain rfl : t = t1 := Option.some.inj (ht.symm.trans (leC x t1 h1))
          obtain rfl : t' = t2 := Option.some.inj (ht'.symm.trans (leC y t2 h2))
          exact g1.sep x y o o' t t' hxy (hg x o n1 (upM_look hx).2) (hg y o' n2 (upM_look hy).2) h1 h2 hb
      · have hx' : cc ≤ x := hx
        show (if x < c + 2 then ρ1 x else ρ' x) = none
        rw [if_neg (by omega)]
        exact r2.fresh x hx
      · replace ht : (if x < c + 2 then ρ1 x else ρ' x) = some t := ht
        split at ht
        · exact Nat.lt_of_lt_of_le (hH1.lt x t ht) (by rw [hsz]; exact hfr.size)
        · exact g1.lt x t ht
    have hE : ExtB ρ (fun x => if x < c + 2 then ρ1 x else ρ' x) fl cb w := by
      have hc' : cb ≤ c := by omega
      refine ⟨fun x hx => ?_, fun x t hx ht => ?_⟩
      · show (if x < c + 2 then ρ1 x else ρ' x) = _
        rw [if_pos (by omega)]
        exact hlow x (by omega)
      · replace ht : (if x < c + 2 then ρ1 x else ρ' x) = some t := ht
        split at ht
        · exact hgen x t hx ht
        · rcases hFF t.b (r3 x t (by omega) ht) with ⟨y, t', hy, ht', hb⟩ | h
          · rw [← hb]; exact hgen y t' (by omega) (kC y t' ht').2
          · exact .inl (Nat.le_trans hf1.size h)
    have hF : Fr ρ fl w (w2.putObj q.b (.loop { state := .exhausted, pending := j, fn := fn3, tmps := tmps3, params := [p].toArray, assign := ags, body := bd, defers := d3 })) := by
      refine ⟨hfr.os.trans hf1.os, hfr.tape.trans hf1.tape, hfr.output.trans hf1.output, by rw [hsz]; exact Nat.le_trans hf1.size hfr.size, fun b hb hn => ?_⟩
      have hno : ∀ x t, fl ≤ x → ρ1 x = some t → t.b ≠ b := fun x t hx ht e => by
        rcases hgen x t hx ht with h | ⟨y, t', hy, ht', hbb⟩
        · omega
        · exact hn y t' hy ht' (hbb.trans e)
      rw [World.putObj_heap_other (show b ≠ q.b by omega), hfr.keep b (Nat.lt_of_lt_of_le hb hf1.size) (fun x t hx ht => hno x t (by omega) (kT x t ht).2) fun ⟨y, t', hy, ht', hbb⟩ => hno y t' (by omega) (kC y t' ht').2 hbb]
      exact hf1.keep b hb hn
    have le1 : RLe ρ1 (fun x => if x < c + 2 then ρ1 x else ρ' x) := fun x t h => by
      show (if x < c + 2 then ρ1 x else ρ' x) = _
      have : x < c + 2 := by
        rcases Nat.lt_or_ge x (c + 2) with h1 | h1
        · exact h1
        · rw [hnone x h1] at h; cases h
      rw [if_pos this]; exact h
    have hsr : SR 0 (fun x => if x < c + 2 then ρ1 x else ρ' x) (stL n [c] l (m' ++ upM flC (M s')) cc) { a with defers := mark ++ a.defers } (w2.putObj q.b (.loop { state := .exhausted, pending := j, fn := fn3, tmps := tmps3, params := [p].toArray, assign := ags, body := bd, defers := d3 })) :=
      ⟨(hs.env.mono he1.le).mono le1, hnew, hd1.mono le1⟩
    have hcc' : cb ≤ (stL n [c] l (m' ++ upM flC (M s')) cc).c := by show cb ≤ cc; omega
    have hq2 := hQ v m' s' j hR
    cases j with
    | none => exact ⟨.normal, _, _, rfl, hq2, hsr, hcc', hE, hF⟩
    | some jc => exact wpIn_mono (Tr.run hq2 _ _ _ none k hsr hcc' hr trivial) fun _ _ _ hp => hp.trans hE hF
end
end Go.Ev

/- Lists of numbers: append, cut to their length. -/
namespace Go.Ev
open Go

section
variable {P : Program} {fl c : Nat} {m : List (Nat × Option AObj)} {y y' z : Ty} {t t' : Nat} {x1 x2 : Operand}

end
end Go.Ev

/- Lists of numbers: how they grow, how they are compared. -/
namespace Go.Proofs.Ytjnckbefajfgbaa
open Go Go.Ev

/-- The numbers of a set, below a number. -/
noncomputable def numsL (s : Int) : Nat → List Nat
  | 0 => []
  | k + 1 => bif dB (hasP s k) then numsL s k ++ [k] else numsL s k
def natV (l : List Nat) : List AV := (l.map fun k : Nat => (k : Int)).map (AV.int .i64)
/-- A list of numbers that grows under a name. -/
def grV (x : Nat) (l : List Nat) : AV := match l with | [] => .nils | _ :: _ => .gs x l.length
def grM (x : Nat) (l : List Nat) : List (Nat × Option AObj) := match l with | [] => [] | _ :: _ => [(x, some (.grown (natV l) 1))]
/-- A list of numbers that is full. -/
def fuV (x : Nat) (l : List Nat) : AV := match l with | [] => .nils | _ :: _ => .sl x 0 l.length l.length

def cmpI (a b : Int) : Int := if a < b then -1 else if b < a then 1 else 0
def lexC : List Nat → List Nat → Int
  | [], [] => 0
  | [], _ :: _ => -1
  | _ :: _, [] => 1
  | a :: r, b :: q => if cmpI a b = 0 then lexC r q else cmpI a b
/-- How two lists stand to one another: by length, then in order. -/
def cmpL (l q : List Nat) : Int := if cmpI l.length q.length = 0 then lexC l q else cmpI l.length q.length
/-- A full list, where it lies. -/
def LiesF (m : List (Nat × Option AObj)) (x : Nat) (l : List Nat) : Prop := l = [] ∨ lookM m x = some (.grown (natV l) 1)
def winF (x z : Nat) (l : List Nat) : Wnd := match l with | [] => (z, 0, none) | _ :: _ => (x, 0, some l.length)
def argF (i : Nat) (l : List Nat) : AV := match l with | [] => .nils | _ :: _ => .gs i l.length
end Go.Proofs.Ytjnckbefajfgbaa

/- Package roll: the looks that are so. -/
namespace Go.Proofs.Ytjnckbefajfgbaa
open Go Go.Ev

/-- The first numbers that are so. -/
noncomputable def lkL (p : Nat → Prop) (k : Nat) : List Nat := (List.range k).filter fun i => dB (p i)
/-- A look that is wrong in a truth. -/
def wrP (B : RBook) (t : Tru) (i : Nat) : Prop := ¬ t.eb (B.ld i).toNat = B.lb i
end Go.Proofs.Ytjnckbefajfgbaa

/- Package roll: the looks that are so, wherever they lie; the truths of a book without looks. -/
namespace Go.Proofs.Ytjnckbefajfgbaa
open Go Go.Ev

/-- The book without its looks. -/
def ncB (B : RBook) : RBook := { B with nk := 0 }
structure PbZ (B : RBook) (a1 a2 : AV) (z p : Nat) (m : List (Nat × Option AObj)) (c : Nat) : Prop where
  h1 : IsSl a1 B.nl 0
  h2 : IsSl a2 B.nd 1
  hn : B.nk = 0
  m1 : lookM m 0 = some (oLa B)
  m2 : lookM m 1 = some (oDa B)
  m3 : lookM m z = some (oLo B)
  m4 : lookM m p = some (.cells (pbC B a1 a2 .nils))
end Go.Proofs.Ytjnckbefajfgbaa

/- Package roll: fewest. -/
namespace Go.Proofs.Ytjnckbefajfgbaa
open Go Go.Ev

/-- What the rounds have: whether the list was replaced, and the best list. -/
abbrev FwS := Bool × List Nat
def fwN (s : FwS) : Nat := if s.1 then 11 else 7
def fwM (B : RBook) (a1 a2 a3 : AV) (s : FwS) : List (Nat × Option AObj) := [(8, some (.cells [fuV (fwN s) s.2])), (5, some (.cells [.ptr 4 0])), (0, some (oLa B)), (1, some (oDa B)), (2, some (oLo B)), (4, some (.cells (pbC B a1 a2 a3))), (9, some .dfr)] ++ grM (fwN s) s.2
/-- The looks that are wrong, in a truth that is handed over. -/
def decE (ags : List AV) (i : Nat) : Int := match ags with
  | [.agg cs] => match cs[0 + 10 + i * 2 + 0]? with | some (.int _ v) => v | _ => 0
  | _ => 0
noncomputable def fwA (B : RBook) (ags : List AV) : List Nat := lkL (fun i => ¬ decE ags (B.ld i).toNat = B.lb i) B.nk
noncomputable def fwL (B : RBook) (t : Tru) : List Nat := lkL (wrP B t) B.nk
noncomputable def fwS (B : RBook) (s : FwS) (ags : List AV) : FwS × Option Code := (if cmpL (fwA B ags) s.2 < 0 then (true, fwA B ags) else s, none)
section
variable {B : RBook} {a1 a2 a3 : AV} {n c : Nat} {l : List (Nat × AV)} {m : List (Nat × Option AObj)} {t : Tru} {bs : Bool} {best W : List Nat} {lo : AObj}
end
/-- What is left of all rounds. -/
noncomputable def fwE (B : RBook) : FwS := (foldS (fwS B) ((false, lkL (fun _ => True) B.nk), none) (allT (ncB B))).1
end Go.Proofs.Ytjnckbefajfgbaa

/- Package roll: Right, Wrong; books whose lists lie anywhere. -/
namespace Go.Proofs.Ytjnckbefajfgbaa
open Go Go.Ev

theorem prepare_at {B : RBook} {a1 a2 a3 : AV} {m : List (Nat × Option AObj)} {c : Nat} (h : BkIn B a1 a2 a3 m c) (hm : ∀ x o, lookM m x = some o → x < c) (fl : Nat) : OkAt 0 Try.prog fl 64 [bk B a1 a2 a3] (ofM m) c (.ptr (c + 1) 0) (ofM ((c + 1, some (.cells (pbC B a1 a2 a3))) :: m)) (c + 2) := by
  let τ : Nat → Nat := fun y => if y < 3 then y else c + (y - 3)
  have hc := h.hc
  have t0 : τ 0 = 0 := rfl
  have t1 : τ 1 = 1 := rfl
  have t2 : τ 2 = 2 := rfl
  have t4 : τ 4 = c + 1 := rfl
  have ha : AV.rens τ [bk B a1 a2 a3] = [bk B a1 a2 a3] := by simp only [bk, AV.ren, AV.rens, h.h1.ren t0, h.h2.ren t1, h.h3.ren t2]
  have low : ∀ {u : Nat} {ob : AObj}, lookM [(0, some (oLa B)), (1, some (oDa B)), (2, some (oLo B))] u = some ob → u = 0 ∨ u = 1 ∨ u = 2 := fun {u ob} hu => by
    have := lookM_mem hu
    simpa using this
  rw [← ha]
  refine CanS.inst (prepare_can B a1 a2 a3 h.h1 h.h2 h.h3) (Nat.zero_le _) (Nat.le_refl _) τ (fun g hg => by omega) (fun y hy => by show (if y < 3 then y else _) < c; rw [if_pos hy]; omega) (fun y hy => by show (if y < 3 then y else _) = _; rw [if_neg (by omega)]) (fun y o hy => ?_) (fun x y o o' hx hy hxy => ?_) (fun y hy hy' => by omega) (fun v1 H1 c1 hq _ => ?_)
  · rcases low hy with rfl | rfl | rfl
    · cases hy; rw [t0, ren_ro]; exact getM h.m1
    · cases hy; rw [t1, ren_ro]; exact getM h.m2
    · cases hy; rw [t2, ren_ro]; exact getM h.m3
  · refine .inl ?_
    rcases low hx with rfl | rfl | rfl <;> rcases low hy with rfl | rfl | rfl <;> simp only [t0, t1, t2] <;> omega
  · obtain ⟨rfl, rfl, g1⟩ := hq
    refine ⟨by show AV.ptr (τ 4) 0 = _; rw [t4], by omega, fun x o hx => ?_⟩
    rw [ofM_get] at hx
    by_cases e1 : x = c + 1
    · subst e1
      rw [lookM_hd] at hx
      cases hx
      exact .inr ⟨4, _, by omega, g1, t4.symm, (pbc_ren h.h1 h.h2 h.h3 t0 t1 t2).symm⟩
    · rw [lookM_tl e1] at hx
      exact .inl ⟨hm x o hx, fun y hy hy' => by omega, getM hx⟩
/-- The looks that must be wrong, as they are told. -/
noncomputable def wrongL (B : RBook) : List Nat := (fwE B).2
theorem nonempty_is {α : Type} (l : List α) : (!l.isEmpty) = dB (l ≠ []) := by
  cases l with
  | nil => rw [dB_ff fun q => q rfl]; rfl
  | cons a r => rw [dB_tt (by simp)]; rfl
set_option maxRecDepth 100000 in
set_option maxHeartbeats 4000000 in
theorem Right_can (B : RBook) (a1 a2 a3 : AV) (h1 : IsSl a1 B.nl 0) (h2 : IsSl a2 B.nd 1) (h3 : IsSl a3 B.nk 2) (hn : B.nd ≤ 9223372036854775807) : CanS 0 Try.prog 26 3 [bk B a1 a2 a3] [(0, some (oLa B)), (1, some (oDa B)), (2, some (oLo B))] 3 fun v _ _ => v = rtV B := by
  refine CanS.mk Try.func26 rfl rfl rfl ?_
  by_cases hB : bkOk B
  · have hk : AV.int .i64 (ckV B) = .int .i64 0 := by unfold ckV; rw [dB_tt hB]; rfl
    have he : rtV B = .tup [.bool (!(allT B).isEmpty), .int .i64 0] := by
      rw [nonempty_is]
      unfold rtV
      rw [dB_tt hB, if_pos rfl]
    rw [he]
    repeat' (first | refine RT.nil ?_ | refine sq_n ?_ | refine Tr.seq ?_ | refine Tr.region ?_ | refine Tr.cond_f rfl ?_ | refine Tr.skip ?_ | refine Tr.ret ?_ | (refine RT.call rfl rfl rfl (val_is hk (Check_at ⟨h1, h2, h3, rfl, rfl, rfl, by decide⟩ hn _)) rfl rfl (Nat.le_refl _) ?_) | (refine RT.call rfl rfl rfl (prepare_at ⟨h1, h2, h3, rfl, rfl, rfl, by decide⟩ (fun x o hx => by have := lookM_mem hx; simp at this; omega) _) rfl rfl (by decide) ?_) | (refine RT.call rfl rfl rfl (right_at (p := 5) ⟨h1, h2, h3, rfl, rfl, rfl, rfl, by decide, by decide⟩ hB _) rfl rfl (Nat.le_refl _) ?_) | (refine RT.goK rfl rfl rfl rfl ?_; apply Nx.of; (first | exact S.neq_f (by decide))) | (refine RT.goK rfl rfl rfl rfl ?_; apply Nx.of; (first | exact S.move | exact S.assign | exact S.loadNc rfl rfl rfl rfl | exact S.box)))
    (first | refine rt_go rfl ?_)
    rfl
  · have hk : AV.int .i64 (ckV B) = .int .i64 70 := by unfold ckV; rw [dB_ff hB]; rfl
    rw [rtV_no hB]
    repeat' (first | refine RT.nil ?_ | refine sq_n ?_ | refine Tr.seq ?_ | refine Tr.region ?_ | refine Tr.cond_t rfl ?_ | refine Tr.ret ?_ | refine sq_r ?_ | (refine RT.call rfl rfl rfl (val_is hk (Check_at ⟨h1, h2, h3, rfl, rfl, rfl, by decide⟩ hn _)) rfl rfl (Nat.le_refl _) ?_) | (refine RT.goK rfl rfl rfl rfl ?_; apply Nx.of; (first | exact S.neq_t (by decide))) | (refine RT.goK rfl rfl rfl rfl ?_; apply Nx.of; (first | exact S.move | exact S.assign | exact S.loadNc rfl rfl rfl rfl | exact S.box)))
    (first | refine rt_go rfl ?_)
    rfl
/-- A book whose lists lie anywhere in memory. -/
structure BkX (B : RBook) (v1 v2 v3 : AV) (m : List (Nat × Option AObj)) (c : Nat) : Prop where
  ex : ∃ (W : List Wnd) (a1 a2 a3 : AV), W.length = 3 ∧ winOk (ofM m) W [flat (laE B) (List.range B.nl), flat (daE B) (List.range B.nd), flat (loE B) (List.range B.nk)] ∧ ArgW W v1 a1 ∧ ArgW W v2 a2 ∧ ArgW W v3 a3 ∧ IsSl a1 B.nl 0 ∧ IsSl a2 B.nd 1 ∧ IsSl a3 B.nk 2
/-- One list, where it lies. -/
abbrev LiesAt (m : List (Nat × Option AObj)) (v : AV) (n x : Nat) (cs : List AV) : Prop := IsSl v n x ∧ ∃ o, lookM m x = some o ∧ (cs = [] ∨ cellsOf o = some cs)
theorem BkX.of {B : RBook} {v1 v2 v3 : AV} {m : List (Nat × Option AObj)} {c x1 x2 x3 : Nat} (h1 : LiesAt m v1 B.nl x1 (flat (laE B) (List.range B.nl))) (h2 : LiesAt m v2 B.nd x2 (flat (daE B) (List.range B.nd))) (h3 : LiesAt m v3 B.nk x3 (flat (loE B) (List.range B.nk))) : BkX B v1 v2 v3 m c := by
  obtain ⟨i1, o1, g1, k1⟩ := h1
  obtain ⟨i2, o2, g2, k2⟩ := h2
  obtain ⟨i3, o3, g3, k3⟩ := h3
  have arg : ∀ {v : AV} {n x y : Nat}, IsSl v n x → [((x1, 0, none) : Wnd), (x2, 0, none), (x3, 0, none)][y]? = some (x, 0, none) → ∃ a, ArgW [(x1, 0, none), (x2, 0, none), (x3, 0, none)] v a ∧ IsSl a n y := fun {v n x y} hi hy => by
    rcases hi with rfl | ⟨rfl, rfl⟩
    · exact ⟨.gs y n, .gs hy, .gs y n⟩
    · exact ⟨.nils, .pl Pl.nils, .nils y⟩
  obtain ⟨a1, b1, d1⟩ := arg (y := 0) i1 rfl
  obtain ⟨a2, b2, d2⟩ := arg (y := 1) i2 rfl
  obtain ⟨a3, b3, d3⟩ := arg (y := 2) i3 rfl
  have win : ∀ {o : AObj} {cs : List AV}, (cs = [] ∨ cellsOf o = some cs) → cs = [] ∨ ∃ ca, cellsOf o = some ca ∧ cut ca 0 cs.length = some cs := fun {o cs} h => h.imp id fun h => ⟨cs, h, cut_all rfl⟩
  exact ⟨[(x1, 0, none), (x2, 0, none), (x3, 0, none)], a1, a2, a3, rfl, ⟨⟨o1, getM g1, win k1⟩, pls_flat _ _, ⟨o2, getM g2, win k2⟩, pls_flat _ _, ⟨o3, getM g3, win k3⟩, pls_flat _ _, trivial⟩, b1, b2, b3, d1, d2, d3⟩
theorem BkX.use {B : RBook} {v1 v2 v3 : AV} {m : List (Nat × Option AObj)} {c f : Nat} (h : BkX B v1 v2 v3 m c) (vs : List AV) (hv : Pls vs) {v : AV} (hp : Pl v) (k : ∀ a1 a2 a3, IsSl a1 B.nl 0 → IsSl a2 B.nd 1 → IsSl a3 B.nk 2 → CanS 0 Try.prog f 3 (bk B a1 a2 a3 :: vs) [(0, some (oLa B)), (1, some (oDa B)), (2, some (oLo B))] 3 fun u _ _ => u = v) (fl : Nat) : OkAt 0 Try.prog fl f (bk B v1 v2 v3 :: vs) (ofM m) c v (ofM m) c := by
  obtain ⟨W, a1, a2, a3, hl, hw, g1, g2, g3, i1, i2, i3⟩ := h.ex
  have he : ArgsW W (bk B v1 v2 v3 :: vs) (bk B a1 a2 a3 :: vs) := ⟨ArgW.agg (show ArgsW W [v1, v2, v3] [a1, a2, a3] from ⟨g1, g2, g3, trivial⟩), .pls hv⟩
  exact (k a1 a2 a3 i1 i2 i3).pure hp (Entry.win (CS := [flat (laE B) (List.range B.nl), flat (daE B) (List.range B.nd), flat (loE B) (List.range B.nk)]) hl hw he) fl
theorem Right_x {B : RBook} {v1 v2 v3 : AV} {m : List (Nat × Option AObj)} {c : Nat} (h : BkX B v1 v2 v3 m c) (hn : B.nd ≤ 9223372036854775807) (fl : Nat) : OkAt 0 Try.prog fl 26 [bk B v1 v2 v3] (ofM m) c (rtV B) (ofM m) c := h.use [] .nil (rtV_pl B) (fun a1 a2 a3 i1 i2 i3 => Right_can B a1 a2 a3 i1 i2 i3 hn) fl
end Go.Proofs.Ytjnckbefajfgbaa

/- One number more, to an empty list that was just made. -/
namespace Go.Ev
open Go

section
variable {P : Program} {fl c : Nat} {m : List (Nat × Option AObj)} {y y' z : Ty} {t t' : Nat} {x1 x2 : Operand}
end
end Go.Ev

/- A call that writes nothing of what was, and leaves new names: from what it looks at. -/
set_option linter.unusedVariables false
namespace Go.Ev
open Go

section
variable {G : Nat} {P : Program} {c k : Nat}

end
end Go.Ev

/- What the laws on package roll share: small functions of the reference; lists of numbers. -/
namespace Go.Proofs.Ytjnckbefajfgbaa
open Go Go.Ev

set_option maxRecDepth 100000 in
theorem Amid_can (n lo hi : Int) : CanS 0 Try.prog 32 0 [.int .i64 n, .int .i64 lo, .int .i64 hi] [] 0 fun v _ _ => v = .bool (decide (lo ≤ n ∧ n ≤ hi)) := by
  refine CanS.mk Try.func32 rfl rfl rfl ?_
  repeat' (first | refine RT.nil ?_ | refine sq_n ?_ | refine Tr.seq ?_ | refine Tr.region ?_ | refine Tr.ret ?_ | (refine RT.splitd rfl rfl (fun _ => ?_) (fun _ => ?_)) | (refine RT.goK rfl rfl rfl rfl ?_; apply Nx.of; (first | exact S.move | exact S.assign | exact S.leq | exact S.pick_tt | exact S.pick_ff)) | (refine RT.no rfl rfl rfl ?_))
  all_goals
    (first | refine rt_go rfl ?_)
    simp [*, retV]
theorem Amid_at (n lo hi : Int) (H : T AObj) (c fl : Nat) : OkAt 0 Try.prog fl 32 [.int .i64 n, .int .i64 lo, .int .i64 hi] H c (.bool (decide (lo ≤ n ∧ n ≤ hi))) H c :=
  (Amid_can n lo hi).pure (.bool _) (.plain fun _ => rfl) fl
/-- Any number, brought below another one. -/
def wrapV (n k : Int) : Int := if k ≤ 0 then 0 else if n.tmod k < 0 then n.tmod k + k else n.tmod k
theorem tmod_bd {n k : Int} (hk : 0 < k) : -k < n.tmod k ∧ n.tmod k < k := by
  have h2 := Int.tmod_lt_of_pos n hk
  have h3 : -k < n.tmod k := by
    have := Int.lt_tmod_of_pos n hk
    omega
  exact ⟨h3, h2⟩
theorem wrapV_bd {n k : Int} (hk : 0 < k) : 0 ≤ wrapV n k ∧ wrapV n k < k := by
  have := tmod_bd (n := n) hk
  unfold wrapV
  rw [if_neg (by omega)]
  split <;> omega
set_option maxRecDepth 100000 in
theorem Wrap_can (n k : Int) (hk : k ≤ 1000000) : CanS 0 Try.prog 25 0 [.int .i64 n, .int .i64 k] [] 0 fun v _ _ => v = .int .i64 (wrapV n k) := by
  refine CanS.mk Try.func25 rfl rfl rfl ?_
  by_cases h : k ≤ 0
  · repeat' (first | refine RT.nil ?_ | refine sq_n ?_ | refine Tr.seq ?_ | refine Tr.region ?_ | refine Tr.cond_t rfl ?_ | refine Tr.ret ?_ | refine sq_r ?_ | (refine RT.goK rfl rfl rfl rfl ?_; refine Nx.of (S.leq_t h) ?_) | (refine RT.goK rfl rfl rfl rfl ?_; apply Nx.of; (first | exact S.move | exact S.assign)))
    (first | refine rt_go rfl ?_)
    unfold wrapV
    rw [if_pos h]
    rfl
  · have := tmod_bd (n := n) (show 0 < k by omega)
    repeat' (first | refine RT.nil ?_ | refine sq_n ?_ | refine Tr.seq ?_ | refine Tr.region ?_ | refine Tr.cond_f rfl ?_ | refine Tr.cond_d rfl (fun _ => ?_) (fun _ => ?_) | refine Tr.skip ?_ | refine Tr.ret ?_ | (refine RT.goK rfl rfl rfl rfl ?_; refine Nx.of (S.leq_f h) ?_) | (refine RT.goK rfl rfl rfl rfl ?_; apply Nx.of; (first | exact S.move | exact S.assign | exact S.lss | exact S.add (by unfold In64; omega) | exact S.rem (by omega))))
    all_goals
      (first | refine rt_go rfl ?_)
      unfold wrapV
      rw [if_neg h]
    · rw [if_pos (by assumption)]; rfl
    · rw [if_neg (by assumption)]; rfl
theorem Wrap_at (n k : Int) (hk : k ≤ 1000000) (H : T AObj) (c fl : Nat) : OkAt 0 Try.prog fl 25 [.int .i64 n, .int .i64 k] H c (.int .i64 (wrapV n k)) H c :=
  (Wrap_can n k hk).pure (.int _ _) (.plain fun _ => rfl) fl
set_option maxRecDepth 100000 in
theorem Sane_can (lo hi a b d : Int) (h : -100000 ≤ a ∧ b ≤ 100000) : CanS 0 Try.prog 60 0 [.agg [.int .i64 lo, .int .i64 hi], .int .i64 a, .int .i64 b, .int .i64 d] [] 0 fun v _ _ => v = .bool (decide (a ≤ lo ∧ lo ≤ hi ∧ hi ≤ b ∧ hi - lo ≤ d)) := by
  refine CanS.mk Try.func60 rfl rfl rfl ?_
  repeat' (first | refine RT.nil ?_ | refine sq_n ?_ | refine Tr.seq ?_ | refine Tr.region ?_ | refine Tr.ret ?_ | (refine RT.splitd rfl rfl (fun _ => ?_) (fun _ => ?_)) | (refine RT.goK rfl rfl rfl rfl ?_; apply Nx.of; (first | exact S.move | exact S.assign | exact S.load1c rfl rfl rfl rfl | exact S.fieldAddr rfl rfl rfl | exact S.leq | exact S.pick_tt | exact S.pick_ff | exact S.box | exact S.sub (by unfold In64; omega))) | (refine RT.no rfl rfl rfl ?_))
  all_goals
    (first | refine rt_go rfl ?_)
    simp [*, retV]
theorem Sane_at (lo hi a b d : Int) (h : -100000 ≤ a ∧ b ≤ 100000) (H : T AObj) (c fl : Nat) : OkAt 0 Try.prog fl 60 [.agg [.int .i64 lo, .int .i64 hi], .int .i64 a, .int .i64 b, .int .i64 d] H c (.bool (decide (a ≤ lo ∧ lo ≤ hi ∧ hi ≤ b ∧ hi - lo ≤ d))) H c :=
  (Sane_can lo hi a b d h).pure (.bool _) (.plain fun _ => rfl) fl
theorem Amid_t {n lo hi : Int} (h : lo ≤ n ∧ n ≤ hi) (H : T AObj) (c fl : Nat) : OkAt 0 Try.prog fl 32 [.int .i64 n, .int .i64 lo, .int .i64 hi] H c (.bool true) H c := by
  have := Amid_at n lo hi H c fl
  rwa [decide_eq_true h] at this
theorem Sane_t {lo hi a b d : Int} (h0 : -100000 ≤ a ∧ b ≤ 100000) (h : a ≤ lo ∧ lo ≤ hi ∧ hi ≤ b ∧ hi - lo ≤ d) (H : T AObj) (c fl : Nat) : OkAt 0 Try.prog fl 60 [.agg [.int .i64 lo, .int .i64 hi], .int .i64 a, .int .i64 b, .int .i64 d] H c (.bool true) H c := by
  have := Sane_at lo hi a b d h0 H c fl
  rwa [decide_eq_true h] at this

noncomputable def wrapF : CallFn := famA (α := Int × Int) 25 (fun a => [.int .i64 a.1, .int .i64 a.2]) (fun a => .int .i64 (wrapV a.1 a.2)) fun a _ _ => a.2 ≤ 1000000
theorem S.geq_t {P : Program} {fl c t yt : Nat} {m : List (Nat × Option AObj)} {x1 x2 : Operand} {a b : Int} (h : b ≤ a) : OpE P fl (.binOp .geq t x1 x2 yt) [.int .i64 a, .int .i64 b] m c (.bool true) m c := by
  have := S.geq (P := P) (fl := fl) (m := m) (c := c) (t := t) (yt := yt) (x1 := x1) (x2 := x2) (a := a) (b := b)
  rwa [decide_eq_true h] at this
open Classical in
/-- The first place of a number in a list, or -1. -/
noncomputable def plV (L : List Nat) (n : Nat) : Int := if h : ∃ k : Nat, L[k]? = some n ∧ ∀ j : Nat, j < k → L[j]? ≠ some n then (h.choose : Int) else -1
def RisL (L : List Nat) (n : Nat) : Prop := (∀ k x : Nat, L[k]? = some x → x < n) ∧ ∀ k x y : Nat, L[k]? = some x → L[k + 1]? = some y → x < y
def lastV (L : List Nat) : Nat → Int
  | 0 => -1
  | k + 1 => ((L[k]?.getD 0 : Nat) : Int)
def alV (x : Nat) (L : List Nat) : AV := match L with | [] => .sl x 0 0 0 | _ :: _ => .gs x L.length
def alO (L : List Nat) : AObj := match L with | [] => .cells [] | _ :: _ => .grown (natV L) 1
theorem lookM_app {ms g : List (Nat × Option AObj)} {x : Nat} {o : AObj} (h : lookM (ms ++ g) x = some o) : lookM ms x = some o ∨ lookM g x = some o := by
  induction ms with
  | nil => exact .inr h
  | cons e ms ih =>
    obtain ⟨y, ob⟩ := e
    rw [List.cons_append, lookM, Bool.cond_eq_ite] at h
    rw [lookM, Bool.cond_eq_ite]
    split at h
    · rename_i hy
      rw [if_pos hy]; exact .inl h
    · rename_i hy
      rw [if_neg hy]; exact ih h
def swT (a : Nat) (j : Nat) : Nat := if j = 0 then a else if j = a then 0 else j
/-- A window on a list of numbers, and its value seen through it. -/
structure Lw (m : List (Nat × Option AObj)) (v : AV) (L : List Nat) : Prop where
  ex : ∃ w : Wnd, (∃ o, (ofM m).get w.1 = some o ∧ (natV L = [] ∨ ∃ ca, cellsOf o = some ca ∧ cut ca w.2.1 (natV L).length = some (natV L))) ∧ ∀ (W : List Wnd) (i : Nat), W[i]? = some w → ∃ a, ArgW W v a ∧ IsSl a L.length i
end Go.Proofs.Ytjnckbefajfgbaa

/- Package roll: Wrong, for a book whose lists lie anywhere; a book without some of its looks: where it lies. -/
namespace Go.Proofs.Ytjnckbefajfgbaa
open Go Go.Ev

/-- Where the list of the looks that must be wrong lies, from the first new name on. -/
noncomputable def wrO (B : RBook) : Nat := 3 + (fwN (fwE B) - 5)
theorem bk_one {B : RBook} {a1 a2 a3 : AV} (h1 : IsSl a1 B.nl 0) (h2 : IsSl a2 B.nd 1) (h3 : IsSl a3 B.nk 2) : ((bk B a1 a2 a3).cells.all AV.one) = true := by
  simp only [bk, AV.cells, List.all_cons, List.all_nil, h1.one.1, h2.one.1, h3.one.1]
  rfl
/-- The numbers below one that are not of a list. -/
noncomputable def kpL (L : List Nat) (k : Nat) : List Nat := (List.range k).filter fun i => dB (i ∉ L)
def kpM (B : RBook) (x : Nat) (K : List Nat) : List (Nat × Option AObj) := match K with | [] => [] | _ :: _ => [(x, some (.grown (flat (loE B) K) 2))]
def zbk : RBook := ⟨0, fun _ => 0, fun _ => 0, 0, fun _ => 0, fun _ => 0, fun _ => 0, 0, fun _ => 0, fun _ => 0⟩
/-- The book with some of its looks alone. -/
noncomputable def woB (B : RBook) (K : List Nat) : RBook := { B with nk := K.length, ld := fun i => B.ld (K[i]?.getD 0), lb := fun i => B.lb (K[i]?.getD 0) }
/-- All names of a memory lie below a number. -/
def Kb (m : List (Nat × Option AObj)) (b : Nat) : Prop := ∀ e ∈ m, e.1 < b
end Go.Proofs.Ytjnckbefajfgbaa

/- Package roll: which looks must be wrong: plain facts. -/
namespace Go.Proofs.Ytjnckbefajfgbaa
open Go Go.Ev

theorem pas_keep {B : RBook} {t : Tru} {d j : Nat} (h : j ≠ d) : (pasT B t d).eb j = t.eb j := by
  have key : ∀ (u : Tru) (rb : Nat) (rr : Int), (passN B u d rb rr).eb j = u.eb j := fun u rb rr => by
    unfold passN
    (repeat' split) <;> exact upd_ne h
  unfold pasT
  by_cases hd : befB t d = B.nl ∧ befR t d = 0
  · rw [dB_tt hd, cond_true]
    exact upd_ne h
  · rw [dB_ff hd, cond_false, key]
    by_cases hl : t.la (befB t d).toNat = t.lo (befB t d).toNat
    · rw [dB_tt hl]; rfl
    · rw [dB_ff hl]; rfl
theorem nxT_keep {B : RBook} {t : Tru} {d j sk : Nat} {n : Int} (h : j ≠ d) : (nxT B t d n sk).eb j = t.eb j := pas_keep (t := (t.setW d n).setS d (sk : Int)) h
theorem mem_step {B : RBook} {k d : Nat} {t u : Tru} : u ∈ trs B (k + 1) d t ↔ ∃ n ∈ ints (B.wl d) (B.wh d), ∃ sk ∈ List.range 3, (hasP (B.sky d) sk ∧ lksAt B d (nxT B t d n sk) B.nk) ∧ u ∈ trs B k (d + 1) (nxT B t d n sk) := by
  rw [trs, List.mem_flatMap]
  refine exists_congr fun n => and_congr Iff.rfl ?_
  rw [List.mem_flatMap]
  refine exists_congr fun sk => and_congr Iff.rfl ?_
  by_cases h : hasP (B.sky d) sk ∧ lksAt B d (nxT B t d n sk) B.nk
  · rw [dB_tt h, cond_true]
    exact ⟨fun g => ⟨h, g⟩, fun g => g.2⟩
  · rw [dB_ff h, cond_false]
    exact ⟨fun g => (by cases g), fun g => absurd g.1 h⟩
theorem eb_keep {B : RBook} : ∀ {k d j : Nat} {t u : Tru}, u ∈ trs B k d t → j < d → u.eb j = t.eb j
  | 0, d, j, t, u, h, _ => by rw [List.mem_singleton.1 h]
  | k + 1, d, j, t, u, h, hj => by
    obtain ⟨n, _, sk, _, _, hu⟩ := mem_step.1 h
    rw [eb_keep hu (by omega), nxT_keep (by omega)]
/-- The truths with looks: those without, in which every look is right. -/
theorem mem_trs (B : RBook) (nk : Nat) (ld lb : Nat → Int) (hl : ∀ i, i < nk → 0 ≤ ld i) : ∀ {k d : Nat} {t u : Tru}, u ∈ trs { B with nk := nk, ld := ld, lb := lb } k d t ↔ u ∈ trs (ncB B) k d t ∧ ∀ i, i < nk → (d : Int) ≤ ld i → ld i < (d + k : Nat) → u.eb (ld i).toNat = lb i
  | 0, d, t, u => ⟨fun h => ⟨h, fun i _ h1 h2 => by omega⟩, fun h => h.1⟩
  | k + 1, d, t, u => by
    rw [mem_step, mem_step]
    constructor
    · rintro ⟨n, hn, sk, hs, ⟨h1, h2⟩, hu⟩
      have hu : u ∈ trs { B with nk := nk, ld := ld, lb := lb } k (d + 1) (nxT B t d n sk) := hu
      obtain ⟨g1, g2⟩ := (mem_trs B nk ld lb hl).1 hu
      refine ⟨⟨n, hn, sk, hs, ⟨h1, fun i hi => absurd hi (Nat.not_lt_zero i)⟩, g1⟩, fun i hi e1 e2 => ?_⟩
      by_cases e : ld i = d
      · have e3 := eb_keep (j := d) g1 (Nat.lt_succ_self d)
        have e4 : (nxT B t d n sk).eb d = lb i := h2 i hi e
        rw [e, Int.toNat_natCast, e3, e4]
      · exact g2 i hi (by omega) (by omega)
    · rintro ⟨⟨n, hn, sk, hs, ⟨h1, _⟩, hu⟩, hk⟩
      have hu : u ∈ trs (ncB B) k (d + 1) (nxT B t d n sk) := hu
      refine ⟨n, hn, sk, hs, ⟨h1, fun i hi e => ?_⟩, (mem_trs B nk ld lb hl).2 ⟨hu, fun i hi e1 e2 => hk i hi (by omega) (by omega)⟩⟩
      have e3 := eb_keep (j := d) hu (Nat.lt_succ_self d)
      have e4 := hk i hi (show (d : Int) ≤ ld i by have e : ld i = (d : Int) := e; omega) (show ld i < _ by have e : ld i = (d : Int) := e; omega)
      have e : ld i = (d : Int) := e
      rw [e, Int.toNat_natCast, e3] at e4
      exact e4
section
variable {B : RBook} {K : List Nat}
theorem ld_bd (hB : bkOk B) : ∀ i, i < B.nk → 0 ≤ B.ld i ∧ B.ld i < B.nd := fun i hi => by
  have := (hB.2.2.2 i hi).1
  unfold dyQ at this
  omega
end
end Go.Proofs.Ytjnckbefajfgbaa

/- Whether there is a book of layers, as the laws ask it. -/
namespace Go.Proofs.Ytjnckbefajfgbaa
open Go Go.Ev

theorem Check_ok {B : RBook} {a1 a2 a3 : AV} {m : List (Nat × Option AObj)} {c : Nat} (h : BkIn B a1 a2 a3 m c) (hn : B.nd ≤ 9223372036854775807) (hB : bkOk B) (fl : Nat) : OkAt 0 Try.prog fl 59 [bk B a1 a2 a3] (ofM m) c (.int .i64 0) (ofM m) c :=
  val_is (by unfold ckV; rw [dB_tt hB]; rfl) (Check_at h hn fl)
theorem Check_no {B : RBook} {a1 a2 a3 : AV} {m : List (Nat × Option AObj)} {c : Nat} (h : BkIn B a1 a2 a3 m c) (hn : B.nd ≤ 9223372036854775807) (hB : ¬ bkOk B) (fl : Nat) : OkAt 0 Try.prog fl 59 [bk B a1 a2 a3] (ofM m) c (.int .i64 70) (ofM m) c :=
  val_is (by unfold ckV; rw [dB_ff hB]; rfl) (Check_at h hn fl)
/-- Amid, where it is so. -/
noncomputable def amT : CallFn := famA (α := Int × Int × Int) 32 (fun a => [.int .i64 a.1, .int .i64 a.2.1, .int .i64 a.2.2]) (fun _ => .bool true) fun a _ _ => a.2.1 ≤ a.1 ∧ a.1 ≤ a.2.2
theorem amT_calm : CalmC 0 Try.prog amT := famA_calm fun a fl H c h => Amid_t h H c fl
theorem amT_at (n lo hi : Int) (h : lo ≤ n ∧ n ≤ hi) (fl : Nat) (H : T AObj) (c : Nat) : amT fl 32 [.int .i64 n, .int .i64 lo, .int .i64 hi] H c = some (.bool true, H, c) := famA_at fl (n, lo, hi) h (fun _ _ => rfl)
set_option maxRecDepth 100000 in
set_option maxHeartbeats 4000000 in
theorem sound_no (B : RBook) (a1 a2 a3 : AV) (h1 : IsSl a1 B.nl 0) (h2 : IsSl a2 B.nd 1) (h3 : IsSl a3 B.nk 2) (hn : B.nd ≤ 9223372036854775807) (hB : ¬ bkOk B) : CanS 0 Try.prog 22 3 [bk B a1 a2 a3] [(0, some (oLa B)), (1, some (oDa B)), (2, some (oLo B))] 3 fun v _ _ => v = .bool false := by
  refine CanS.mk Try.func22 rfl rfl rfl ?_
  repeat' (first | refine RT.nil ?_ | refine sq_n ?_ | refine Tr.seq ?_ | refine Tr.region ?_ | refine Tr.block ?_ | (refine RT.call rfl rfl rfl (Check_no ⟨h1, h2, h3, rfl, rfl, rfl, by decide⟩ hn hB _) rfl rfl (Nat.le_refl _) ?_) | (refine RT.goK rfl rfl rfl rfl ?_; apply Nx.of; (first | exact S.eql_f (by decide))) | (refine RT.goK rfl rfl rfl rfl ?_; apply Nx.of; (first | exact S.move | exact S.assign | exact S.loadNc rfl rfl rfl rfl | exact S.pick_ff | exact S.box)) | (refine RT.no rfl rfl rfl ?_))
  refine Tr.unroll 1 ?_
  repeat' (first | refine RT.nil ?_ | refine sq_n ?_ | refine Tr.seq ?_ | refine Tr.region ?_ | refine Tr.cond_f rfl ?_ | refine Tr.exit ?_ | refine sq_x ?_ | refine Tr.block ?_ | refine blk_hit rfl ?_ | refine un_x ?_ | (refine RT.goK rfl rfl rfl rfl ?_; apply Nx.of; (first | exact S.move | exact S.assign | exact S.pick_ff)) | (refine RT.no rfl rfl rfl ?_))
  refine Tr.unroll 1 ?_
  repeat' (first | refine RT.nil ?_ | refine sq_n ?_ | refine Tr.seq ?_ | refine Tr.region ?_ | refine Tr.cond_f rfl ?_ | refine Tr.ret ?_ | refine Tr.exit ?_ | refine sq_x ?_ | refine blk_hit rfl ?_ | refine un_x ?_ | (refine RT.goK rfl rfl rfl rfl ?_; apply Nx.of; (first | exact S.move | exact S.assign | exact S.pick_ff)) | (refine RT.no rfl rfl rfl ?_))
  (first | refine rt_go rfl ?_)
  rfl
set_option maxRecDepth 100000 in
set_option maxHeartbeats 4000000 in
theorem sound_yes (B : RBook) (a1 a2 a3 : AV) (h1 : IsSl a1 B.nl 0) (h2 : IsSl a2 B.nd 1) (h3 : IsSl a3 B.nk 2) (hn : B.nd ≤ 9223372036854775807) (hB : bkOk B) : CanS 0 Try.prog 22 3 [bk B a1 a2 a3] [(0, some (oLa B)), (1, some (oDa B)), (2, some (oLo B))] 3 fun v _ _ => v = .bool true := by
  obtain ⟨⟨hnl, hla⟩, ⟨hnd, hda⟩, hnk, hlk⟩ := id hB
  refine CanS.mk Try.func22 rfl rfl rfl ?_
  repeat' (first | refine RT.nil ?_ | refine sq_n ?_ | refine Tr.seq ?_ | refine Tr.region ?_ | refine Tr.block ?_ | (refine RT.call rfl rfl rfl (Check_ok ⟨h1, h2, h3, rfl, rfl, rfl, by decide⟩ hn hB _) rfl rfl (Nat.le_refl _) ?_) | (refine RT.call rfl rfl rfl (Amid_t (by omega) _ _ _) rfl rfl (Nat.le_refl _) ?_) | (refine RT.goK rfl rfl rfl rfl ?_; first | refine Nx.of (S.leq_t (by omega)) ?_) | (refine RT.goK rfl rfl rfl rfl ?_; apply Nx.of; (first | exact S.eql_t (by decide))) | (refine RT.goK rfl rfl rfl rfl ?_; apply Nx.of; (first | exact S.move | exact S.assign | exact S.load1c rfl rfl rfl rfl | exact S.loadNc rfl rfl rfl rfl | exact S.fieldAddr rfl rfl rfl | exact S.pick_tt | exact S.box)) | (refine RT.goK rfl rfl rfl rfl ?_; apply Nx.of; (first | exact S.len_sl rfl rfl rfl (by assumption))))
  refine Tr.loop (fun k : Nat => stL Try.f22.ntmps [] [(1, .ptr 3 0), (2, .bool false), (3, .bool true), (4, .int .i64 k)] [(3, some (.cells (bk B a1 a2 a3).cells)), (0, some (oLa B)), (1, some (oDa B)), (2, some (oLo B))] 4) (fun k => k ≤ B.nd) (fun k => B.nd - k) 0 (Nat.zero_le _) (by (refine Wk.same (by decide) (by decide) (by decide) (by decide) ?_ ?_ rfl; all_goals ((try simp only [allL, allM]); (repeat' (first | exact trivial | refine And.intro ?_ ?_)); all_goals (first | rfl | exact ren_ro _ _ _ | exact bkc_ren h1 h2 h3 (nm_lt (by decide)) (nm_lt (by decide)) (nm_lt (by decide)) | decide)))) (fun k hk => ?_)
  by_cases hlt : k < B.nd
  · have hs := hda k hlt
    unfold daOk at hs
    repeat' (first | refine RT.nil ?_ | refine sq_n ?_ | refine Tr.seq ?_ | refine Tr.region ?_ | refine Tr.cond_t rfl ?_ | refine Tr.skip ?_ | refine Tr.block ?_ | refine blk_n ?_ | (refine RT.call rfl rfl rfl (Amid_t (by omega) _ _ _) rfl rfl (Nat.le_refl _) ?_) | (refine RT.call rfl rfl rfl (Sane_t (by decide) (by omega) _ _ _) rfl rfl (Nat.le_refl _) ?_) | (refine RT.goK rfl rfl rfl rfl ?_; first | refine Nx.of (S.lss_t (by omega)) ?_) | (refine RT.goK rfl rfl rfl rfl ?_; apply Nx.of; (first | exact S.move | exact S.assign | exact S.load1c rfl rfl rfl rfl | exact S.fieldAddr rfl rfl rfl | exact S.pick_tt | exact S.add_one (by omega))) | (refine RT.goK rfl rfl rfl rfl ?_; apply Nx.of; (first | exact S.idx_sl rfl rfl rfl (by assumption) (by omega) | exact S.rowN0 rfl rfl rfl (fun _ => rfl) (range_at (by omega)) rfl | exact S.row rfl rfl rfl (fun _ => rfl) (range_at (by omega)) rfl | exact S.len_sl rfl rfl rfl (by assumption))))
    refine lp_n (k + 1) hlt (by omega) (by (refine Wk.same (by decide) (by decide) (by decide) (by decide) ?_ ?_ rfl; all_goals ((try simp only [allL, allM]); (repeat' (first | exact trivial | refine And.intro ?_ ?_)); all_goals (first | rfl | exact ren_ro _ _ _ | exact bkc_ren h1 h2 h3 (nm_lt (by decide)) (nm_lt (by decide)) (nm_lt (by decide)) | decide))))
  obtain rfl : k = B.nd := by omega
  repeat' (first | refine RT.nil ?_ | refine sq_n ?_ | refine Tr.seq ?_ | refine Tr.region ?_ | refine Tr.cond_f rfl ?_ | refine Tr.exit ?_ | refine sq_x ?_ | refine Tr.block ?_ | refine blk_hit rfl ?_ | refine lp_x ?_ | (refine RT.goK rfl rfl rfl rfl ?_; first | refine Nx.of (S.lss_f (by omega)) ?_) | (refine RT.goK rfl rfl rfl rfl ?_; apply Nx.of; (first | exact S.move | exact S.assign | exact S.load1c rfl rfl rfl rfl | exact S.fieldAddr rfl rfl rfl | exact S.pick_tt)) | (refine RT.goK rfl rfl rfl rfl ?_; apply Nx.of; (first | exact S.len_sl rfl rfl rfl (by assumption))))
  refine Tr.loop (fun k : Nat => stL Try.f22.ntmps [] [(1, .ptr 3 0), (2, .bool false), (3, .bool true), (5, .int .i64 k)] [(3, some (.cells (bk B a1 a2 a3).cells)), (0, some (oLa B)), (1, some (oDa B)), (2, some (oLo B))] 4) (fun k => k ≤ B.nk) (fun k => B.nk - k) 0 (Nat.zero_le _) (by (refine Wk.same (by decide) (by decide) (by decide) (by decide) ?_ ?_ rfl; all_goals ((try simp only [allL, allM]); (repeat' (first | exact trivial | refine And.intro ?_ ?_)); all_goals (first | rfl | exact ren_ro _ _ _ | exact bkc_ren h1 h2 h3 (nm_lt (by decide)) (nm_lt (by decide)) (nm_lt (by decide)) | decide)))) (fun k hk => ?_)
  by_cases hlt : k < B.nk
  · have hs := hlk k hlt
    unfold lkOk dyQ at hs
    repeat' (first | refine RT.nil ?_ | refine sq_n ?_ | refine Tr.seq ?_ | refine Tr.region ?_ | refine Tr.cond_t rfl ?_ | refine Tr.skip ?_ | refine Tr.block ?_ | (refine RT.goK rfl rfl rfl rfl ?_; first | refine Nx.of (S.lss_t (by omega)) ?_) | (refine RT.goK rfl rfl rfl rfl ?_; apply Nx.of; (first | exact S.move | exact S.load1c rfl rfl rfl rfl | exact S.fieldAddr rfl rfl rfl | exact S.pick_tt)) | (refine RT.goK rfl rfl rfl rfl ?_; apply Nx.of; (first | exact S.len_sl rfl rfl rfl (by assumption))))
    refine Tr.openK un22_9 (by kernel_rfl) (by kernel_rfl) amT amT_calm ?_
    repeat' (first | (refine RD.callN rfl rfl rfl rfl rfl rfl rfl rfl rfl (fun fl' => amT_at _ _ _ (by omega) fl' _ _) (fun _ => by refine srOk_all ?_; simp only [srOk]; (repeat' (first | exact trivial | refine And.intro ?_ ?_)); all_goals (first | exact trivial | (refine ⟨_, rfl, ?_⟩; (first | rfl | (simp [rfO, rfVs, rfV, rfVs_flat]; done) | (simp [bk, AV.cells, rfO, rfVs, rfV, h1.rf, h2.rf, h3.rf]; done))))) ?_) | (refine RD.free rfl rfl rfl rfl rfl rfl ?_; apply Nx.of; (first | exact S.move | exact S.assign | exact S.fieldAddr rfl rfl rfl | exact S.pick_tt | exact S.sub_one (by omega) (by omega) | exact S.idx_sl rfl rfl rfl (by assumption) (by omega) | exact S.len_sl rfl rfl rfl (by assumption))) | (refine RD.load rfl rfl rfl rfl rfl rfl rfl rfl ?_; apply Nx.of; (first | exact S.load1c rfl rfl rfl rfl | exact S.row0 rfl rfl rfl (fun _ => rfl) (range_at (by omega)) rfl | exact S.row rfl rfl rfl (fun _ => rfl) (range_at (by omega)) rfl)) | refine RD.nil ⟨Nat.le_of_ble_eq_true rfl, ?_⟩)
    repeat' (first | refine RT.nil ?_ | refine sq_n ?_ | refine Tr.region ?_ | refine blk_n ?_ | (refine RT.goK rfl rfl rfl rfl ?_; apply Nx.of; (first | exact S.move | exact S.assign | exact S.add_one (by omega))))
    refine lp_n (k + 1) hlt (by omega) (by (refine Wk.same (by decide) (by decide) (by decide) (by decide) ?_ ?_ rfl; all_goals ((try simp only [allL, allM]); (repeat' (first | exact trivial | refine And.intro ?_ ?_)); all_goals (first | rfl | exact ren_ro _ _ _ | exact bkc_ren h1 h2 h3 (nm_lt (by decide)) (nm_lt (by decide)) (nm_lt (by decide)) | decide))))
  obtain rfl : k = B.nk := by omega
  repeat' (first | refine RT.nil ?_ | refine sq_n ?_ | refine Tr.seq ?_ | refine Tr.region ?_ | refine Tr.cond_f rfl ?_ | refine Tr.ret ?_ | refine Tr.exit ?_ | refine sq_x ?_ | refine blk_hit rfl ?_ | refine lp_x ?_ | (refine RT.goK rfl rfl rfl rfl ?_; first | refine Nx.of (S.lss_f (by omega)) ?_) | (refine RT.goK rfl rfl rfl rfl ?_; apply Nx.of; (first | exact S.move | exact S.assign | exact S.load1c rfl rfl rfl rfl | exact S.fieldAddr rfl rfl rfl | exact S.pick_tt)) | (refine RT.goK rfl rfl rfl rfl ?_; apply Nx.of; (first | exact S.len_sl rfl rfl rfl (by assumption))))
  (first | refine rt_go rfl ?_)
  rfl
end Go.Proofs.Ytjnckbefajfgbaa

/-
  What the rows of the laws on layer 7 share: the chapter's examples, carried out; a book of layers that came in.
-/
namespace Go.Proofs.Ytjnckbefajfgbaa
open Go Go.Ev Go.ChangeShapes Go.WideShapes Go.ChangeAt Go.RowKit Go.Deep

theorem own : ownKnob Try.prog.godebug = none := by kernel_rfl
theorem heaped0 : decide (Try.prog.globals.size < (begin Try.prog (fun _ _ => 0) default).world.heap.size) = true := by kernel_rfl
theorem bill_ok : CanS 0 Try.prog 21 0 [] [] 0 fun v _ _ => v = .bool true := by
  obtain ⟨H', c', hr⟩ := saysTrue_some root_true
  have hk := root_run _ _ _ _ _ _ _ _ hr
  refine ⟨hk.1, fun ρ w us hH hv r n => (hk.2 ρ w us hH hv r n).mono ?_⟩
  rintro e w' ⟨u, rfl, ρ', h1, h2, h3, h4⟩
  exact ⟨u, _, H', c', ρ', rfl, rfl, h1, h2, h3.count, .of_ext h3 (Nat.le_refl _), h4⟩

theorem lInt : Go.Ev.Leaves Try.prog 3 [3] := Go.Ev.Leaves.int Try.underlying3
theorem lSpan : Go.Ev.Leaves Try.prog 28 [3, 3] := Go.Ev.Leaves.struct (uss := [[3], [3]]) Try.underlying28 ⟨⟨lInt, rfl, by kernel_rfl⟩, ⟨lInt, rfl, by kernel_rfl⟩, trivial⟩ (by kernel_rfl)
theorem lLayer : Go.Ev.Leaves Try.prog 62 [3, 3] := Go.Ev.Leaves.struct (uss := [[3], [3]]) Try.underlying62 ⟨⟨lInt, rfl, by kernel_rfl⟩, ⟨lInt, rfl, by kernel_rfl⟩, trivial⟩ (by kernel_rfl)
theorem lDay : Go.Ev.Leaves Try.prog 59 [3, 3, 3] := Go.Ev.Leaves.struct (uss := [[3, 3], [3]]) Try.underlying59 ⟨⟨lSpan, rfl, by kernel_rfl⟩, ⟨lInt, rfl, by kernel_rfl⟩, trivial⟩ (by kernel_rfl)
theorem lLook : Go.Ev.Leaves Try.prog 53 [3, 3] := Go.Ev.Leaves.struct (uss := [[3], [3]]) Try.underlying53 ⟨⟨lInt, rfl, by kernel_rfl⟩, ⟨lInt, rfl, by kernel_rfl⟩, trivial⟩ (by kernel_rfl)
abbrev bookT : List Nat := [22, 23, 24]
theorem lBook : Go.Ev.Leaves Try.prog 26 bookT := Go.Ev.Leaves.struct (uss := [[22], [23], [24]]) Try.underlying26 ⟨⟨Go.Ev.Leaves.slice Try.underlying22, rfl, by kernel_rfl⟩, ⟨Go.Ev.Leaves.slice Try.underlying23, rfl, by kernel_rfl⟩, ⟨Go.Ev.Leaves.slice Try.underlying24, rfl, by kernel_rfl⟩, trivial⟩ (by kernel_rfl)

section
variable {H : Type} {enc : TypeId × Value → H}
theorem ints_all {us : List Nat} (h : (us.all fun u => u == 3) = true) : ∀ u ∈ us, Try.prog.underlying u = some (.int .i64) := fun u hu => by
  have := List.all_eq_true.1 h u hu
  rw [eq_of_beq this]
  exact Try.underlying3

set_option maxRecDepth 100000 in
theorem open_book {W : World} {b0 : Nat} {v : Value} {d : DataW H} {p : List MemPlace} (hv : Value.okWide Try.prog W .any b0 26 v) (h : DataW.Trod enc Try.prog W 0 (fun _ => true) true 26 v d p) :
    ∃ (B : RBook) (v0 v1 v2 : Value) (g0 g1 g2 : Nat → Nat → Int), v = .agg #[v0, v1, v2] ∧ RowsW W v0 B.nl 2 g0 ∧ RowsW W v1 B.nd 3 g1 ∧ RowsW W v2 B.nk 2 g2 ∧
      (∀ i j a, j < 2 → (laE B i)[j]? = some a → g0 i j = a) ∧ (∀ i j a, j < 3 → (daE B i)[j]? = some a → g1 i j = a) ∧ ∀ i j a, j < 2 → (loE B i)[j]? = some a → g2 i j = a := by
  obtain ⟨cs, rfl, hl, hc⟩ := open_cells (us := bookT) (by kernel_rfl) lBook (by kernel_rfl) hv h
  obtain ⟨v0, m0, y0, e0, o0, d0⟩ := hc 0 _ rfl
  obtain ⟨v1, m1, y1, e1, o1, d1⟩ := hc 1 _ rfl
  obtain ⟨v2, m2, y2, e2, o2, d2⟩ := hc 2 _ rfl
  obtain ⟨n0, g0, r0⟩ := open_rowsW Try.underlying22 lLayer (ints_all rfl) rfl (by kernel_rfl) o0 d0
  obtain ⟨n1, g1, r1⟩ := open_rowsW Try.underlying23 lDay (ints_all rfl) rfl (by kernel_rfl) o1 d1
  obtain ⟨n2, g2, r2⟩ := open_rowsW Try.underlying24 lLook (ints_all rfl) rfl (by kernel_rfl) o2 d2
  match cs, hl with
  | [x0, x1, x2], _ =>
    simp at e0 e1 e2
    subst e0 e1 e2
    refine ⟨⟨n0, fun i => g0 i 0, fun i => g0 i 1, n1, fun i => g1 i 0, fun i => g1 i 1, fun i => g1 i 2, n2, fun i => g2 i 0, fun i => g2 i 1⟩, x0, x1, x2, g0, g1, g2, rfl, r0, r1, r2, fun i j a hj ha => ?_, fun i j a hj ha => ?_, fun i j a hj ha => ?_⟩
    · match j, hj with
      | 0, _ => simpa [laE] using ha
      | 1, _ => simpa [laE] using ha
    · match j, hj with
      | 0, _ => simpa [daE] using ha
      | 1, _ => simpa [daE] using ha
      | 2, _ => simpa [daE] using ha
    · match j, hj with
      | 0, _ => simpa [loE] using ha
      | 1, _ => simpa [loE] using ha
end

/-- A book's slices, as they lie. -/
def bookS {W : World} {B : RBook} {v0 v1 v2 : Value} {g0 g1 g2 : Nat → Nat → Int} (r0 : RowsW W v0 B.nl 2 g0) (r1 : RowsW W v1 B.nd 3 g1) (r2 : RowsW W v2 B.nk 2 g2) (h0 : ∀ i j a, j < 2 → (laE B i)[j]? = some a → g0 i j = a) (h1 : ∀ i j a, j < 3 → (daE B i)[j]? = some a → g1 i j = a) (h2 : ∀ i j a, j < 2 → (loE B i)[j]? = some a → g2 i j = a) : List (SlD W) :=
  [⟨v0, B.nl, 2, g0, laE B, r0, fun _ => rfl, fun i j a _ hj h => h0 i j a hj h⟩, ⟨v1, B.nd, 3, g1, daE B, r1, fun _ => rfl, fun i j a _ hj h => h1 i j a hj h⟩, ⟨v2, B.nk, 2, g2, loE B, r2, fun _ => rfl, fun i j a _ hj h => h2 i j a hj h⟩]
theorem book_vr {W : World} {B : RBook} {v0 v1 v2 : Value} {g0 g1 g2 : Nat → Nat → Int} (r0 : RowsW W v0 B.nl 2 g0) (r1 : RowsW W v1 B.nd 3 g1) (r2 : RowsW W v2 B.nk 2 g2) {ρ : Rho} (e0 : ρ 0 = some (winV v0)) (e1 : ρ 1 = some (winV v1)) (e2 : ρ 2 = some (winV v2)) : VR ρ (bk B (slA v0 0) (slA v1 1) (slA v2 2)) (.agg #[v0, v1, v2]) := by
  simp only [bk, VR]
  exact ⟨[v0, v1, v2], .cons (r0.vr e0) (.cons (r1.vr e1) (.cons (r2.vr e2) .nil)), rfl⟩
end Go.Proofs.Ytjnckbefajfgbaa

/-
  Looks that came in.
-/
namespace Go.Proofs.Ytjnckbefajfgbaa
open Go Go.Ev Go.ChangeShapes Go.WideShapes Go.ChangeAt Go.RowKit Go.Deep

section
variable {H : Type} {enc : TypeId × Value → H}
set_option maxRecDepth 100000 in
theorem open_look {W : World} {b0 : Nat} {v : Value} {d : DataW H} {p : List MemPlace} (hv : Value.okWide Try.prog W .any b0 53 v) (h : DataW.Trod enc Try.prog W 0 (fun _ => true) true 53 v d p) : ∃ a b : Int, v = .agg #[.int .i64 a, .int .i64 b] := by
  obtain ⟨cs, rfl, hl, hc⟩ := open_cells (us := [3, 3]) (by kernel_rfl) lLook (by kernel_rfl) hv h
  obtain ⟨v0, m0, y0, e0, o0, d0⟩ := hc 0 _ rfl
  obtain ⟨v1, m1, y1, e1, o1, d1⟩ := hc 1 _ rfl
  obtain ⟨a0, rfl, _⟩ := open_num Try.underlying3 o0
  obtain ⟨a1, rfl, _⟩ := open_num Try.underlying3 o1
  match cs, hl with
  | [x0, x1], _ =>
    simp at e0 e1
    subst e0 e1
    exact ⟨a0, a1, rfl⟩
end
end Go.Proofs.Ytjnckbefajfgbaa

/- Entries of maps that count: m[k]++, where the order of its look-up and its entry is open. -/
namespace Go.Ev
open Go

section
variable {P : Program} {fl c : Nat} {m : List (Nat × Option AObj)} {y z : Ty} {t : Nat} {x1 x2 x3 : Operand} {v : AV}
variable {κ : Type} [DecidableEq κ] {kt : Nat} {enc : κ → AV} {encV : κ → Value} {f : κ → AV} {L : List κ} {k : κ}

/-- The keys with one more, at their end. -/
def insK (L : List κ) (k : κ) : List κ := if k ∈ L then L else L ++ [k]
/-- Where a key is, or would be. -/
def ixK (k : κ) : List κ → Nat
  | [] => 0
  | k' :: L => if k = k' then 0 else ixK k L + 1
def updK (f : κ → AV) (k : κ) (v : AV) : κ → AV := fun j => if j = k then v else f j
theorem ins_mem : k ∈ insK L k := by
  unfold insK
  split
  · assumption
  · simp
theorem ins_nodup (h : L.Nodup) : (insK L k).Nodup := by
  unfold insK
  split
  · exact h
  · rename_i hk
    rw [List.nodup_append]
    exact ⟨h, by simp, fun a ha b hb => by rw [List.mem_singleton.1 hb]; exact fun e => hk (e ▸ ha)⟩
theorem ix_ins : ∀ L : List κ, ixK k (insK L k) = ixK k L := fun L => by
  unfold insK
  split
  · rfl
  · rename_i h
    induction L with
    | nil => simp [ixK]
    | cons a L ih =>
      have h1 : k ≠ a := fun e => h (e ▸ List.mem_cons_self)
      have h2 := ih fun q => h (List.mem_cons_of_mem _ q)
      rw [List.cons_append, ixK, if_neg h1, ixK, if_neg h1, h2]

theorem set_map_hit (K : Keys P kt enc encV) (hb : ∀ k, Instr.sameBits 10000 (encV k) (encV k) = true) : ∀ L : List κ, k ∈ L → setA P kt (enc k) (encV k) (f k) (mapOf enc f L) = some (mapOf enc f L)
  | [], h => by cases h
  | k' :: L, h => by
    show setA P kt (enc k) (encV k) (f k) ((enc k', f k') :: mapOf enc f L) = _
    by_cases e : k = k'
    · subst e
      simp only [setA, K.plain, K.eq, decide_true, hb, cond_true]
      rfl
    · have ih := set_map_hit K hb L ((List.mem_cons.1 h).resolve_left e)
      simp only [setA, K.plain, K.eq, decide_eq_false e, ih, Option.map_some]
      rfl
theorem ix_map (K : Keys P kt enc encV) : ∀ L : List κ, findIx P kt (encV k) (mapOf enc f L) = ixK k L
  | [] => rfl
  | k' :: L => by
    show findIx P kt (encV k) ((enc k', f k') :: mapOf enc f L) = _
    rw [ixK]
    by_cases e : k = k'
    · subst e
      simp only [findIx, K.plain, K.eq, decide_true, if_true]
    · simp only [findIx, K.plain, K.eq, decide_eq_false e, if_neg e, ix_map K L]
theorem at_map : ∀ L : List κ, L.Nodup → k ∈ L → setAt v (mapOf enc f L) (ixK k L) = some (mapOf enc (updK f k v) L)
  | [], _, h => by cases h
  | k' :: L, hn, h => by
    obtain ⟨h1, h2⟩ := List.nodup_cons.1 hn
    show setAt v ((enc k', f k') :: mapOf enc f L) (ixK k (k' :: L)) = some ((enc k', updK f k v k') :: mapOf enc (updK f k v) L)
    rw [ixK]
    by_cases e : k = k'
    · subst e
      rw [if_pos rfl, setAt]
      have e1 : updK f k v k = v := if_pos rfl
      have e2 : mapOf enc f L = mapOf enc (updK f k v) L := List.map_congr_left fun j hj => by
        have : j ≠ k := fun q => h1 (q ▸ hj)
        show (enc j, f j) = (enc j, if j = k then v else f j)
        rw [if_neg this]
      rw [e1, e2]
    · rw [if_neg e, setAt, at_map L h2 ((List.mem_cons.1 h).resolve_left e)]
      have e1 : updK f k v k' = f k' := if_neg fun q => e q.symm
      rw [e1]; rfl

theorem S.look0 [Tab P] {x : Nat} (K : Keys P y.len enc encV) (hy : ty P t = some y) (hk : y.kind = 8) (hz : ty P y.elem = some z) (ho : lookM m x = some (.map (mapOf enc f L))) (h0 : k ∉ L → f k = z.zero) : OpE P fl (.lookup t x1 x2 false) [.map x, enc k] m c (f k) m c := by
  refine ⟨rfl, Nat.le_refl _, ?_⟩
  by_cases h : k ∈ L
  · simp only [opA, oLookup, lookupA, ty_map hy hk, ofM_get, ho, K.plain, K.ok, cond_true, find_map K, if_pos h, opt1, Option.map_some, cond_false]
  · simp only [opA, oLookup, lookupA, ty_map hy hk, ofM_get, ho, K.plain, K.ok, cond_true, find_map K, if_neg h, opt1, Option.map_some, ty_zero hz, cond_false, h0 h]
theorem S.entry [Tab P] {x : Nat} (K : Keys P y.len enc encV) (hb : ∀ k, Instr.sameBits 10000 (encV k) (encV k) = true) (hy : ty P t = some y) (hk : y.kind = 8) (hz : ty P y.elem = some z) (hf : Nat.ble fl x = true) (ho : lookM m x = some (.map (mapOf enc f L))) (h0 : k ∉ L → f k = z.zero) : OpE P fl (.mapEntry t x1 x2) [.map x, enc k] m c (.tup [f k, .int .i64 (ixK k L)]) ((x, some (.map (mapOf enc f (insK L k)))) :: m) c := by
  refine ⟨rfl, Nat.le_refl _, ?_⟩
  by_cases h : k ∈ L
  · have e : insK L k = L := if_pos h
    simp only [opA, oEntry, entryA, ty_map hy hk, K.plain, K.ok, hf, Bool.and_self, cond_true, ofM_get, ho, ty_zero hz, find_map K, if_pos h, Option.getD_some, set_map_hit K hb L h, Option.map_some, ix_map K, e]
    rfl
  · have e : insK L k = L ++ [k] := if_neg h
    have e2 : mapOf enc f L ++ [(enc k, z.zero)] = mapOf enc f (L ++ [k]) := by rw [← h0 h]; simp [mapOf]
    simp only [opA, oEntry, entryA, ty_map hy hk, K.plain, K.ok, hf, Bool.and_self, cond_true, ofM_get, ho, ty_zero hz, find_map K, if_neg h, Option.getD_none, set_map K L h, Option.map_some, ix_map K, e, e2, h0 h]
    rfl
theorem S.entryStore {x : Nat} (hf : Nat.ble fl x = true) (ho : lookM m x = some (.map (mapOf enc f L))) (hn : L.Nodup) (h : k ∈ L) {j : Nat} (hj : ixK k L = j) : OpE P fl (.entryStore t x1 x2 x3) [.map x, .int .i64 (j : Int), v] m c undefA ((x, some (.map (mapOf enc (updK f k v) L))) :: m) c := by
  refine ⟨rfl, Nat.le_refl _, ?_⟩
  subst hj
  simp only [opA, oEntryStore]
  have : entryStoreA (ofM m) fl (.map x) (.int .i64 (ixK k L : Int)) v = some ((ofM m).set x (.map (mapOf enc (updK f k v) L))) := by
    show (bif Nat.ble fl x then (match (ofM m).get x with
      | some (.map es) => (setAt v es (ixK k L)).map fun es' => (ofM m).set x (.map es')
      | _ => none) else none) = _
    rw [hf, cond_true, ofM_get, ho]
    simp only [at_map L hn h, Option.map_some]
  rw [this]
  rfl
/-- A look-up beside which an entry was made is answered as before. -/
theorem same_look [Tab P] {x a b : Nat} {m' : List (Nat × Option AObj)} {H : T AObj} {n : Int} (K : Keys P y.len enc encV) (hy : ty P t = some y) (hk : y.kind = 8) (ho : lookM m' x = some (.map (mapOf enc f L))) (h : k ∈ L) (hv : f k = .int .i64 n) : sameR P H (ofM m') ⟨false, some x, a, b, none, none, some (t, enc k, .int .i64 n)⟩ = true := by
  have h1 : lookupA P (ofM m') t (.map x) (enc k) false = some (.int .i64 n) := by
    simp only [lookupA, ty_map hy hk, ofM_get, ho, K.plain, K.ok, cond_true, find_map K, if_pos h, cond_false, hv]
  have h2 : lookSame P (ofM m') x (some (t, enc k, .int .i64 n)) = true := by
    simp only [lookSame, h1]
    simp [AV.eqB, AV.plain1]
  show (sameO H (ofM m') x || lookSame P (ofM m') x (some (t, enc k, .int .i64 n))) = true
  rw [h2, Bool.or_true]
end
end Go.Ev

/- Package roll: in how many truths the road is so at a day's end: counting maps. -/
namespace Go.Proofs.Ytjnckbefajfgbaa
open Go Go.Ev

abbrev roE (k : Int × Int) : AV := roV k.1 k.2
abbrev roW (k : Int × Int) : Value := .agg #[.int .i64 k.1, .int .i64 k.2]
theorem roKeys : Keys Try.prog 81 roE roW where
  plain := fun k => rfl
  eq := fun k k' => by
    have : eqV Try.prog 100 81 (roW k) (roW k') = andV (some (k.1 == k'.1)) (andV (some (k.2 == k'.2)) (some true)) := by kernel_rfl
    rw [this]
    obtain ⟨a, b⟩ := k
    obtain ⟨e, d⟩ := k'
    by_cases h1 : a = e <;> by_cases h2 : b = d <;> simp [andV, h1, h2]
  ok := fun k => by kernel_rfl
theorem roBits (k : Int × Int) : Instr.sameBits 10000 (roW k) (roW k) = true := by
  simp [Instr.sameBits]
/-- What the road is like at a day's end. -/
def endK (d : Nat) (t : Tru) : Int × Int := (t.eb d, t.er d)
def rdK (d : Nat) (ts : List Tru) : List (Int × Int) := ts.foldl (fun L t => insK L (endK d t)) []
def rdC (d : Nat) (ts : List Tru) (k : Int × Int) : Int := ((ts.filter fun t => decide (endK d t = k)).length : Int)
def rdF (d : Nat) (ts : List Tru) (k : Int × Int) : AV := .int .i64 (rdC d ts k)
abbrev rdO (d : Nat) (ts : List Tru) : AObj := .map (mapOf roE (rdF d ts) (rdK d ts))
theorem rd_ren (d : Nat) (ts : List Tru) (σ : Nat → Nat) : (rdO d ts).ren σ = rdO d ts := by
  have : ∀ L : List (Int × Int), renE σ (mapOf roE (rdF d ts) L) = mapOf roE (rdF d ts) L := fun L => by
    induction L with
    | nil => rfl
    | cons k L ih =>
      show (_, _) :: renE σ (mapOf roE (rdF d ts) L) = _
      rw [ih]
      rfl
  show AObj.map _ = _
  rw [this]
theorem rdK_snoc (d : Nat) (ts : List Tru) (t : Tru) : rdK d (ts ++ [t]) = insK (rdK d ts) (endK d t) := by
  unfold rdK
  rw [List.foldl_append]; rfl
theorem rdC_snoc (d : Nat) (ts : List Tru) (t : Tru) (k : Int × Int) : rdC d (ts ++ [t]) k = if k = endK d t then rdC d ts k + 1 else rdC d ts k := by
  unfold rdC
  rw [List.filter_append, List.length_append]
  by_cases h : endK d t = k
  · rw [List.filter_cons_of_pos (by simpa using h), if_pos h.symm]
    simp
  · rw [List.filter_cons_of_neg (by simpa using h), if_neg fun q => h q.symm]
    simp
theorem rdF_snoc (d : Nat) (ts : List Tru) (t : Tru) : updK (rdF d ts) (endK d t) (.int .i64 (rdC d ts (endK d t) + 1)) = rdF d (ts ++ [t]) := funext fun k => by
  unfold updK rdF
  rw [rdC_snoc]
  split
  · rename_i h; rw [h]
  · rfl
theorem rdO_snoc (d : Nat) (ts : List Tru) (t : Tru) : AObj.map (mapOf roE (updK (rdF d ts) (endK d t) (.int .i64 (rdC d ts (endK d t) + 1))) (insK (rdK d ts) (endK d t))) = rdO d (ts ++ [t]) := by
  rw [rdF_snoc, ← rdK_snoc]
theorem snoc_ind {α : Type} {p : List α → Prop} (h0 : p []) (h1 : ∀ l a, p l → p (l ++ [a])) (l : List α) : p l := by
  have : ∀ r : List α, p r.reverse := fun r => by
    induction r with
    | nil => exact h0
    | cons a r ih => rw [List.reverse_cons]; exact h1 _ a ih
  have := this l.reverse
  rwa [List.reverse_reverse] at this
theorem rdK_mem {d : Nat} {ts : List Tru} {k : Int × Int} : k ∈ rdK d ts ↔ ∃ t ∈ ts, endK d t = k := by
  induction ts using snoc_ind with
  | h0 => exact ⟨fun h => (by cases h), fun ⟨t, h, _⟩ => (by cases h)⟩
  | h1 ts a ih =>
    rw [rdK_snoc]
    have : k ∈ insK (rdK d ts) (endK d a) ↔ k ∈ rdK d ts ∨ k = endK d a := by
      unfold insK
      split
      · rename_i h
        exact ⟨.inl, fun q => q.elim id fun e => e ▸ h⟩
      · rw [List.mem_append, List.mem_singleton]
    rw [this, ih]
    constructor
    · rintro (⟨t, h1, h2⟩ | rfl)
      · exact ⟨t, List.mem_append_left _ h1, h2⟩
      · exact ⟨a, List.mem_append_right _ (List.mem_singleton.2 rfl), rfl⟩
    · rintro ⟨t, h1, h2⟩
      rcases List.mem_append.1 h1 with h1 | h1
      · exact .inl ⟨t, h1, h2⟩
      · rw [List.mem_singleton.1 h1] at h2
        exact .inr h2.symm
theorem rdK_nodup (d : Nat) (ts : List Tru) : (rdK d ts).Nodup := by
  induction ts using snoc_ind with
  | h0 => exact List.nodup_nil
  | h1 ts a ih => rw [rdK_snoc]; exact ins_nodup ih
theorem rdC_0 {d : Nat} {ts : List Tru} {k : Int × Int} (h : k ∉ rdK d ts) : rdC d ts k = 0 := by
  unfold rdC
  rw [List.filter_eq_nil_iff.2 fun t ht => by
    have : endK d t ≠ k := fun e => h (rdK_mem.2 ⟨t, ht, e⟩)
    simpa using this]
  rfl
theorem rdC_bd (d : Nat) (ts : List Tru) (k : Int × Int) : 0 ≤ rdC d ts k ∧ rdC d ts k ≤ ts.length := by
  unfold rdC
  have := List.length_filter_le (fun t => decide (endK d t = k)) ts
  omega

/-- A truth, as its cells tell it. -/
def intOf : Option AV → Int
  | some (.int _ v) => v
  | _ => 0
def decT : List AV → Tru
  | [.agg cs] => ⟨fun i => intOf cs[i]?, fun i => intOf cs[5 + i]?, fun i => intOf cs[10 + i * 2]?, fun i => intOf cs[10 + i * 2 + 1]?, fun i => intOf cs[20 + i]?, fun i => intOf cs[24 + i]?⟩
  | _ => ⟨fun _ => 0, fun _ => 0, fun _ => 0, fun _ => 0, fun _ => 0, fun _ => 0⟩
def norm (t : Tru) : Tru := decT [trV t]
theorem fm_len {α β : Type} {f : α → List β} {b : Nat} : ∀ {l : List α}, (∀ x ∈ l, (f x).length ≤ b) → (l.flatMap f).length ≤ l.length * b
  | [], _ => by simp
  | a :: l, h => by
    rw [List.flatMap_cons, List.length_append, List.length_cons, Nat.succ_mul]
    have h1 := h a List.mem_cons_self
    have h2 := fm_len (l := l) fun x hx => h x (List.mem_cons_of_mem _ hx)
    omega
theorem trs_len {B : RBook} (hB : dasOk B) : ∀ {k d : Nat} {t : Tru}, d + k ≤ B.nd → (trs B k d t).length ≤ 6 ^ k
  | 0, d, t, _ => by rw [trs]; simp
  | k + 1, d, t, h => by
    have hd := hB.2 d (by omega)
    unfold daOk at hd
    rw [trs]
    have h2 : (ints (B.wl d) (B.wh d)).length ≤ 2 := by
      unfold ints
      rw [List.length_map, List.length_range]
      omega
    have h3 := fm_len (l := ints (B.wl d) (B.wh d)) (b := 3 * 6 ^ k) (f := fun n => (List.range 3).flatMap fun sk => bif dB (hasP (B.sky d) sk ∧ lksAt B d (nxT B t d n sk) B.nk) then trs B k (d + 1) (nxT B t d n sk) else []) fun n _ => by
      have := fm_len (l := List.range 3) (b := 6 ^ k) (f := fun sk => bif dB (hasP (B.sky d) sk ∧ lksAt B d (nxT B t d n sk) B.nk) then trs B k (d + 1) (nxT B t d n sk) else []) fun sk _ => by
        cases dB (hasP (B.sky d) sk ∧ lksAt B d (nxT B t d n sk) B.nk)
        · exact Nat.zero_le _
        · exact trs_len hB (by omega)
      rwa [List.length_range] at this
    refine Nat.le_trans h3 ?_
    rw [Nat.pow_succ]
    have := Nat.mul_le_mul_right (3 * 6 ^ k) h2
    omega
theorem allT_len {B : RBook} (hB : dasOk B) : (allT B).length ≤ 7776 := by
  have h1 := trs_len hB (k := B.nd) (d := 0) (t := tru0) (by omega)
  have h2 := hB.1.2
  have : (6 : Nat) ^ B.nd ≤ 6 ^ 5 := Nat.pow_le_pow_right (by decide) h2
  exact Nat.le_trans h1 this
/-- All truths, as their cells tell them. -/
noncomputable def Wn (B : RBook) : List Tru := (allT B).map norm
def lnS (s : List Tru) (args : List AV) : List Tru × Option Code := (s ++ [decT args], none)
def lnRoom (k : Nat) (s : List Tru) : Prop := s.length + k ≤ 20000
theorem lnRoom_ok : ∀ (k : Nat) (s : List Tru) (args : List AV), lnRoom (k + 1) s → (lnS s args).2 = none → lnRoom k (lnS s args).1 := fun k s args h _ => by
  unfold lnRoom at h ⊢
  show (s ++ [decT args]).length + k ≤ 20000
  rw [List.length_append, List.length_singleton]; omega
def lnOk (s : List Tru) (args : List AV) : Prop := (∃ t : Tru, args = [trV t]) ∧ lnRoom 1 s
theorem foldS_ln : ∀ (ts s : List Tru), foldS lnS (s, none) ts = (s ++ ts.map norm, none)
  | [], s => by simp [foldS]
  | t :: ts, s => by
    show foldS lnS (lnS s [trV t]) ts = _
    rw [show lnS s [trV t] = (s ++ [norm t], none) from rfl, foldS_ln ts]
    simp
/-- A day's map, as a book that is known has it. -/
def mpV (nd x i : Nat) : AV := if i < nd then .map (x + i) else .nilm
abbrev mpsV (nd x : Nat) : List AV := [mpV nd x 0, mpV nd x 1, mpV nd x 2, mpV nd x 3, mpV nd x 4]
def rdsM (ts : List Tru) (x : Nat) : Nat → List (Nat × Option AObj)
  | 0 => []
  | n + 1 => (x + n, some (rdO n ts)) :: rdsM ts x n
abbrev oWn (ts : List Tru) : AObj := .grown (flat truE ts) 28
set_option maxRecDepth 100000 in
set_option maxHeartbeats 4000000 in
theorem learn_no (B : RBook) (a1 a2 a3 : AV) (h1 : IsSl a1 B.nl 0) (h2 : IsSl a2 B.nd 1) (h3 : IsSl a3 B.nk 2) (hn : B.nd ≤ 9223372036854775807) (hB : ¬ bkOk B) (q : Bool) : CanS 0 Try.prog 40 3 [bk B a1 a2 a3, .bool q] [(0, some (oLa B)), (1, some (oDa B)), (2, some (oLo B))] 3 fun v _ _ => v = .tup [.agg [.nilp, .nils, .nilm, .nilm, .nilm, .nilm, .nilm], .int .i64 70] := by
  refine CanS.mk Try.func40 rfl rfl rfl ?_
  repeat' (first | refine RT.nil ?_ | refine sq_n ?_ | refine Tr.seq ?_ | refine Tr.region ?_ | refine Tr.cond_t rfl ?_ | refine Tr.ret ?_ | refine sq_r ?_ | (refine RT.call rfl rfl rfl (Check_no ⟨h1, h2, h3, rfl, rfl, rfl, by decide⟩ hn hB _) rfl rfl (Nat.le_refl _) ?_) | (refine RT.goK rfl rfl rfl rfl ?_; apply Nx.of; (first | exact S.move | exact S.assign | exact S.loadNc rfl rfl rfl rfl | exact S.neq | exact S.box | exact S.alloc rfl | exact S.build rfl rfl rfl)) | (refine RT.goK0 rfl rfl rfl ?_; apply Nx.of; (first | exact S.store rfl rfl rfl rfl rfl rfl)))
  (first | refine rt_go rfl ?_)
  rfl
set_option maxRecDepth 100000 in
set_option maxHeartbeats 4000000 in
theorem learn_ask (B : RBook) (a1 a2 a3 : AV) (h1 : IsSl a1 B.nl 0) (h2 : IsSl a2 B.nd 1) (h3 : IsSl a3 B.nk 2) (hn : B.nd ≤ 9223372036854775807) (hB : bkOk B) : CanS 0 Try.prog 40 3 [bk B a1 a2 a3, .bool false] [(0, some (oLa B)), (1, some (oDa B)), (2, some (oLo B))] 3 fun v _ _ => v = .tup [.agg [.nilp, .nils, .nilm, .nilm, .nilm, .nilm, .nilm], .int .i64 71] := by
  refine CanS.mk Try.func40 rfl rfl rfl ?_
  repeat' (first | refine RT.nil ?_ | refine sq_n ?_ | refine Tr.seq ?_ | refine Tr.region ?_ | refine Tr.cond_t rfl ?_ | refine Tr.cond_f rfl ?_ | refine Tr.skip ?_ | refine Tr.ret ?_ | refine sq_r ?_ | (refine RT.call rfl rfl rfl (Check_ok ⟨h1, h2, h3, rfl, rfl, rfl, by decide⟩ hn hB _) rfl rfl (Nat.le_refl _) ?_) | (refine RT.goK rfl rfl rfl rfl ?_; apply Nx.of; (first | exact S.move | exact S.assign | exact S.loadNc rfl rfl rfl rfl | exact S.neq | exact S.not_f | exact S.box | exact S.alloc rfl | exact S.build rfl rfl rfl)) | (refine RT.goK0 rfl rfl rfl ?_; apply Nx.of; (first | exact S.store rfl rfl rfl rfl rfl rfl)))
  (first | refine rt_go rfl ?_)
  rfl
end Go.Proofs.Ytjnckbefajfgbaa

/- Package roll: add, for a book of 1 days. -/
namespace Go.Proofs.Ytjnckbefajfgbaa
open Go Go.Ev
namespace Days1
theorem all_two {α : Type} {p : α → Bool} {a b : α} (h : p a = true) (k : p b = true) : [a, b].all p = true := by simp [h, k]
set_option maxRecDepth 100000 in
set_option maxHeartbeats 8000000 in
theorem add_nil (B : RBook) (a1 a2 a3 : AV) (h1 : IsSl a1 B.nl 0) (h2 : IsSl a2 B.nd 1) (h3 : IsSl a3 B.nk 2) (t : Tru) (e : B.nd = 1) : CanS 0 Try.prog 75 7 [.ptr 7 0, trV t] [(7, some (.cells [.ptr 6 0, .nils, .map 8, .nilm, .nilm, .nilm, .nilm])), (8, some (rdO 0 [])), (6, some (.cells (pbC B a1 a2 a3))), (0, some (oLa B)), (1, some (oDa B)), (2, some (oLo B))] 9 fun v H1 c1 => H1.get 7 = some (.cells [.ptr 6 0, .gs 11 (([] ++ [t]).length), .map 8, .nilm, .nilm, .nilm, .nilm]) ∧ H1.get 8 = some (rdO 0 ([] ++ [t])) ∧ H1.get 11 = some (.grown (flat truE ([] ++ [t])) 28) ∧ c1 = 12 ∧ v = .tup [] := by
  refine CanS.mk Try.func75 rfl rfl rfl ?_
  repeat' (first | refine RT.nil ?_ | refine sq_n ?_ | refine Tr.seq ?_ | refine Tr.region ?_ | (refine RT.goK rfl rfl rfl rfl ?_; apply Nx.of; (first | exact S.box)))
  refine Tr.openK un75_1 (by kernel_rfl) (by kernel_rfl) noCall noCall_calm ?_
  repeat' (first | (refine RD.wide rfl rfl rfl rfl rfl rfl rfl rfl ?_; (first | refine Nx.of (S.append_nil rfl rfl rfl rfl rfl rfl rfl rfl rfl rfl rfl) ⟨rfl, ?_⟩)) | (refine RD.free rfl rfl rfl rfl rfl rfl ?_; apply Nx.of; (first | exact S.move | exact S.fieldAddr rfl rfl rfl | exact S.nilCheck)) | (refine RD.new rfl rfl rfl rfl rfl rfl ?_; apply Nx.of; (first | exact S.buildSlice rfl rfl rfl rfl rfl rfl rfl)) | (refine RD.load rfl rfl rfl rfl rfl rfl rfl rfl ?_; apply Nx.of; (first | exact S.load1c rfl rfl rfl rfl | exact S.loadNc rfl rfl rfl rfl)) | (refine RD.store rfl rfl rfl rfl rfl rfl rfl ?_; apply Nx.of; (first | exact S.store rfl rfl rfl rfl rfl rfl)) | refine RD.nil ⟨Nat.le_of_ble_eq_true rfl, ?_⟩)
  repeat' (first | refine RT.nil ?_ | refine sq_n ?_ | refine Tr.seq ?_ | refine Tr.region ?_ | refine Tr.block ?_ | (refine RT.goK rfl rfl rfl rfl ?_; apply Nx.of; (first | exact S.move | exact S.load1c rfl rfl rfl rfl | exact S.fieldAddr rfl rfl rfl | exact S.nilCheck)) | (refine RT.goK rfl rfl rfl rfl ?_; apply Nx.of; (first | exact S.len_sl rfl rfl rfl (by assumption))))
  refine Tr.unroll 1 ?_
  have hb0 := rdC_bd 0 [] (endK 0 t)
  repeat' (first | refine RT.nil ?_ | refine sq_n ?_ | refine Tr.seq ?_ | refine Tr.region ?_ | refine Tr.cond_d rfl (fun _ => ?_) (fun _ => ?_) | refine Tr.skip ?_ | refine Tr.exit ?_ | refine sq_x ?_ | refine Tr.block ?_ | refine blk_hit rfl ?_ | refine un_x ?_ | (refine RT.goK rfl rfl rfl rfl ?_; apply Nx.of; (first | exact S.move | exact S.assign | exact S.lss)))
  refine Tr.openK un75_5 (by kernel_rfl) (by kernel_rfl) noCall noCall_calm ?_
  repeat' (first | (refine RD.free rfl rfl rfl rfl rfl rfl ?_; apply Nx.of; (first | exact S.move | exact S.fieldAddr rfl rfl rfl | exact S.add_w | exact S.nilCheck | exact S.idx_arrI rfl rfl rfl (by decide) (by decide))) | (refine RD.load rfl rfl rfl rfl rfl rfl rfl rfl ?_; apply Nx.of; (first | exact S.load1c rfl rfl rfl rfl | exact S.loadNc rfl rfl rfl rfl)) | (refine RD.load rfl rfl rfl rfl rfl rfl rfl rfl ?_; (refine Nx.of (S.look0 (enc := roE) (encV := roW) (f := rdF 0 []) (L := rdK 0 []) (k := endK 0 t) roKeys rfl rfl rfl rfl (fun h => by unfold rdF; rw [rdC_0 h])) ?_)))
  refine RD.wide rfl rfl rfl rfl rfl rfl rfl rfl ?_
  refine Nx.of (S.entry (enc := roE) (encV := roW) (f := rdF 0 []) (L := rdK 0 []) (k := endK 0 t) roKeys roBits rfl rfl rfl rfl rfl (fun h => by unfold rdF; rw [rdC_0 h])) ⟨?_, ?_⟩
  · refine all_two ?_ ?_ <;> first | rfl | exact same_look (enc := roE) (encV := roW) (f := rdF 0 []) (L := insK (rdK 0 []) (endK 0 t)) (k := endK 0 t) (n := rdC 0 [] (endK 0 t)) roKeys rfl rfl rfl ins_mem rfl
  repeat' (first | (refine RD.free rfl rfl rfl rfl rfl rfl ?_; apply Nx.of; (first | exact S.extract rfl)))
  refine RD.wide0 rfl rfl rfl rfl rfl rfl rfl ?_
  refine Nx.of (S.entryStore (enc := roE) (f := rdF 0 []) (L := insK (rdK 0 []) (endK 0 t)) (k := endK 0 t) rfl rfl (ins_nodup (rdK_nodup _ _)) ins_mem (ix_ins _)) ⟨rfl, ?_⟩
  refine RD.nil ⟨Nat.le_of_ble_eq_true rfl, ?_⟩
  repeat' (first | refine RT.nil ?_ | refine sq_n ?_ | refine Tr.seq ?_ | refine Tr.region ?_ | refine Tr.cond_d rfl (fun _ => ?_) (fun _ => ?_) | refine Tr.skip ?_ | refine Tr.exit ?_ | refine sq_x ?_ | refine Tr.block ?_ | refine blk_n ?_ | refine blk_hit rfl ?_ | refine un_n ?_ | refine un_x ?_ | (refine RT.goK rfl rfl rfl rfl ?_; apply Nx.of; (first | exact S.move | exact S.assign | exact S.lss | exact S.add (by unfold In64; omega))))
  · exfalso; omega
  refine rt_gon rfl ?_
  · exact ⟨getM rfl, by rw [← rdO_snoc]; exact getM rfl, getM rfl, rfl, rfl⟩
  all_goals (exfalso; omega)
set_option maxRecDepth 100000 in
set_option maxHeartbeats 8000000 in
theorem add_cons (B : RBook) (a1 a2 a3 : AV) (h1 : IsSl a1 B.nl 0) (h2 : IsSl a2 B.nd 1) (h3 : IsSl a3 B.nk 2) (t : Tru) (t0 : Tru) (ts : List Tru) (hr : ts.length ≤ 20000) (e : B.nd = 1) : CanS 0 Try.prog 75 7 [.ptr 7 0, trV t] [(9, some (.grown (flat truE (t0 :: ts)) 28)), (7, some (.cells [.ptr 6 0, .gs 9 (ts.length + 1), .map 8, .nilm, .nilm, .nilm, .nilm])), (8, some (rdO 0 (t0 :: ts))), (6, some (.cells (pbC B a1 a2 a3))), (0, some (oLa B)), (1, some (oDa B)), (2, some (oLo B))] 10 fun v H1 c1 => H1.get 7 = some (.cells [.ptr 6 0, .gs 12 (((t0 :: ts) ++ [t]).length), .map 8, .nilm, .nilm, .nilm, .nilm]) ∧ H1.get 8 = some (rdO 0 ((t0 :: ts) ++ [t])) ∧ H1.get 12 = some (.grown (flat truE ((t0 :: ts) ++ [t])) 28) ∧ c1 = 13 ∧ v = .tup [] := by
  refine CanS.mk Try.func75 rfl rfl rfl ?_
  have hcut : cut (flat truE (t0 :: ts)) 0 ((ts.length + 1) * 28) = some (flat truE (t0 :: ts)) := cut_all (flat_len (s := 28) (fun _ => rfl) _)
  have hlen : (t0 :: ts).length = ts.length + 1 := rfl
  repeat' (first | refine RT.nil ?_ | refine sq_n ?_ | refine Tr.seq ?_ | refine Tr.region ?_ | (refine RT.goK rfl rfl rfl rfl ?_; apply Nx.of; (first | exact S.box)))
  refine Tr.openK un75_1 (by kernel_rfl) (by kernel_rfl) noCall noCall_calm ?_
  repeat' (first | (refine RD.wide rfl rfl rfl rfl rfl rfl rfl rfl ?_; (first | refine Nx.of (S.append_gs rfl rfl rfl rfl rfl rfl rfl rfl rfl rfl rfl rfl rfl hcut (by omega) rfl) ⟨rfl, ?_⟩)) | (refine RD.free rfl rfl rfl rfl rfl rfl ?_; apply Nx.of; (first | exact S.move | exact S.fieldAddr rfl rfl rfl | exact S.nilCheck)) | (refine RD.new rfl rfl rfl rfl rfl rfl ?_; apply Nx.of; (first | exact S.buildSlice rfl rfl rfl rfl rfl rfl rfl)) | (refine RD.load rfl rfl rfl rfl rfl rfl rfl rfl ?_; apply Nx.of; (first | exact S.load1c rfl rfl rfl rfl | exact S.loadNc rfl rfl rfl rfl)) | (refine RD.store rfl rfl rfl rfl rfl rfl rfl ?_; apply Nx.of; (first | exact S.store rfl rfl rfl rfl rfl rfl)) | refine RD.nil ⟨Nat.le_of_ble_eq_true rfl, ?_⟩)
  repeat' (first | refine RT.nil ?_ | refine sq_n ?_ | refine Tr.seq ?_ | refine Tr.region ?_ | refine Tr.block ?_ | (refine RT.goK rfl rfl rfl rfl ?_; apply Nx.of; (first | exact S.move | exact S.load1c rfl rfl rfl rfl | exact S.fieldAddr rfl rfl rfl | exact S.nilCheck)) | (refine RT.goK rfl rfl rfl rfl ?_; apply Nx.of; (first | exact S.len_sl rfl rfl rfl (by assumption))))
  refine Tr.unroll 1 ?_
  have hb0 := rdC_bd 0 (t0 :: ts) (endK 0 t)
  repeat' (first | refine RT.nil ?_ | refine sq_n ?_ | refine Tr.seq ?_ | refine Tr.region ?_ | refine Tr.cond_d rfl (fun _ => ?_) (fun _ => ?_) | refine Tr.skip ?_ | refine Tr.exit ?_ | refine sq_x ?_ | refine Tr.block ?_ | refine blk_hit rfl ?_ | refine un_x ?_ | (refine RT.goK rfl rfl rfl rfl ?_; apply Nx.of; (first | exact S.move | exact S.assign | exact S.lss)))
  refine Tr.openK un75_5 (by kernel_rfl) (by kernel_rfl) noCall noCall_calm ?_
  repeat' (first | (refine RD.free rfl rfl rfl rfl rfl rfl ?_; apply Nx.of; (first | exact S.move | exact S.fieldAddr rfl rfl rfl | exact S.add (by unfold In64; omega) | exact S.nilCheck | exact S.idx_arrI rfl rfl rfl (by decide) (by decide))) | (refine RD.load rfl rfl rfl rfl rfl rfl rfl rfl ?_; apply Nx.of; (first | exact S.load1c rfl rfl rfl rfl | exact S.loadNc rfl rfl rfl rfl)) | (refine RD.load rfl rfl rfl rfl rfl rfl rfl rfl ?_; (refine Nx.of (S.look0 (enc := roE) (encV := roW) (f := rdF 0 (t0 :: ts)) (L := rdK 0 (t0 :: ts)) (k := endK 0 t) roKeys rfl rfl rfl rfl (fun h => by unfold rdF; rw [rdC_0 h])) ?_)))
  refine RD.wide rfl rfl rfl rfl rfl rfl rfl rfl ?_
  refine Nx.of (S.entry (enc := roE) (encV := roW) (f := rdF 0 (t0 :: ts)) (L := rdK 0 (t0 :: ts)) (k := endK 0 t) roKeys roBits rfl rfl rfl rfl rfl (fun h => by unfold rdF; rw [rdC_0 h])) ⟨?_, ?_⟩
  · refine all_two ?_ ?_ <;> first | rfl | exact same_look (enc := roE) (encV := roW) (f := rdF 0 (t0 :: ts)) (L := insK (rdK 0 (t0 :: ts)) (endK 0 t)) (k := endK 0 t) (n := rdC 0 (t0 :: ts) (endK 0 t)) roKeys rfl rfl rfl ins_mem rfl
  repeat' (first | (refine RD.free rfl rfl rfl rfl rfl rfl ?_; apply Nx.of; (first | exact S.extract rfl)))
  refine RD.wide0 rfl rfl rfl rfl rfl rfl rfl ?_
  refine Nx.of (S.entryStore (enc := roE) (f := rdF 0 (t0 :: ts)) (L := insK (rdK 0 (t0 :: ts)) (endK 0 t)) (k := endK 0 t) rfl rfl (ins_nodup (rdK_nodup _ _)) ins_mem (ix_ins _)) ⟨rfl, ?_⟩
  refine RD.nil ⟨Nat.le_of_ble_eq_true rfl, ?_⟩
  repeat' (first | refine RT.nil ?_ | refine sq_n ?_ | refine Tr.seq ?_ | refine Tr.region ?_ | refine Tr.cond_d rfl (fun _ => ?_) (fun _ => ?_) | refine Tr.skip ?_ | refine Tr.exit ?_ | refine sq_x ?_ | refine Tr.block ?_ | refine blk_n ?_ | refine blk_hit rfl ?_ | refine un_n ?_ | refine un_x ?_ | (refine RT.goK rfl rfl rfl rfl ?_; apply Nx.of; (first | exact S.move | exact S.assign | exact S.lss | exact S.add (by unfold In64; omega))))
  · exfalso; omega
  refine rt_gon rfl ?_
  · exact ⟨by rw [List.length_append]; exact getM rfl, by rw [← rdO_snoc]; exact getM rfl, by rw [flat_append]; exact getM rfl, rfl, rfl⟩
  all_goals (exfalso; omega)
end Days1
end Go.Proofs.Ytjnckbefajfgbaa

/- Package roll: add and learn, for a book of 1 days. -/
namespace Go.Proofs.Ytjnckbefajfgbaa
open Go Go.Ev
namespace Days1
def lsV : List Tru → AV
  | [] => .nils
  | _ :: ts => .gs 15 (ts.length + 1)
def lsM : List Tru → List (Nat × Option AObj)
  | [] => []
  | t :: ts => [(15, some (.grown (flat truE (t :: ts)) 28))]
theorem add_at {B : RBook} {a1 a2 a3 : AV} (h1 : IsSl a1 B.nl 0) (h2 : IsSl a2 B.nd 1) (h3 : IsSl a3 B.nk 2) (s : List Tru) (hs : s.length ≤ 20000) (t : Tru) (e : B.nd = 1) {m mr : List (Nat × Option AObj)} {c : Nat} (hc : 16 ≤ c) (g7 : lookM m 7 = some (.cells [.ptr 6 0, lsV s, .map 8, .nilm, .nilm, .nilm, .nilm])) (g8 : lookM m 8 = some (rdO 0 s)) (g6 : lookM m 6 = some (.cells (pbC B a1 a2 a3))) (k0 : lookM m 0 = some (oLa B)) (k1 : lookM m 1 = some (oDa B)) (k2 : lookM m 2 = some (oLo B)) (gl : s ≠ [] → lookM m 15 = some (.grown (flat truE s) 28))
    (hr : ∀ x o, lookM mr x = some o → (x < 7 ∨ 13 ≤ x) ∧ x < c ∧ x ≠ 15 ∧ lookM m x = some o) (fl : Nat) (hfl : fl ≤ 7) :
    OkAt 0 Try.prog fl 75 [.ptr 7 0, trV t] (ofM m) c (.tup []) (ofM ((7, some (.cells [.ptr 6 0, .gs (c + 2) (s ++ [t]).length, .map 8, .nilm, .nilm, .nilm, .nilm])) :: (8, some (rdO 0 (s ++ [t]))) :: (c + 2, some (.grown (flat truE (s ++ [t])) 28)) :: mr)) (c + 3) := by
  cases s with
  | nil =>
    let τ : Nat → Nat := fun y => if y < 9 then y else c + (y - 9)
    have low : ∀ {z : Nat} {ob : AObj}, lookM [(7, some (.cells [.ptr 6 0, .nils, .map 8, .nilm, .nilm, .nilm, .nilm])), (8, some (rdO 0 [])), (6, some (.cells (pbC B a1 a2 a3))), (0, some (oLa B)), (1, some (oDa B)), (2, some (oLo B))] z = some ob → z = 7 ∨ z = 8 ∨ z = 6 ∨ z = 0 ∨ z = 1 ∨ z = 2 := fun {z ob} hz => by
      have := lookM_mem hz
      simpa using this
    have ha : AV.rens τ [.ptr 7 0, trV t] = [.ptr 7 0, trV t] := rfl
    rw [← ha]
    refine CanS.inst (add_nil B a1 a2 a3 h1 h2 h3 t e) (Nat.zero_le _) (by decide) τ (fun g hg => by omega) (fun y hy => by simp only [τ]; (repeat' split) <;> omega) (fun y hy => by simp only [τ]; (repeat' split) <;> omega) (fun y o hy => ?_) (fun x y o o' hx hy hxy => .inl ?_) (fun y hy hy' => ?_) (fun v1 H1 c1 hq _ => ?_)
    · rcases low hy with rfl | rfl | rfl | rfl | rfl | rfl
      · cases hy; exact getM g7
      · cases hy; rw [rd_ren]; exact getM g8
      · cases hy; rw [pbc_ren h1 h2 h3 rfl rfl rfl]; exact getM g6
      · cases hy; rw [ren_ro]; exact getM k0
      · cases hy; rw [ren_ro]; exact getM k1
      · cases hy; rw [ren_ro]; exact getM k2
    · have q1 := low hx
      have q2 := low hy
      simp only [τ]
      (repeat' split) <;> omega
    · rcases (by omega : y = 7 ∨ y = 8) with rfl | rfl
      all_goals exact ⟨by simp only [τ]; (repeat' split) <;> omega, _, rfl, rfl⟩
    · obtain ⟨p7, p8, pl, pc, pv⟩ := hq
      refine ⟨by rw [pv]; rfl, by omega, fun x o hx => ?_⟩
      rw [ofM_get] at hx
      by_cases e7 : x = 7
      · subst e7
        rw [lookM_hd] at hx
        cases hx
        exact .inr ⟨7, _, by omega, p7, rfl, rfl⟩
      rw [lookM_tl e7] at hx
      by_cases e8 : x = 8
      · subst e8
        rw [lookM_hd] at hx
        cases hx
        exact .inr ⟨8, _, by omega, p8, rfl, (rd_ren _ _ _).symm⟩
      rw [lookM_tl e8] at hx
      by_cases ec : x = c + 2
      · subst ec
        rw [lookM_hd] at hx
        cases hx
        exact .inr ⟨11, _, by omega, pl, rfl, (ren_grown _ _ _ _).symm⟩
      rw [lookM_tl ec] at hx
      obtain ⟨r1, r2, r3, r4⟩ := hr x o hx
      exact .inl ⟨r2, fun y hy hy' => by simp only [τ]; (repeat' split) <;> omega, getM r4⟩
  | cons t0 ts =>
    let τ : Nat → Nat := fun y => if y < 9 then y else if y = 9 then 15 else c + (y - 10)
    have low : ∀ {z : Nat} {ob : AObj}, lookM [(9, some (.grown (flat truE (t0 :: ts)) 28)), (7, some (.cells [.ptr 6 0, .gs 9 (ts.length + 1), .map 8, .nilm, .nilm, .nilm, .nilm])), (8, some (rdO 0 (t0 :: ts))), (6, some (.cells (pbC B a1 a2 a3))), (0, some (oLa B)), (1, some (oDa B)), (2, some (oLo B))] z = some ob → z = 9 ∨ z = 7 ∨ z = 8 ∨ z = 6 ∨ z = 0 ∨ z = 1 ∨ z = 2 := fun {z ob} hz => by
      have := lookM_mem hz
      simpa using this
    have ha : AV.rens τ [.ptr 7 0, trV t] = [.ptr 7 0, trV t] := rfl
    rw [← ha]
    refine CanS.inst (add_cons B a1 a2 a3 h1 h2 h3 t t0 ts (by simp at hs; omega) e) (Nat.zero_le _) (by decide) τ (fun g hg => by omega) (fun y hy => by simp only [τ]; (repeat' split) <;> omega) (fun y hy => by simp only [τ]; (repeat' split) <;> omega) (fun y o hy => ?_) (fun x y o o' hx hy hxy => .inl ?_) (fun y hy hy' => ?_) (fun v1 H1 c1 hq _ => ?_)
    · rcases low hy with rfl | rfl | rfl | rfl | rfl | rfl | rfl
      · cases hy; rw [ren_grown]; exact getM (gl (by simp))
      · cases hy; exact getM g7
      · cases hy; rw [rd_ren]; exact getM g8
      · cases hy; rw [pbc_ren h1 h2 h3 rfl rfl rfl]; exact getM g6
      · cases hy; rw [ren_ro]; exact getM k0
      · cases hy; rw [ren_ro]; exact getM k1
      · cases hy; rw [ren_ro]; exact getM k2
    · have q1 := low hx
      have q2 := low hy
      simp only [τ]
      (repeat' split) <;> omega
    · rcases (by omega : y = 7 ∨ y = 8 ∨ y = 9) with rfl | rfl | rfl
      all_goals exact ⟨by simp only [τ]; (repeat' split) <;> omega, _, rfl, rfl⟩
    · obtain ⟨p7, p8, pl, pc, pv⟩ := hq
      refine ⟨by rw [pv]; rfl, by omega, fun x o hx => ?_⟩
      rw [ofM_get] at hx
      by_cases e7 : x = 7
      · subst e7
        rw [lookM_hd] at hx
        cases hx
        exact .inr ⟨7, _, by omega, p7, rfl, rfl⟩
      rw [lookM_tl e7] at hx
      by_cases e8 : x = 8
      · subst e8
        rw [lookM_hd] at hx
        cases hx
        exact .inr ⟨8, _, by omega, p8, rfl, (rd_ren _ _ _).symm⟩
      rw [lookM_tl e8] at hx
      by_cases ec : x = c + 2
      · subst ec
        rw [lookM_hd] at hx
        cases hx
        exact .inr ⟨12, _, by omega, pl, rfl, (ren_grown _ _ _ _).symm⟩
      rw [lookM_tl ec] at hx
      obtain ⟨r1, r2, r3, r4⟩ := hr x o hx
      exact .inl ⟨r2, fun y hy hy' => by simp only [τ]; (repeat' split) <;> omega, getM r4⟩
theorem add_rd {B : RBook} {a1 a2 a3 : AV} (h1 : IsSl a1 B.nl 0) (h2 : IsSl a2 B.nd 1) (h3 : IsSl a3 B.nk 2) (s : List Tru) (hs : s.length ≤ 20000) (t : Tru) (e : B.nd = 1) {m : List (Nat × Option AObj)} {LO : AObj} {c : Nat} (hc : 16 ≤ c) (g7 : lookM m 7 = some (.cells [.ptr 6 0, lsV s, .map 8, .nilm, .nilm, .nilm, .nilm])) (g8 : lookM m 8 = some (rdO 0 s)) (g6 : lookM m 6 = some (.cells (pbC B a1 a2 a3))) (k0 : lookM m 0 = some (oLa B)) (k1 : lookM m 1 = some (oDa B)) (k2 : lookM m 2 = some (oLo B)) (gl : s ≠ [] → lookM m 15 = some (.grown (flat truE s) 28)) (gL : lookM m 14 = some LO) (gd : lookM m 13 = some .dfr) (fl : Nat) (hfl : fl ≤ 7) :
    OkAt 0 Try.prog fl 75 [.ptr 7 0, trV t] (ofM m) c (.tup []) (ofM ((7, some (.cells [.ptr 6 0, .gs (c + 2) (s ++ [t]).length, .map 8, .nilm, .nilm, .nilm, .nilm])) :: (8, some (rdO 0 (s ++ [t]))) :: (c + 2, some (.grown (flat truE (s ++ [t])) 28)) :: [(14, some LO), (6, some (.cells (pbC B a1 a2 a3))), (0, some (oLa B)), (1, some (oDa B)), (2, some (oLo B)), (13, some .dfr)])) (c + 3) :=
  add_at h1 h2 h3 s hs t e hc g7 g8 g6 k0 k1 k2 gl (fun x o hx => by
    have h := lookM_mem hx
    have h : x = 14 ∨ x = 6 ∨ x = 0 ∨ x = 1 ∨ x = 2 ∨ x = 13 := by simpa using h
    rcases h with rfl | rfl | rfl | rfl | rfl | rfl
    all_goals (cases hx; exact ⟨by omega, by omega, by omega, by assumption⟩)) fl hfl
def lnM (B : RBook) (a1 a2 a3 : AV) (s : List Tru) : List (Nat × Option AObj) := [(7, some (.cells [.ptr 6 0, lsV s, .map 8, .nilm, .nilm, .nilm, .nilm])), (8, some (rdO 0 s)), (6, some (.cells (pbC B a1 a2 a3))), (0, some (oLa B)), (1, some (oDa B)), (2, some (oLo B)), (13, some .dfr)] ++ lsM s
set_option maxRecDepth 100000 in
set_option maxHeartbeats 8000000 in
theorem learn_yes (B : RBook) (a1 a2 a3 : AV) (h1 : IsSl a1 B.nl 0) (h2 : IsSl a2 B.nd 1) (h3 : IsSl a3 B.nk 2) (hn : B.nd ≤ 9223372036854775807) (hB : bkOk B) (e : B.nd = 1) : CanS 0 Try.prog 40 3 [bk B a1 a2 a3, .bool true] [(0, some (oLa B)), (1, some (oDa B)), (2, some (oLo B))] 3 fun v H1 c1 => (Wn B = [] ∧ v = .tup [.agg [.nilp, .nils, .nilm, .nilm, .nilm, .nilm, .nilm], .int .i64 72]) ∨
    (c1 = 16 ∧ Wn B ≠ [] ∧ v = .tup [.agg [.ptr 6 0, .gs 15 (Wn B).length, .map 8, .nilm, .nilm, .nilm, .nilm], .int .i64 0] ∧ H1.get 6 = some (.cells (pbC B a1 a2 a3)) ∧ H1.get 8 = some (rdO 0 (Wn B)) ∧ H1.get 15 = some (.grown (flat truE (Wn B)) 28)) := by
  refine CanS.mk Try.func40 rfl rfl rfl ?_
  repeat' (first | refine RT.nil ?_ | refine sq_n ?_ | refine Tr.seq ?_ | refine Tr.region ?_ | refine Tr.cond_f rfl ?_ | refine Tr.skip ?_ | refine Tr.block ?_ | (refine RT.call rfl rfl rfl (Check_ok ⟨h1, h2, h3, rfl, rfl, rfl, by decide⟩ hn hB _) rfl rfl (Nat.le_refl _) ?_) | (refine RT.call rfl rfl rfl (prepare_at ⟨h1, h2, h3, rfl, rfl, rfl, by decide⟩ (fun x o hx => by have := lookM_mem hx; simp at this; omega) _) rfl rfl (by decide) ?_) | (refine RT.goK rfl rfl rfl rfl ?_; apply Nx.of; (first | exact S.neq_f (by decide))) | (refine RT.goK rfl rfl rfl rfl ?_; apply Nx.of; (first | exact S.move | exact S.assign | exact S.load1c rfl rfl rfl rfl | exact S.loadNc rfl rfl rfl rfl | exact S.fieldAddr rfl rfl rfl | exact S.not_t | exact S.box | exact S.alloc rfl | exact S.build rfl rfl rfl)) | (refine RT.goK0 rfl rfl rfl ?_; apply Nx.of; (first | exact S.store rfl rfl rfl rfl rfl rfl)) | (refine RT.goK rfl rfl rfl rfl ?_; apply Nx.of; (first | exact S.len_sl rfl rfl rfl (by assumption))))
  refine Tr.unroll 1 ?_
  repeat' (first | refine RT.nil ?_ | refine sq_n ?_ | refine Tr.seq ?_ | refine Tr.region ?_ | refine Tr.cond_d rfl (fun _ => ?_) (fun _ => ?_) | refine Tr.skip ?_ | refine Tr.exit ?_ | refine sq_x ?_ | refine Tr.block ?_ | refine blk_n ?_ | refine blk_hit rfl ?_ | refine un_n ?_ | refine un_x ?_ | (refine RT.goK rfl rfl rfl rfl ?_; apply Nx.of; (first | exact S.idx_arrI rfl rfl rfl (by decide) (by decide))) | (refine RT.goK rfl rfl rfl rfl ?_; apply Nx.of; (first | exact S.move | exact S.assign | exact S.load1c rfl rfl rfl rfl | exact S.fieldAddr rfl rfl rfl | exact S.lss | exact S.add_one (by omega) | exact S.add (by unfold In64; omega) | exact S.makeMap | exact S.makeFunc)) | (refine RT.goK0 rfl rfl rfl ?_; apply Nx.of; (first | exact S.store rfl rfl rfl rfl rfl rfl)))
  · exfalso; omega
  refine Tr.wk (Wk.by (l2 := [(4, .ptr 4 0), (5, .int .i64 0), (7, .ptr 7 0), (35, .fn 74 [.ptr 6 0] [])]) (m2 := [(7, some (.cells [.ptr 6 0, .nils, .map 8, .nilm, .nilm, .nilm, .nilm])), (8, some (rdO 0 [])), (4, some (.cells [.nilp, .nils, .nilm, .nilm, .nilm, .nilm, .nilm])), (6, some (.cells (pbC B a1 a2 a3))), (0, some (oLa B)), (1, some (oDa B)), (2, some (oLo B))]) (c2 := 13) (fun y => y) (by decide) (by decide) (by decide) ⟨rfl, rfl, rfl, rfl, trivial⟩ ⟨rfl, rfl, rfl, congrArg some (pbc_ren h1 h2 h3 rfl rfl rfl).symm, congrArg some (ren_ro _ _ _).symm, congrArg some (ren_ro _ _ _).symm, congrArg some (ren_ro _ _ _).symm, trivial⟩ rfl (fun x _ y _ hh => hh) (fun x hx => by omega) (fun x _ => rfl) (fun x hx => hx)) ?_
  refine Tr.rangeR (T := [0, 1, 2, 4, 6]) (NC := [7, 8, 6, 0, 1, 2, 13]) (s0 := []) (M := lnM B a1 a2 a3) (ok := lnOk) (stp := lnS) (room := lnRoom) (hroom := lnRoom_ok) (lC := [(7, .ptr 7 0)]) (memT := [(0, some (oLa B)), (1, some (oDa B)), (2, some (oLo B)), (4, some (.cells [.nilp, .nils, .nilm, .nilm, .nilm, .nilm, .nilm])), (6, some (.cells (pbC B a1 a2 a3)))]) (flT := 7) (flC := 7) (cc := 16) (R := fun v m' s' => m' = [(0, some (oLa B)), (1, some (oDa B)), (2, some (oLo B)), (4, some (.cells [.nilp, .nils, .nilm, .nilm, .nilm, .nilm, .nilm])), (6, some (.cells (pbC B a1 a2 a3)))] ∧ s' = (Wn B, none)) rfl rfl (by decide) (by decide) (by decide) (by decide) (by decide) (by decide) ?_ ?_ rfl ?_ ?_ ?_ (by simp) ?_ ?_ ?_ ?_ ?_
  · exact ⟨⟨by decide, rfl, ren_ro _ _ _⟩, ⟨by decide, rfl, ren_ro _ _ _⟩, ⟨by decide, rfl, ren_ro _ _ _⟩, ⟨by decide, rfl, rfl⟩, ⟨by decide, rfl, pbc_ren h1 h2 h3 rfl rfl rfl⟩, trivial⟩
  · intro x hx
    simp only [List.mem_cons, List.not_mem_nil, or_false] at hx
    rcases hx with rfl | rfl | rfl | rfl | rfl
    all_goals exact ⟨by omega, _, rfl, fun h => by first | rfl | (exfalso; omega)⟩
  · exact ⟨⟨rfl, rfl⟩, trivial⟩
  · exact ⟨⟨by decide, .inr ⟨rfl, by decide⟩, rfl⟩, ⟨by decide, .inr ⟨rfl, by decide⟩, rd_ren _ _ _⟩, ⟨by decide, .inr ⟨rfl, by decide⟩, pbc_ren h1 h2 h3 rfl rfl rfl⟩, ⟨by decide, .inr ⟨rfl, by decide⟩, ren_ro _ _ _⟩, ⟨by decide, .inr ⟨rfl, by decide⟩, ren_ro _ _ _⟩, ⟨by decide, .inr ⟨rfl, by decide⟩, ren_ro _ _ _⟩, ⟨by decide, .inl ⟨rfl, rfl⟩, rfl⟩, trivial⟩
  · intro y hy
    simp only [List.mem_cons, List.not_mem_nil, or_false] at hy
    rcases hy with rfl | rfl | rfl | rfl | rfl | rfl | rfl
    · exact .inr (.inl ⟨by omega, by omega, by decide, _, rfl, rfl⟩)
    · exact .inr (.inl ⟨by omega, by omega, by decide, _, rfl, rfl⟩)
    · exact .inr (.inr ⟨by omega, by omega, _, rfl⟩)
    · exact .inr (.inr ⟨by omega, by omega, _, rfl⟩)
    · exact .inr (.inr ⟨by omega, by omega, _, rfl⟩)
    · exact .inr (.inr ⟨by omega, by omega, _, rfl⟩)
    · exact .inl rfl
  · intro s y o h
    have := lookM_mem h
    cases s <;> simp [lnM, lsM] at this <;> omega
  · refine ⟨fun s args ⟨⟨t, h⟩, _⟩ => ⟨trV t, h, fun _ => rfl⟩, fun s v ⟨⟨t, h⟩, hr⟩ => ?_⟩
    cases h
    repeat' (first | refine RT.nil ?_ | refine Tr.region ?_ | (refine RT.goK rfl rfl rfl rfl ?_; apply Nx.of; (first | exact S.alloc rfl)) | (refine RT.goK0 rfl rfl rfl ?_; apply Nx.of; (first | exact S.store rfl rfl rfl rfl rfl rfl)))
    refine ⟨rfl, _, _, _, rfl, rfl, ?_⟩
    cases s with
    | nil =>
      repeat' (first | refine RT.nil ?_ | refine Tr.region ?_ | refine Tr.block ?_ | refine blk_n ?_ | (refine RT.call rfl rfl rfl (add_rd h1 h2 h3 _ (by unfold lnRoom at hr; omega) (norm t) e (by decide) rfl rfl rfl rfl rfl rfl (fun hne => by first | exact absurd rfl hne) rfl rfl _ (by decide)) rfl rfl (by decide) ?_) | (refine RT.goK rfl rfl rfl rfl ?_; apply Nx.of; (first | exact S.loadNc rfl rfl rfl rfl)))
      refine ⟨rfl, Wk.by (fun y => if y = 15 then 19 else if y < 15 then y else 20 + y) (by decide) (by decide) (by decide) trivial ⟨congrArg some (lpO_ren (l := [(7, .ptr 7 0)]) ⟨rfl, trivial⟩ rfl).symm, rfl, congrArg some (rd_ren _ _ _).symm, congrArg some (pbc_ren h1 h2 h3 rfl rfl rfl).symm, congrArg some (ren_ro _ _ _).symm, congrArg some (ren_ro _ _ _).symm, congrArg some (ren_ro _ _ _).symm, rfl, congrArg some (ren_grown _ _ _ _).symm, trivial⟩ rfl (fun x hx y hy hxy e => ?_) (fun x hx => ?_) (fun x hx => ?_) (fun x hx => ?_)⟩
      · have hx' : x = 14 ∨ x = 7 ∨ x = 8 ∨ x = 6 ∨ x = 0 ∨ x = 1 ∨ x = 2 ∨ x = 13 ∨ x = 15 := by simpa [lnM, lnS, lsM] using hx
        have hy' : y = 14 ∨ y = 7 ∨ y = 8 ∨ y = 6 ∨ y = 0 ∨ y = 1 ∨ y = 2 ∨ y = 13 ∨ y = 15 := by simpa [lnM, lnS, lsM] using hy
        (repeat' split at e) <;> omega
      all_goals ((repeat' split) <;> omega)
    | cons t0 ts =>
      repeat' (first | refine RT.nil ?_ | refine Tr.region ?_ | refine Tr.block ?_ | refine blk_n ?_ | (refine RT.call rfl rfl rfl (add_rd h1 h2 h3 _ (by unfold lnRoom at hr; omega) (norm t) e (by decide) rfl rfl rfl rfl rfl rfl (fun hne => by first | rfl) rfl rfl _ (by decide)) rfl rfl (by decide) ?_) | (refine RT.goK rfl rfl rfl rfl ?_; apply Nx.of; (first | exact S.loadNc rfl rfl rfl rfl)))
      refine ⟨rfl, Wk.by (fun y => if y = 15 then 19 else if y < 15 then y else 20 + y) (by decide) (by decide) (by decide) trivial ⟨congrArg some (lpO_ren (l := [(7, .ptr 7 0)]) ⟨rfl, trivial⟩ rfl).symm, rfl, congrArg some (rd_ren _ _ _).symm, congrArg some (pbc_ren h1 h2 h3 rfl rfl rfl).symm, congrArg some (ren_ro _ _ _).symm, congrArg some (ren_ro _ _ _).symm, congrArg some (ren_ro _ _ _).symm, rfl, congrArg some (ren_grown _ _ _ _).symm, trivial⟩ rfl (fun x hx y hy hxy e => ?_) (fun x hx => ?_) (fun x hx => ?_) (fun x hx => ?_)⟩
      · have hx' : x = 14 ∨ x = 7 ∨ x = 8 ∨ x = 6 ∨ x = 0 ∨ x = 1 ∨ x = 2 ∨ x = 13 ∨ x = 15 := by simpa [lnM, lnS, lsM] using hx
        have hy' : y = 14 ∨ y = 7 ∨ y = 8 ∨ y = 6 ∨ y = 0 ∨ y = 1 ∨ y = 2 ∨ y = 13 ∨ y = 15 := by simpa [lnM, lnS, lsM] using hy
        (repeat' split at e) <;> omega
      all_goals ((repeat' split) <;> omega)
  · intro ρ0 lb h hY
    refine OkJ.mono (truths_ok ⟨h1, h2, h3, rfl, rfl, rfl, rfl, by decide, by decide⟩ rfl hB hY (fun k s t hl => ⟨hl.1, ⟨t, rfl⟩, ?_⟩) ?_ 7) ?_
    · have := hl.2
      unfold lnRoom at this ⊢
      omega
    · refine ⟨rfl, ?_⟩
      have := allT_len hB.2.1
      show 0 + _ ≤ 20000
      omega
    rintro v m' s' ⟨⟨hv, hs⟩, hm⟩
    subst hm
    exact ⟨rfl, by rw [hs, foldC_rnd, foldS_ln]; rfl⟩
  · rintro v m' s' ⟨rfl, _⟩
    rfl
  · rintro v m' s' j ⟨rfl, hs⟩
    cases hs
    cases hq : Wn B with
    | nil =>
      have hs0 : IsSl .nils 0 15 := .nils _
      show blk _ _ _ _
      repeat' (first | refine RT.nil ?_ | refine sq_n ?_ | refine Tr.seq ?_ | refine Tr.region ?_ | refine Tr.cond_t rfl ?_ | refine Tr.ret ?_ | refine sq_r ?_ | refine blk_n ?_ | (refine RT.goK rfl rfl rfl rfl ?_; apply Nx.of; (first | exact S.assign | exact S.load1c rfl rfl rfl rfl | exact S.fieldAddr rfl rfl rfl | exact S.eql | exact S.build rfl rfl rfl)) | (refine RT.goK0 rfl rfl rfl ?_; apply Nx.of; (first | exact S.store rfl rfl rfl rfl rfl rfl)) | (refine RT.goK rfl rfl rfl rfl ?_; apply Nx.of; (first | exact S.len_sl rfl rfl rfl (by assumption))))
      · refine rt_goD rfl rfl rfl ?_
        exact .inl ⟨rfl, rfl⟩
    | cons t ts =>
      have hs0 : IsSl (.gs 15 (ts.length + 1)) (ts.length + 1) 15 := .gs _ _
      show blk _ _ _ _
      repeat' (first | refine RT.nil ?_ | refine sq_n ?_ | refine Tr.seq ?_ | refine Tr.region ?_ | refine Tr.cond_f rfl ?_ | refine Tr.skip ?_ | refine Tr.ret ?_ | refine blk_n ?_ | (refine RT.goK rfl rfl rfl rfl ?_; apply Nx.of; (first | exact S.assign | exact S.load1c rfl rfl rfl rfl | exact S.loadNc rfl rfl rfl rfl | exact S.fieldAddr rfl rfl rfl | exact S.eql)) | (refine RT.goK0 rfl rfl rfl ?_; apply Nx.of; (first | exact S.store rfl rfl rfl rfl rfl rfl)) | (refine RT.goK rfl rfl rfl rfl ?_; apply Nx.of; (first | exact S.len_sl rfl rfl rfl (by assumption))))
      · refine rt_goD rfl rfl rfl ?_
        exact .inr ⟨rfl, by simp, rfl, getM rfl, getM rfl, getM rfl⟩
  all_goals (exfalso; omega)
theorem learn_at {B : RBook} {a1 a2 a3 : AV} {m : List (Nat × Option AObj)} {c : Nat} (h : BkIn B a1 a2 a3 m c) (hm : ∀ x o, lookM m x = some o → x < c) (hn : B.nd ≤ 9223372036854775807) (hB : bkOk B) (e : B.nd = 1) (hW : Wn B ≠ []) (fl : Nat) : OkAt 0 Try.prog fl 40 [bk B a1 a2 a3, .bool true] (ofM m) c
    (.tup [.agg (.ptr (c + 3) 0 :: .gs (c + 12) (Wn B).length :: mpsV 1 (c + 5)), .int .i64 0]) (ofM ((c + 3, some (.cells (pbC B a1 a2 a3))) :: (c + 12, some (oWn (Wn B))) :: (m ++ rdsM (Wn B) (c + 5) 1))) (c + 13) := by
  let τ : Nat → Nat := fun y => if y < 3 then y else c + (y - 3)
  have hc := h.hc
  have t0 : τ 0 = 0 := rfl
  have t1 : τ 1 = 1 := rfl
  have t2 : τ 2 = 2 := rfl
  have low : ∀ {u : Nat} {ob : AObj}, lookM [(0, some (oLa B)), (1, some (oDa B)), (2, some (oLo B))] u = some ob → u = 0 ∨ u = 1 ∨ u = 2 := fun {u ob} hz => by
    have := lookM_mem hz
    simpa using this
  have ha : AV.rens τ [bk B a1 a2 a3, .bool true] = [bk B a1 a2 a3, .bool true] := by simp only [bk, AV.ren, AV.rens, h.h1.ren t0, h.h2.ren t1, h.h3.ren t2]
  rw [← ha]
  refine CanS.inst (learn_yes B a1 a2 a3 h.h1 h.h2 h.h3 hn hB e) (Nat.zero_le _) (Nat.le_refl _) τ (fun g hg => by omega) (fun y hy => by simp only [τ]; split <;> omega) (fun y hy => by simp only [τ]; split <;> omega) (fun y o hy => ?_) (fun x y o o' hx hy hxy => ?_) (fun y hy hy' => by omega) (fun v1 H1 c1 hq _ => ?_)
  · rcases low hy with rfl | rfl | rfl
    · cases hy; rw [t0, ren_ro]; exact getM h.m1
    · cases hy; rw [t1, ren_ro]; exact getM h.m2
    · cases hy; rw [t2, ren_ro]; exact getM h.m3
  · refine .inl ?_
    rcases low hx with rfl | rfl | rfl <;> rcases low hy with rfl | rfl | rfl <;> simp only [t0, t1, t2] <;> omega
  · rcases hq with ⟨hq, _⟩ | ⟨rfl, _, rfl, p6, p8, pl⟩
    · exact absurd hq hW
    refine ⟨rfl, by omega, fun x o hx => ?_⟩
    rw [ofM_get] at hx
    replace hx : lookM ((c + 3, some (.cells (pbC B a1 a2 a3))) :: (c + 12, some (oWn (Wn B))) :: (m ++ [(c + 5, some (rdO 0 (Wn B)))])) x = some o := hx
    by_cases e6 : x = c + 3
    · subst e6
      rw [lookM_hd] at hx
      cases hx
      exact .inr ⟨6, _, by omega, p6, rfl, by simp only [pbC, AObj.ren, AV.ren, AV.rens, h.h1.ren t0, h.h2.ren t1, h.h3.ren t2]⟩
    rw [lookM_tl e6] at hx
    by_cases e15 : x = c + 12
    · subst e15
      rw [lookM_hd] at hx
      cases hx
      exact .inr ⟨15, _, by omega, pl, rfl, (ren_grown _ _ _ _).symm⟩
    rw [lookM_tl e15] at hx
    rcases lookM_app hx with hx | hx
    · exact .inl ⟨hm x o hx, fun y hy hy' => by omega, getM hx⟩
    by_cases e8 : x = c + 5
    · subst e8
      rw [lookM_hd] at hx
      cases hx
      exact .inr ⟨8, _, by omega, p8, rfl, (rd_ren _ _ _).symm⟩
    rw [lookM_tl e8] at hx
    cases hx
end Days1
end Go.Proofs.Ytjnckbefajfgbaa

/- Package roll: add, for a book of 2 days. -/
namespace Go.Proofs.Ytjnckbefajfgbaa
open Go Go.Ev
namespace Days2
theorem all_two {α : Type} {p : α → Bool} {a b : α} (h : p a = true) (k : p b = true) : [a, b].all p = true := by simp [h, k]
set_option maxRecDepth 100000 in
set_option maxHeartbeats 8000000 in
theorem add_nil (B : RBook) (a1 a2 a3 : AV) (h1 : IsSl a1 B.nl 0) (h2 : IsSl a2 B.nd 1) (h3 : IsSl a3 B.nk 2) (t : Tru) (e : B.nd = 2) : CanS 0 Try.prog 75 7 [.ptr 7 0, trV t] [(7, some (.cells [.ptr 6 0, .nils, .map 8, .map 9, .nilm, .nilm, .nilm])), (8, some (rdO 0 [])), (9, some (rdO 1 [])), (6, some (.cells (pbC B a1 a2 a3))), (0, some (oLa B)), (1, some (oDa B)), (2, some (oLo B))] 10 fun v H1 c1 => H1.get 7 = some (.cells [.ptr 6 0, .gs 12 (([] ++ [t]).length), .map 8, .map 9, .nilm, .nilm, .nilm]) ∧ H1.get 8 = some (rdO 0 ([] ++ [t])) ∧ H1.get 9 = some (rdO 1 ([] ++ [t])) ∧ H1.get 12 = some (.grown (flat truE ([] ++ [t])) 28) ∧ c1 = 13 ∧ v = .tup [] := by
  refine CanS.mk Try.func75 rfl rfl rfl ?_
  repeat' (first | refine RT.nil ?_ | refine sq_n ?_ | refine Tr.seq ?_ | refine Tr.region ?_ | (refine RT.goK rfl rfl rfl rfl ?_; apply Nx.of; (first | exact S.box)))
  refine Tr.openK un75_1 (by kernel_rfl) (by kernel_rfl) noCall noCall_calm ?_
  repeat' (first | (refine RD.wide rfl rfl rfl rfl rfl rfl rfl rfl ?_; (first | refine Nx.of (S.append_nil rfl rfl rfl rfl rfl rfl rfl rfl rfl rfl rfl) ⟨rfl, ?_⟩)) | (refine RD.free rfl rfl rfl rfl rfl rfl ?_; apply Nx.of; (first | exact S.move | exact S.fieldAddr rfl rfl rfl | exact S.nilCheck)) | (refine RD.new rfl rfl rfl rfl rfl rfl ?_; apply Nx.of; (first | exact S.buildSlice rfl rfl rfl rfl rfl rfl rfl)) | (refine RD.load rfl rfl rfl rfl rfl rfl rfl rfl ?_; apply Nx.of; (first | exact S.load1c rfl rfl rfl rfl | exact S.loadNc rfl rfl rfl rfl)) | (refine RD.store rfl rfl rfl rfl rfl rfl rfl ?_; apply Nx.of; (first | exact S.store rfl rfl rfl rfl rfl rfl)) | refine RD.nil ⟨Nat.le_of_ble_eq_true rfl, ?_⟩)
  repeat' (first | refine RT.nil ?_ | refine sq_n ?_ | refine Tr.seq ?_ | refine Tr.region ?_ | refine Tr.block ?_ | (refine RT.goK rfl rfl rfl rfl ?_; apply Nx.of; (first | exact S.move | exact S.load1c rfl rfl rfl rfl | exact S.fieldAddr rfl rfl rfl | exact S.nilCheck)) | (refine RT.goK rfl rfl rfl rfl ?_; apply Nx.of; (first | exact S.len_sl rfl rfl rfl (by assumption))))
  refine Tr.unroll 2 ?_
  have hb0 := rdC_bd 0 [] (endK 0 t)
  repeat' (first | refine RT.nil ?_ | refine sq_n ?_ | refine Tr.seq ?_ | refine Tr.region ?_ | refine Tr.cond_d rfl (fun _ => ?_) (fun _ => ?_) | refine Tr.skip ?_ | refine Tr.exit ?_ | refine sq_x ?_ | refine Tr.block ?_ | refine blk_hit rfl ?_ | refine un_x ?_ | (refine RT.goK rfl rfl rfl rfl ?_; apply Nx.of; (first | exact S.move | exact S.assign | exact S.lss)))
  refine Tr.openK un75_5 (by kernel_rfl) (by kernel_rfl) noCall noCall_calm ?_
  repeat' (first | (refine RD.free rfl rfl rfl rfl rfl rfl ?_; apply Nx.of; (first | exact S.move | exact S.fieldAddr rfl rfl rfl | exact S.add_w | exact S.nilCheck | exact S.idx_arrI rfl rfl rfl (by decide) (by decide))) | (refine RD.load rfl rfl rfl rfl rfl rfl rfl rfl ?_; apply Nx.of; (first | exact S.load1c rfl rfl rfl rfl | exact S.loadNc rfl rfl rfl rfl)) | (refine RD.load rfl rfl rfl rfl rfl rfl rfl rfl ?_; (refine Nx.of (S.look0 (enc := roE) (encV := roW) (f := rdF 0 []) (L := rdK 0 []) (k := endK 0 t) roKeys rfl rfl rfl rfl (fun h => by unfold rdF; rw [rdC_0 h])) ?_)))
  refine RD.wide rfl rfl rfl rfl rfl rfl rfl rfl ?_
  refine Nx.of (S.entry (enc := roE) (encV := roW) (f := rdF 0 []) (L := rdK 0 []) (k := endK 0 t) roKeys roBits rfl rfl rfl rfl rfl (fun h => by unfold rdF; rw [rdC_0 h])) ⟨?_, ?_⟩
  · refine all_two ?_ ?_ <;> first | rfl | exact same_look (enc := roE) (encV := roW) (f := rdF 0 []) (L := insK (rdK 0 []) (endK 0 t)) (k := endK 0 t) (n := rdC 0 [] (endK 0 t)) roKeys rfl rfl rfl ins_mem rfl
  repeat' (first | (refine RD.free rfl rfl rfl rfl rfl rfl ?_; apply Nx.of; (first | exact S.extract rfl)))
  refine RD.wide0 rfl rfl rfl rfl rfl rfl rfl ?_
  refine Nx.of (S.entryStore (enc := roE) (f := rdF 0 []) (L := insK (rdK 0 []) (endK 0 t)) (k := endK 0 t) rfl rfl (ins_nodup (rdK_nodup _ _)) ins_mem (ix_ins _)) ⟨rfl, ?_⟩
  refine RD.nil ⟨Nat.le_of_ble_eq_true rfl, ?_⟩
  have hb1 := rdC_bd 1 [] (endK 1 t)
  repeat' (first | refine RT.nil ?_ | refine sq_n ?_ | refine Tr.seq ?_ | refine Tr.region ?_ | refine Tr.cond_d rfl (fun _ => ?_) (fun _ => ?_) | refine Tr.skip ?_ | refine Tr.exit ?_ | refine sq_x ?_ | refine Tr.block ?_ | refine blk_n ?_ | refine blk_hit rfl ?_ | refine un_n ?_ | refine un_x ?_ | (refine RT.goK rfl rfl rfl rfl ?_; apply Nx.of; (first | exact S.move | exact S.assign | exact S.lss | exact S.add (by unfold In64; omega))))
  refine Tr.openK un75_5 (by kernel_rfl) (by kernel_rfl) noCall noCall_calm ?_
  repeat' (first | (refine RD.free rfl rfl rfl rfl rfl rfl ?_; apply Nx.of; (first | exact S.move | exact S.fieldAddr rfl rfl rfl | exact S.add_w | exact S.nilCheck | exact S.idx_arrI rfl rfl rfl (by decide) (by decide))) | (refine RD.load rfl rfl rfl rfl rfl rfl rfl rfl ?_; apply Nx.of; (first | exact S.load1c rfl rfl rfl rfl | exact S.loadNc rfl rfl rfl rfl)) | (refine RD.load rfl rfl rfl rfl rfl rfl rfl rfl ?_; (refine Nx.of (S.look0 (enc := roE) (encV := roW) (f := rdF 1 []) (L := rdK 1 []) (k := endK 1 t) roKeys rfl rfl rfl rfl (fun h => by unfold rdF; rw [rdC_0 h])) ?_)))
  refine RD.wide rfl rfl rfl rfl rfl rfl rfl rfl ?_
  refine Nx.of (S.entry (enc := roE) (encV := roW) (f := rdF 1 []) (L := rdK 1 []) (k := endK 1 t) roKeys roBits rfl rfl rfl rfl rfl (fun h => by unfold rdF; rw [rdC_0 h])) ⟨?_, ?_⟩
  · refine all_two ?_ ?_ <;> first | rfl | exact same_look (enc := roE) (encV := roW) (f := rdF 1 []) (L := insK (rdK 1 []) (endK 1 t)) (k := endK 1 t) (n := rdC 1 [] (endK 1 t)) roKeys rfl rfl rfl ins_mem rfl
  repeat' (first | (refine RD.free rfl rfl rfl rfl rfl rfl ?_; apply Nx.of; (first | exact S.extract rfl)))
  refine RD.wide0 rfl rfl rfl rfl rfl rfl rfl ?_
  refine Nx.of (S.entryStore (enc := roE) (f := rdF 1 []) (L := insK (rdK 1 []) (endK 1 t)) (k := endK 1 t) rfl rfl (ins_nodup (rdK_nodup _ _)) ins_mem (ix_ins _)) ⟨rfl, ?_⟩
  refine RD.nil ⟨Nat.le_of_ble_eq_true rfl, ?_⟩
  repeat' (first | refine RT.nil ?_ | refine sq_n ?_ | refine Tr.seq ?_ | refine Tr.region ?_ | refine Tr.cond_d rfl (fun _ => ?_) (fun _ => ?_) | refine Tr.skip ?_ | refine Tr.exit ?_ | refine sq_x ?_ | refine Tr.block ?_ | refine blk_n ?_ | refine blk_hit rfl ?_ | refine un_n ?_ | refine un_x ?_ | (refine RT.goK rfl rfl rfl rfl ?_; apply Nx.of; (first | exact S.move | exact S.assign | exact S.lss | exact S.add (by unfold In64; omega))))
  · exfalso; omega
  refine rt_gon rfl ?_
  · exact ⟨getM rfl, by rw [← rdO_snoc]; exact getM rfl, by rw [← rdO_snoc]; exact getM rfl, getM rfl, rfl, rfl⟩
  all_goals (exfalso; omega)
set_option maxRecDepth 100000 in
set_option maxHeartbeats 8000000 in
theorem add_cons (B : RBook) (a1 a2 a3 : AV) (h1 : IsSl a1 B.nl 0) (h2 : IsSl a2 B.nd 1) (h3 : IsSl a3 B.nk 2) (t : Tru) (t0 : Tru) (ts : List Tru) (hr : ts.length ≤ 20000) (e : B.nd = 2) : CanS 0 Try.prog 75 7 [.ptr 7 0, trV t] [(10, some (.grown (flat truE (t0 :: ts)) 28)), (7, some (.cells [.ptr 6 0, .gs 10 (ts.length + 1), .map 8, .map 9, .nilm, .nilm, .nilm])), (8, some (rdO 0 (t0 :: ts))), (9, some (rdO 1 (t0 :: ts))), (6, some (.cells (pbC B a1 a2 a3))), (0, some (oLa B)), (1, some (oDa B)), (2, some (oLo B))] 11 fun v H1 c1 => H1.get 7 = some (.cells [.ptr 6 0, .gs 13 (((t0 :: ts) ++ [t]).length), .map 8, .map 9, .nilm, .nilm, .nilm]) ∧ H1.get 8 = some (rdO 0 ((t0 :: ts) ++ [t])) ∧ H1.get 9 = some (rdO 1 ((t0 :: ts) ++ [t])) ∧ H1.get 13 = some (.grown (flat truE ((t0 :: ts) ++ [t])) 28) ∧ c1 = 14 ∧ v = .tup [] := by
  refine CanS.mk Try.func75 rfl rfl rfl ?_
  have hcut : cut (flat truE (t0 :: ts)) 0 ((ts.length + 1) * 28) = some (flat truE (t0 :: ts)) := cut_all (flat_len (s := 28) (fun _ => rfl) _)
  have hlen : (t0 :: ts).length = ts.length + 1 := rfl
  repeat' (first | refine RT.nil ?_ | refine sq_n ?_ | refine Tr.seq ?_ | refine Tr.region ?_ | (refine RT.goK rfl rfl rfl rfl ?_; apply Nx.of; (first | exact S.box)))
  refine Tr.openK un75_1 (by kernel_rfl) (by kernel_rfl) noCall noCall_calm ?_
  repeat' (first | (refine RD.wide rfl rfl rfl rfl rfl rfl rfl rfl ?_; (first | refine Nx.of (S.append_gs rfl rfl rfl rfl rfl rfl rfl rfl rfl rfl rfl rfl rfl hcut (by omega) rfl) ⟨rfl, ?_⟩)) | (refine RD.free rfl rfl rfl rfl rfl rfl ?_; apply Nx.of; (first | exact S.move | exact S.fieldAddr rfl rfl rfl | exact S.nilCheck)) | (refine RD.new rfl rfl rfl rfl rfl rfl ?_; apply Nx.of; (first | exact S.buildSlice rfl rfl rfl rfl rfl rfl rfl)) | (refine RD.load rfl rfl rfl rfl rfl rfl rfl rfl ?_; apply Nx.of; (first | exact S.load1c rfl rfl rfl rfl | exact S.loadNc rfl rfl rfl rfl)) | (refine RD.store rfl rfl rfl rfl rfl rfl rfl ?_; apply Nx.of; (first | exact S.store rfl rfl rfl rfl rfl rfl)) | refine RD.nil ⟨Nat.le_of_ble_eq_true rfl, ?_⟩)
  repeat' (first | refine RT.nil ?_ | refine sq_n ?_ | refine Tr.seq ?_ | refine Tr.region ?_ | refine Tr.block ?_ | (refine RT.goK rfl rfl rfl rfl ?_; apply Nx.of; (first | exact S.move | exact S.load1c rfl rfl rfl rfl | exact S.fieldAddr rfl rfl rfl | exact S.nilCheck)) | (refine RT.goK rfl rfl rfl rfl ?_; apply Nx.of; (first | exact S.len_sl rfl rfl rfl (by assumption))))
  refine Tr.unroll 2 ?_
  have hb0 := rdC_bd 0 (t0 :: ts) (endK 0 t)
  repeat' (first | refine RT.nil ?_ | refine sq_n ?_ | refine Tr.seq ?_ | refine Tr.region ?_ | refine Tr.cond_d rfl (fun _ => ?_) (fun _ => ?_) | refine Tr.skip ?_ | refine Tr.exit ?_ | refine sq_x ?_ | refine Tr.block ?_ | refine blk_hit rfl ?_ | refine un_x ?_ | (refine RT.goK rfl rfl rfl rfl ?_; apply Nx.of; (first | exact S.move | exact S.assign | exact S.lss)))
  refine Tr.openK un75_5 (by kernel_rfl) (by kernel_rfl) noCall noCall_calm ?_
  repeat' (first | (refine RD.free rfl rfl rfl rfl rfl rfl ?_; apply Nx.of; (first | exact S.move | exact S.fieldAddr rfl rfl rfl | exact S.add (by unfold In64; omega) | exact S.nilCheck | exact S.idx_arrI rfl rfl rfl (by decide) (by decide))) | (refine RD.load rfl rfl rfl rfl rfl rfl rfl rfl ?_; apply Nx.of; (first | exact S.load1c rfl rfl rfl rfl | exact S.loadNc rfl rfl rfl rfl)) | (refine RD.load rfl rfl rfl rfl rfl rfl rfl rfl ?_; (refine Nx.of (S.look0 (enc := roE) (encV := roW) (f := rdF 0 (t0 :: ts)) (L := rdK 0 (t0 :: ts)) (k := endK 0 t) roKeys rfl rfl rfl rfl (fun h => by unfold rdF; rw [rdC_0 h])) ?_)))
  refine RD.wide rfl rfl rfl rfl rfl rfl rfl rfl ?_
  refine Nx.of (S.entry (enc := roE) (encV := roW) (f := rdF 0 (t0 :: ts)) (L := rdK 0 (t0 :: ts)) (k := endK 0 t) roKeys roBits rfl rfl rfl rfl rfl (fun h => by unfold rdF; rw [rdC_0 h])) ⟨?_, ?_⟩
  · refine all_two ?_ ?_ <;> first | rfl | exact same_look (enc := roE) (encV := roW) (f := rdF 0 (t0 :: ts)) (L := insK (rdK 0 (t0 :: ts)) (endK 0 t)) (k := endK 0 t) (n := rdC 0 (t0 :: ts) (endK 0 t)) roKeys rfl rfl rfl ins_mem rfl
  repeat' (first | (refine RD.free rfl rfl rfl rfl rfl rfl ?_; apply Nx.of; (first | exact S.extract rfl)))
  refine RD.wide0 rfl rfl rfl rfl rfl rfl rfl ?_
  refine Nx.of (S.entryStore (enc := roE) (f := rdF 0 (t0 :: ts)) (L := insK (rdK 0 (t0 :: ts)) (endK 0 t)) (k := endK 0 t) rfl rfl (ins_nodup (rdK_nodup _ _)) ins_mem (ix_ins _)) ⟨rfl, ?_⟩
  refine RD.nil ⟨Nat.le_of_ble_eq_true rfl, ?_⟩
  have hb1 := rdC_bd 1 (t0 :: ts) (endK 1 t)
  repeat' (first | refine RT.nil ?_ | refine sq_n ?_ | refine Tr.seq ?_ | refine Tr.region ?_ | refine Tr.cond_d rfl (fun _ => ?_) (fun _ => ?_) | refine Tr.skip ?_ | refine Tr.exit ?_ | refine sq_x ?_ | refine Tr.block ?_ | refine blk_n ?_ | refine blk_hit rfl ?_ | refine un_n ?_ | refine un_x ?_ | (refine RT.goK rfl rfl rfl rfl ?_; apply Nx.of; (first | exact S.move | exact S.assign | exact S.lss | exact S.add (by unfold In64; omega))))
  refine Tr.openK un75_5 (by kernel_rfl) (by kernel_rfl) noCall noCall_calm ?_
  repeat' (first | (refine RD.free rfl rfl rfl rfl rfl rfl ?_; apply Nx.of; (first | exact S.move | exact S.fieldAddr rfl rfl rfl | exact S.add (by unfold In64; omega) | exact S.nilCheck | exact S.idx_arrI rfl rfl rfl (by decide) (by decide))) | (refine RD.load rfl rfl rfl rfl rfl rfl rfl rfl ?_; apply Nx.of; (first | exact S.load1c rfl rfl rfl rfl | exact S.loadNc rfl rfl rfl rfl)) | (refine RD.load rfl rfl rfl rfl rfl rfl rfl rfl ?_; (refine Nx.of (S.look0 (enc := roE) (encV := roW) (f := rdF 1 (t0 :: ts)) (L := rdK 1 (t0 :: ts)) (k := endK 1 t) roKeys rfl rfl rfl rfl (fun h => by unfold rdF; rw [rdC_0 h])) ?_)))
  refine RD.wide rfl rfl rfl rfl rfl rfl rfl rfl ?_
  refine Nx.of (S.entry (enc := roE) (encV := roW) (f := rdF 1 (t0 :: ts)) (L := rdK 1 (t0 :: ts)) (k := endK 1 t) roKeys roBits rfl rfl rfl rfl rfl (fun h => by unfold rdF; rw [rdC_0 h])) ⟨?_, ?_⟩
  · refine all_two ?_ ?_ <;> first | rfl | exact same_look (enc := roE) (encV := roW) (f := rdF 1 (t0 :: ts)) (L := insK (rdK 1 (t0 :: ts)) (endK 1 t)) (k := endK 1 t) (n := rdC 1 (t0 :: ts) (endK 1 t)) roKeys rfl rfl rfl ins_mem rfl
  repeat' (first | (refine RD.free rfl rfl rfl rfl rfl rfl ?_; apply Nx.of; (first | exact S.extract rfl)))
  refine RD.wide0 rfl rfl rfl rfl rfl rfl rfl ?_
  refine Nx.of (S.entryStore (enc := roE) (f := rdF 1 (t0 :: ts)) (L := insK (rdK 1 (t0 :: ts)) (endK 1 t)) (k := endK 1 t) rfl rfl (ins_nodup (rdK_nodup _ _)) ins_mem (ix_ins _)) ⟨rfl, ?_⟩
  refine RD.nil ⟨Nat.le_of_ble_eq_true rfl, ?_⟩
  repeat' (first | refine RT.nil ?_ | refine sq_n ?_ | refine Tr.seq ?_ | refine Tr.region ?_ | refine Tr.cond_d rfl (fun _ => ?_) (fun _ => ?_) | refine Tr.skip ?_ | refine Tr.exit ?_ | refine sq_x ?_ | refine Tr.block ?_ | refine blk_n ?_ | refine blk_hit rfl ?_ | refine un_n ?_ | refine un_x ?_ | (refine RT.goK rfl rfl rfl rfl ?_; apply Nx.of; (first | exact S.move | exact S.assign | exact S.lss | exact S.add (by unfold In64; omega))))
  · exfalso; omega
  refine rt_gon rfl ?_
  · exact ⟨by rw [List.length_append]; exact getM rfl, by rw [← rdO_snoc]; exact getM rfl, by rw [← rdO_snoc]; exact getM rfl, by rw [flat_append]; exact getM rfl, rfl, rfl⟩
  all_goals (exfalso; omega)
end Days2
end Go.Proofs.Ytjnckbefajfgbaa
