/- Texts of one kind, one behind the other: Kl, Km, Kn, Ko, Qc, Ll. -/
import Derived.Test.YtpneoeoimdfjaaaRw4
import Derived.Test.YtpneoeoimdfjaaaXRoot
import Derived.Test.YtpneoeoimdfjaaaRows
import Derived.ProofKit
import Derived.OpenShut
set_option linter.unusedVariables false
set_option linter.unusedSimpArgs false
/- What the laws on package roll share: small functions of the reference; lists of numbers. -/
namespace Go.Proofs.Ytpneoeoimdfjaaa
open Go Go.Ev

set_option maxRecDepth 100000 in
theorem Amid_can (n lo hi : Int) : CanS 0 Try.prog 26 0 [.int .i64 n, .int .i64 lo, .int .i64 hi] [] 0 fun v _ _ => v = .bool (decide (lo ≤ n ∧ n ≤ hi)) := by
  refine CanS.mk Try.func26 rfl rfl rfl ?_
  repeat' (first | refine RT.nil ?_ | refine sq_n ?_ | refine Tr.seq ?_ | refine Tr.region ?_ | refine Tr.ret ?_ | (refine RT.splitd rfl rfl (fun _ => ?_) (fun _ => ?_)) | (refine RT.goK rfl rfl rfl rfl ?_; apply Nx.of; (first | exact S.move | exact S.assign | exact S.leq | exact S.pick_tt | exact S.pick_ff)) | (refine RT.no rfl rfl rfl ?_))
  all_goals
    (first | refine rt_go rfl ?_)
    simp [*, retV]
theorem Amid_at (n lo hi : Int) (H : T AObj) (c fl : Nat) : OkAt 0 Try.prog fl 26 [.int .i64 n, .int .i64 lo, .int .i64 hi] H c (.bool (decide (lo ≤ n ∧ n ≤ hi))) H c :=
  (Amid_can n lo hi).pure (.bool _) (.plain fun _ => rfl) fl
/-- Any number, brought below another one. -/
def wrapV (n k : Int) : Int := if k ≤ 0 then 0 else if n.tmod k < 0 then n.tmod k + k else n.tmod k
theorem tmod_bd {n k : Int} (hk : 0 < k) : -k < n.tmod k ∧ n.tmod k < k := by
  have h2 := Int.tmod_lt_of_pos n hk
  have h3 : -k < n.tmod k := by
    have := Int.lt_tmod_of_pos n hk
    omega
  exact ⟨h3, h2⟩
set_option maxRecDepth 100000 in
theorem Wrap_can (n k : Int) (hk : k ≤ 1000000) : CanS 0 Try.prog 11 0 [.int .i64 n, .int .i64 k] [] 0 fun v _ _ => v = .int .i64 (wrapV n k) := by
  refine CanS.mk Try.func11 rfl rfl rfl ?_
  by_cases h : k ≤ 0
  · repeat' (first | refine RT.nil ?_ | refine sq_n ?_ | refine Tr.seq ?_ | refine Tr.region ?_ | refine Tr.cond_t rfl ?_ | refine Tr.ret ?_ | refine sq_r ?_ | (refine RT.goK rfl rfl rfl rfl ?_; refine Nx.of (S.leq_t h) ?_) | (refine RT.goK rfl rfl rfl rfl ?_; apply Nx.of; (first | exact S.move | exact S.assign)))
    (first | refine rt_go rfl ?_)
    unfold wrapV
    rw [if_pos h]
    rfl
  · have := tmod_bd (n := n) (show 0 < k by omega)
    repeat' (first | refine RT.nil ?_ | refine sq_n ?_ | refine Tr.seq ?_ | refine Tr.region ?_ | refine Tr.cond_f rfl ?_ | refine Tr.cond_d rfl (fun _ => ?_) (fun _ => ?_) | refine Tr.skip ?_ | refine Tr.ret ?_ | (refine RT.goK rfl rfl rfl rfl ?_; refine Nx.of (S.leq_f h) ?_) | (refine RT.goK rfl rfl rfl rfl ?_; apply Nx.of; (first | exact S.move | exact S.assign | exact S.lss | exact S.add (by unfold In64; omega) | exact S.rem (by omega))))
    all_goals
      (first | refine rt_go rfl ?_)
      unfold wrapV
      rw [if_neg h]
    · rw [if_pos (by assumption)]; rfl
    · rw [if_neg (by assumption)]; rfl
theorem Wrap_at (n k : Int) (hk : k ≤ 1000000) (H : T AObj) (c fl : Nat) : OkAt 0 Try.prog fl 11 [.int .i64 n, .int .i64 k] H c (.int .i64 (wrapV n k)) H c :=
  (Wrap_can n k hk).pure (.int _ _) (.plain fun _ => rfl) fl
set_option maxRecDepth 100000 in
theorem Sane_can (lo hi a b d : Int) (h : -100000 ≤ a ∧ b ≤ 100000) : CanS 0 Try.prog 15 0 [.agg [.int .i64 lo, .int .i64 hi], .int .i64 a, .int .i64 b, .int .i64 d] [] 0 fun v _ _ => v = .bool (decide (a ≤ lo ∧ lo ≤ hi ∧ hi ≤ b ∧ hi - lo ≤ d)) := by
  refine CanS.mk Try.func15 rfl rfl rfl ?_
  repeat' (first | refine RT.nil ?_ | refine sq_n ?_ | refine Tr.seq ?_ | refine Tr.region ?_ | refine Tr.ret ?_ | (refine RT.splitd rfl rfl (fun _ => ?_) (fun _ => ?_)) | (refine RT.goK rfl rfl rfl rfl ?_; apply Nx.of; (first | exact S.move | exact S.assign | exact S.load1c rfl rfl rfl rfl | exact S.fieldAddr rfl rfl rfl | exact S.leq | exact S.pick_tt | exact S.pick_ff | exact S.box | exact S.sub (by unfold In64; omega))) | (refine RT.no rfl rfl rfl ?_))
  all_goals
    (first | refine rt_go rfl ?_)
    simp [*, retV]
theorem Sane_at (lo hi a b d : Int) (h : -100000 ≤ a ∧ b ≤ 100000) (H : T AObj) (c fl : Nat) : OkAt 0 Try.prog fl 15 [.agg [.int .i64 lo, .int .i64 hi], .int .i64 a, .int .i64 b, .int .i64 d] H c (.bool (decide (a ≤ lo ∧ lo ≤ hi ∧ hi ≤ b ∧ hi - lo ≤ d))) H c :=
  (Sane_can lo hi a b d h).pure (.bool _) (.plain fun _ => rfl) fl
set_option maxRecDepth 100000 in
theorem In_can (s : Int) (n : Nat) (h : n ≤ 62) : CanS 0 Try.prog 57 0 [.int .i64 s, .int .i64 (n : Int)] [] 0 fun v _ _ => v = .bool (dB (hasP s n)) := by
  refine CanS.mk Try.func57 rfl rfl rfl ?_
  repeat' (first | refine RT.nil ?_ | refine sq_n ?_ | refine Tr.seq ?_ | refine Tr.region ?_ | refine Tr.ret ?_ | (refine RT.goK rfl rfl rfl rfl ?_; first | refine Nx.of (S.shr h) ?_ | refine Nx.of S.and ?_) | (refine RT.goK rfl rfl rfl rfl ?_; apply Nx.of; (first | exact S.move | exact S.assign | exact S.eql)))
  (first | refine rt_go rfl ?_)
  exact dB_iff Iff.rfl
theorem In_at (s : Int) (n : Nat) (h : n ≤ 62) (H : T AObj) (c fl : Nat) : OkAt 0 Try.prog fl 57 [.int .i64 s, .int .i64 (n : Int)] H c (.bool (dB (hasP s n))) H c :=
  (In_can s n h).pure (.bool _) (.plain fun _ => rfl) fl

theorem Amid_t {n lo hi : Int} (h : lo ≤ n ∧ n ≤ hi) (H : T AObj) (c fl : Nat) : OkAt 0 Try.prog fl 26 [.int .i64 n, .int .i64 lo, .int .i64 hi] H c (.bool true) H c := by
  have := Amid_at n lo hi H c fl
  rwa [decide_eq_true h] at this
theorem Sane_t {lo hi a b d : Int} (h0 : -100000 ≤ a ∧ b ≤ 100000) (h : a ≤ lo ∧ lo ≤ hi ∧ hi ≤ b ∧ hi - lo ≤ d) (H : T AObj) (c fl : Nat) : OkAt 0 Try.prog fl 15 [.agg [.int .i64 lo, .int .i64 hi], .int .i64 a, .int .i64 b, .int .i64 d] H c (.bool true) H c := by
  have := Sane_at lo hi a b d h0 H c fl
  rwa [decide_eq_true h] at this

noncomputable def wrapF : CallFn := famA (α := Int × Int) 11 (fun a => [.int .i64 a.1, .int .i64 a.2]) (fun a => .int .i64 (wrapV a.1 a.2)) fun a _ _ => a.2 ≤ 1000000
theorem wrapF_calm : CalmC 0 Try.prog wrapF := famA_calm fun a fl H c h => Wrap_at a.1 a.2 h H c fl
theorem wrapF_at (a b : Int) (h : b ≤ 1000000) (fl0 : Nat) (H : T AObj) (c : Nat) : wrapF fl0 11 [.int .i64 a, .int .i64 b] H c = some (.int .i64 (wrapV a b), H, c) :=
  famA_at (α := Int × Int) fl0 (a, b) h fun x h => by
    obtain ⟨x1, x2⟩ := x
    simp only [List.cons.injEq, AV.int.injEq, true_and, and_true] at h
    obtain ⟨rfl, rfl⟩ := h
    rfl

theorem S.geq_f {P : Program} {fl c t yt : Nat} {m : List (Nat × Option AObj)} {x1 x2 : Operand} {a b : Int} (h : ¬ b ≤ a) : OpE P fl (.binOp .geq t x1 x2 yt) [.int .i64 a, .int .i64 b] m c (.bool false) m c := by
  have := S.geq (P := P) (fl := fl) (m := m) (c := c) (t := t) (yt := yt) (x1 := x1) (x2 := x2) (a := a) (b := b)
  rwa [decide_eq_false h] at this
theorem numsL_filter (s : Int) : ∀ n, numsL s n = (List.range n).filter fun k => dB (hasP s k)
  | 0 => rfl
  | n + 1 => by
    rw [numsL, numsL_filter s n, List.range_succ, List.filter_append]
    by_cases h : hasP s n
    · rw [dB_tt h, cond_true, List.filter_cons_of_pos (by exact dB_tt h)]; rfl
    · rw [dB_ff h, cond_false, List.filter_cons_of_neg (by rw [dB_ff h]; decide)]; simp
theorem dB_eq {p : Prop} : dB p = true ↔ p := by
  by_cases h : p
  · rw [dB_tt h]; exact iff_of_true rfl h
  · rw [dB_ff h]; exact iff_of_false (by decide) h
theorem cmpI_0 {a b : Int} : cmpI a b = 0 ↔ a = b := by unfold cmpI; split <;> (try split) <;> omega
theorem cmpI_lt {a b : Int} : cmpI a b < 0 ↔ a < b := by unfold cmpI; split <;> (try split) <;> omega
theorem lexC_self : ∀ a : List Nat, lexC a a = 0
  | [] => rfl
  | x :: a => by rw [lexC, if_pos (cmpI_0.2 rfl)]; exact lexC_self a
theorem lexC_cons {x y : Nat} {a b : List Nat} : lexC (x :: a) (y :: b) < 0 ↔ x < y ∨ x = y ∧ lexC a b < 0 := by
  rw [lexC]
  by_cases h : (x : Int) = y
  · rw [if_pos (cmpI_0.2 h)]
    exact ⟨fun g => .inr ⟨by omega, g⟩, fun g => by rcases g with g | g; · omega
                                                    · exact g.2⟩
  · rw [if_neg (fun g => h (cmpI_0.1 g)), cmpI_lt]
    omega
theorem lexC_trans : ∀ {a b d : List Nat}, lexC a b < 0 → lexC b d < 0 → lexC a d < 0
  | [], [], _, h, _ => absurd h (by decide)
  | [], _ :: _, [], _, h => absurd h (by show ¬ (1 : Int) < 0; decide)
  | [], _ :: _, _ :: _, _, _ => by show (-1 : Int) < 0; decide
  | _ :: _, [], _, h, _ => absurd h (by show ¬ (1 : Int) < 0; decide)
  | _ :: _, _ :: _, [], _, h => absurd h (by show ¬ (1 : Int) < 0; decide)
  | x :: a, y :: b, z :: d, h, k => by
    rw [lexC_cons] at h k ⊢
    rcases h with h | ⟨h, h'⟩ <;> rcases k with k | ⟨k, k'⟩
    · exact .inl (by omega)
    · exact .inl (by omega)
    · exact .inl (by omega)
    · exact .inr ⟨by omega, lexC_trans h' k'⟩
theorem lexC_neg : ∀ {a b d : List Nat}, ¬ lexC a b < 0 → ¬ lexC b d < 0 → ¬ lexC a d < 0
  | [], [], _, _, h => h
  | [], _ :: _, _, h, _ => absurd (show (-1 : Int) < 0 by decide) h
  | _ :: _, _, [], _, _ => by show ¬ (1 : Int) < 0; decide
  | _ :: _, [], _ :: _, _, h => absurd (show (-1 : Int) < 0 by decide) h
  | x :: a, y :: b, z :: d, h, k => by
    rw [lexC_cons] at h k ⊢
    have ih : ¬ lexC a b < 0 → ¬ lexC b d < 0 → ¬ lexC a d < 0 := lexC_neg
    rintro (g | ⟨g, g'⟩)
    · refine h ?_
      by_cases e : x < y
      · exact .inl e
      · exact absurd (.inl (by omega)) k
    · by_cases e : x = y
      · have h1 : ¬ lexC a b < 0 := fun q => h (.inr ⟨e, q⟩)
        have h2 : ¬ lexC b d < 0 := fun q => k (.inr ⟨by omega, q⟩)
        exact ih h1 h2 g'
      · by_cases e2 : x < y
        · exact h (.inl e2)
        · exact k (.inl (by omega))
theorem cmpL_lt {a b : List Nat} : cmpL a b < 0 ↔ a.length < b.length ∨ a.length = b.length ∧ lexC a b < 0 := by
  unfold cmpL
  by_cases h : (a.length : Int) = b.length
  · rw [if_pos (cmpI_0.2 h)]
    exact ⟨fun g => .inr ⟨by omega, g⟩, fun g => by rcases g with g | g; · omega
                                                    · exact g.2⟩
  · rw [if_neg (fun g => h (cmpI_0.1 g)), cmpI_lt]
    omega
theorem cmpL_self (a : List Nat) : ¬ cmpL a a < 0 := by rw [cmpL_lt, lexC_self]; omega
theorem cmpL_trans {a b d : List Nat} (h : cmpL a b < 0) (k : cmpL b d < 0) : cmpL a d < 0 := by
  rw [cmpL_lt] at h k ⊢
  rcases h with h | ⟨h, h'⟩ <;> rcases k with k | ⟨k, k'⟩
  · exact .inl (by omega)
  · exact .inl (by omega)
  · exact .inl (by omega)
  · exact .inr ⟨by omega, lexC_trans h' k'⟩
theorem cmpL_neg {a b d : List Nat} (h : ¬ cmpL a b < 0) (k : ¬ cmpL b d < 0) : ¬ cmpL a d < 0 := by
  rw [cmpL_lt] at h k ⊢
  rintro (g | ⟨g, g'⟩)
  · by_cases e : a.length < b.length
    · exact h (.inl e)
    · exact k (.inl (by omega))
  · by_cases e : a.length = b.length
    · exact lexC_neg (fun q => h (.inr ⟨e, q⟩)) (fun q => k (.inr ⟨by omega, q⟩)) g'
    · by_cases e2 : a.length < b.length
      · exact h (.inl e2)
      · exact k (.inl (by omega))
theorem first_ex {p : Nat → Prop} : ∀ n, p n → ∃ k, p k ∧ ∀ j, j < k → ¬ p j := fun n => by
  induction n using Nat.strongRecOn with
  | ind n ih =>
    intro hn
    by_cases h : ∃ j, j < n ∧ p j
    · obtain ⟨j, hj, hp⟩ := h
      exact ih j hj hp
    · exact ⟨n, hn, fun j hj hp => h ⟨j, hj, hp⟩⟩
open Classical in
/-- The first place of a number in a list, or -1. -/
noncomputable def plV (L : List Nat) (n : Nat) : Int := if h : ∃ k : Nat, L[k]? = some n ∧ ∀ j : Nat, j < k → L[j]? ≠ some n then (h.choose : Int) else -1
theorem plV_at {L : List Nat} {n k : Nat} (h : L[k]? = some n) (hb : ∀ j : Nat, j < k → L[j]? ≠ some n) : plV L n = k := by
  have hx : ∃ k : Nat, L[k]? = some n ∧ ∀ j : Nat, j < k → L[j]? ≠ some n := ⟨k, h, hb⟩
  unfold plV
  rw [dif_pos hx]
  obtain ⟨h1, h2⟩ := hx.choose_spec
  have a1 : ¬ hx.choose < k := fun q => hb _ q h1
  have a2 : ¬ k < hx.choose := fun q => h2 _ q h
  omega
theorem plV_no {L : List Nat} {n : Nat} (h : ∀ j : Nat, L[j]? ≠ some n) : plV L n = -1 := by
  unfold plV
  rw [dif_neg]
  rintro ⟨k, hk, _⟩
  exact h k hk
theorem plV_neg {L : List Nat} {n : Nat} : plV L n < 0 ↔ n ∉ L := by
  by_cases hx : ∃ k : Nat, L[k]? = some n ∧ ∀ j : Nat, j < k → L[j]? ≠ some n
  · unfold plV
    rw [dif_pos hx]
    obtain ⟨h1, _⟩ := hx.choose_spec
    exact iff_of_false (by omega) fun k => k (List.mem_of_getElem? h1)
  · unfold plV
    rw [dif_neg hx]
    refine iff_of_true (by decide) fun hm => hx ?_
    obtain ⟨k, hk⟩ := List.getElem?_of_mem hm
    exact first_ex (p := fun j : Nat => L[j]? = some n) k hk
set_option maxRecDepth 100000 in
set_option maxHeartbeats 4000000 in
theorem Place_can (L : List Nat) (a1 : AV) (h1 : IsSl a1 L.length 0) (hl : L.length ≤ 1000) (n : Nat) : CanS 0 Try.prog 59 1 [a1, .int .i64 (n : Int)] [(0, some (.ro (natV L)))] 1 fun v _ _ => v = .int .i64 (plV L n) := by
  refine CanS.mk Try.func59 rfl rfl rfl ?_
  repeat' (first | refine RT.nil ?_ | refine sq_n ?_ | refine Tr.seq ?_ | refine Tr.region ?_ | refine Tr.block ?_ | (refine RT.goK rfl rfl rfl rfl ?_; apply Nx.of; (first | exact S.assign)))
  refine Tr.loop (fun k : Nat => stL Try.f59.ntmps [] [(0, a1), (1, .int .i64 (n : Int)), (5, .int .i64 k)] [(0, some (.ro (natV L)))] 1) (fun k => k ≤ L.length ∧ ∀ j : Nat, j < k → L[j]? ≠ some n) (fun k => L.length - k) 0 ⟨Nat.zero_le _, fun j hj => absurd hj (Nat.not_lt_zero j)⟩ (by (refine Wk.same (by decide) (by decide) (by decide) (by decide) ?_ ?_ rfl; all_goals ((try simp only [allL, allM]); (repeat' (first | exact trivial | refine And.intro ?_ ?_)); all_goals (first | rfl | exact IsSl.ren (by assumption) (nm_lt (by decide)) | exact roN_ren _ _ | decide)))) (fun k ⟨hk, hb⟩ => ?_)
  by_cases hlt : k < L.length
  · have hlt' : (k : Int) < L.length := by omega
    have x1 := natV_at hlt
    have e1 : L[k]? = some L[k] := List.getElem?_eq_getElem hlt
    by_cases he : ((L[k] : Nat) : Int) = n
    · repeat' (first | refine RT.nil ?_ | refine sq_n ?_ | refine Tr.seq ?_ | refine Tr.region ?_ | refine Tr.cond_t rfl ?_ | refine Tr.skip ?_ | refine Tr.ret ?_ | refine sq_r ?_ | refine Tr.block ?_ | refine blk_r ?_ | refine lp_r ?_ | (refine RT.goK rfl rfl rfl rfl ?_; first | refine Nx.of (S.lss_t hlt') ?_ | refine Nx.of (S.load1r rfl rfl rfl x1) ?_ | refine Nx.of (S.eql_t he) ?_) | (refine RT.goK rfl rfl rfl rfl ?_; apply Nx.of; (first | exact S.move | exact S.assign)) | (refine RT.goK rfl rfl rfl rfl ?_; apply Nx.of; (first | exact S.idx_sl rfl rfl rfl (by assumption) (by omega) | exact S.len_sl rfl rfl rfl (by assumption))))
      (first | refine rt_go rfl ?_)
      have : L[k] = n := by omega
      rw [plV_at (by rw [e1, this]) hb]
      rfl
    · repeat' (first | refine RT.nil ?_ | refine sq_n ?_ | refine Tr.seq ?_ | refine Tr.region ?_ | refine Tr.cond_t rfl ?_ | refine Tr.cond_f rfl ?_ | refine Tr.skip ?_ | refine Tr.block ?_ | refine blk_n ?_ | (refine RT.goK rfl rfl rfl rfl ?_; first | refine Nx.of (S.lss_t hlt') ?_ | refine Nx.of (S.load1r rfl rfl rfl x1) ?_ | refine Nx.of (S.eql_f he) ?_) | (refine RT.goK rfl rfl rfl rfl ?_; apply Nx.of; (first | exact S.move | exact S.assign | exact S.add_one (by omega))) | (refine RT.goK rfl rfl rfl rfl ?_; apply Nx.of; (first | exact S.idx_sl rfl rfl rfl (by assumption) (by omega) | exact S.len_sl rfl rfl rfl (by assumption))))
      refine lp_n (k + 1) ⟨hlt, fun j hj => ?_⟩ (by omega) (by (refine Wk.same (by decide) (by decide) (by decide) (by decide) ?_ ?_ rfl; all_goals ((try simp only [allL, allM]); (repeat' (first | exact trivial | refine And.intro ?_ ?_)); all_goals (first | rfl | exact IsSl.ren (by assumption) (nm_lt (by decide)) | exact roN_ren _ _ | decide))))
      by_cases g : j = k
      · subst g
        rw [e1]
        intro q
        cases q
        exact he rfl
      · exact hb j (by omega)
  · obtain rfl : k = L.length := by omega
    have hlt' : ¬ (L.length : Int) < L.length := by omega
    repeat' (first | refine RT.nil ?_ | refine sq_n ?_ | refine Tr.seq ?_ | refine Tr.region ?_ | refine Tr.cond_f rfl ?_ | refine Tr.ret ?_ | refine Tr.exit ?_ | refine sq_x ?_ | refine blk_hit rfl ?_ | refine lp_x ?_ | (refine RT.goK rfl rfl rfl rfl ?_; first | refine Nx.of (S.lss_f hlt') ?_) | (refine RT.goK rfl rfl rfl rfl ?_; apply Nx.of; (first | exact S.move | exact S.assign)) | (refine RT.goK rfl rfl rfl rfl ?_; apply Nx.of; (first | exact S.len_sl rfl rfl rfl (by assumption))))
    (first | refine rt_go rfl ?_)
    rw [plV_no]
    · rfl
    intro j
    by_cases g : j < L.length
    · exact hb j g
    · rw [List.getElem?_eq_none (by omega)]; simp
/-- Strictly increasing, below a number. -/
def RisL (L : List Nat) (n : Nat) : Prop := (∀ k x : Nat, L[k]? = some x → x < n) ∧ ∀ k x y : Nat, L[k]? = some x → L[k + 1]? = some y → x < y
def lastV (L : List Nat) : Nat → Int
  | 0 => -1
  | k + 1 => ((L[k]?.getD 0 : Nat) : Int)
set_option maxRecDepth 100000 in
set_option maxHeartbeats 4000000 in
theorem Rising_can (L : List Nat) (a1 : AV) (h1 : IsSl a1 L.length 0) (hl : L.length ≤ 1000) (n : Nat) (hr : RisL L n) : CanS 0 Try.prog 28 1 [a1, .int .i64 (n : Int)] [(0, some (.ro (natV L)))] 1 fun v _ _ => v = .bool true := by
  refine CanS.mk Try.func28 rfl rfl rfl ?_
  repeat' (first | refine RT.nil ?_ | refine sq_n ?_ | refine Tr.seq ?_ | refine Tr.region ?_ | refine Tr.block ?_ | (refine RT.goK rfl rfl rfl rfl ?_; apply Nx.of; (first | exact S.assign)))
  refine Tr.loop (fun k : Nat => stL Try.f28.ntmps [] [(0, a1), (1, .int .i64 (n : Int)), (5, .int .i64 (lastV L k)), (6, .int .i64 k)] [(0, some (.ro (natV L)))] 1) (fun k => k ≤ L.length) (fun k => L.length - k) 0 (Nat.zero_le _) (by (refine Wk.same (by decide) (by decide) (by decide) (by decide) ?_ ?_ rfl; all_goals ((try simp only [allL, allM]); (repeat' (first | exact trivial | refine And.intro ?_ ?_)); all_goals (first | rfl | exact IsSl.ren (by assumption) (nm_lt (by decide)) | exact roN_ren _ _ | decide)))) (fun k hk => ?_)
  by_cases hlt : k < L.length
  · have hlt' : (k : Int) < L.length := by omega
    have x1 := natV_at hlt
    have e1 : L[k]? = some L[k] := List.getElem?_eq_getElem hlt
    have hb := hr.1 k _ e1
    have g1 : ¬ ((L[k] : Nat) : Int) ≤ lastV L k := by
      cases k with
      | zero => show ¬ _ ≤ (-1 : Int); omega
      | succ j =>
        have e2 : L[j]? = some L[j] := List.getElem?_eq_getElem (by omega)
        have := hr.2 j _ _ e2 e1
        show ¬ _ ≤ ((L[j]?.getD 0 : Nat) : Int)
        rw [e2]
        show ¬ _ ≤ ((L[j] : Nat) : Int)
        omega
    have g2 : ¬ ((L[k] : Nat) : Int) ≥ n := by omega
    have e3 : lastV L (k + 1) = ((L[k] : Nat) : Int) := by show ((L[k]?.getD 0 : Nat) : Int) = _; rw [e1]; rfl
    repeat' (first | refine RT.nil ?_ | refine sq_n ?_ | refine Tr.seq ?_ | refine Tr.region ?_ | refine Tr.cond_t rfl ?_ | refine Tr.cond_f rfl ?_ | refine Tr.skip ?_ | refine Tr.block ?_ | refine blk_n ?_ | (refine RT.goK rfl rfl rfl rfl ?_; first | refine Nx.of (S.lss_t hlt') ?_ | refine Nx.of (S.load1r rfl rfl rfl x1) ?_ | refine Nx.of (S.leq_f g1) ?_ | refine Nx.of (S.geq_f g2) ?_) | (refine RT.goK rfl rfl rfl rfl ?_; apply Nx.of; (first | exact S.move | exact S.assign | exact S.pick_ff | exact S.add_one (by omega))) | (refine RT.goK rfl rfl rfl rfl ?_; apply Nx.of; (first | exact S.idx_sl rfl rfl rfl (by assumption) (by omega) | exact S.len_sl rfl rfl rfl (by assumption))))
    refine lp_n (k + 1) hlt (by omega) ?_
    rw [e3]
    (refine Wk.same (by decide) (by decide) (by decide) (by decide) ?_ ?_ rfl; all_goals ((try simp only [allL, allM]); (repeat' (first | exact trivial | refine And.intro ?_ ?_)); all_goals (first | rfl | exact IsSl.ren (by assumption) (nm_lt (by decide)) | exact roN_ren _ _ | decide)))
  · obtain rfl : k = L.length := by omega
    have hlt' : ¬ (L.length : Int) < L.length := by omega
    repeat' (first | refine RT.nil ?_ | refine sq_n ?_ | refine Tr.seq ?_ | refine Tr.region ?_ | refine Tr.cond_f rfl ?_ | refine Tr.ret ?_ | refine Tr.exit ?_ | refine sq_x ?_ | refine blk_hit rfl ?_ | refine lp_x ?_ | (refine RT.goK rfl rfl rfl rfl ?_; first | refine Nx.of (S.lss_f hlt') ?_) | (refine RT.goK rfl rfl rfl rfl ?_; apply Nx.of; (first | exact S.move | exact S.assign)) | (refine RT.goK rfl rfl rfl rfl ?_; apply Nx.of; (first | exact S.len_sl rfl rfl rfl (by assumption))))
    (first | refine rt_go rfl ?_)
    rfl
set_option maxRecDepth 100000 in
set_option maxHeartbeats 4000000 in
theorem Sooner_can (l q : List Nat) (hl : l.length ≤ 1000) (a1 a2 : AV) (h1 : IsSl a1 l.length 0) (h2 : IsSl a2 q.length 1) : CanS 0 Try.prog 60 2 [a1, a2] [(0, some (.ro (natV l))), (1, some (.ro (natV q)))] 2 fun v _ _ => v = .bool (decide (lexC l q < 0)) := by
  refine CanS.mk Try.func60 rfl rfl rfl ?_
  repeat' (first | refine RT.nil ?_ | refine sq_n ?_ | refine Tr.seq ?_ | refine Tr.region ?_ | refine Tr.block ?_ | (refine RT.goK rfl rfl rfl rfl ?_; apply Nx.of; (first | exact S.assign)))
  refine Tr.loop (fun k : Nat => stL Try.f60.ntmps [] [(0, a1), (1, a2), (5, .int .i64 k)] [(0, some (.ro (natV l))), (1, some (.ro (natV q)))] 2) (fun k => k ≤ l.length ∧ k ≤ q.length ∧ lexC l q = lexC (l.drop k) (q.drop k)) (fun k => l.length - k) 0 ⟨Nat.zero_le _, Nat.zero_le _, rfl⟩ (by (refine Wk.same (by decide) (by decide) (by decide) (by decide) ?_ ?_ rfl; all_goals ((try simp only [allL, allM]); (repeat' (first | exact trivial | refine And.intro ?_ ?_)); all_goals (first | rfl | exact IsSl.ren (by assumption) (nm_lt (by decide)) | exact roN_ren _ _ | decide)))) (fun k ⟨hk, hkq, he⟩ => ?_)
  by_cases hlt : k < l.length
  · have hlt' : (k : Int) < l.length := by omega
    have e1 : l.drop k = l[k] :: l.drop (k + 1) := List.drop_eq_getElem_cons hlt
    have x1 := natV_at hlt
    by_cases hq : k < q.length
    · have hq' : (k : Int) < q.length := by omega
      have e2 : q.drop k = q[k] :: q.drop (k + 1) := List.drop_eq_getElem_cons hq
      have x2 := natV_at hq
      rw [e1, e2, lexC] at he
      by_cases hne : ((l[k] : Nat) : Int) = ((q[k] : Nat) : Int)
      · rw [if_pos (cmpI_0.2 hne)] at he
        repeat' (first | refine RT.nil ?_ | refine sq_n ?_ | refine Tr.seq ?_ | refine Tr.region ?_ | refine Tr.cond_t rfl ?_ | refine Tr.skip ?_ | refine Tr.block ?_ | (refine RT.goK rfl rfl rfl rfl ?_; first | refine Nx.of (S.lss_t hlt') ?_ | refine Nx.of (S.lss_t hq') ?_) | (refine RT.goK rfl rfl rfl rfl ?_; apply Nx.of; (first | exact S.move | exact S.pick_tt)) | (refine RT.goK rfl rfl rfl rfl ?_; apply Nx.of; (first | exact S.len_sl rfl rfl rfl (by assumption))))
        refine Tr.openK un60_4 (by kernel_rfl) (by kernel_rfl) noCall noCall_calm ?_
        repeat' (first | (refine RD.free rfl rfl rfl rfl rfl rfl ?_; apply Nx.of; (first | exact S.neq_f hne)) | (refine RD.load rfl rfl rfl rfl rfl rfl rfl rfl ?_; apply Nx.of; (first | exact S.load1r rfl rfl rfl x1 | exact S.load1r rfl rfl rfl x2)) | (refine RD.free rfl rfl rfl rfl rfl rfl ?_; apply Nx.of; (first | exact S.move | exact S.idx_sl rfl rfl rfl (by assumption) (by omega))) | refine RD.nil ⟨Nat.le_of_ble_eq_true rfl, ?_⟩)
        repeat' (first | refine RT.nil ?_ | refine sq_n ?_ | refine Tr.region ?_ | refine Tr.cond_f rfl ?_ | refine Tr.skip ?_ | refine blk_n ?_ | (refine RT.goK rfl rfl rfl rfl ?_; apply Nx.of; (first | exact S.move | exact S.assign | exact S.add_one (by omega))))
        refine lp_n (k + 1) ⟨by omega, by omega, he⟩ (by omega) (by (refine Wk.same (by decide) (by decide) (by decide) (by decide) ?_ ?_ rfl; all_goals ((try simp only [allL, allM]); (repeat' (first | exact trivial | refine And.intro ?_ ?_)); all_goals (first | rfl | exact IsSl.ren (by assumption) (nm_lt (by decide)) | exact roN_ren _ _ | decide))))
      · rw [if_neg (fun g => hne (cmpI_0.1 g))] at he
        repeat' (first | refine RT.nil ?_ | refine sq_n ?_ | refine Tr.seq ?_ | refine Tr.region ?_ | refine Tr.cond_t rfl ?_ | refine Tr.skip ?_ | refine Tr.block ?_ | (refine RT.goK rfl rfl rfl rfl ?_; first | refine Nx.of (S.lss_t hlt') ?_ | refine Nx.of (S.lss_t hq') ?_) | (refine RT.goK rfl rfl rfl rfl ?_; apply Nx.of; (first | exact S.move | exact S.pick_tt)) | (refine RT.goK rfl rfl rfl rfl ?_; apply Nx.of; (first | exact S.len_sl rfl rfl rfl (by assumption))))
        refine Tr.openK un60_4 (by kernel_rfl) (by kernel_rfl) noCall noCall_calm ?_
        repeat' (first | (refine RD.free rfl rfl rfl rfl rfl rfl ?_; apply Nx.of; (first | exact S.neq_t hne)) | (refine RD.load rfl rfl rfl rfl rfl rfl rfl rfl ?_; apply Nx.of; (first | exact S.load1r rfl rfl rfl x1 | exact S.load1r rfl rfl rfl x2)) | (refine RD.free rfl rfl rfl rfl rfl rfl ?_; apply Nx.of; (first | exact S.move | exact S.idx_sl rfl rfl rfl (by assumption) (by omega))) | refine RD.nil ⟨Nat.le_of_ble_eq_true rfl, ?_⟩)
        repeat' (first | refine sq_n ?_ | refine Tr.seq ?_ | refine Tr.cond_t rfl ?_)
        refine Tr.openK un60_5 (by kernel_rfl) (by kernel_rfl) noCall noCall_calm ?_
        repeat' (first | (refine RD.load rfl rfl rfl rfl rfl rfl rfl rfl ?_; apply Nx.of; (first | exact S.load1r rfl rfl rfl x1 | exact S.load1r rfl rfl rfl x2)) | (refine RD.free rfl rfl rfl rfl rfl rfl ?_; apply Nx.of; (first | exact S.move | exact S.assign | exact S.lss | exact S.idx_sl rfl rfl rfl (by assumption) (by omega))) | refine RD.nil ⟨Nat.le_of_ble_eq_true rfl, ?_⟩)
        repeat' (first | refine sq_n ?_ | refine Tr.ret ?_ | refine sq_r ?_ | refine blk_r ?_ | refine lp_r ?_)
        (first | refine rt_go rfl ?_)
        rw [he]
        exact congrArg AV.bool (decide_eq_decide.2 cmpI_lt.symm)
    · have hq' : ¬ (k : Int) < q.length := by omega
      have e2 : q.drop k = [] := List.drop_eq_nil_of_le (by omega)
      rw [e1, e2, lexC] at he
      have hf : ¬ ((l.length : Nat) : Int) < q.length := by omega
      repeat' (first | refine RT.nil ?_ | refine sq_n ?_ | refine Tr.seq ?_ | refine Tr.region ?_ | refine Tr.cond_f rfl ?_ | refine Tr.ret ?_ | refine Tr.exit ?_ | refine sq_x ?_ | refine blk_hit rfl ?_ | refine lp_x ?_ | (refine RT.goK rfl rfl rfl rfl ?_; first | refine Nx.of (S.lss_t hlt') ?_ | refine Nx.of (S.lss_f hq') ?_ | refine Nx.of (S.lss_f hf) ?_) | (refine RT.goK rfl rfl rfl rfl ?_; apply Nx.of; (first | exact S.move | exact S.assign | exact S.pick_tt)) | (refine RT.goK rfl rfl rfl rfl ?_; apply Nx.of; (first | exact S.len_sl rfl rfl rfl (by assumption))))
      (first | refine rt_go rfl ?_)
      rw [he]
      rfl
  · have hlt' : ¬ (k : Int) < l.length := by omega
    have e1 : l.drop k = [] := List.drop_eq_nil_of_le (by omega)
    rw [e1] at he
    have hkl : k = l.length := by omega
    by_cases hq : k < q.length
    · have e2 : q.drop k = q[k] :: q.drop (k + 1) := List.drop_eq_getElem_cons hq
      rw [e2, lexC] at he
      have hf : ((l.length : Nat) : Int) < q.length := by omega
      repeat' (first | refine RT.nil ?_ | refine sq_n ?_ | refine Tr.seq ?_ | refine Tr.region ?_ | refine Tr.cond_f rfl ?_ | refine Tr.ret ?_ | refine Tr.exit ?_ | refine sq_x ?_ | refine blk_hit rfl ?_ | refine lp_x ?_ | (refine RT.goK rfl rfl rfl rfl ?_; first | refine Nx.of (S.lss_f hlt') ?_ | refine Nx.of (S.lss_t hf) ?_) | (refine RT.goK rfl rfl rfl rfl ?_; apply Nx.of; (first | exact S.move | exact S.assign | exact S.pick_ff)) | (refine RT.goK rfl rfl rfl rfl ?_; apply Nx.of; (first | exact S.len_sl rfl rfl rfl (by assumption))) | (refine RT.no rfl rfl rfl ?_))
      (first | refine rt_go rfl ?_)
      rw [he]
      rfl
    · have e2 : q.drop k = [] := List.drop_eq_nil_of_le (by omega)
      rw [e2, lexC] at he
      have hf : ¬ ((l.length : Nat) : Int) < q.length := by omega
      repeat' (first | refine RT.nil ?_ | refine sq_n ?_ | refine Tr.seq ?_ | refine Tr.region ?_ | refine Tr.cond_f rfl ?_ | refine Tr.ret ?_ | refine Tr.exit ?_ | refine sq_x ?_ | refine blk_hit rfl ?_ | refine lp_x ?_ | (refine RT.goK rfl rfl rfl rfl ?_; first | refine Nx.of (S.lss_f hlt') ?_ | refine Nx.of (S.lss_f hf) ?_) | (refine RT.goK rfl rfl rfl rfl ?_; apply Nx.of; (first | exact S.move | exact S.assign | exact S.pick_ff)) | (refine RT.goK rfl rfl rfl rfl ?_; apply Nx.of; (first | exact S.len_sl rfl rfl rfl (by assumption))) | (refine RT.no rfl rfl rfl ?_))
      (first | refine rt_go rfl ?_)
      rw [he]
      rfl
set_option maxRecDepth 100000 in
set_option maxHeartbeats 4000000 in
theorem Fewer_can (l q : List Nat) (hl : l.length ≤ 1000) (a1 a2 : AV) (h1 : IsSl a1 l.length 0) (h2 : IsSl a2 q.length 1) : CanS 0 Try.prog 31 2 [a1, a2] [(0, some (.ro (natV l))), (1, some (.ro (natV q)))] 2 fun v _ _ => v = .bool (decide (cmpL l q < 0)) := by
  refine CanS.mk Try.func31 rfl rfl rfl ?_
  by_cases he : ((l.length : Nat) : Int) = q.length
  · repeat' (first | refine RT.nil ?_ | refine sq_n ?_ | refine Tr.seq ?_ | refine Tr.region ?_ | refine Tr.cond_f rfl ?_ | refine Tr.skip ?_ | refine Tr.ret ?_ | (refine RT.goK rfl rfl rfl rfl ?_; first | refine Nx.of (S.len_sl rfl rfl rfl h1) ?_ | refine Nx.of (S.len_sl rfl rfl rfl h2) ?_) | (refine RT.goK rfl rfl rfl rfl ?_; first | refine Nx.of (S.neq_f he) ?_) | (refine RT.call rfl rfl rfl (CanS.here (Sooner_can l q hl _ _ h1 h2) (.bool _) _) rfl rfl (Nat.le_refl _) ?_) | (refine RT.goK rfl rfl rfl rfl ?_; apply Nx.of; (first | exact S.move | exact S.assign)))
    (first | refine rt_go rfl ?_)
    refine congrArg AV.bool (decide_eq_decide.2 ?_)
    rw [cmpL_lt]
    exact ⟨fun g => .inr ⟨by omega, g⟩, fun g => by rcases g with g | g; · omega
                                                    · exact g.2⟩
  · repeat' (first | refine RT.nil ?_ | refine sq_n ?_ | refine Tr.seq ?_ | refine Tr.region ?_ | refine Tr.cond_t rfl ?_ | refine Tr.ret ?_ | refine sq_r ?_ | (refine RT.goK rfl rfl rfl rfl ?_; first | refine Nx.of (S.len_sl rfl rfl rfl h1) ?_ | refine Nx.of (S.len_sl rfl rfl rfl h2) ?_) | (refine RT.goK rfl rfl rfl rfl ?_; first | refine Nx.of (S.neq_t he) ?_) | (refine RT.goK rfl rfl rfl rfl ?_; apply Nx.of; (first | exact S.move | exact S.assign | exact S.lss)))
    (first | refine rt_go rfl ?_)
    refine congrArg AV.bool (decide_eq_decide.2 ?_)
    rw [cmpL_lt]
    omega
/-- A list of numbers that was made empty and grows. -/
def alV (x : Nat) (L : List Nat) : AV := match L with | [] => .sl x 0 0 0 | _ :: _ => .gs x L.length
def alO (L : List Nat) : AObj := match L with | [] => .cells [] | _ :: _ => .grown (natV L) 1
theorem alV_ren (σ : Nat → Nat) {x y : Nat} (h : σ x = y) (L : List Nat) : (alV x L).ren σ = alV y L := by
  cases L with
  | nil => show AV.sl (σ x) 0 0 0 = _; rw [h]; rfl
  | cons a r => show AV.gs (σ x) _ = _; rw [h]; rfl
theorem alO_ren (σ : Nat → Nat) (L : List Nat) : (alO L).ren σ = alO L := by
  cases L with
  | nil => rfl
  | cons a r => exact natV_ren σ _ _
theorem al_wk {n c x : Nat} {l : List (Nat × AV)} {m : List (Nat × Option AObj)} {s b k : Int} {L : List Nat}
    (t0 : Go.Ev.look l 0 = some (AV.int .i64 s)) (t1 : Go.Ev.look l 1 = some (AV.int .i64 b)) (t5 : Go.Ev.look l 5 = some (alV x L)) (t6 : Go.Ev.look l 6 = some (AV.int .i64 k)) (g : lookM m x = some (alO L)) :
    Wk 0 0 0 (stL n [] l m c) (stL n [] [(0, .int .i64 s), (1, .int .i64 b), (5, alV 0 L), (6, .int .i64 k)] [(0, some (alO L))] 1) := by
  refine Wk.by (fun y => if y = 0 then x else c + y) (by decide) (by decide) (by decide) ⟨t0, t1, ?_, t6, trivial⟩ ⟨?_, trivial⟩ rfl ?_ (fun y hy => ?_) (fun y hy => ?_) (fun y hy => Nat.zero_le _)
  · exact t5.trans (congrArg some (alV_ren (x := 0) (y := x) (fun y => if y = 0 then x else c + y) rfl L).symm)
  · exact g.trans (congrArg some (alO_ren _ L).symm)
  · simp
  · show c ≤ if y = 0 then x else c + y
    rw [if_neg (by omega)]; omega
  · omega
set_option maxRecDepth 100000 in
set_option maxHeartbeats 4000000 in
theorem All_can (s : Int) (b : Nat) (hb : b ≤ 62) : CanS 0 Try.prog 29 0 [.int .i64 s, .int .i64 (b : Int)] [] 0 fun v H1 c1 => v = alV 0 (numsL s b) ∧ c1 = 1 ∧ H1.get 0 = some (alO (numsL s b)) := by
  refine CanS.mk Try.func29 rfl rfl rfl ?_
  repeat' (first | refine RT.nil ?_ | refine sq_n ?_ | refine Tr.seq ?_ | refine Tr.region ?_ | refine Tr.block ?_ | (refine RT.goK rfl rfl rfl rfl ?_; apply Nx.of; (first | exact S.assign | exact S.buildSlice0 rfl rfl rfl)))
  refine Tr.loop (fun k : Nat => stL Try.f29.ntmps [] [(0, .int .i64 s), (1, .int .i64 (b : Int)), (5, alV 0 (numsL s k)), (6, .int .i64 k)] [(0, some (alO (numsL s k)))] 1) (fun k => k ≤ b) (fun k => b - k) 0 (Nat.zero_le _) (al_wk (L := []) rfl rfl rfl rfl rfl) (fun k hk => ?_)
  have hlen := numsL_len s k
  by_cases hlt : k < b
  · have hlt' : (k : Int) < b := by omega
    by_cases hp : hasP s k
    · have hv : AV.bool (dB (hasP s k)) = .bool true := by rw [dB_tt hp]
      have e1 : numsL s (k + 1) = numsL s k ++ [k] := by rw [numsL, dB_tt hp]; rfl
      cases hl : numsL s k with
      | nil =>
        repeat' (first | refine RT.nil ?_ | refine sq_n ?_ | refine Tr.seq ?_ | refine Tr.region ?_ | refine Tr.cond_t rfl ?_ | refine Tr.skip ?_ | refine Tr.block ?_ | refine blk_n ?_ | (refine RT.goK rfl rfl rfl rfl ?_; refine Nx.of (S.lss_t hlt') ?_) | (refine RT.call rfl rfl rfl (val_is hv (In_at s k (by omega) _ _ _)) rfl rfl (Nat.le_refl _) ?_) | (refine RT.goK rfl rfl rfl rfl ?_; apply Nx.of; (first | exact S.append_e1I rfl rfl rfl rfl rfl rfl rfl rfl rfl rfl rfl rfl)) | (refine RT.goK rfl rfl rfl rfl ?_; apply Nx.of; (first | exact S.move | exact S.assign | exact S.add_one (by omega) | exact S.buildSlice rfl rfl rfl rfl rfl rfl rfl)))
        refine lp_n (k + 1) hlt (by omega) ?_
        rw [e1, hl]
        exact al_wk (x := 2) rfl rfl rfl rfl rfl
      | cons a r =>
        have hcut : cut (natV (a :: r)) 0 ((a :: r).length * 1) = some (natV (a :: r)) := cut_all (by rw [natV_len, Nat.mul_one])
        rw [hl] at hlen
        repeat' (first | refine RT.nil ?_ | refine sq_n ?_ | refine Tr.seq ?_ | refine Tr.region ?_ | refine Tr.cond_t rfl ?_ | refine Tr.skip ?_ | refine Tr.block ?_ | refine blk_n ?_ | (refine RT.goK rfl rfl rfl rfl ?_; refine Nx.of (S.lss_t hlt') ?_) | (refine RT.call rfl rfl rfl (val_is hv (In_at s k (by omega) _ _ _)) rfl rfl (Nat.le_refl _) ?_) | (refine RT.goK rfl rfl rfl rfl ?_; apply Nx.of; (first | exact S.append_gsI rfl rfl rfl rfl rfl rfl rfl rfl rfl rfl rfl rfl rfl hcut (by omega) rfl)) | (refine RT.goK rfl rfl rfl rfl ?_; apply Nx.of; (first | exact S.move | exact S.assign | exact S.add_one (by omega) | exact S.buildSlice rfl rfl rfl rfl rfl rfl rfl)))
        refine lp_n (k + 1) hlt (by omega) ?_
        rw [e1, hl]
        refine al_wk (x := 2) rfl rfl ?_ rfl ?_
        · show _ = some (AV.gs 2 ((r ++ [k]).length + 1))
          rw [List.length_append]; rfl
        · show _ = some (AObj.grown (natV ((a :: r) ++ [k])) 1)
          unfold natV
          rw [List.map_append, List.map_append]; rfl
    · have hv : AV.bool (dB (hasP s k)) = .bool false := by rw [dB_ff hp]
      have e1 : numsL s (k + 1) = numsL s k := by rw [numsL, dB_ff hp]; rfl
      repeat' (first | refine RT.nil ?_ | refine sq_n ?_ | refine Tr.seq ?_ | refine Tr.region ?_ | refine Tr.cond_t rfl ?_ | refine Tr.cond_f rfl ?_ | refine Tr.skip ?_ | refine Tr.block ?_ | refine blk_n ?_ | (refine RT.goK rfl rfl rfl rfl ?_; refine Nx.of (S.lss_t hlt') ?_) | (refine RT.call rfl rfl rfl (val_is hv (In_at s k (by omega) _ _ _)) rfl rfl (Nat.le_refl _) ?_) | (refine RT.goK rfl rfl rfl rfl ?_; apply Nx.of; (first | exact S.move | exact S.assign | exact S.add_one (by omega))))
      refine lp_n (k + 1) hlt (by omega) ?_
      rw [e1]
      exact al_wk (x := 0) rfl rfl rfl rfl rfl
  · obtain rfl : k = b := by omega
    have hlt' : ¬ (k : Int) < k := by omega
    repeat' (first | refine RT.nil ?_ | refine sq_n ?_ | refine Tr.seq ?_ | refine Tr.region ?_ | refine Tr.cond_f rfl ?_ | refine Tr.ret ?_ | refine Tr.exit ?_ | refine sq_x ?_ | refine blk_hit rfl ?_ | refine lp_x ?_ | (refine RT.goK rfl rfl rfl rfl ?_; refine Nx.of (S.lss_f hlt') ?_) | (refine RT.goK rfl rfl rfl rfl ?_; apply Nx.of; (first | exact S.move | exact S.assign)))
    (first | refine rt_go rfl ?_)
    exact ⟨rfl, rfl, getM rfl⟩
theorem All_at (s : Int) (b : Nat) (hb : b ≤ 62) {m : List (Nat × Option AObj)} {c : Nat} (hm : ∀ x o, lookM m x = some o → x < c) (fl : Nat) : OkAt 0 Try.prog fl 29 [.int .i64 s, .int .i64 (b : Int)] (ofM m) c (alV c (numsL s b)) (ofM ((c, some (alO (numsL s b))) :: m)) (c + 1) := by
  have := CanS.fresh (H' := ofM ((c, some (alO (numsL s b))) :: m)) (k := 1) (v0 := alV 0 (numsL s b)) (All_can s b hb) (Entry.plain (H := ofM m) (c := c) (fun _ => rfl)) (fun v1 H1 c1 ⟨g1, g2, g3⟩ => ?_) fl
  · rw [alV_ren _ rfl] at this
    exact this
  · refine ⟨by rw [g1, alV_ren _ rfl], g2, fun x o hx => ?_⟩
    rw [ofM_get] at hx
    by_cases e1 : x = c
    · subst e1
      rw [lookM_hd] at hx
      cases hx
      exact .inr ⟨0, alO (numsL s b), rfl, by rw [alO_ren]; exact g3, (alO_ren _ _).symm⟩
    · rw [lookM_tl e1] at hx
      exact .inl ⟨hm x o hx, getM hx⟩

theorem lookM_app {ms g : List (Nat × Option AObj)} {x : Nat} {o : AObj} (h : lookM (ms ++ g) x = some o) : lookM ms x = some o ∨ lookM g x = some o := by
  induction ms with
  | nil => exact .inr h
  | cons e ms ih =>
    obtain ⟨y, ob⟩ := e
    rw [List.cons_append, lookM, Bool.cond_eq_ite] at h
    rw [lookM, Bool.cond_eq_ite]
    split at h
    · rename_i hy
      rw [if_pos hy]; exact .inl h
    · rename_i hy
      rw [if_neg hy]; exact ih h
def swT (a : Nat) (j : Nat) : Nat := if j = 0 then a else if j = a then 0 else j
theorem swT_inj {a : Nat} (i j : Nat) (h : swT a i = swT a j) : i = j := by
  unfold swT at h
  (repeat' split at h) <;> omega
/-- A window on a list of numbers, and its value seen through it. -/
structure Lw (m : List (Nat × Option AObj)) (v : AV) (L : List Nat) : Prop where
  ex : ∃ w : Wnd, (∃ o, (ofM m).get w.1 = some o ∧ (natV L = [] ∨ ∃ ca, cellsOf o = some ca ∧ cut ca w.2.1 (natV L).length = some (natV L))) ∧ ∀ (W : List Wnd) (i : Nat), W[i]? = some w → ∃ a, ArgW W v a ∧ IsSl a L.length i
theorem Lw.fu {m : List (Nat × Option AObj)} {x z : Nat} {L : List Nat} (hx : LiesF m x L) (hz : ∃ o, lookM m z = some o) : Lw m (fuV x L) L := ⟨winF x z L, winF_ok hx hz, fun W i h => ⟨argF i L, argF_w h, argF_is i L⟩⟩
theorem Lw.al {m : List (Nat × Option AObj)} {x : Nat} {L : List Nat} (hx : lookM m x = some (alO L)) : Lw m (alV x L) L := by
  cases L with
  | nil => exact ⟨(x, 0, some 0), ⟨_, getM hx, .inl rfl⟩, fun W i h => ⟨.gs i 0, ArgW.sl h (Nat.le_refl _), IsSl.gs i 0⟩⟩
  | cons a r => exact ⟨(x, 0, none), ⟨_, getM hx, .inr ⟨_, rfl, cut_all rfl⟩⟩, fun W i h => ⟨.gs i (a :: r).length, ArgW.gs h, IsSl.gs i _⟩⟩
theorem Rising_at {m : List (Nat × Option AObj)} {c : Nat} {v : AV} {L : List Nat} (h : Lw m v L) (hl : L.length ≤ 1000) {n : Nat} (hr : RisL L n) (fl : Nat) : OkAt 0 Try.prog fl 28 [v, .int .i64 (n : Int)] (ofM m) c (.bool true) (ofM m) c := by
  obtain ⟨w, hw, ha⟩ := h.ex
  obtain ⟨a, h1, h2⟩ := ha [w] 0 rfl
  exact (Rising_can L a h2 hl n hr).pure (.bool _) (Entry.win (W := [w]) (CS := [natV L]) rfl ⟨hw, pls_nat L, trivial⟩ (show ArgsW [w] [v, .int .i64 (n : Int)] [a, .int .i64 (n : Int)] from ⟨h1, .pl (.int _ _), trivial⟩)) fl
theorem Fewer_at {m : List (Nat × Option AObj)} {c : Nat} {v u : AV} {L Q : List Nat} (h : Lw m v L) (k : Lw m u Q) (hl : L.length ≤ 1000) (fl : Nat) : OkAt 0 Try.prog fl 31 [v, u] (ofM m) c (.bool (decide (cmpL L Q < 0))) (ofM m) c := by
  obtain ⟨w, hw, ha⟩ := h.ex
  obtain ⟨x, hx, hb⟩ := k.ex
  obtain ⟨a, h1, h2⟩ := ha [w, x] 0 rfl
  obtain ⟨b, k1, k2⟩ := hb [w, x] 1 rfl
  exact (Fewer_can L Q hl a b h2 k2).pure (.bool _) (Entry.win (W := [w, x]) (CS := [natV L, natV Q]) rfl ⟨hw, pls_nat L, hx, pls_nat Q, trivial⟩ (show ArgsW [w, x] [v, u] [a, b] from ⟨h1, k1, trivial⟩)) fl
end Go.Proofs.Ytpneoeoimdfjaaa

/- Package roll: Wrong, for a book whose lists lie anywhere; a book without some of its looks: where it lies. -/
namespace Go.Proofs.Ytpneoeoimdfjaaa
open Go Go.Ev

theorem winR_le (ρ : Rho) (W X : List Wnd) : RLe (winR ρ W) (winR ρ (W ++ X)) := fun y p h => by
  rcases Nat.lt_or_ge y W.length with hy | hy
  · simp only [winR, List.getElem?_append_left hy] at h ⊢
    exact h
  · simp [winR, List.getElem?_eq_none_iff.2 hy] at h
theorem ArgW.more {W : List Wnd} (X : List Wnd) {v v0 : AV} (h : ArgW W v v0) : ArgW (W ++ X) v v0 := fun ρ u hf hv => (h ρ u hf hv).mono (winR_le ρ W X)
/-- Where the list of the looks that must be wrong lies, from the first new name on. -/
noncomputable def wrO (B : RBook) : Nat := 3 + (fwN (fwE B) - 5)
theorem wrO_is (B : RBook) : wrO B = 5 ∨ wrO B = 9 := by
  unfold wrO fwN
  split
  · exact .inr rfl
  · exact .inl rfl
theorem BkX.four {B : RBook} {v1 v2 v3 : AV} {m : List (Nat × Option AObj)} {c : Nat} (h : BkX B v1 v2 v3 m c) : ∃ (a1 a2 a3 : AV), IsSl a1 B.nl 0 ∧ IsSl a2 B.nd 1 ∧ IsSl a3 B.nk 2 ∧ Entry 0 (ofM m) c [bk B v1 v2 v3] [(0, some (oLa B)), (1, some (oDa B)), (2, some (oLo B)), (3, some (oLo (ncB B)))] 4 [bk B a1 a2 a3] := by
  obtain ⟨W, a1, a2, a3, hl, hw, g1, g2, g3, i1, i2, i3⟩ := h.ex
  match W, hl with
  | [(x0, o0, p0), (x1, o1, p1), (x2, o2, p2)], _ =>
    have hw2 := hw
    obtain ⟨⟨ob, k1, _⟩, _⟩ := hw
    refine ⟨a1, a2, a3, i1, i2, i3, ?_⟩
    have q1 := ArgW.more [(x0, 0, none)] g1
    have q2 := ArgW.more [(x0, 0, none)] g2
    have q3 := ArgW.more [(x0, 0, none)] g3
    exact Entry.win (W := [(x0, o0, p0), (x1, o1, p1), (x2, o2, p2), (x0, 0, none)]) (CS := [flat (laE B) (List.range B.nl), flat (daE B) (List.range B.nd), flat (loE B) (List.range B.nk), []]) rfl
      ⟨hw2.1, hw2.2.1, hw2.2.2.1, hw2.2.2.2.1, hw2.2.2.2.2.1, hw2.2.2.2.2.2.1, ⟨ob, k1, .inl rfl⟩, Pls.nil, trivial⟩
      ⟨ArgW.agg (show ArgsW _ [v1, v2, v3] [a1, a2, a3] from ⟨q1, q2, q3, trivial⟩), trivial⟩
theorem Wrong_w {B : RBook} {v1 v2 v3 : AV} {m : List (Nat × Option AObj)} {c : Nat} (h : BkX B v1 v2 v3 m c) (hm : ∀ x o, lookM m x = some o → x < c) (hn : B.nd ≤ 9223372036854775807) (hB : bkOk B) (fl : Nat) :
    OkAt 0 Try.prog fl 27 [bk B v1 v2 v3] (ofM m) c (.tup [fuV c (wrongL B), .int .i64 0]) (ofM (m ++ grM c (wrongL B))) (c + 10) := by
  obtain ⟨a1, a2, a3, i1, i2, i3, he⟩ := h.four
  have e0 : ∀ (σ : Nat → Nat) (x : Nat), (AV.tup [fuV x (wrongL B), .int .i64 0]).ren σ = .tup [fuV (σ x) (wrongL B), .int .i64 0] := fun σ x => by
    show AV.tup [(fuV x (wrongL B)).ren σ, .int .i64 0] = _
    rw [fu_ren σ rfl]
  have hw := wrO_is B
  have := CanS.freshT (swT (wrO B)) (H' := ofM (m ++ grM c (wrongL B))) (k := 10) (v0 := .tup [fuV 0 (wrongL B), .int .i64 0]) (Wrong_yes B a1 a2 a3 i1 i2 i3 hn hB) (fun j hj => by unfold swT; (repeat' split) <;> omega) swT_inj he (fun v1 H1 c1 ⟨g1, g2, g3⟩ => ?_) fl
  · rw [e0] at this
    exact this
  · have hw2 : 7 + (fwN (fwE B) - 5) = 4 + wrO B := by unfold wrO; omega
    rw [hw2] at g1 g3
    have s0 : swT (wrO B) 0 = wrO B := rfl
    refine ⟨by rw [g1, e0, s0], by omega, fun x o hx => ?_⟩
    rw [ofM_get] at hx
    rcases lookM_app hx with k | k
    · exact .inl ⟨hm x o k, getM k⟩
    · generalize wrongL B = L at g3 k
      cases L with
      | nil => cases k
      | cons a r =>
        replace k : lookM ((c, some (.grown (natV (a :: r)) 1)) :: []) x = some o := k
        by_cases e1 : x = c
        · subst e1
          rw [lookM_hd] at k
          cases k
          exact .inr ⟨0, .grown (natV (a :: r)) 1, rfl, by rw [natV_ren, s0]; exact g3 (by simp), (natV_ren _ _ _).symm⟩
        · rw [lookM_tl e1] at k
          cases k

theorem Wrong_xn {B : RBook} {v1 v2 v3 : AV} {m : List (Nat × Option AObj)} {c : Nat} (h : BkX B v1 v2 v3 m c) (hn : B.nd ≤ 9223372036854775807) (hB : ¬ bkOk B) (fl : Nat) :
    OkAt 0 Try.prog fl 27 [bk B v1 v2 v3] (ofM m) c (.tup [.nils, .int .i64 70]) (ofM m) c :=
  h.use [] .nil (fun _ => rfl) (fun a1 a2 a3 i1 i2 i3 => Wrong_no B a1 a2 a3 i1 i2 i3 hn hB) fl
theorem bk_one {B : RBook} {a1 a2 a3 : AV} (h1 : IsSl a1 B.nl 0) (h2 : IsSl a2 B.nd 1) (h3 : IsSl a3 B.nk 2) : ((bk B a1 a2 a3).cells.all AV.one) = true := by
  simp only [bk, AV.cells, List.all_cons, List.all_nil, h1.one.1, h2.one.1, h3.one.1]
  rfl
/-- The numbers below one that are not of a list. -/
noncomputable def kpL (L : List Nat) (k : Nat) : List Nat := (List.range k).filter fun i => dB (i ∉ L)
theorem kpL_t {L : List Nat} {k : Nat} (h : k ∉ L) : kpL L (k + 1) = kpL L k ++ [k] := by
  unfold kpL
  rw [List.range_succ, List.filter_append, List.filter_cons_of_pos (by exact dB_tt h)]; rfl
theorem kpL_f {L : List Nat} {k : Nat} (h : k ∈ L) : kpL L (k + 1) = kpL L k := by
  unfold kpL
  rw [List.range_succ, List.filter_append, List.filter_cons_of_neg (by rw [dB_ff (fun q => q h)]; decide)]; simp
theorem kpL_len (L : List Nat) (k : Nat) : (kpL L k).length ≤ k := by
  have := List.length_filter_le (fun i => dB (i ∉ L)) (List.range k)
  rwa [List.length_range] at this
def kpM (B : RBook) (x : Nat) (K : List Nat) : List (Nat × Option AObj) := match K with | [] => [] | _ :: _ => [(x, some (.grown (flat (loE B) K) 2))]
def zbk : RBook := ⟨0, fun _ => 0, fun _ => 0, 0, fun _ => 0, fun _ => 0, fun _ => 0, 0, fun _ => 0, fun _ => 0⟩
theorem grV_ren (σ : Nat → Nat) {x y : Nat} (h : σ x = y) (L : List Nat) : (grV x L).ren σ = grV y L := by
  cases L with
  | nil => rfl
  | cons a r => show AV.gs (σ x) _ = _; rw [h]; rfl
theorem grV_one (x : Nat) (L : List Nat) : (grV x L).one = true := by cases L <;> rfl
theorem bkr_one {B : RBook} {a1 a2 : AV} {x : Nat} {K : List Nat} (h1 : IsSl a1 B.nl 0) (h2 : IsSl a2 B.nd 1) : ((bk B a1 a2 (grV x K)).cells.all AV.one) = true := by
  simp only [bk, AV.cells, List.all_cons, List.all_nil, h1.one.1, h2.one.1, grV_one]
  rfl
theorem bkr_ren {B : RBook} {a1 a2 : AV} {x y : Nat} {K : List Nat} (h1 : IsSl a1 B.nl 0) (h2 : IsSl a2 B.nd 1) {σ : Nat → Nat} (e1 : σ 0 = 0) (e2 : σ 1 = 1) (e3 : σ x = y) : (AObj.cells (bk B a1 a2 (grV x K)).cells).ren σ = .cells (bk B a1 a2 (grV y K)).cells := by simp only [bk, AObj.ren, AV.cells, AV.ren, AV.rens, h1.ren e1, h2.ren e2, grV_ren σ e3]
theorem argW_sl {v : AV} {n x : Nat} (h : IsSl v n x) : ∃ a, ArgW [(x, 0, none)] v a ∧ IsSl a n 0 := by
  rcases h with rfl | ⟨rfl, rfl⟩
  · exact ⟨.gs 0 n, .gs rfl, .gs 0 n⟩
  · exact ⟨.nils, .pl Pl.nils, .nils 0⟩
theorem wo_wk {B : RBook} {a1 a2 a3 lv : AV} {L : List Nat} (h1 : IsSl a1 B.nl 0) (h2 : IsSl a2 B.nd 1) (h3 : IsSl a3 B.nk 2) (hL : IsSl lv L.length 3) {n c x : Nat} {l : List (Nat × AV)} {m : List (Nat × Option AObj)} {k : Int} {K : List Nat} (hx : 7 ≤ x) (hc : 7 ≤ c)
    (t1 : Go.Ev.look l 1 = some lv) (t2 : Go.Ev.look l 2 = some (.ptr 4 0)) (t4 : Go.Ev.look l 4 = some (.ptr 5 0)) (t5 : Go.Ev.look l 5 = some (.ptr 6 0)) (t6 : Go.Ev.look l 6 = some (AV.int .i64 k))
    (g6 : lookM m 6 = some (.cells (bk B a1 a2 (grV x K)).cells)) (g5 : lookM m 5 = some (.cells (bk zbk .nils .nils .nils).cells)) (g4 : lookM m 4 = some (.cells (bk B a1 a2 a3).cells)) (g0 : lookM m 0 = some (oLa B)) (g1 : lookM m 1 = some (oDa B)) (g2 : lookM m 2 = some (oLo B)) (g3 : lookM m 3 = some (.ro (natV L))) (gK : K ≠ [] → lookM m x = some (.grown (flat (loE B) K) 2)) :
    Wk 0 4 4 (stL n [] l m c) (stL n [] [(1, lv), (2, .ptr 4 0), (4, .ptr 5 0), (5, .ptr 6 0), (6, .int .i64 k)] ([(6, some (.cells (bk B a1 a2 (grV 7 K)).cells)), (5, some (.cells (bk zbk .nils .nils .nils).cells)), (4, some (.cells (bk B a1 a2 a3).cells)), (0, some (oLa B)), (1, some (oDa B)), (2, some (oLo B)), (3, some (.ro (natV L)))] ++ kpM B 7 K) 8) := by
  let σ : Nat → Nat := fun y => if y < 7 then y else if y = 7 then x else c + y
  have s7 : σ 7 = x := rfl
  have hm : allM (fun y o => lookM m (σ y) = some (o.ren σ)) ([(6, some (.cells (bk B a1 a2 (grV 7 K)).cells)), (5, some (.cells (bk zbk .nils .nils .nils).cells)), (4, some (.cells (bk B a1 a2 a3).cells)), (0, some (oLa B)), (1, some (oDa B)), (2, some (oLo B)), (3, some (.ro (natV L)))] ++ kpM B 7 K) := by
    have hk : allM (fun y o => lookM m (σ y) = some (o.ren σ)) (kpM B 7 K) := by
      cases K with
      | nil => trivial
      | cons a r => exact ⟨(gK (by simp)).trans (congrArg some (ren_grown _ σ _ _).symm), trivial⟩
    exact ⟨g6.trans (congrArg some (bkr_ren (σ := σ) h1 h2 rfl rfl s7).symm), g5.trans rfl, g4.trans (congrArg some (bkc_ren (σ := σ) h1 h2 h3 rfl rfl rfl).symm), g0.trans (congrArg some (ren_ro _ σ _).symm), g1.trans (congrArg some (ren_ro _ σ _).symm), g2.trans (congrArg some (ren_ro _ σ _).symm), g3.trans (congrArg some (roN_ren σ _).symm), hk⟩
  refine Wk.by σ (by decide) (by decide) (by decide) ⟨t1.trans (congrArg some (hL.ren (σ := σ) rfl).symm), t2, t4, t5, t6, trivial⟩ hm rfl (fun u hu v hv huv e => ?_) (fun u hu => ?_) (fun u hu => ?_) (fun u hu => ?_)
  · have low : ∀ u, u ∈ ([(6, some (.cells (bk B a1 a2 (grV 7 K)).cells)), (5, some (.cells (bk zbk .nils .nils .nils).cells)), (4, some (.cells (bk B a1 a2 a3).cells)), (0, some (oLa B)), (1, some (oDa B)), (2, some (oLo B)), (3, some (.ro (natV L)))] ++ kpM B 7 K : List (Nat × Option AObj)).map (fun e => e.1) → u < 8 := fun u hu => by
      cases K <;> simp [kpM] at hu <;> omega
    have q1 := low u hu
    have q2 := low v hv
    simp only [σ] at e
    (repeat' split at e) <;> omega
  all_goals (simp only [σ]; (repeat' split) <;> omega)
set_option maxRecDepth 100000 in
set_option maxHeartbeats 4000000 in
theorem without_can (B : RBook) (a1 a2 a3 lv : AV) (L : List Nat) (h1 : IsSl a1 B.nl 0) (h2 : IsSl a2 B.nd 1) (h3 : IsSl a3 B.nk 2) (hL : IsSl lv L.length 3) (hnc : B.nk ≤ 4) (hlL : L.length ≤ 1000) : CanS 0 Try.prog 30 4 [bk B a1 a2 a3, lv] [(0, some (oLa B)), (1, some (oDa B)), (2, some (oLo B)), (3, some (.ro (natV L)))] 4 fun v H1 c1 => v = bk B a1 a2 (grV 7 (kpL L B.nk)) ∧ c1 = 8 ∧ (kpL L B.nk ≠ [] → H1.get 7 = some (.grown (flat (loE B) (kpL L B.nk)) 2)) := by
  refine CanS.mk Try.func30 rfl rfl rfl ?_
  repeat' (first | refine RT.nil ?_ | refine sq_n ?_ | refine Tr.seq ?_ | refine Tr.region ?_ | refine Tr.block ?_ | (refine RT.goK rfl rfl rfl rfl ?_; apply Nx.of; (first | exact S.assign | exact S.loadNc rfl rfl rfl rfl | exact S.fieldAddr rfl rfl rfl | exact S.box | exact S.alloc rfl)) | (refine RT.goK0 rfl rfl rfl ?_; apply Nx.of; (first | exact S.store rfl rfl rfl rfl rfl rfl | exact S.store rfl rfl (bk_one h1 h2 h3) rfl rfl rfl)))
  refine Tr.loop (fun k : Nat => stL Try.f30.ntmps [] [(1, lv), (2, .ptr 4 0), (4, .ptr 5 0), (5, .ptr 6 0), (6, .int .i64 k)] ([(6, some (.cells (bk B a1 a2 (grV 7 (kpL L k))).cells)), (5, some (.cells (bk zbk .nils .nils .nils).cells)), (4, some (.cells (bk B a1 a2 a3).cells)), (0, some (oLa B)), (1, some (oDa B)), (2, some (oLo B)), (3, some (.ro (natV L)))] ++ kpM B 7 (kpL L k)) 8) (fun k => k ≤ B.nk) (fun k => B.nk - k) 0 (Nat.zero_le _) ?_ (fun k hk => ?_)
  · exact wo_wk h1 h2 h3 hL (K := []) (x := 7) (by decide) (by decide) rfl rfl rfl rfl rfl rfl rfl rfl rfl rfl rfl rfl (fun h => absurd rfl h)
  have hlen := kpL_len L k
  obtain ⟨av, hA, hAs⟩ := argW_sl hL
  have hAr : ArgsW [(3, 0, none)] [lv, .int .i64 (k : Int)] [av, .int .i64 (k : Int)] := ⟨hA, .pl (.int _ _), trivial⟩
  by_cases hlt : k < B.nk
  · have hlt' : (k : Int) < B.nk := by omega
    by_cases hp : k ∈ L
    · have hn0 : ¬ plV L k < 0 := fun q => plV_neg.1 q hp
      have e1 := kpL_f hp
      cases hl : kpL L k with
      | nil =>
        repeat' (first | refine RT.nil ?_ | refine sq_n ?_ | refine Tr.seq ?_ | refine Tr.region ?_ | refine Tr.cond_t rfl ?_ | refine Tr.cond_f rfl ?_ | refine Tr.skip ?_ | refine Tr.block ?_ | refine blk_n ?_ | (refine RT.goK rfl rfl rfl rfl ?_; first | refine Nx.of (S.lss_t hlt') ?_ | refine Nx.of (S.lss_f hn0) ?_) | (refine RT.call rfl rfl rfl ((Place_can L av hAs hlL k).pure (.int _ _) (Entry.win (W := [(3, 0, none)]) (CS := [natV L]) rfl ⟨⟨_, getM rfl, .inr ⟨_, rfl, cut_all rfl⟩⟩, pls_nat L, trivial⟩ hAr) _) rfl rfl (Nat.le_refl _) ?_) | (refine RT.goK rfl rfl rfl rfl ?_; apply Nx.of; (first | exact S.move | exact S.assign | exact S.load1c rfl rfl rfl rfl | exact S.fieldAddr rfl rfl rfl | exact S.add_one (by omega))) | (refine RT.goK rfl rfl rfl rfl ?_; apply Nx.of; (first | exact S.len_sl rfl rfl rfl (by assumption))))
        refine lp_n (k + 1) hlt (by omega) ?_
        rw [e1, hl]
        exact wo_wk h1 h2 h3 hL (K := []) (x := 7) (by decide) (by decide) rfl rfl rfl rfl rfl rfl rfl rfl rfl rfl rfl rfl (fun h => absurd rfl h)
      | cons a r =>
        repeat' (first | refine RT.nil ?_ | refine sq_n ?_ | refine Tr.seq ?_ | refine Tr.region ?_ | refine Tr.cond_t rfl ?_ | refine Tr.cond_f rfl ?_ | refine Tr.skip ?_ | refine Tr.block ?_ | refine blk_n ?_ | (refine RT.goK rfl rfl rfl rfl ?_; first | refine Nx.of (S.lss_t hlt') ?_ | refine Nx.of (S.lss_f hn0) ?_) | (refine RT.call rfl rfl rfl ((Place_can L av hAs hlL k).pure (.int _ _) (Entry.win (W := [(3, 0, none)]) (CS := [natV L]) rfl ⟨⟨_, getM rfl, .inr ⟨_, rfl, cut_all rfl⟩⟩, pls_nat L, trivial⟩ hAr) _) rfl rfl (Nat.le_refl _) ?_) | (refine RT.goK rfl rfl rfl rfl ?_; apply Nx.of; (first | exact S.move | exact S.assign | exact S.load1c rfl rfl rfl rfl | exact S.fieldAddr rfl rfl rfl | exact S.add_one (by omega))) | (refine RT.goK rfl rfl rfl rfl ?_; apply Nx.of; (first | exact S.len_sl rfl rfl rfl (by assumption))))
        refine lp_n (k + 1) hlt (by omega) ?_
        rw [e1, hl]
        exact wo_wk h1 h2 h3 hL (K := a :: r) (x := 7) (by decide) (by decide) rfl rfl rfl rfl rfl rfl rfl rfl rfl rfl rfl rfl (fun _ => rfl)
    · have hn1 : plV L k < 0 := plV_neg.2 hp
      have e1 := kpL_t hp
      cases hl : kpL L k with
      | nil =>
        repeat' (first | refine RT.nil ?_ | refine sq_n ?_ | refine Tr.seq ?_ | refine Tr.region ?_ | refine Tr.cond_t rfl ?_ | refine Tr.skip ?_ | refine Tr.block ?_ | (refine RT.goK rfl rfl rfl rfl ?_; first | refine Nx.of (S.lss_t hlt') ?_ | refine Nx.of (S.lss_t hn1) ?_) | (refine RT.call rfl rfl rfl ((Place_can L av hAs hlL k).pure (.int _ _) (Entry.win (W := [(3, 0, none)]) (CS := [natV L]) rfl ⟨⟨_, getM rfl, .inr ⟨_, rfl, cut_all rfl⟩⟩, pls_nat L, trivial⟩ hAr) _) rfl rfl (Nat.le_refl _) ?_) | (refine RT.goK rfl rfl rfl rfl ?_; apply Nx.of; (first | exact S.move | exact S.load1c rfl rfl rfl rfl | exact S.fieldAddr rfl rfl rfl)) | (refine RT.goK rfl rfl rfl rfl ?_; apply Nx.of; (first | exact S.len_sl rfl rfl rfl (by assumption))))
        refine Tr.openK un30_7 (by kernel_rfl) (by kernel_rfl) noCall noCall_calm ?_
        repeat' (first | (refine RD.wide rfl rfl rfl rfl rfl rfl rfl rfl ?_; (first | refine Nx.of (S.append_nil rfl rfl rfl rfl rfl rfl rfl rfl rfl rfl rfl) ⟨rfl, ?_⟩)) | (refine RD.free rfl rfl rfl rfl rfl rfl ?_; apply Nx.of; (first | exact S.move | exact S.fieldAddr rfl rfl rfl | exact S.idx_sl rfl rfl rfl (by assumption) (by omega))) | (refine RD.new rfl rfl rfl rfl rfl rfl ?_; apply Nx.of; (first | exact S.buildSlice rfl rfl rfl rfl rfl rfl rfl)) | (refine RD.load rfl rfl rfl rfl rfl rfl rfl rfl ?_; apply Nx.of; (first | exact S.load1c rfl rfl rfl rfl | exact S.rowN0 rfl rfl rfl (fun _ => rfl) (range_at (by omega)) rfl)) | (refine RD.store rfl rfl rfl rfl rfl rfl rfl ?_; apply Nx.of; (first | exact S.store rfl rfl rfl rfl rfl rfl)) | refine RD.nil ⟨Nat.le_of_ble_eq_true rfl, ?_⟩)
        repeat' (first | refine RT.nil ?_ | refine sq_n ?_ | refine Tr.region ?_ | refine blk_n ?_ | (refine RT.goK rfl rfl rfl rfl ?_; apply Nx.of; (first | exact S.move | exact S.assign | exact S.add_one (by omega))))
        refine lp_n (k + 1) hlt (by omega) ?_
        rw [e1, hl]
        exact wo_wk h1 h2 h3 hL (K := [k]) (x := 9) (by decide) (by decide) rfl rfl rfl rfl rfl rfl rfl rfl rfl rfl rfl rfl (fun _ => rfl)
      | cons a r =>
        have hcut : cut (flat (loE B) (a :: r)) 0 ((a :: r).length * 2) = some (flat (loE B) (a :: r)) := cut_all (by rw [flat_len (s := 2) (fun _ => rfl)])
        rw [hl] at hlen
        repeat' (first | refine RT.nil ?_ | refine sq_n ?_ | refine Tr.seq ?_ | refine Tr.region ?_ | refine Tr.cond_t rfl ?_ | refine Tr.skip ?_ | refine Tr.block ?_ | (refine RT.goK rfl rfl rfl rfl ?_; first | refine Nx.of (S.lss_t hlt') ?_ | refine Nx.of (S.lss_t hn1) ?_) | (refine RT.call rfl rfl rfl ((Place_can L av hAs hlL k).pure (.int _ _) (Entry.win (W := [(3, 0, none)]) (CS := [natV L]) rfl ⟨⟨_, getM rfl, .inr ⟨_, rfl, cut_all rfl⟩⟩, pls_nat L, trivial⟩ hAr) _) rfl rfl (Nat.le_refl _) ?_) | (refine RT.goK rfl rfl rfl rfl ?_; apply Nx.of; (first | exact S.move | exact S.load1c rfl rfl rfl rfl | exact S.fieldAddr rfl rfl rfl)) | (refine RT.goK rfl rfl rfl rfl ?_; apply Nx.of; (first | exact S.len_sl rfl rfl rfl (by assumption))))
        refine Tr.openK un30_7 (by kernel_rfl) (by kernel_rfl) noCall noCall_calm ?_
        repeat' (first | (refine RD.wide rfl rfl rfl rfl rfl rfl rfl rfl ?_; (first | refine Nx.of (S.append_gs rfl rfl rfl rfl rfl rfl rfl rfl rfl rfl rfl rfl rfl hcut (by omega) rfl) ⟨rfl, ?_⟩)) | (refine RD.free rfl rfl rfl rfl rfl rfl ?_; apply Nx.of; (first | exact S.move | exact S.fieldAddr rfl rfl rfl | exact S.idx_sl rfl rfl rfl (by assumption) (by omega))) | (refine RD.new rfl rfl rfl rfl rfl rfl ?_; apply Nx.of; (first | exact S.buildSlice rfl rfl rfl rfl rfl rfl rfl)) | (refine RD.load rfl rfl rfl rfl rfl rfl rfl rfl ?_; apply Nx.of; (first | exact S.load1c rfl rfl rfl rfl | exact S.rowN0 rfl rfl rfl (fun _ => rfl) (range_at (by omega)) rfl)) | (refine RD.store rfl rfl rfl rfl rfl rfl rfl ?_; apply Nx.of; (first | exact S.store rfl rfl rfl rfl rfl rfl)) | refine RD.nil ⟨Nat.le_of_ble_eq_true rfl, ?_⟩)
        repeat' (first | refine RT.nil ?_ | refine sq_n ?_ | refine Tr.region ?_ | refine blk_n ?_ | (refine RT.goK rfl rfl rfl rfl ?_; apply Nx.of; (first | exact S.move | exact S.assign | exact S.add_one (by omega))))
        refine lp_n (k + 1) hlt (by omega) ?_
        rw [e1, hl]
        refine wo_wk h1 h2 h3 hL (K := (a :: r) ++ [k]) (x := 9) (by decide) (by decide) rfl rfl rfl rfl rfl ?_ rfl rfl rfl rfl rfl rfl (fun _ => ?_)
        · show _ = some (AObj.cells (bk B a1 a2 (.gs 9 ((r ++ [k]).length + 1))).cells)
          rw [List.length_append]; rfl
        · rw [flat_append]; rfl
  · obtain rfl : k = B.nk := by omega
    have hlt' : ¬ (B.nk : Int) < B.nk := by omega
    cases hl : kpL L B.nk with
    | nil =>
      repeat' (first | refine RT.nil ?_ | refine sq_n ?_ | refine Tr.seq ?_ | refine Tr.region ?_ | refine Tr.cond_f rfl ?_ | refine Tr.ret ?_ | refine Tr.exit ?_ | refine sq_x ?_ | refine blk_hit rfl ?_ | refine lp_x ?_ | (refine RT.goK rfl rfl rfl rfl ?_; first | refine Nx.of (S.lss_f hlt') ?_) | (refine RT.goK rfl rfl rfl rfl ?_; apply Nx.of; (first | exact S.move | exact S.load1c rfl rfl rfl rfl | exact S.loadNc rfl rfl rfl rfl | exact S.fieldAddr rfl rfl rfl)) | (refine RT.goK0 rfl rfl rfl ?_; apply Nx.of; (first | exact S.store rfl rfl (bkr_one h1 h2) rfl rfl rfl)) | (refine RT.goK rfl rfl rfl rfl ?_; apply Nx.of; (first | exact S.len_sl rfl rfl rfl (by assumption))))
      (first | refine rt_go rfl ?_)
      exact ⟨rfl, rfl, fun h => absurd rfl h⟩
    | cons a r =>
      repeat' (first | refine RT.nil ?_ | refine sq_n ?_ | refine Tr.seq ?_ | refine Tr.region ?_ | refine Tr.cond_f rfl ?_ | refine Tr.ret ?_ | refine Tr.exit ?_ | refine sq_x ?_ | refine blk_hit rfl ?_ | refine lp_x ?_ | (refine RT.goK rfl rfl rfl rfl ?_; first | refine Nx.of (S.lss_f hlt') ?_) | (refine RT.goK rfl rfl rfl rfl ?_; apply Nx.of; (first | exact S.move | exact S.load1c rfl rfl rfl rfl | exact S.loadNc rfl rfl rfl rfl | exact S.fieldAddr rfl rfl rfl)) | (refine RT.goK0 rfl rfl rfl ?_; apply Nx.of; (first | exact S.store rfl rfl (bkr_one h1 h2) rfl rfl rfl)) | (refine RT.goK rfl rfl rfl rfl ?_; apply Nx.of; (first | exact S.len_sl rfl rfl rfl (by assumption))))
      (first | refine rt_go rfl ?_)
      exact ⟨rfl, rfl, fun _ => getM rfl⟩
theorem without_at {B : RBook} {a1 a2 a3 lv : AV} {m : List (Nat × Option AObj)} {c : Nat} {L : List Nat} (h : BkIn B a1 a2 a3 m c) (hm : ∀ x o, lookM m x = some o → x < c) (hL : Lw m lv L) (hnc : B.nk ≤ 4) (hlL : L.length ≤ 1000) (fl : Nat) :
    OkAt 0 Try.prog fl 30 [bk B a1 a2 a3, lv] (ofM m) c (bk B a1 a2 (grV (c + 3) (kpL L B.nk))) (ofM (m ++ kpM B (c + 3) (kpL L B.nk))) (c + 4) := by
  obtain ⟨w, hw, ha⟩ := hL.ex
  have hc := h.hc
  obtain ⟨a, k1, k2⟩ := ha [(0, 0, none), (1, 0, none), (2, 0, none), w] 3 rfl
  have e0 : ∀ (σ : Nat → Nat), σ 0 = 0 → σ 1 = 1 → ∀ x, (bk B a1 a2 (grV x (kpL L B.nk))).ren σ = bk B a1 a2 (grV (σ x) (kpL L B.nk)) := fun σ h0 h1 x => by simp only [bk, AV.ren, AV.rens, h.h1.ren h0, h.h2.ren h1, grV_ren σ rfl]
  have sl : ∀ {v : AV} {n x i : Nat}, IsSl v n x → [((0, 0, none) : Wnd), (1, 0, none), (2, 0, none), w][x]? = some (x, 0, none) → ArgW [(0, 0, none), (1, 0, none), (2, 0, none), w] v v := fun {v n x i} hi hx => by
    rcases hi with rfl | ⟨rfl, rfl⟩
    · exact ArgW.gs hx
    · exact .pl Pl.nils
  have := CanS.freshD 3 (H' := ofM (m ++ kpM B (c + 3) (kpL L B.nk))) (k := 4) (v0 := bk B a1 a2 (grV 6 (kpL L B.nk))) (without_can B a1 a2 a3 a L h.h1 h.h2 h.h3 k2 hnc hlL) hc (by decide) (args := [bk B a1 a2 a3, lv]) (H := ofM m) (fun ρ w' us hH hv => by
    have := Entry.windows (W := [(0, 0, none), (1, 0, none), (2, 0, none), w]) (CS := [flat (laE B) (List.range B.nl), flat (daE B) (List.range B.nd), flat (loE B) (List.range B.nk), natV L]) rfl
      ⟨⟨_, getM h.m1, .inr ⟨_, rfl, cut_all rfl⟩⟩, pls_flat _ _, ⟨_, getM h.m2, .inr ⟨_, rfl, cut_all rfl⟩⟩, pls_flat _ _, ⟨_, getM h.m3, .inr ⟨_, rfl, cut_all rfl⟩⟩, pls_flat _ _, hw, pls_nat L, trivial⟩
      (args := [bk B a1 a2 a3, lv]) (args0 := [bk B a1 a2 a3, a]) ⟨ArgW.agg (show ArgsW _ [a1, a2, a3] [a1, a2, a3] from
        ⟨sl (i := 0) h.h1 rfl, sl (i := 0) h.h2 rfl, sl (i := 0) h.h3 rfl, trivial⟩), k1, trivial⟩ ρ w' us hH hv
    exact ⟨_, this.1, this.2, fun y hy => by
      obtain rfl | rfl | rfl : y = 0 ∨ y = 1 ∨ y = 2 := by omega
      · exact winR_id rfl
      · exact winR_id rfl
      · exact winR_id rfl⟩) (fun v1 H1 c1 ⟨g1, g2, g3⟩ => ?_) fl
  · rw [e0 _ rfl rfl] at this
    exact this
  · refine ⟨by rw [g1, e0 _ rfl rfl]; rfl, g2, fun x o hx => ?_⟩
    rw [ofM_get] at hx
    rcases lookM_app hx with k | k
    · exact .inl ⟨hm x o k, getM k⟩
    · generalize kpL L B.nk = K at g3 k
      cases K with
      | nil => cases k
      | cons p r =>
        replace k : lookM ((c + 3, some (.grown (flat (loE B) (p :: r)) 2)) :: []) x = some o := k
        by_cases e1 : x = c + 3
        · subst e1
          rw [lookM_hd] at k
          cases k
          exact .inr ⟨3, .grown (flat (loE B) (p :: r)) 2, rfl, by rw [ren_grown]; exact g3 (by simp), (ren_grown _ _ _ _).symm⟩
        · rw [lookM_tl e1] at k
          cases k

/-- The book with some of its looks alone. -/
noncomputable def woB (B : RBook) (K : List Nat) : RBook := { B with nk := K.length, ld := fun i => B.ld (K[i]?.getD 0), lb := fun i => B.lb (K[i]?.getD 0) }
theorem flat_wo (B : RBook) (K : List Nat) : flat (loE (woB B K)) (List.range K.length) = flat (loE B) K := by
  have : flat (loE (woB B K)) (List.range K.length) = flat (loE B) ((List.range K.length).map fun i => K[i]?.getD 0) := by
    unfold flat
    rw [List.map_map]
    rfl
  rw [this]
  refine congrArg _ (List.ext_getElem? fun i => ?_)
  rw [List.getElem?_map]
  by_cases h : i < K.length
  · rw [List.getElem?_range h, List.getElem?_eq_getElem h]
    show some (K[i]?.getD 0) = _
    rw [List.getElem?_eq_getElem h]; rfl
  · rw [List.getElem?_eq_none (by rw [List.length_range]; omega), List.getElem?_eq_none (by omega)]; rfl
/-- All names of a memory lie below a number. -/
def Kb (m : List (Nat × Option AObj)) (b : Nat) : Prop := ∀ e ∈ m, e.1 < b
theorem Kb.nil {b : Nat} : Kb [] b := fun e h => by cases h
theorem Kb.cons {m : List (Nat × Option AObj)} {b x : Nat} {o : Option AObj} (hx : x < b) (h : Kb m b) : Kb ((x, o) :: m) b := fun e he => by
  rcases List.mem_cons.1 he with rfl | he
  · exact hx
  · exact h e he
theorem Kb.app {m g : List (Nat × Option AObj)} {b : Nat} (h : Kb m b) (k : Kb g b) : Kb (m ++ g) b := fun e he => (List.mem_append.1 he).elim (h e) (k e)
theorem Kb.gr {x b : Nat} {L : List Nat} (h : x < b) : Kb (grM x L) b := by
  cases L with
  | nil => exact Kb.nil
  | cons a r => exact Kb.cons h Kb.nil
theorem Kb.kp {B : RBook} {x b : Nat} {K : List Nat} (h : x < b) : Kb (kpM B x K) b := by
  cases K with
  | nil => exact Kb.nil
  | cons a r => exact Kb.cons h Kb.nil
theorem Kb.hm {m : List (Nat × Option AObj)} {c : Nat} (h : Kb m c) : ∀ x o, lookM m x = some o → x < c := fun x o hx => by
  have := lookM_mem hx
  obtain ⟨e, he, rfl⟩ := List.mem_map.1 this
  exact h e he
theorem look_kp {B : RBook} {x : Nat} {K : List Nat} (hne : K ≠ []) : ∀ {m : List (Nat × Option AObj)}, Kb m x → lookM (m ++ kpM B x K) x = some (.grown (flat (loE B) K) 2)
  | [], _ => by
    cases K with
    | nil => exact absurd rfl hne
    | cons a r => exact lookM_hd
  | (y, o) :: m, h => by
    have hy : y < x := h (y, o) List.mem_cons_self
    rw [List.cons_append, lookM_tl (by omega)]
    exact look_kp hne fun e he => h e (List.mem_cons_of_mem _ he)
theorem look_gr {x : Nat} {L : List Nat} (hne : L ≠ []) : ∀ {m : List (Nat × Option AObj)}, (∀ e ∈ m, e.1 ≠ x) → lookM (m ++ grM x L) x = some (.grown (natV L) 1)
  | [], _ => by
    cases L with
    | nil => exact absurd rfl hne
    | cons a r => exact lookM_hd
  | (y, o) :: m, h => by
    have hy : y ≠ x := h (y, o) List.mem_cons_self
    rw [List.cons_append, lookM_tl hy.symm]
    exact look_gr hne fun e he => h e (List.mem_cons_of_mem _ he)
theorem look_left {m g : List (Nat × Option AObj)} {x : Nat} {o : AObj} (h : lookM m x = some o) : lookM (m ++ g) x = some o := by
  induction m with
  | nil => cases h
  | cons e m ih =>
    obtain ⟨y, ob⟩ := e
    rw [List.cons_append, lookM, Bool.cond_eq_ite]
    rw [lookM, Bool.cond_eq_ite] at h
    split at h
    · rename_i hy
      rw [if_pos hy]; exact h
    · rename_i hy
      rw [if_neg hy]; exact ih h
theorem Lw.of {m : List (Nat × Option AObj)} {x z : Nat} {L : List Nat} {o : AObj} (h : L ≠ [] → lookM m x = some (.grown (natV L) 1)) (hz : lookM m z = some o) : Lw m (fuV x L) L := Lw.fu (z := z) (by
  by_cases k : L = []
  · exact .inl k
  · exact .inr (h k)) ⟨o, hz⟩
theorem BkX.wo {B : RBook} {K : List Nat} {a1 a2 : AV} {x : Nat} {m : List (Nat × Option AObj)} {c : Nat} (h1 : IsSl a1 B.nl 0) (h2 : IsSl a2 B.nd 1) (m0 : lookM m 0 = some (oLa B)) (m1 : lookM m 1 = some (oDa B)) (hK : K ≠ [] → lookM m x = some (.grown (flat (loE B) K) 2)) : BkX (woB B K) a1 a2 (grV x K) m c := by
  have st : LiesAt m a1 (woB B K).nl 0 (flat (laE (woB B K)) (List.range (woB B K).nl)) := ⟨h1, _, m0, .inr rfl⟩
  have sd : LiesAt m a2 (woB B K).nd 1 (flat (daE (woB B K)) (List.range (woB B K).nd)) := ⟨h2, _, m1, .inr rfl⟩
  have e := flat_wo B K
  cases K with
  | nil => exact BkX.of (x1 := 0) (x2 := 1) (x3 := 0) st sd ⟨IsSl.nils 0, _, m0, .inl rfl⟩
  | cons a r => exact BkX.of (x1 := 0) (x2 := 1) (x3 := x) st sd ⟨IsSl.gs x _, _, hK (by simp), .inr (congrArg some e.symm)⟩
theorem S.eql_b {P : Program} {fl c t yt : Nat} {m : List (Nat × Option AObj)} {x1 x2 : Operand} {a b : Int} {q : Bool} (h : AV.bool (decide (a = b)) = .bool q) : OpE P fl (.binOp .eql t x1 x2 yt) [.int .i64 a, .int .i64 b] m c (.bool q) m c := by
  have := S.eql (P := P) (fl := fl) (m := m) (c := c) (t := t) (yt := yt) (x1 := x1) (x2 := x2) (a := a) (b := b)
  rwa [h] at this
end Go.Proofs.Ytpneoeoimdfjaaa

/- Package roll: which looks must be wrong: plain facts. -/
namespace Go.Proofs.Ytpneoeoimdfjaaa
open Go Go.Ev

theorem pas_keep {B : RBook} {t : Tru} {d j : Nat} (h : j ≠ d) : (pasT B t d).eb j = t.eb j := by
  have key : ∀ (u : Tru) (rb : Nat) (rr : Int), (passN B u d rb rr).eb j = u.eb j := fun u rb rr => by
    unfold passN
    (repeat' split) <;> exact upd_ne h
  unfold pasT
  by_cases hd : befB t d = B.nl ∧ befR t d = 0
  · rw [dB_tt hd, cond_true]
    exact upd_ne h
  · rw [dB_ff hd, cond_false, key]
    by_cases hl : t.la (befB t d).toNat = t.lo (befB t d).toNat
    · rw [dB_tt hl]; rfl
    · rw [dB_ff hl]; rfl
theorem nxT_keep {B : RBook} {t : Tru} {d j sk : Nat} {n : Int} (h : j ≠ d) : (nxT B t d n sk).eb j = t.eb j := pas_keep (t := (t.setW d n).setS d (sk : Int)) h
theorem mem_step {B : RBook} {k d : Nat} {t u : Tru} : u ∈ trs B (k + 1) d t ↔ ∃ n ∈ ints (B.wl d) (B.wh d), ∃ sk ∈ List.range 3, (hasP (B.sky d) sk ∧ lksAt B d (nxT B t d n sk) B.nk) ∧ u ∈ trs B k (d + 1) (nxT B t d n sk) := by
  rw [trs, List.mem_flatMap]
  refine exists_congr fun n => and_congr Iff.rfl ?_
  rw [List.mem_flatMap]
  refine exists_congr fun sk => and_congr Iff.rfl ?_
  by_cases h : hasP (B.sky d) sk ∧ lksAt B d (nxT B t d n sk) B.nk
  · rw [dB_tt h, cond_true]
    exact ⟨fun g => ⟨h, g⟩, fun g => g.2⟩
  · rw [dB_ff h, cond_false]
    exact ⟨fun g => (by cases g), fun g => absurd g.1 h⟩
theorem eb_keep {B : RBook} : ∀ {k d j : Nat} {t u : Tru}, u ∈ trs B k d t → j < d → u.eb j = t.eb j
  | 0, d, j, t, u, h, _ => by rw [List.mem_singleton.1 h]
  | k + 1, d, j, t, u, h, hj => by
    obtain ⟨n, _, sk, _, _, hu⟩ := mem_step.1 h
    rw [eb_keep hu (by omega), nxT_keep (by omega)]
/-- The truths with looks: those without, in which every look is right. -/
theorem mem_trs (B : RBook) (nk : Nat) (ld lb : Nat → Int) (hl : ∀ i, i < nk → 0 ≤ ld i) : ∀ {k d : Nat} {t u : Tru}, u ∈ trs { B with nk := nk, ld := ld, lb := lb } k d t ↔ u ∈ trs (ncB B) k d t ∧ ∀ i, i < nk → (d : Int) ≤ ld i → ld i < (d + k : Nat) → u.eb (ld i).toNat = lb i
  | 0, d, t, u => ⟨fun h => ⟨h, fun i _ h1 h2 => by omega⟩, fun h => h.1⟩
  | k + 1, d, t, u => by
    rw [mem_step, mem_step]
    constructor
    · rintro ⟨n, hn, sk, hs, ⟨h1, h2⟩, hu⟩
      have hu : u ∈ trs { B with nk := nk, ld := ld, lb := lb } k (d + 1) (nxT B t d n sk) := hu
      obtain ⟨g1, g2⟩ := (mem_trs B nk ld lb hl).1 hu
      refine ⟨⟨n, hn, sk, hs, ⟨h1, fun i hi => absurd hi (Nat.not_lt_zero i)⟩, g1⟩, fun i hi e1 e2 => ?_⟩
      by_cases e : ld i = d
      · have e3 := eb_keep (j := d) g1 (Nat.lt_succ_self d)
        have e4 : (nxT B t d n sk).eb d = lb i := h2 i hi e
        rw [e, Int.toNat_natCast, e3, e4]
      · exact g2 i hi (by omega) (by omega)
    · rintro ⟨⟨n, hn, sk, hs, ⟨h1, _⟩, hu⟩, hk⟩
      have hu : u ∈ trs (ncB B) k (d + 1) (nxT B t d n sk) := hu
      refine ⟨n, hn, sk, hs, ⟨h1, fun i hi e => ?_⟩, (mem_trs B nk ld lb hl).2 ⟨hu, fun i hi e1 e2 => hk i hi (by omega) (by omega)⟩⟩
      have e3 := eb_keep (j := d) hu (Nat.lt_succ_self d)
      have e4 := hk i hi (show (d : Int) ≤ ld i by have e : ld i = (d : Int) := e; omega) (show ld i < _ by have e : ld i = (d : Int) := e; omega)
      have e : ld i = (d : Int) := e
      rw [e, Int.toNat_natCast, e3] at e4
      exact e4
theorem has_some : ∀ s : Fin 8, 1 ≤ s.1 → ∃ k : Fin 3, andI ((s.1 : Int).fdiv (2 ^ k.1)) 1 = 1 := by decide +kernel
theorem trs_ne {B : RBook} (hB : dasOk B) : ∀ {k d : Nat} {t : Tru}, d + k ≤ B.nd → trs (ncB B) k d t ≠ []
  | 0, d, t, _ => by rw [trs]; simp
  | k + 1, d, t, h => by
    have hd := hB.2 d (by omega)
    unfold daOk at hd
    obtain ⟨s, hs⟩ := Int.eq_ofNat_of_zero_le (show 0 ≤ B.sky d by omega)
    obtain ⟨sk, hk⟩ := has_some ⟨s, by omega⟩ (show 1 ≤ s by omega)
    have hh : hasP (B.sky d) sk.1 := by rw [hs]; exact hk
    obtain ⟨u, hu⟩ := List.exists_mem_of_ne_nil _ (trs_ne hB (k := k) (d := d + 1) (t := nxT (ncB B) t d (B.wl d) sk.1) (by omega))
    have : u ∈ trs (ncB B) (k + 1) d t := mem_step.2 ⟨B.wl d, by show B.wl d ∈ ints (B.wl d) (B.wh d); rw [ints_cons (by omega)]; exact List.mem_cons_self, sk.1, List.mem_range.2 sk.2, ⟨hh, fun i hi => absurd hi (Nat.not_lt_zero i)⟩, hu⟩
    intro e
    rw [e] at this
    cases this
theorem nums_all (n : Nat) : lkL (fun _ => True) n = List.range n := List.filter_eq_self.2 fun k _ => dB_tt trivial
theorem fw_best (B : RBook) (hld : ∀ i, i < B.nk → 0 ≤ B.ld i ∧ B.ld i < 5) : ∀ (ts : List Tru) (s : FwS), (∀ t ∈ ts, ¬ cmpL (fwL B t) (foldS (fwS B) (s, none) ts).1.2 < 0) ∧ ¬ cmpL s.2 (foldS (fwS B) (s, none) ts).1.2 < 0 ∧ ((foldS (fwS B) (s, none) ts).1.2 = s.2 ∨ ∃ t ∈ ts, (foldS (fwS B) (s, none) ts).1.2 = fwL B t)
  | [], s => ⟨fun t ht => (by cases ht), cmpL_self _, .inl rfl⟩
  | t :: ts, s => by
    have e : foldS (fwS B) (s, none) (t :: ts) = foldS (fwS B) ((fwS B s [trV t]).1, none) ts := rfl
    rw [e]
    obtain ⟨i1, i2, i3⟩ := fw_best B hld ts (fwS B s [trV t]).1
    generalize (foldS (fwS B) ((fwS B s [trV t]).1, none) ts).1.2 = r at *
    have ea := fwA_is hld t
    by_cases h : cmpL (fwL B t) s.2 < 0
    · have e2 : (fwS B s [trV t]).1.2 = fwL B t := by
        show (if cmpL (fwA B [trV t]) s.2 < 0 then ((true, fwA B [trV t]) : FwS) else s).2 = _
        rw [ea, if_pos h]
      rw [e2] at i2 i3
      refine ⟨fun u hu => ?_, fun g => i2 (cmpL_trans h g), .inr ?_⟩
      · rcases List.mem_cons.1 hu with rfl | hu
        · exact i2
        · exact i1 u hu
      · rcases i3 with i3 | ⟨u, hu, i3⟩
        · exact ⟨t, List.mem_cons_self, i3⟩
        · exact ⟨u, List.mem_cons_of_mem _ hu, i3⟩
    · have e2 : (fwS B s [trV t]).1.2 = s.2 := by
        show (if cmpL (fwA B [trV t]) s.2 < 0 then ((true, fwA B [trV t]) : FwS) else s).2 = _
        rw [ea, if_neg h]
      rw [e2] at i2 i3
      refine ⟨fun u hu => ?_, i2, ?_⟩
      · rcases List.mem_cons.1 hu with rfl | hu
        · exact cmpL_neg h i2
        · exact i1 u hu
      · rcases i3 with i3 | ⟨u, hu, i3⟩
        · exact .inl i3
        · exact .inr ⟨u, List.mem_cons_of_mem _ hu, i3⟩
section
variable {B : RBook} {K : List Nat}
theorem ld_bd (hB : bkOk B) : ∀ i, i < B.nk → 0 ≤ B.ld i ∧ B.ld i < B.nd := fun i hi => by
  have := (hB.2.2.2 i hi).1
  unfold dyQ at this
  omega
theorem ld_5 (hB : bkOk B) : ∀ i, i < B.nk → 0 ≤ B.ld i ∧ B.ld i < 5 := fun i hi => by
  have h1 := ld_bd hB i hi
  have h2 := hB.2.1.1.2
  omega
theorem wr_best (hB : bkOk B) {t : Tru} (ht : t ∈ allT (ncB B)) : ¬ cmpL (fwL B t) (wrongL B) < 0 := (fw_best B (ld_5 hB) (allT (ncB B)) _).1 t ht
theorem wr_is (hB : bkOk B) : wrongL B = List.range B.nk ∨ ∃ t ∈ allT (ncB B), wrongL B = fwL B t := by
  have := (fw_best B (ld_5 hB) (allT (ncB B)) (false, lkL (fun _ => True) B.nk)).2.2
  rcases this with h | h
  · exact .inl (h.trans (nums_all _))
  · exact .inr h
theorem fw_len (t : Tru) : (fwL B t).length ≤ B.nk := lkL_len _ _
theorem wr_len (hB : bkOk B) : (wrongL B).length ≤ B.nk := by
  rcases wr_is hB with h | ⟨t, _, h⟩
  · rw [h, List.length_range]; exact Nat.le_refl _
  · rw [h]; exact fw_len t
theorem woB_ok (hB : bkOk B) (hK : ∀ k ∈ K, k < B.nk) (hl : K.length ≤ 4) : bkOk (woB B K) := by
  refine ⟨hB.1, hB.2.1, hl, fun i hi => ?_⟩
  have hi : i < K.length := hi
  show lkOk B (B.ld (K[i]?.getD 0)) (B.lb (K[i]?.getD 0))
  rw [List.getElem?_eq_getElem hi]
  exact hB.2.2.2 _ (hK _ (List.getElem_mem hi))
/-- A truth of a book: one without its looks, in which none is wrong. -/
theorem mem_nc (hB : bkOk B) {t : Tru} : t ∈ allT B ↔ t ∈ allT (ncB B) ∧ ∀ k, k < B.nk → ¬ wrP B t k := by
  have := mem_trs B B.nk B.ld B.lb (fun i hi => (ld_bd hB i hi).1) (k := B.nd) (d := 0) (t := tru0) (u := t)
  refine Iff.trans this (and_congr Iff.rfl ⟨fun h k hk hw => hw (h k hk (ld_bd hB k hk).1 (by have := (ld_bd hB k hk).2; omega)), fun h i hi _ _ => Classical.not_not.1 (h i hi)⟩)
theorem mem_wo (hB : bkOk B) (hK : ∀ k ∈ K, k < B.nk) (hl : K.length ≤ 4) {t : Tru} : t ∈ allT (woB B K) ↔ t ∈ allT (ncB B) ∧ ∀ k ∈ K, ¬ wrP B t k := by
  have hw := woB_ok hB hK hl
  have hbd := ld_bd hw
  have := mem_trs B K.length (woB B K).ld (woB B K).lb (fun i hi => (hbd i hi).1) (k := B.nd) (d := 0) (t := tru0) (u := t)
  refine Iff.trans this (and_congr Iff.rfl ⟨fun h k hk hw => ?_, fun h i hi _ _ => ?_⟩)
  · obtain ⟨i, hi⟩ := List.getElem?_of_mem hk
    have hlt : i < K.length := Classical.byContradiction fun q => by rw [List.getElem?_eq_none (by omega)] at hi; cases hi
    have e := h i hlt (hbd i hlt).1 (by have := (hbd i hlt).2; have e : (woB B K).nd = B.nd := rfl; omega)
    simp only [woB, hi] at e
    exact hw e
  · have := h K[i] (List.getElem_mem hi)
    have := Classical.not_not.1 this
    simp only [woB, List.getElem?_eq_getElem hi]
    exact this
theorem nc_ne (hB : bkOk B) : allT (ncB B) ≠ [] := trs_ne hB.2.1 (by show 0 + B.nd ≤ B.nd; omega)
theorem fwL_filter (t : Tru) : fwL B t = (List.range B.nk).filter fun k => dB (wrP B t k) := rfl
theorem kpL_mem {L : List Nat} {n k : Nat} : k ∈ kpL L n ↔ k < n ∧ k ∉ L := by
  unfold kpL
  rw [List.mem_filter, List.mem_range]
  exact and_congr Iff.rfl dB_eq
/-- Without the looks that are told the book can be true. -/
theorem wr_rest (hB : bkOk B) : allT (woB B (kpL (wrongL B) B.nk)) ≠ [] := by
  have hK : ∀ k ∈ kpL (wrongL B) B.nk, k < B.nk := fun k hk => (kpL_mem.1 hk).1
  have hl : (kpL (wrongL B) B.nk).length ≤ 4 := Nat.le_trans (kpL_len _ _) hB.2.2.1
  have key : ∃ t, t ∈ allT (woB B (kpL (wrongL B) B.nk)) := by
    rcases wr_is hB with h | ⟨t, ht, h⟩
    · obtain ⟨t, ht⟩ := List.exists_mem_of_ne_nil _ (nc_ne hB)
      refine ⟨t, (mem_wo hB hK hl).2 ⟨ht, fun k hk => ?_⟩⟩
      obtain ⟨k1, k2⟩ := kpL_mem.1 hk
      rw [h] at k2
      exact absurd (List.mem_range.2 k1) k2
    · refine ⟨t, (mem_wo hB hK hl).2 ⟨ht, fun k hk hw => ?_⟩⟩
      obtain ⟨k1, k2⟩ := kpL_mem.1 hk
      rw [h, fwL_filter] at k2
      exact k2 (List.mem_filter.2 ⟨List.mem_range.2 k1, dB_eq.2 hw⟩)
  intro e
  obtain ⟨t, ht⟩ := key
  rw [e] at ht
  cases ht
/-- Without fewer, or as many and before, it cannot. -/
theorem wr_less (hB : bkOk B) {s : Int} (h : cmpL (numsL s B.nk) (wrongL B) < 0) : allT (woB B (kpL (numsL s B.nk) B.nk)) = [] := by
  refine Classical.byContradiction fun hne => ?_
  obtain ⟨t, ht⟩ := List.exists_mem_of_ne_nil _ hne
  have hK : ∀ k ∈ kpL (numsL s B.nk) B.nk, k < B.nk := fun k hk => (kpL_mem.1 hk).1
  have hl : (kpL (numsL s B.nk) B.nk).length ≤ 4 := Nat.le_trans (kpL_len _ _) hB.2.2.1
  obtain ⟨h1, h2⟩ := (mem_wo hB hK hl).1 ht
  have hbest := wr_best hB h1
  have hsub : ∀ k, k < B.nk → wrP B t k → k ∈ numsL s B.nk := fun k hk hw => Classical.byContradiction fun q => h2 k (kpL_mem.2 ⟨hk, q⟩) hw
  have e : fwL B t = (numsL s B.nk).filter fun k => dB (wrP B t k) := by
    rw [fwL_filter, numsL_filter, List.filter_filter]
    refine List.filter_congr fun k hk => ?_
    have hk := List.mem_range.1 hk
    by_cases hw : wrP B t k
    · have := hsub k hk hw
      rw [numsL_filter, List.mem_filter] at this
      rw [dB_tt hw, this.2]; rfl
    · rw [dB_ff hw]; rfl
  by_cases hall : ∀ k ∈ numsL s B.nk, wrP B t k
  · rw [List.filter_eq_self.2 fun k hk => dB_eq.2 (hall k hk)] at e
    rw [e] at hbest
    exact hbest h
  · obtain ⟨k, hk⟩ := Classical.not_forall.1 hall
    obtain ⟨hk1, hk2⟩ := Classical.not_imp.1 hk
    have hlt : (fwL B t).length < (numsL s B.nk).length := by
      rw [e]
      exact List.length_filter_lt_length_iff_exists.2 ⟨k, hk1, by rw [dB_ff hk2]; decide⟩
    exact hbest (cmpL_trans (cmpL_lt.2 (.inl hlt)) h)
theorem wr_nil (hB : bkOk B) : wrongL B = [] ↔ allT B ≠ [] := by
  constructor
  · intro h e
    rcases wr_is hB with k | ⟨t, ht, k⟩
    · rw [h] at k
      have h0 : B.nk = 0 := by have := congrArg List.length k; rw [List.length_range] at this; exact this.symm
      obtain ⟨t, ht⟩ := List.exists_mem_of_ne_nil _ (nc_ne hB)
      have := (mem_nc hB).2 ⟨ht, fun k hk => by omega⟩
      rw [e] at this
      cases this
    · have := (mem_nc hB).2 ⟨ht, fun j hj hw => by
        rw [h, fwL_filter] at k
        have : j ∈ ([] : List Nat) := by rw [k]; exact List.mem_filter.2 ⟨List.mem_range.2 hj, dB_eq.2 hw⟩
        cases this⟩
      rw [e] at this
      cases this
  · intro h
    obtain ⟨t, ht⟩ := List.exists_mem_of_ne_nil _ h
    obtain ⟨h1, h2⟩ := (mem_nc hB).1 ht
    have e : fwL B t = [] := by
      rw [fwL_filter]
      refine List.filter_eq_nil_iff.2 fun k hk => ?_
      rw [dB_ff (h2 k (List.mem_range.1 hk))]; decide
    have := wr_best hB h1
    rw [e] at this
    cases hL : wrongL B with
    | nil => rfl
    | cons a r => rw [hL] at this; exact absurd (cmpL_lt.2 (.inl (by simp))) this
theorem filter_ris {p : Nat → Bool} : ∀ n, RisL ((List.range n).filter p) n := fun n => by
  have hp : List.Pairwise (fun a b : Nat => a < b) ((List.range n).filter p) := List.Pairwise.filter _ (List.pairwise_lt_range)
  refine ⟨fun k x h => ?_, fun k x y h1 h2 => ?_⟩
  · have := List.mem_of_getElem? h
    exact List.mem_range.1 (List.mem_filter.1 this).1
  · rw [List.pairwise_iff_getElem] at hp
    have g1 : k < ((List.range n).filter p).length := Classical.byContradiction fun q => by rw [List.getElem?_eq_none (by omega)] at h1; cases h1
    have g2 : k + 1 < ((List.range n).filter p).length := Classical.byContradiction fun q => by rw [List.getElem?_eq_none (by omega)] at h2; cases h2
    have := hp k (k + 1) g1 g2 (Nat.lt_succ_self _)
    rw [List.getElem?_eq_getElem g1] at h1
    rw [List.getElem?_eq_getElem g2] at h2
    cases h1
    cases h2
    exact this
theorem wr_ris (hB : bkOk B) : RisL (wrongL B) B.nk := by
  rcases wr_is hB with h | ⟨t, _, h⟩
  · rw [h]
    have := filter_ris (p := fun _ => true) B.nk
    rwa [List.filter_eq_self.2 fun _ _ => rfl] at this
  · rw [h, fwL_filter]
    exact filter_ris _
end
end Go.Proofs.Ytpneoeoimdfjaaa

/- Whether there is a book of layers, as the laws ask it. -/
namespace Go.Proofs.Ytpneoeoimdfjaaa
open Go Go.Ev

theorem Check_ok {B : RBook} {a1 a2 a3 : AV} {m : List (Nat × Option AObj)} {c : Nat} (h : BkIn B a1 a2 a3 m c) (hn : B.nd ≤ 9223372036854775807) (hB : bkOk B) (fl : Nat) : OkAt 0 Try.prog fl 32 [bk B a1 a2 a3] (ofM m) c (.int .i64 0) (ofM m) c :=
  val_is (by unfold ckV; rw [dB_tt hB]; rfl) (Check_at h hn fl)
theorem Check_no {B : RBook} {a1 a2 a3 : AV} {m : List (Nat × Option AObj)} {c : Nat} (h : BkIn B a1 a2 a3 m c) (hn : B.nd ≤ 9223372036854775807) (hB : ¬ bkOk B) (fl : Nat) : OkAt 0 Try.prog fl 32 [bk B a1 a2 a3] (ofM m) c (.int .i64 70) (ofM m) c :=
  val_is (by unfold ckV; rw [dB_ff hB]; rfl) (Check_at h hn fl)
/-- Amid, where it is so. -/
noncomputable def amT : CallFn := famA (α := Int × Int × Int) 26 (fun a => [.int .i64 a.1, .int .i64 a.2.1, .int .i64 a.2.2]) (fun _ => .bool true) fun a _ _ => a.2.1 ≤ a.1 ∧ a.1 ≤ a.2.2
theorem amT_calm : CalmC 0 Try.prog amT := famA_calm fun a fl H c h => Amid_t h H c fl
theorem amT_at (n lo hi : Int) (h : lo ≤ n ∧ n ≤ hi) (fl : Nat) (H : T AObj) (c : Nat) : amT fl 26 [.int .i64 n, .int .i64 lo, .int .i64 hi] H c = some (.bool true, H, c) := famA_at fl (n, lo, hi) h (fun _ _ => rfl)
set_option maxRecDepth 100000 in
set_option maxHeartbeats 4000000 in
theorem sound_no (B : RBook) (a1 a2 a3 : AV) (h1 : IsSl a1 B.nl 0) (h2 : IsSl a2 B.nd 1) (h3 : IsSl a3 B.nk 2) (hn : B.nd ≤ 9223372036854775807) (hB : ¬ bkOk B) : CanS 0 Try.prog 9 3 [bk B a1 a2 a3] [(0, some (oLa B)), (1, some (oDa B)), (2, some (oLo B))] 3 fun v _ _ => v = .bool false := by
  refine CanS.mk Try.func9 rfl rfl rfl ?_
  repeat' (first | refine RT.nil ?_ | refine sq_n ?_ | refine Tr.seq ?_ | refine Tr.region ?_ | refine Tr.block ?_ | (refine RT.call rfl rfl rfl (Check_no ⟨h1, h2, h3, rfl, rfl, rfl, by decide⟩ hn hB _) rfl rfl (Nat.le_refl _) ?_) | (refine RT.goK rfl rfl rfl rfl ?_; apply Nx.of; (first | exact S.eql_f (by decide))) | (refine RT.goK rfl rfl rfl rfl ?_; apply Nx.of; (first | exact S.move | exact S.assign | exact S.loadNc rfl rfl rfl rfl | exact S.pick_ff | exact S.box)) | (refine RT.no rfl rfl rfl ?_))
  refine Tr.unroll 1 ?_
  repeat' (first | refine RT.nil ?_ | refine sq_n ?_ | refine Tr.seq ?_ | refine Tr.region ?_ | refine Tr.cond_f rfl ?_ | refine Tr.exit ?_ | refine sq_x ?_ | refine Tr.block ?_ | refine blk_hit rfl ?_ | refine un_x ?_ | (refine RT.goK rfl rfl rfl rfl ?_; apply Nx.of; (first | exact S.move | exact S.assign | exact S.pick_ff)) | (refine RT.no rfl rfl rfl ?_))
  refine Tr.unroll 1 ?_
  repeat' (first | refine RT.nil ?_ | refine sq_n ?_ | refine Tr.seq ?_ | refine Tr.region ?_ | refine Tr.cond_f rfl ?_ | refine Tr.ret ?_ | refine Tr.exit ?_ | refine sq_x ?_ | refine blk_hit rfl ?_ | refine un_x ?_ | (refine RT.goK rfl rfl rfl rfl ?_; apply Nx.of; (first | exact S.move | exact S.assign | exact S.pick_ff)) | (refine RT.no rfl rfl rfl ?_))
  (first | refine rt_go rfl ?_)
  rfl
set_option maxRecDepth 100000 in
set_option maxHeartbeats 4000000 in
theorem sound_yes (B : RBook) (a1 a2 a3 : AV) (h1 : IsSl a1 B.nl 0) (h2 : IsSl a2 B.nd 1) (h3 : IsSl a3 B.nk 2) (hn : B.nd ≤ 9223372036854775807) (hB : bkOk B) : CanS 0 Try.prog 9 3 [bk B a1 a2 a3] [(0, some (oLa B)), (1, some (oDa B)), (2, some (oLo B))] 3 fun v _ _ => v = .bool true := by
  obtain ⟨⟨hnl, hla⟩, ⟨hnd, hda⟩, hnk, hlk⟩ := id hB
  refine CanS.mk Try.func9 rfl rfl rfl ?_
  repeat' (first | refine RT.nil ?_ | refine sq_n ?_ | refine Tr.seq ?_ | refine Tr.region ?_ | refine Tr.block ?_ | (refine RT.call rfl rfl rfl (Check_ok ⟨h1, h2, h3, rfl, rfl, rfl, by decide⟩ hn hB _) rfl rfl (Nat.le_refl _) ?_) | (refine RT.call rfl rfl rfl (Amid_t (by omega) _ _ _) rfl rfl (Nat.le_refl _) ?_) | (refine RT.goK rfl rfl rfl rfl ?_; first | refine Nx.of (S.leq_t (by omega)) ?_) | (refine RT.goK rfl rfl rfl rfl ?_; apply Nx.of; (first | exact S.eql_t (by decide))) | (refine RT.goK rfl rfl rfl rfl ?_; apply Nx.of; (first | exact S.move | exact S.assign | exact S.load1c rfl rfl rfl rfl | exact S.loadNc rfl rfl rfl rfl | exact S.fieldAddr rfl rfl rfl | exact S.pick_tt | exact S.box)) | (refine RT.goK rfl rfl rfl rfl ?_; apply Nx.of; (first | exact S.len_sl rfl rfl rfl (by assumption))))
  refine Tr.loop (fun k : Nat => stL Try.f9.ntmps [] [(1, .ptr 3 0), (2, .bool false), (3, .bool true), (4, .int .i64 k)] [(3, some (.cells (bk B a1 a2 a3).cells)), (0, some (oLa B)), (1, some (oDa B)), (2, some (oLo B))] 4) (fun k => k ≤ B.nd) (fun k => B.nd - k) 0 (Nat.zero_le _) (by (refine Wk.same (by decide) (by decide) (by decide) (by decide) ?_ ?_ rfl; all_goals ((try simp only [allL, allM]); (repeat' (first | exact trivial | refine And.intro ?_ ?_)); all_goals (first | rfl | exact ren_ro _ _ _ | exact bkc_ren h1 h2 h3 (nm_lt (by decide)) (nm_lt (by decide)) (nm_lt (by decide)) | decide)))) (fun k hk => ?_)
  by_cases hlt : k < B.nd
  · have hs := hda k hlt
    unfold daOk at hs
    repeat' (first | refine RT.nil ?_ | refine sq_n ?_ | refine Tr.seq ?_ | refine Tr.region ?_ | refine Tr.cond_t rfl ?_ | refine Tr.skip ?_ | refine Tr.block ?_ | refine blk_n ?_ | (refine RT.call rfl rfl rfl (Amid_t (by omega) _ _ _) rfl rfl (Nat.le_refl _) ?_) | (refine RT.call rfl rfl rfl (Sane_t (by decide) (by omega) _ _ _) rfl rfl (Nat.le_refl _) ?_) | (refine RT.goK rfl rfl rfl rfl ?_; first | refine Nx.of (S.lss_t (by omega)) ?_) | (refine RT.goK rfl rfl rfl rfl ?_; apply Nx.of; (first | exact S.move | exact S.assign | exact S.load1c rfl rfl rfl rfl | exact S.fieldAddr rfl rfl rfl | exact S.pick_tt | exact S.add_one (by omega))) | (refine RT.goK rfl rfl rfl rfl ?_; apply Nx.of; (first | exact S.idx_sl rfl rfl rfl (by assumption) (by omega) | exact S.rowN0 rfl rfl rfl (fun _ => rfl) (range_at (by omega)) rfl | exact S.row rfl rfl rfl (fun _ => rfl) (range_at (by omega)) rfl | exact S.len_sl rfl rfl rfl (by assumption))))
    refine lp_n (k + 1) hlt (by omega) (by (refine Wk.same (by decide) (by decide) (by decide) (by decide) ?_ ?_ rfl; all_goals ((try simp only [allL, allM]); (repeat' (first | exact trivial | refine And.intro ?_ ?_)); all_goals (first | rfl | exact ren_ro _ _ _ | exact bkc_ren h1 h2 h3 (nm_lt (by decide)) (nm_lt (by decide)) (nm_lt (by decide)) | decide))))
  obtain rfl : k = B.nd := by omega
  repeat' (first | refine RT.nil ?_ | refine sq_n ?_ | refine Tr.seq ?_ | refine Tr.region ?_ | refine Tr.cond_f rfl ?_ | refine Tr.exit ?_ | refine sq_x ?_ | refine Tr.block ?_ | refine blk_hit rfl ?_ | refine lp_x ?_ | (refine RT.goK rfl rfl rfl rfl ?_; first | refine Nx.of (S.lss_f (by omega)) ?_) | (refine RT.goK rfl rfl rfl rfl ?_; apply Nx.of; (first | exact S.move | exact S.assign | exact S.load1c rfl rfl rfl rfl | exact S.fieldAddr rfl rfl rfl | exact S.pick_tt)) | (refine RT.goK rfl rfl rfl rfl ?_; apply Nx.of; (first | exact S.len_sl rfl rfl rfl (by assumption))))
  refine Tr.loop (fun k : Nat => stL Try.f9.ntmps [] [(1, .ptr 3 0), (2, .bool false), (3, .bool true), (5, .int .i64 k)] [(3, some (.cells (bk B a1 a2 a3).cells)), (0, some (oLa B)), (1, some (oDa B)), (2, some (oLo B))] 4) (fun k => k ≤ B.nk) (fun k => B.nk - k) 0 (Nat.zero_le _) (by (refine Wk.same (by decide) (by decide) (by decide) (by decide) ?_ ?_ rfl; all_goals ((try simp only [allL, allM]); (repeat' (first | exact trivial | refine And.intro ?_ ?_)); all_goals (first | rfl | exact ren_ro _ _ _ | exact bkc_ren h1 h2 h3 (nm_lt (by decide)) (nm_lt (by decide)) (nm_lt (by decide)) | decide)))) (fun k hk => ?_)
  by_cases hlt : k < B.nk
  · have hs := hlk k hlt
    unfold lkOk dyQ at hs
    repeat' (first | refine RT.nil ?_ | refine sq_n ?_ | refine Tr.seq ?_ | refine Tr.region ?_ | refine Tr.cond_t rfl ?_ | refine Tr.skip ?_ | refine Tr.block ?_ | (refine RT.goK rfl rfl rfl rfl ?_; first | refine Nx.of (S.lss_t (by omega)) ?_) | (refine RT.goK rfl rfl rfl rfl ?_; apply Nx.of; (first | exact S.move | exact S.load1c rfl rfl rfl rfl | exact S.fieldAddr rfl rfl rfl | exact S.pick_tt)) | (refine RT.goK rfl rfl rfl rfl ?_; apply Nx.of; (first | exact S.len_sl rfl rfl rfl (by assumption))))
    refine Tr.openK un9_9 (by kernel_rfl) (by kernel_rfl) amT amT_calm ?_
    repeat' (first | (refine RD.callN rfl rfl rfl rfl rfl rfl rfl rfl rfl (fun fl' => amT_at _ _ _ (by omega) fl' _ _) (fun _ => by refine srOk_all ?_; simp only [srOk]; (repeat' (first | exact trivial | refine And.intro ?_ ?_)); all_goals (first | exact trivial | (refine ⟨_, rfl, ?_⟩; (first | rfl | (simp [rfO, rfVs, rfV, rfVs_flat]; done) | (simp [bk, AV.cells, rfO, rfVs, rfV, h1.rf, h2.rf, h3.rf]; done))))) ?_) | (refine RD.free rfl rfl rfl rfl rfl rfl ?_; apply Nx.of; (first | exact S.move | exact S.assign | exact S.fieldAddr rfl rfl rfl | exact S.pick_tt | exact S.sub_one (by omega) (by omega) | exact S.idx_sl rfl rfl rfl (by assumption) (by omega) | exact S.len_sl rfl rfl rfl (by assumption))) | (refine RD.load rfl rfl rfl rfl rfl rfl rfl rfl ?_; apply Nx.of; (first | exact S.load1c rfl rfl rfl rfl | exact S.row0 rfl rfl rfl (fun _ => rfl) (range_at (by omega)) rfl | exact S.row rfl rfl rfl (fun _ => rfl) (range_at (by omega)) rfl)) | refine RD.nil ⟨Nat.le_of_ble_eq_true rfl, ?_⟩)
    repeat' (first | refine RT.nil ?_ | refine sq_n ?_ | refine Tr.region ?_ | refine blk_n ?_ | (refine RT.goK rfl rfl rfl rfl ?_; apply Nx.of; (first | exact S.move | exact S.assign | exact S.add_one (by omega))))
    refine lp_n (k + 1) hlt (by omega) (by (refine Wk.same (by decide) (by decide) (by decide) (by decide) ?_ ?_ rfl; all_goals ((try simp only [allL, allM]); (repeat' (first | exact trivial | refine And.intro ?_ ?_)); all_goals (first | rfl | exact ren_ro _ _ _ | exact bkc_ren h1 h2 h3 (nm_lt (by decide)) (nm_lt (by decide)) (nm_lt (by decide)) | decide))))
  obtain rfl : k = B.nk := by omega
  repeat' (first | refine RT.nil ?_ | refine sq_n ?_ | refine Tr.seq ?_ | refine Tr.region ?_ | refine Tr.cond_f rfl ?_ | refine Tr.ret ?_ | refine Tr.exit ?_ | refine sq_x ?_ | refine blk_hit rfl ?_ | refine lp_x ?_ | (refine RT.goK rfl rfl rfl rfl ?_; first | refine Nx.of (S.lss_f (by omega)) ?_) | (refine RT.goK rfl rfl rfl rfl ?_; apply Nx.of; (first | exact S.move | exact S.assign | exact S.load1c rfl rfl rfl rfl | exact S.fieldAddr rfl rfl rfl | exact S.pick_tt)) | (refine RT.goK rfl rfl rfl rfl ?_; apply Nx.of; (first | exact S.len_sl rfl rfl rfl (by assumption))))
  (first | refine rt_go rfl ?_)
  rfl
end Go.Proofs.Ytpneoeoimdfjaaa

/-
  What the rows of the laws on layer 7 share: the chapter's examples, carried out; a book of layers that came in.
-/
namespace Go.Proofs.Ytpneoeoimdfjaaa
open Go Go.Ev Go.ChangeShapes Go.WideShapes Go.ChangeAt Go.RowKit Go.Deep

theorem own : ownKnob Try.prog.godebug = none := by kernel_rfl
theorem heaped0 : decide (Try.prog.globals.size < (begin Try.prog (fun _ _ => 0) default).world.heap.size) = true := by kernel_rfl
theorem bill_ok : CanS 0 Try.prog 10 0 [] [] 0 fun v _ _ => v = .bool true := by
  obtain ⟨H', c', hr⟩ := saysTrue_some root_true
  have hk := root_run _ _ _ _ _ _ _ _ hr
  refine ⟨hk.1, fun ρ w us hH hv r n => (hk.2 ρ w us hH hv r n).mono ?_⟩
  rintro e w' ⟨u, rfl, ρ', h1, h2, h3, h4⟩
  exact ⟨u, _, H', c', ρ', rfl, rfl, h1, h2, h3.count, .of_ext h3 (Nat.le_refl _), h4⟩

theorem lInt : Go.Ev.Leaves Try.prog 3 [3] := Go.Ev.Leaves.int Try.underlying3
theorem lSpan : Go.Ev.Leaves Try.prog 32 [3, 3] := Go.Ev.Leaves.struct (uss := [[3], [3]]) Try.underlying32 ⟨⟨lInt, rfl, by kernel_rfl⟩, ⟨lInt, rfl, by kernel_rfl⟩, trivial⟩ (by kernel_rfl)
theorem lLayer : Go.Ev.Leaves Try.prog 106 [3, 3] := Go.Ev.Leaves.struct (uss := [[3], [3]]) Try.underlying106 ⟨⟨lInt, rfl, by kernel_rfl⟩, ⟨lInt, rfl, by kernel_rfl⟩, trivial⟩ (by kernel_rfl)
theorem lDay : Go.Ev.Leaves Try.prog 57 [3, 3, 3] := Go.Ev.Leaves.struct (uss := [[3, 3], [3]]) Try.underlying57 ⟨⟨lSpan, rfl, by kernel_rfl⟩, ⟨lInt, rfl, by kernel_rfl⟩, trivial⟩ (by kernel_rfl)
theorem lLook : Go.Ev.Leaves Try.prog 39 [3, 3] := Go.Ev.Leaves.struct (uss := [[3], [3]]) Try.underlying39 ⟨⟨lInt, rfl, by kernel_rfl⟩, ⟨lInt, rfl, by kernel_rfl⟩, trivial⟩ (by kernel_rfl)
abbrev bookT : List Nat := [22, 23, 24]
theorem lBook : Go.Ev.Leaves Try.prog 26 bookT := Go.Ev.Leaves.struct (uss := [[22], [23], [24]]) Try.underlying26 ⟨⟨Go.Ev.Leaves.slice Try.underlying22, rfl, by kernel_rfl⟩, ⟨Go.Ev.Leaves.slice Try.underlying23, rfl, by kernel_rfl⟩, ⟨Go.Ev.Leaves.slice Try.underlying24, rfl, by kernel_rfl⟩, trivial⟩ (by kernel_rfl)

section
variable {H : Type} {enc : TypeId × Value → H}
theorem ints_all {us : List Nat} (h : (us.all fun u => u == 3) = true) : ∀ u ∈ us, Try.prog.underlying u = some (.int .i64) := fun u hu => by
  have := List.all_eq_true.1 h u hu
  rw [eq_of_beq this]
  exact Try.underlying3

set_option maxRecDepth 100000 in
theorem open_book {W : World} {b0 : Nat} {v : Value} {d : DataW H} {p : List MemPlace} (hv : Value.okWide Try.prog W .any b0 26 v) (h : DataW.Trod enc Try.prog W 0 (fun _ => true) true 26 v d p) :
    ∃ (B : RBook) (v0 v1 v2 : Value) (g0 g1 g2 : Nat → Nat → Int), v = .agg #[v0, v1, v2] ∧ RowsW W v0 B.nl 2 g0 ∧ RowsW W v1 B.nd 3 g1 ∧ RowsW W v2 B.nk 2 g2 ∧
      (∀ i j a, j < 2 → (laE B i)[j]? = some a → g0 i j = a) ∧ (∀ i j a, j < 3 → (daE B i)[j]? = some a → g1 i j = a) ∧ ∀ i j a, j < 2 → (loE B i)[j]? = some a → g2 i j = a := by
  obtain ⟨cs, rfl, hl, hc⟩ := open_cells (us := bookT) (by kernel_rfl) lBook (by kernel_rfl) hv h
  obtain ⟨v0, m0, y0, e0, o0, d0⟩ := hc 0 _ rfl
  obtain ⟨v1, m1, y1, e1, o1, d1⟩ := hc 1 _ rfl
  obtain ⟨v2, m2, y2, e2, o2, d2⟩ := hc 2 _ rfl
  obtain ⟨n0, g0, r0⟩ := open_rowsW Try.underlying22 lLayer (ints_all rfl) rfl (by kernel_rfl) o0 d0
  obtain ⟨n1, g1, r1⟩ := open_rowsW Try.underlying23 lDay (ints_all rfl) rfl (by kernel_rfl) o1 d1
  obtain ⟨n2, g2, r2⟩ := open_rowsW Try.underlying24 lLook (ints_all rfl) rfl (by kernel_rfl) o2 d2
  match cs, hl with
  | [x0, x1, x2], _ =>
    simp at e0 e1 e2
    subst e0 e1 e2
    refine ⟨⟨n0, fun i => g0 i 0, fun i => g0 i 1, n1, fun i => g1 i 0, fun i => g1 i 1, fun i => g1 i 2, n2, fun i => g2 i 0, fun i => g2 i 1⟩, x0, x1, x2, g0, g1, g2, rfl, r0, r1, r2, fun i j a hj ha => ?_, fun i j a hj ha => ?_, fun i j a hj ha => ?_⟩
    · match j, hj with
      | 0, _ => simpa [laE] using ha
      | 1, _ => simpa [laE] using ha
    · match j, hj with
      | 0, _ => simpa [daE] using ha
      | 1, _ => simpa [daE] using ha
      | 2, _ => simpa [daE] using ha
    · match j, hj with
      | 0, _ => simpa [loE] using ha
      | 1, _ => simpa [loE] using ha
end

/-- A book's slices, as they lie. -/
def bookS {W : World} {B : RBook} {v0 v1 v2 : Value} {g0 g1 g2 : Nat → Nat → Int} (r0 : RowsW W v0 B.nl 2 g0) (r1 : RowsW W v1 B.nd 3 g1) (r2 : RowsW W v2 B.nk 2 g2) (h0 : ∀ i j a, j < 2 → (laE B i)[j]? = some a → g0 i j = a) (h1 : ∀ i j a, j < 3 → (daE B i)[j]? = some a → g1 i j = a) (h2 : ∀ i j a, j < 2 → (loE B i)[j]? = some a → g2 i j = a) : List (SlD W) :=
  [⟨v0, B.nl, 2, g0, laE B, r0, fun _ => rfl, fun i j a _ hj h => h0 i j a hj h⟩, ⟨v1, B.nd, 3, g1, daE B, r1, fun _ => rfl, fun i j a _ hj h => h1 i j a hj h⟩, ⟨v2, B.nk, 2, g2, loE B, r2, fun _ => rfl, fun i j a _ hj h => h2 i j a hj h⟩]
theorem book_vr {W : World} {B : RBook} {v0 v1 v2 : Value} {g0 g1 g2 : Nat → Nat → Int} (r0 : RowsW W v0 B.nl 2 g0) (r1 : RowsW W v1 B.nd 3 g1) (r2 : RowsW W v2 B.nk 2 g2) {ρ : Rho} (e0 : ρ 0 = some (winV v0)) (e1 : ρ 1 = some (winV v1)) (e2 : ρ 2 = some (winV v2)) : VR ρ (bk B (slA v0 0) (slA v1 1) (slA v2 2)) (.agg #[v0, v1, v2]) := by
  simp only [bk, VR]
  exact ⟨[v0, v1, v2], .cons (r0.vr e0) (.cons (r1.vr e1) (.cons (r2.vr e2) .nil)), rfl⟩
end Go.Proofs.Ytpneoeoimdfjaaa

/- RollWrong: the law, for every book and every number. -/
namespace Go.Proofs.Ytpneoeoimdfjaaa
open Go Go.Ev

theorem eqBt (b : Bool) : eqA Try.prog 4 (.bool b) (.bool b) = some true := by cases b <;> kernel_rfl
theorem S.len_fu {P : Program} [Tab P] {fl c t x : Nat} {y : Ty} {x1 : Operand} {ats : Array Nat} {m : List (Nat × Option AObj)} {L : List Nat} (ht : ats.toList.head? = some t) (hy : ty P t = some y) (hk : y.kind = 5) : OpE P fl (.call ⟨.builtin .len, #[x1], ats⟩) [fuV x L] m c (.int .i64 L.length) m c := by
  cases L with
  | nil => exact S.len_sl ht hy hk (IsSl.nils x)
  | cons a r => exact S.len_sl4 ht hy hk
/-- The chapter's examples say true. -/
abbrev BillOK : Prop := CanS 0 Try.prog 10 0 [] [] 0 fun v _ _ => v = .bool true
theorem sound_t {B : RBook} {a1 a2 a3 : AV} {m : List (Nat × Option AObj)} {c : Nat} (h : BkIn B a1 a2 a3 m c) (hn : B.nd ≤ 9223372036854775807) (hB : bkOk B) (fl : Nat) : OkAt 0 Try.prog fl 9 [bk B a1 a2 a3] (ofM m) c (.bool true) (ofM m) c :=
  (sound_yes B a1 a2 a3 h.h1 h.h2 h.h3 hn hB).pure (.bool _) (h.entry [] .nil) fl
theorem sound_f {B : RBook} {a1 a2 a3 : AV} {m : List (Nat × Option AObj)} {c : Nat} (h : BkIn B a1 a2 a3 m c) (hn : B.nd ≤ 9223372036854775807) (hB : ¬ bkOk B) (fl : Nat) : OkAt 0 Try.prog fl 9 [bk B a1 a2 a3] (ofM m) c (.bool false) (ofM m) c :=
  (sound_no B a1 a2 a3 h.h1 h.h2 h.h3 hn hB).pure (.bool _) (h.entry [] .nil) fl
set_option maxRecDepth 100000 in
set_option maxHeartbeats 8000000 in
theorem wrong_law (hb : BillOK) (B : RBook) (a1 a2 a3 : AV) (h1 : IsSl a1 B.nl 0) (h2 : IsSl a2 B.nd 1) (h3 : IsSl a3 B.nk 2) (hn : B.nd ≤ 9223372036854775807) (n : Int) : CanS 0 Try.prog 8 3 [bk B a1 a2 a3, .int .i64 n] [(0, some (oLa B)), (1, some (oDa B)), (2, some (oLo B))] 3 fun v _ _ => v = .bool true := by
  by_cases hB : bkOk B
  · have hns := hB.1.1
    have hnc := hB.2.2.1
    have hp2 : 1 ≤ (2 : Int) ^ B.nk ∧ (2 : Int) ^ B.nk ≤ 16 := by
      obtain h | h | h | h | h : B.nk = 0 ∨ B.nk = 1 ∨ B.nk = 2 ∨ B.nk = 3 ∨ B.nk = 4 := by omega
      all_goals (rw [h]; decide)
    have hs64 : In64 (1 * 2 ^ B.nk) := by unfold In64; omega
    obtain ⟨L, hL⟩ : ∃ L, wrongL B = L := ⟨_, rfl⟩
    obtain ⟨O, hO⟩ : ∃ O, numsL (wrapV n (1 * 2 ^ B.nk)) B.nk = O := ⟨_, rfl⟩
    have hris : RisL L B.nk := hL ▸ wr_ris hB
    have hl1 : L.length ≤ 1000 := by have := wr_len hB; rw [hL] at this; omega
    have hl2 : O.length ≤ 1000 := by have := numsL_len (wrapV n (1 * 2 ^ B.nk)) B.nk; rw [hO] at this; omega
    have hnil : L = [] ↔ allT B ≠ [] := hL ▸ wr_nil hB
    have hKL : ∀ Q : List Nat, (∀ k ∈ kpL Q B.nk, k < B.nk) ∧ (kpL Q B.nk).length ≤ 4 := fun Q => ⟨fun k hk => (kpL_mem.1 hk).1, Nat.le_trans (kpL_len _ _) hnc⟩
    have hR1 := rtV_t (woB_ok hB (hKL L).1 (hKL L).2) (by have := wr_rest hB; rw [hL] at this; exact this)
    have key : ∀ isv : Bool, rtV B = .tup [.bool isv, .int .i64 0] → ∀ lz : Bool, AV.bool (decide ((L.length : Int) = 0)) = .bool lz → lz = isv → ∀ less fe : Bool, rtV (woB B (kpL O B.nk)) = .tup [.bool less, .int .i64 0] → AV.bool (decide (cmpL O L < 0)) = .bool fe → (fe = true → less = false) → CanS 0 Try.prog 8 3 [bk B a1 a2 a3, .int .i64 n] [(0, some (oLa B)), (1, some (oDa B)), (2, some (oLo B))] 3 fun v _ _ => v = .bool true := by
      intro isv hR lz hz hlz less fe hR2 hFe hfl
      subst hlz
      refine CanS.mk Try.func8 rfl rfl rfl ?_
      repeat' (first | refine RT.nil ?_ | refine sq_n ?_ | refine Tr.seq ?_ | refine Tr.region ?_ | refine Tr.cond_f rfl ?_ | refine Tr.skip ?_ | (refine RT.call rfl rfl rfl (hL ▸ Wrong_w (BkX.of (B := B) (v1 := a1) (v2 := a2) (v3 := a3) (x1 := 0) (x2 := 1) (x3 := 2) ⟨h1, _, rfl, .inr rfl⟩ ⟨h2, _, rfl, .inr rfl⟩ ⟨h3, _, rfl, .inr rfl⟩) (fun x o hx => by have := lookM_mem hx; simp at this; omega) hn hB _) rfl rfl (by decide) ?_) | (refine RT.call rfl rfl rfl (sound_t ⟨h1, h2, h3, rfl, rfl, rfl, by decide⟩ hn hB _) rfl rfl (Nat.le_refl _) ?_) | (refine RT.call rfl rfl rfl (val_is hR (Right_at ⟨h1, h2, h3, rfl, rfl, rfl, by decide⟩ hn _)) rfl rfl (Nat.le_refl _) ?_) | (refine RT.call rfl rfl rfl (Rising_at (L := L) (Lw.of (z := 0) (fun hne => by repeat' (first | exact look_gr hne (by simp))) rfl) hl1 hris _) rfl rfl (Nat.le_refl _) ?_) | (refine RT.goK rfl rfl rfl rfl ?_; first | refine Nx.of (S.eql_b hz) ?_) | (refine RT.goK rfl rfl rfl rfl ?_; apply Nx.of; (first | exact S.neq_f (by decide))) | (refine RT.goK rfl rfl rfl rfl ?_; apply Nx.of; (first | exact S.move | exact S.assign | exact S.load1c rfl rfl rfl rfl | exact S.loadNc rfl rfl rfl rfl | exact S.fieldAddr rfl rfl rfl | exact S.not_t | exact S.pick_ff | exact S.box | exact S.extract rfl | exact S.neqB_f (eqBt _) | exact S.len_fu rfl rfl rfl)) | (refine RT.goK rfl rfl rfl rfl ?_; apply Nx.of; (first | exact S.len_sl rfl rfl rfl (by assumption))))
      refine Tr.openK un8_7 (by kernel_rfl) (by kernel_rfl) (alts [wrapF, pinX 29 [.int .i64 (wrapV n (1 * 2 ^ B.nk)), .int .i64 (B.nk : Int)] ([(3, some (.cells (bk B a1 a2 a3).cells)), (0, some (oLa B)), (1, some (oDa B)), (2, some (oLo B))] ++ grM 4 L) 14 (alV 14 O) ((14, some (alO O)) :: ([(3, some (.cells (bk B a1 a2 a3).cells)), (0, some (oLa B)), (1, some (oDa B)), (2, some (oLo B))] ++ grM 4 L)) 15]) (alts_calm fun g hg => by
        simp only [List.mem_cons, List.not_mem_nil, or_false] at hg
        rcases hg with rfl | rfl
        · exact wrapF_calm
        · exact pinX_calm (fun fl => hO ▸ All_at (c := 14) _ B.nk (by omega) (Kb.hm (by repeat' (first | exact Kb.nil | refine Kb.cons (by decide) ?_ | refine Kb.app ?_ ?_ | exact Kb.gr (by decide)))) fl) (fun fl => (Good.refl fl 14 (ofM ([(3, some (.cells (bk B a1 a2 a3).cells)), (0, some (oLa B)), (1, some (oDa B)), (2, some (oLo B))] ++ grM 4 L))).cons (c2 := 15) (by decide) (by decide) (by decide))) ?_
      repeat' (first | (refine RD.free rfl rfl rfl rfl rfl rfl ?_; apply Nx.of; (first | exact S.move | exact S.assign | exact S.fieldAddr rfl rfl rfl | exact S.shl (by omega) hs64 | exact S.len_sl rfl rfl rfl (by assumption))) | (refine RD.load rfl rfl rfl rfl rfl rfl rfl rfl ?_; apply Nx.of; (first | exact S.load1c rfl rfl rfl rfl)) | (refine RD.load rfl rfl rfl rfl rfl rfl rfl (by refine us_all ?_; simp only [usOk, cond_true, cond_false]; (repeat' (first | exact trivial | refine And.intro ?_ ?_)); all_goals (first | rfl | exact .inl trivial | (refine Or.inr (was_same rfl ?_); (first | (refine ⟨_, rfl, ?_⟩; simp [bk, AV.cells, pbC, rfO, rfVs, rfV, h1.rf, h2.rf, h3.rf]; done))))) ?_; apply Nx.of; (first | exact S.load1c rfl rfl rfl rfl)) | (refine RD.callN rfl rfl rfl rfl rfl rfl rfl rfl rfl (fun fl' => alts_hd (wrapF_at _ _ (by omega) fl' _ _)) (fun _ => by refine srOk_all ?_; simp only [srOk]; (repeat' (first | exact trivial | refine And.intro ?_ ?_)); all_goals (first | exact trivial | (refine ⟨_, rfl, ?_⟩; (first | rfl | (simp [rfO, rfVs, rfV, rfVs_flat]; done) | (simp [bk, AV.cells, pbC, rfO, rfVs, rfV, h1.rf, h2.rf, h3.rf]; done))))) ?_) | (refine RD.callX rfl rfl rfl rfl rfl rfl rfl rfl rfl (fun fl' => (alts_tl (famA_ne _ (by decide))).trans (alts_hd (pinX_at _ _ _ _ _ _ _ fl'))) (fun _ => by refine srOkX_all ?_; simp only [srOkX]; (repeat' (first | exact trivial | refine And.intro ?_ ?_)); all_goals (first | exact trivial | (refine ⟨_, rfl, rfl, ?_⟩; (first | rfl | (simp [rfO, rfVs, rfV, rfVs_flat]; done) | (simp [bk, AV.cells, pbC, rfO, rfVs, rfV, h1.rf, h2.rf, h3.rf]; done))))) ?_) | refine RD.nil ⟨Nat.le_of_ble_eq_true rfl, ?_⟩)
      repeat' (first | refine RT.nil ?_ | refine sq_n ?_ | refine Tr.seq ?_ | refine Tr.region ?_ | (refine RT.call rfl rfl rfl (without_at (L := L) ⟨h1, h2, h3, rfl, rfl, rfl, by decide⟩ (Kb.hm (by repeat' (first | exact Kb.nil | refine Kb.cons (by decide) ?_ | refine Kb.app ?_ ?_ | exact Kb.gr (by decide)))) (Lw.of (z := 0) (fun hne => by repeat' (first | exact look_gr hne (by simp))) rfl) hnc hl1 _) rfl rfl (by decide) ?_) | (refine RT.call rfl rfl rfl (without_at (L := O) ⟨h1, h2, h3, rfl, rfl, rfl, by decide⟩ (Kb.hm (by repeat' (first | exact Kb.nil | refine Kb.cons (by decide) ?_ | refine Kb.app ?_ ?_ | exact Kb.gr (by decide) | exact Kb.kp (by decide)))) (Lw.al rfl) hnc hl2 _) rfl rfl (by decide) ?_) | (refine RT.call rfl rfl rfl (val_is hR1 (Right_x (BkX.wo (K := kpL L B.nk) h1 h2 rfl rfl (fun hne => look_kp hne (by repeat' (first | exact Kb.nil | refine Kb.cons (by decide) ?_ | refine Kb.app ?_ ?_ | exact Kb.gr (by decide))))) hn _)) rfl rfl (Nat.le_refl _) ?_) | (refine RT.call rfl rfl rfl (val_is hR2 (Right_x (BkX.wo (K := kpL O B.nk) h1 h2 rfl rfl (fun hne => look_kp hne (by repeat' (first | exact Kb.nil | refine Kb.cons (by decide) ?_ | refine Kb.app ?_ ?_ | exact Kb.gr (by decide) | exact Kb.kp (by decide))))) hn _)) rfl rfl (Nat.le_refl _) ?_) | (refine RT.goK rfl rfl rfl rfl ?_; apply Nx.of; (first | exact S.eql_t (by decide))) | (refine RT.goK rfl rfl rfl rfl ?_; apply Nx.of; (first | exact S.move | exact S.assign | exact S.loadNc rfl rfl rfl rfl | exact S.pick_tt | exact S.extract rfl)))
      have h3 : (fe = true ∧ less = false) ∨ fe = false := by cases fe <;> simp_all
      rcases h3 with ⟨rfl, rfl⟩ | rfl
      · repeat' (first | refine RT.nil ?_ | refine sq_n ?_ | refine Tr.ret ?_ | (refine RT.call rfl rfl rfl (val_is hFe (Fewer_at (L := O) (Q := L) (Lw.al rfl) (Lw.of (z := 0) (fun hne => by repeat' (first | exact look_gr hne (by simp) | refine (lookM_tl (by decide)).trans ?_ | refine look_left ?_)) rfl) hl2 _)) rfl rfl (Nat.le_refl _) ?_) | (refine RT.call rfl rfl rfl (hb.root_at _ _ _) rfl rfl (Nat.le_refl _) ?_) | (refine RT.goK rfl rfl rfl rfl ?_; apply Nx.of; (first | exact S.move | exact S.assign | exact S.not_t | exact S.not_f | exact S.pick_tt | exact S.pick_ff)))
        (first | refine rt_go rfl ?_)
        rfl
      · repeat' (first | refine RT.nil ?_ | refine sq_n ?_ | refine Tr.ret ?_ | (refine RT.call rfl rfl rfl (val_is hFe (Fewer_at (L := O) (Q := L) (Lw.al rfl) (Lw.of (z := 0) (fun hne => by repeat' (first | exact look_gr hne (by simp) | refine (lookM_tl (by decide)).trans ?_ | refine look_left ?_)) rfl) hl2 _)) rfl rfl (Nat.le_refl _) ?_) | (refine RT.call rfl rfl rfl (hb.root_at _ _ _) rfl rfl (Nat.le_refl _) ?_) | (refine RT.goK rfl rfl rfl rfl ?_; apply Nx.of; (first | exact S.move | exact S.assign | exact S.not_f | exact S.pick_tt)) | (refine RT.no rfl rfl rfl ?_))
        (first | refine rt_go rfl ?_)
        rfl
    have hw2 := woB_ok hB (hKL O).1 (hKL O).2
    have hz : AV.bool (decide ((L.length : Int) = 0)) = .bool (dB (allT B ≠ [])) := congrArg AV.bool (by
      by_cases h : L = []
      · rw [dB_tt (hnil.1 h), h]; rfl
      · rw [dB_ff (fun k => h (hnil.2 k)), decide_eq_false]
        intro k
        exact h (List.length_eq_zero_iff.1 (by omega)))
    have hR : rtV B = .tup [.bool (dB (allT B ≠ [])), .int .i64 0] := by
      by_cases h : allT B = []
      · rw [rtV_f hB h, dB_ff (fun k => k h)]
      · rw [rtV_t hB h, dB_tt h]
    have hR2 : rtV (woB B (kpL O B.nk)) = .tup [.bool (dB (allT (woB B (kpL O B.nk)) ≠ [])), .int .i64 0] := by
      by_cases h : allT (woB B (kpL O B.nk)) = []
      · rw [rtV_f hw2 h, dB_ff (fun k => k h)]
      · rw [rtV_t hw2 h, dB_tt h]
    refine key _ hR _ hz rfl _ _ hR2 rfl (fun h => ?_)
    have h2 := wr_less (s := wrapV n (1 * 2 ^ B.nk)) hB (by rw [hO, hL]; exact of_decide_eq_true h)
    rw [hO] at h2
    exact dB_ff (fun k => k h2)
  · have hnl : IsSl .nils 0 0 := IsSl.nils 0
    refine CanS.mk Try.func8 rfl rfl rfl ?_
    repeat' (first | refine RT.nil ?_ | refine sq_n ?_ | refine Tr.seq ?_ | refine Tr.region ?_ | refine Tr.cond_t rfl ?_ | refine Tr.ret ?_ | refine sq_r ?_ | (refine RT.call rfl rfl rfl (Wrong_xn (BkX.of (B := B) (v1 := a1) (v2 := a2) (v3 := a3) (x1 := 0) (x2 := 1) (x3 := 2) ⟨h1, _, rfl, .inr rfl⟩ ⟨h2, _, rfl, .inr rfl⟩ ⟨h3, _, rfl, .inr rfl⟩) hn hB _) rfl rfl (Nat.le_refl _) ?_) | (refine RT.call rfl rfl rfl (hb.root_at _ _ _) rfl rfl (Nat.le_refl _) ?_) | (refine RT.call rfl rfl rfl (sound_f ⟨h1, h2, h3, rfl, rfl, rfl, by decide⟩ hn hB _) rfl rfl (Nat.le_refl _) ?_) | (refine RT.goK rfl rfl rfl rfl ?_; apply Nx.of; (first | exact S.eql_t (by decide))) | (refine RT.goK rfl rfl rfl rfl ?_; apply Nx.of; (first | exact S.move | exact S.assign | exact S.loadNc rfl rfl rfl rfl | exact S.not_f | exact S.pick_tt | exact S.box | exact S.extract rfl)) | (refine RT.goK rfl rfl rfl rfl ?_; apply Nx.of; (first | exact S.len_sl rfl rfl rfl (by assumption))))
    (first | refine rt_go rfl ?_)
    rfl
end Go.Proofs.Ytpneoeoimdfjaaa
