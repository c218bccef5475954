/- numbers and Can of package gang: the list of all numbers that are so. Can of package gang, for a valid book, a gang and a mile of it. -/
import Derived.Test.YtdcgmacknccklaaDoorGab
import Derived.Laws.AppendOwn
namespace Go.Proofs.YtdcgmacknccklaaDoor
open Go Go.RowKit

theorem ownsRow_below {w w' : World} {base : Nat} {e : TypeId} {size : Nat} {v : Value} {n : Nat} {xs : List Value} (h : w.ownsRow base e size v n xs) (hb : Below w.heap.size w w') : w'.ownsRow base e size v n xs := by
  refine ⟨h.1, ?_⟩
  rcases h.2 with hn | ⟨g, cap, cur, rfl, h1, h2, h3⟩
  · exact .inl hn
  · exact .inr ⟨g, cap, cur, rfl, h1, (hb.block g (Array.getElem?_eq_some_iff.1 h2).1).trans h2, h3⟩

/-- The numbers below k that are so. -/
def K (f : Nat → Bool) (k : Nat) : List Int := ((List.range k).filter f).map (fun i : Nat => (i : Int))

theorem K_hit {f : Nat → Bool} {k : Nat} (h : f k = true) : K f (k + 1) = K f k ++ [(k : Int)] := by simp [K, List.range_succ, List.filter_append, h]
theorem K_miss {f : Nat → Bool} {k : Nat} (h : f k = false) : K f (k + 1) = K f k := by simp [K, List.range_succ, List.filter_append, h]
theorem K_le (f : Nat → Bool) (k : Nat) : (K f k).length ≤ k := by
  have := List.length_filter_le f (List.range k)
  simpa [K] using this

theorem info3 : (Tryd.prog.info? 3).map (fun i => (i.zero, i.size, i.bytes)) = some (some (.int .i64 0), 1, 8) := by kernel_rfl

theorem sl_of_owns {w : World} {base : Nat} {e : TypeId} {g : Nat} {l : List Int} {cap : Nat} (h : w.ownsRow base e 1 (.slice (some ⟨g, 0, none⟩) l.length cap) l.length (l.map (Value.int .i64))) : Sl w (some ⟨g, 0, none⟩) 1 l.length (fun i _ => l.getD i 0) := by
  intro hn
  refine ⟨g, 0, rfl, (h.lt g rfl).2, fun i hi j hj => ?_⟩
  have := h.cells (g := g) rfl i (.int .i64 (l.getD i 0)) (by simp [List.getElem?_eq_getElem hi])
  obtain rfl : j = 0 := by omega
  have e0 : (⟨g, 0, none⟩ : Addr).add i = ⟨g, 0 + i * 1 + 0, none⟩ := by unfold Addr.add; split <;> simp_all
  rwa [e0] at this

set_option maxRecDepth 100000 in
theorem numbers_any (cv : Int) (c : Nat) (hcv : cv = c) (hc : c ≤ 1000) (f : Nat → Bool) (a1 a2 a3 : Value) (w : World)
    (hcl : ∀ k : Nat, k < c → ∀ w', Below w.heap.size w w' → Calls Tryd.prog 38 #[.int .i64 k, a1, a2, a3] w' fun e w'' => e = .returned (.bool (f k)) ∧ Below w'.heap.size w' w'') :
    Calls Tryd.prog 37 #[.int .i64 cv, .func (.func 38) #[] #[a1, a2, a3]] w fun e w' => ∃ p, e = .returned (.slice p (K f c).length (K f c).length) ∧ Sl w' p 1 (K f c).length (fun i _ => (K f c).getD i 0) ∧ Below w.heap.size w w' := by
  subst hcv
  obtain ⟨i0, hi, hz0, hz1, hz2⟩ := info_parts info3
  go_enter Tryd.func37, Tryd.ntmps37
  go_wp2
  go_loopw [5, 8] (fun v i wr => ∃ k : Nat, k ≤ c ∧ i = .int .i64 k ∧ wr.ownsRow w.heap.size 3 1 v (K f k).length ((K f k).map (Value.int .i64)) ∧ Below w.heap.size w wr) (fun _ i _ => c - (intOf i).toNat)
  case atStart => exact ⟨0, Nat.zero_le _, rfl, World.ownsRow_nil _ _ _ _, Below.refl _ _⟩
  case round =>
    rename_i wr
    obtain ⟨k, hk, rfl, hown, hB⟩ := hrel
    have hsz := hB.size
    have hle := K_le f k
    by_cases hlt : k < c
    · have hc1 := hcl k hlt wr hB
      have Hcl := Lib.hid hcl
      clear hcl
      cases hf : f k
      · rw [hf] at hc1
        have Hf := Lib.hid hf
        clear hf
        go_wp2_with (go_at_call 38; refine hc1.mono ?_; rintro e w2 ⟨rfl, hB2⟩)
        go_roundw
        case rel => exact ⟨k + 1, by omega, by go_num, by rw [K_miss Hf.out]; exact ownsRow_below hown hB2, hB.trans (hB2.mono hsz)⟩
        case measure => simp [intOf]; omega
      · rw [hf] at hc1
        have Hf := Lib.hid hf
        clear hf
        go_wp2_with (first
          | (go_at_call 38; refine hc1.mono ?_; rintro e w2 ⟨rfl, hB2⟩)
          | (at_builtin; refine wpList_append_own _ rfl _ _ 28 rfl w.heap.size 3 i0 (.int .i64 0) 1 8 Tryd.underlying28 hi hz0 hz1 hz2 rfl (by decide) _ _ _ rfl ((ownsRow_below hown hB2).alloc _) ⟨w2.heap.size, 0, none⟩ 1 1 [.int .i64 k] rfl rfl ?c1 ?c2 ?c3 ?c4 ?c5 ?_))
        case c1 =>
          intro j u hj
          match j, hj with
          | 0, hj => simp at hj; subst hj; simp [Addr.add]
        case c2 => intro u hu; simp at hu; subst hu; rfl
        case c3 => unfold maxLen; omega
        case c4 => omega
        case c5 => have := hB2.size; simp; omega
        intro v' w1 hown' hgrow _
        have hs2 := hB2.size
        have hB3 : Below w.heap.size w w1 := ((hB.trans (hB2.mono hsz)).alloc (by omega) _).grown hgrow (by simp; omega) (fun j hj => by have := (hown.lt j hj).1; omega)
        clear hgrow
        go_wp2
        go_roundw
        case rel => exact ⟨k + 1, by omega, by go_num, by rw [K_hit Hf.out]; simpa using hown', hB3⟩
        case measure => simp [intOf]; omega
    · obtain rfl : k = c := by omega
      have Hcl := Lib.hid hcl
      clear hcl
      rcases hown.2 with ⟨rfl, h0⟩ | ⟨g, cap, cur, rfl, h1, h2, h3, h4, h5⟩
      · have e0 : K f k = [] := List.eq_nil_of_length_eq_zero h0
        go_wp2
        go_ret
        rw [e0]
        exact ⟨none, rfl, fun h => absurd h (by simp), hB⟩
      · have hS := sl_of_owns hown
        have h4' := h4
        unfold maxLen at h4'
        go_wp2
        go_ret
        exact ⟨_, rfl, hS, hB⟩
end Go.Proofs.YtdcgmacknccklaaDoor

namespace Go.Proofs.YtdcgmacknccklaaDoor
open Go Go.RowKit

theorem boxes3 {w wr : World} {c1 c2 c3 : Array Value} {T1 T2 T3 : TypeId} (hB : Below (w.heap.size + 1 + 1 + 1) (((w.alloc (.cells c1 T1)).alloc (.cells c2 T2)).alloc (.cells c3 T3)) wr) :
    (∀ j, wr.cell? ⟨w.heap.size, j, none⟩ = c1[j]?) ∧ (∀ j, wr.cell? ⟨w.heap.size + 1, j, none⟩ = c2[j]?) ∧ (∀ j, wr.cell? ⟨w.heap.size + 1 + 1, j, none⟩ = c3[j]?) ∧ Below w.heap.size w wr := by
  refine ⟨fun j => ?_, fun j => ?_, fun j => ?_, ?_⟩
  · rw [hB.cell (p := ⟨w.heap.size, j, none⟩) (by simp; omega), World.cell?_alloc_past _ _ _ (by simp; omega), World.cell?_alloc_past _ _ _ (by simp), World.cell?_alloc_at _ _ _ _ rfl]
  · rw [hB.cell (p := ⟨w.heap.size + 1, j, none⟩) (by simp), World.cell?_alloc_past _ _ _ (by simp), World.cell?_alloc_at _ _ _ _ (by simp)]
  · rw [hB.cell (p := ⟨w.heap.size + 1 + 1, j, none⟩) (by simp), World.cell?_alloc_at _ _ _ _ (by simp)]
  · exact ((((Below.refl _ _).alloc (Nat.le_refl _) _).alloc (by simp) _).alloc (by simp; omega) _).trans (hB.mono (by omega))

theorem boxes3_later {w wr wr' : World} {c1 c2 c3 : Array Value} {T1 T2 T3 : TypeId} (hB : Below (w.heap.size + 1 + 1 + 1) (((w.alloc (.cells c1 T1)).alloc (.cells c2 T2)).alloc (.cells c3 T3)) wr) (hB' : Below wr.heap.size wr wr') :
    Below (w.heap.size + 1 + 1 + 1) (((w.alloc (.cells c1 T1)).alloc (.cells c2 T2)).alloc (.cells c3 T3)) wr' :=
  hB.trans (hB'.mono (by have := hB.size; simp only [World.size_alloc] at this; omega))

set_option maxRecDepth 100000 in
theorem canCl_any (B : Book) (pm pg : Option Addr) (cm cg bb bm b1 b2 b3 : Nat) (w : World) (hP : PB B pm pg cm cg bb bm w) (hm : Sl w pm 3 B.nm B.mile) (hg : Sl w pg 4 B.ng B.gang) (hok : bookB B = true)
    (iv : Int) (i : Nat) (hiv : iv = i) (hi : i < B.ng) (m : Int) (n : Nat) (hn : n < 4)
    (h1 : w.cell? ⟨b1, 0, none⟩ = some (.pointer (some ⟨bb, 0, none⟩))) (h2 : w.cell? ⟨b2, 0, none⟩ = some (.int .i64 iv)) (h3 : w.cell? ⟨b3, 0, none⟩ = some (.int .i64 m)) :
    Calls Tryd.prog 38 #[.int .i64 n, .pointer (some ⟨b1, 0, none⟩), .pointer (some ⟨b2, 0, none⟩), .pointer (some ⟨b3, 0, none⟩)] w fun e w' => e = .returned (.bool (canB B i m n)) ∧ Below w.heap.size w w' := by
  subst hiv
  go_enter Tryd.func38, Tryd.ntmps38
  go_wp2_with (go_at_call 39; refine (can_any B pm pg cm cg bb bm _ hP hm hg hok i i rfl hi m n (by omega) (by omega)).mono ?_; rintro e w2 ⟨rfl, hB2⟩)
  go_ret
  exact ⟨rfl, hB2⟩

set_option maxRecDepth 100000 in
theorem Can_any (B : Book) (pm pg : Option Addr) (cm cg : Nat) (w : World) (hm : Sl w pm 3 B.nm B.mile) (hg : Sl w pg 4 B.ng B.gang) (hok : bookB B = true)
    (iv mv : Int) (i m : Nat) (hiv : iv = i) (hi : i < B.ng) (hmv : mv = m) (hmi : m < B.nm) :
    Calls Tryd.prog 7 #[.agg #[.slice pm B.nm cm, .slice pg B.ng cg, .int .i64 B.nights], .int .i64 iv, .int .i64 mv] w fun e w' => ∃ p, e = .returned (.tuple #[.slice p (K (fun k => canB B i m k) B.nights.toNat).length (K (fun k => canB B i m k) B.nights.toNat).length, .int .i64 0]) ∧
      Sl w' p 1 (K (fun k => canB B i m k) B.nights.toNat).length (fun j _ => (K (fun k => canB B i m k) B.nights.toNat).getD j 0) ∧ Below w.heap.size w w' := by
  subst hiv hmv
  have hbd := bookB_bd hok
  have hmf : ∀ (fn : Fn) (first cap : Array Value) (w : World), (Instr.makeFunc fn first cap).run Tryd.prog w = .ok (.func fn first cap) w := fun _ _ _ _ => rfl
  have hi1 : inB i 0 (B.ng - 1) = true := by simp [inB]; omega
  have hm1 : inB m 0 (B.nm - 1) = true := by simp [inB]; omega
  have hW0 : Below w.heap.size w (((w.alloc (.cells #[.slice pm B.nm cm, .slice pg B.ng cg, .int .i64 B.nights] 25)).alloc (.cells #[.int .i64 i] 3)).alloc (.cells #[.int .i64 m] 3)) :=
    (((Below.refl _ _).alloc (Nat.le_refl _) _).alloc (by simp) _).alloc (by simp; omega) _
  go_enter Tryd.func7, Tryd.ntmps7
  go_wp2_with (first
    | (go_at_call 10; refine (Check_any B _ _ _ _ _ (hm.below hW0) (hg.below hW0) (by omega)).mono ?_; rintro e w1 ⟨rfl, hB1⟩; simp only [World.size_alloc] at hB1; obtain ⟨hx0, hx1, hx2, hW1⟩ := boxes3 hB1; simp only [hok])
    | (go_at_call 35; refine (isNumber_any _ _ _ (by omega) (by omega)).mono ?_; rintro e w3 ⟨rfl, rfl⟩)
    | (go_at_call 36; refine (prepare_any B _ _ _ _ _).mono ?_; rintro e w2 ⟨bb, bm, rfl, hbb, hPB, hmap, hbm, hne, hB2⟩; have hB2' := boxes3_later hB1 hB2; obtain ⟨hy0, hy1, hy2, hW2⟩ := boxes3 hB2'; have hB3' := boxes3_later hB2' ((Below.refl w2.heap.size w2).alloc (Nat.le_refl _) (.cells #[.pointer (some ⟨bb, 0, none⟩)] 68)); obtain ⟨hz0, hz1, hz2, hW3⟩ := boxes3 hB3'; have hq := hB2'.size; simp only [World.size_alloc] at hq)
    | (go_at_call 37; refine (numbers_any B.nights B.nights.toNat (by omega) (by omega) (fun k => canB B i m k) _ _ _ _ (fun k hk w' hb => canCl_any B pm pg cm cg bb bm _ _ _ w' ((hPB.below ((Below.refl w2.heap.size w2).alloc (Nat.le_refl _) _)).below hb) ((hm.below hW3).below hb) ((hg.below hW3).below hb) hok i i rfl hi m k (by omega)
        ((hb.cell (p := ⟨w2.heap.size, 0, none⟩) (by simp)).trans (by rw [World.cell?_alloc_at _ _ _ _ rfl]; rfl)) ((hb.cell (p := ⟨w.heap.size + 1, 0, none⟩) (by simp; omega)).trans (hz1 0)) ((hb.cell (p := ⟨w.heap.size + 1 + 1, 0, none⟩) (by simp; omega)).trans (hz2 0)))).mono ?_; rintro e w4 ⟨p, rfl, hS, hB4⟩))
  go_ret2
  exact ⟨p, rfl, hS, hW3.trans (hB4.mono (by simp; omega))⟩
end Go.Proofs.YtdcgmacknccklaaDoor

