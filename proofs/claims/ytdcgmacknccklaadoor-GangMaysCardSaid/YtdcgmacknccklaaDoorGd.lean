/- Can of package gang, for a valid book, a gang and a mile of it. -/
import Derived.Test.YtdcgmacknccklaaDoorGc
namespace Go.Proofs.YtdcgmacknccklaaDoor
open Go Go.RowKit

theorem boxes3 {w wr : World} {c1 c2 c3 : Array Value} {T1 T2 T3 : TypeId} (hB : Below (w.heap.size + 1 + 1 + 1) (((w.alloc (.cells c1 T1)).alloc (.cells c2 T2)).alloc (.cells c3 T3)) wr) :
    (∀ j, wr.cell? ⟨w.heap.size, j, none⟩ = c1[j]?) ∧ (∀ j, wr.cell? ⟨w.heap.size + 1, j, none⟩ = c2[j]?) ∧ (∀ j, wr.cell? ⟨w.heap.size + 1 + 1, j, none⟩ = c3[j]?) ∧ Below w.heap.size w wr := by
  refine ⟨fun j => ?_, fun j => ?_, fun j => ?_, ?_⟩
  · rw [hB.cell (p := ⟨w.heap.size, j, none⟩) (by simp; omega), World.cell?_alloc_past _ _ _ (by simp; omega), World.cell?_alloc_past _ _ _ (by simp), World.cell?_alloc_at _ _ _ _ rfl]
  · rw [hB.cell (p := ⟨w.heap.size + 1, j, none⟩) (by simp), World.cell?_alloc_past _ _ _ (by simp), World.cell?_alloc_at _ _ _ _ (by simp)]
  · rw [hB.cell (p := ⟨w.heap.size + 1 + 1, j, none⟩) (by simp), World.cell?_alloc_at _ _ _ _ (by simp)]
  · exact ((((Below.refl _ _).alloc (Nat.le_refl _) _).alloc (by simp) _).alloc (by simp; omega) _).trans (hB.mono (by omega))

theorem boxes3_later {w wr wr' : World} {c1 c2 c3 : Array Value} {T1 T2 T3 : TypeId} (hB : Below (w.heap.size + 1 + 1 + 1) (((w.alloc (.cells c1 T1)).alloc (.cells c2 T2)).alloc (.cells c3 T3)) wr) (hB' : Below wr.heap.size wr wr') :
    Below (w.heap.size + 1 + 1 + 1) (((w.alloc (.cells c1 T1)).alloc (.cells c2 T2)).alloc (.cells c3 T3)) wr' :=
  hB.trans (hB'.mono (by have := hB.size; simp only [World.size_alloc] at this; omega))

set_option maxRecDepth 100000 in
theorem canCl_any (B : Book) (pm pg : Option Addr) (cm cg bb bm b1 b2 b3 : Nat) (w : World) (hP : PB B pm pg cm cg bb bm w) (hm : Sl w pm 3 B.nm B.mile) (hg : Sl w pg 4 B.ng B.gang) (hok : bookB B = true)
    (iv : Int) (i : Nat) (hiv : iv = i) (hi : i < B.ng) (m : Int) (n : Nat) (hn : n < 4)
    (h1 : w.cell? ⟨b1, 0, none⟩ = some (.pointer (some ⟨bb, 0, none⟩))) (h2 : w.cell? ⟨b2, 0, none⟩ = some (.int .i64 iv)) (h3 : w.cell? ⟨b3, 0, none⟩ = some (.int .i64 m)) :
    Calls Tryd.prog 38 #[.int .i64 n, .pointer (some ⟨b1, 0, none⟩), .pointer (some ⟨b2, 0, none⟩), .pointer (some ⟨b3, 0, none⟩)] w fun e w' => e = .returned (.bool (canB B i m n)) ∧ Below w.heap.size w w' := by
  subst hiv
  go_enter Tryd.func38, Tryd.ntmps38
  go_wp2_with (go_at_call 39; refine (can_any B pm pg cm cg bb bm _ hP hm hg hok i i rfl hi m n (by omega) (by omega)).mono ?_; rintro e w2 ⟨rfl, hB2⟩)
  go_ret
  exact ⟨rfl, hB2⟩

set_option maxRecDepth 100000 in
theorem Can_any (B : Book) (pm pg : Option Addr) (cm cg : Nat) (w : World) (hm : Sl w pm 3 B.nm B.mile) (hg : Sl w pg 4 B.ng B.gang) (hok : bookB B = true)
    (iv mv : Int) (i m : Nat) (hiv : iv = i) (hi : i < B.ng) (hmv : mv = m) (hmi : m < B.nm) :
    Calls Tryd.prog 7 #[.agg #[.slice pm B.nm cm, .slice pg B.ng cg, .int .i64 B.nights], .int .i64 iv, .int .i64 mv] w fun e w' => ∃ p, e = .returned (.tuple #[.slice p (K (fun k => canB B i m k) B.nights.toNat).length (K (fun k => canB B i m k) B.nights.toNat).length, .int .i64 0]) ∧
      Sl w' p 1 (K (fun k => canB B i m k) B.nights.toNat).length (fun j _ => (K (fun k => canB B i m k) B.nights.toNat).getD j 0) ∧ Below w.heap.size w w' := by
  subst hiv hmv
  have hbd := bookB_bd hok
  have hmf : ∀ (fn : Fn) (first cap : Array Value) (w : World), (Instr.makeFunc fn first cap).run Tryd.prog w = .ok (.func fn first cap) w := fun _ _ _ _ => rfl
  have hi1 : inB i 0 (B.ng - 1) = true := by simp [inB]; omega
  have hm1 : inB m 0 (B.nm - 1) = true := by simp [inB]; omega
  have hW0 : Below w.heap.size w (((w.alloc (.cells #[.slice pm B.nm cm, .slice pg B.ng cg, .int .i64 B.nights] 25)).alloc (.cells #[.int .i64 i] 3)).alloc (.cells #[.int .i64 m] 3)) :=
    (((Below.refl _ _).alloc (Nat.le_refl _) _).alloc (by simp) _).alloc (by simp; omega) _
  go_enter Tryd.func7, Tryd.ntmps7
  go_wp2_with (first
    | (go_at_call 10; refine (Check_any B _ _ _ _ _ (hm.below hW0) (hg.below hW0) (by omega)).mono ?_; rintro e w1 ⟨rfl, hB1⟩; simp only [World.size_alloc] at hB1; obtain ⟨hx0, hx1, hx2, hW1⟩ := boxes3 hB1; simp only [hok])
    | (go_at_call 35; refine (isNumber_any _ _ _ (by omega) (by omega)).mono ?_; rintro e w3 ⟨rfl, rfl⟩)
    | (go_at_call 36; refine (prepare_any B _ _ _ _ _).mono ?_; rintro e w2 ⟨bb, bm, rfl, hbb, hPB, hmap, hbm, hne, hB2⟩; have hB2' := boxes3_later hB1 hB2; obtain ⟨hy0, hy1, hy2, hW2⟩ := boxes3 hB2'; have hB3' := boxes3_later hB2' ((Below.refl w2.heap.size w2).alloc (Nat.le_refl _) (.cells #[.pointer (some ⟨bb, 0, none⟩)] 68)); obtain ⟨hz0, hz1, hz2, hW3⟩ := boxes3 hB3'; have hq := hB2'.size; simp only [World.size_alloc] at hq)
    | (go_at_call 37; refine (numbers_any B.nights B.nights.toNat (by omega) (by omega) (fun k => canB B i m k) _ _ _ _ (fun k hk w' hb => canCl_any B pm pg cm cg bb bm _ _ _ w' ((hPB.below ((Below.refl w2.heap.size w2).alloc (Nat.le_refl _) _)).below hb) ((hm.below hW3).below hb) ((hg.below hW3).below hb) hok i i rfl hi m k (by omega)
        ((hb.cell (p := ⟨w2.heap.size, 0, none⟩) (by simp)).trans (by rw [World.cell?_alloc_at _ _ _ _ rfl]; rfl)) ((hb.cell (p := ⟨w.heap.size + 1, 0, none⟩) (by simp; omega)).trans (hz1 0)) ((hb.cell (p := ⟨w.heap.size + 1 + 1, 0, none⟩) (by simp; omega)).trans (hz2 0)))).mono ?_; rintro e w4 ⟨p, rfl, hS, hB4⟩))
  go_ret2
  exact ⟨p, rfl, hS, hW3.trans (hB4.mono (by simp; omega))⟩
end Go.Proofs.YtdcgmacknccklaaDoor
