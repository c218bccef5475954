/- What statements on layer 4 share: lists of numbers, bits, small steps. -/
import Derived.Test.YtdcgmacknccklaaDoorGs
import Derived.Test.YtdcgmacknccklaaDoorGhm
namespace Go.Proofs.YtdcgmacknccklaaDoor
open Go Go.RowKit

theorem work_any (n g m : Int) (w : World) :
    Calls Tryd.prog 55 #[.int .i64 n, .int .i64 g, .int .i64 m] w fun e w' => e = .returned (.agg #[.int .i64 n, .int .i64 g, .int .i64 m]) ∧ Below w.heap.size w w' := by
  go_enter Tryd.func55, Tryd.ntmps55
  go_wp2
  (try simp only [Exit.inBlock, Exit.then])
  refine bodyPost_ret (results_cell_row rfl _ _ w.heap.size 54 #[.int .i64 n, .int .i64 g, .int .i64 m] (0, 0) _ rfl ?_ Tryd.underlying54 rfl (by kernel_rfl)) rfl ?_
  · exact heap_alloc_new w _
  exact ⟨rfl, (Below.refl _ _).alloc (Nat.le_refl _) _⟩

theorem bit_all : (List.range 16).all (fun x => (List.range 4).all fun n => bitR x n == 0 || bitR x n == 1) = true := by kernel_rfl

theorem bit_or {x n : Int} (h0 : 0 ≤ x) (h1 : x ≤ 15) (h2 : 0 ≤ n) (h3 : n ≤ 3) : bitR x n = 0 ∨ bitR x n = 1 := by
  have := List.all_eq_true.1 bit_all x.toNat (List.mem_range.2 (by omega))
  have := List.all_eq_true.1 this n.toNat (List.mem_range.2 (by omega))
  rw [Int.toNat_of_nonneg h0, Int.toNat_of_nonneg h2] at this
  simpa using this

theorem K_rising (f : Nat → Bool) (c : Nat) : ∀ i, i < (K f c).length → lastL (fun j _ => (K f c).getD j 0) i < (K f c).getD i 0 ∧ (K f c).getD i 0 < c := by
  induction c with
  | zero => intro i hi; simp [K] at hi
  | succ c ih =>
    cases hf : f c
    · rw [K_miss hf]; intro i hi; have := ih i hi; omega
    · rw [K_hit hf]
      intro i hi
      simp only [List.length_append, List.length_cons, List.length_nil] at hi
      have e : ∀ j, j < (K f c).length → (K f c ++ [(c : Int)]).getD j 0 = (K f c).getD j 0 := fun j hj => by
        simp [List.getD_eq_getElem?_getD, List.getElem?_append_left hj]
      have el : (K f c ++ [(c : Int)]).getD (K f c).length 0 = c := by simp [List.getD_eq_getElem?_getD]
      rcases Nat.lt_or_ge i (K f c).length with h | h
      · have h1 := ih i h
        rw [e i h]
        refine ⟨?_, by omega⟩
        cases i with
        | zero => exact h1.1
        | succ i => simp only [lastL] at h1 ⊢; rw [e i (by omega)]; exact h1.1
      · obtain rfl : i = (K f c).length := by omega
        rw [el]
        refine ⟨?_, by omega⟩
        cases hl : (K f c).length with
        | zero => simp only [lastL]; omega
        | succ i => simp only [lastL]; rw [e i (by omega)]; exact (ih i (by omega)).2

theorem K_ris (f : Nat → Bool) (c : Nat) : risB (K f c).length (fun j _ => (K f c).getD j 0) c = true := by
  simp only [risB, decide_eq_true_eq]; exact K_rising f c

theorem mem_K (f : Nat → Bool) (c : Nat) (x : Nat) (hx : x < c) : (0 ≤ plL (fun j _ => (K f c).getD j 0) x 0 (K f c).length) ↔ f x = true := by
  rw [plL_iff]
  constructor
  · rintro ⟨i, _, h2, h3⟩
    have hm : (x : Int) ∈ K f c := by
      rw [← h3]
      have hi : i < (K f c).length := by omega
      rw [List.getD_eq_getElem?_getD, List.getElem?_eq_getElem hi]
      exact List.getElem_mem hi
    simp only [K, List.mem_map, List.mem_filter, List.mem_range] at hm
    obtain ⟨a, ⟨_, ha⟩, he⟩ := hm
    obtain rfl : a = x := by omega
    exact ha
  · intro h
    have hm : (x : Int) ∈ K f c := by
      simp only [K, List.mem_map, List.mem_filter, List.mem_range]
      exact ⟨x, ⟨hx, h⟩, rfl⟩
    obtain ⟨i, hi, he⟩ := List.getElem_of_mem hm
    exact ⟨i, by omega, by omega, by simp [List.getD_eq_getElem?_getD, List.getElem?_eq_getElem hi, he]⟩

/-- A plan of one work. -/
def gW (n g m : Int) : Nat → Nat → Int := fun _ j => [n, g, m].getD j 0

theorem planB_one {B : Book} {n g m : Int} {v : Bool} (h0 : inB n 0 (B.nights - 1) = true) (h1 : inB g 0 (B.ng - 1) = true) (hv : canB B g.toNat m n = v) : planB B 1 (gW n g m) = v := by
  have : nextB B (gW n g m 0) 0 (gW n g m) = v := by
    simp only [nextB, gW, List.getD_cons_zero, List.getD_cons_succ, h0, h1, hv, Bool.true_and]
    cases v <;> simp
  rw [planB, Bool.eq_iff_iff]
  simp only [decide_eq_true_eq]
  constructor
  · intro h; rw [← this]; exact h 0 (by omega)
  · rintro rfl i hi; obtain rfl : i = 0 := by omega
    exact this

theorem plan_one {B : Book} {i m n : Nat} (hn : inB (n : Int) 0 (B.nights - 1) = true) (hi : inB (i : Int) 0 (B.ng - 1) = true) {v : Bool} (h : canB B i m n = v) : planB B 1 (gW n i m) = v :=
  planB_one hn hi (by simpa using h)

theorem boxes2 {w wr : World} {c1 c2 : Array Value} {T1 T2 : TypeId} (hB : Below (w.heap.size + 1 + 1) ((w.alloc (.cells c1 T1)).alloc (.cells c2 T2)) wr) :
    (∀ j, wr.cell? ⟨w.heap.size, j, none⟩ = c1[j]?) ∧ (∀ j, wr.cell? ⟨w.heap.size + 1, j, none⟩ = c2[j]?) ∧ Below w.heap.size w wr := by
  refine ⟨fun j => ?_, fun j => ?_, ?_⟩
  · rw [hB.cell (p := ⟨w.heap.size, j, none⟩) (by simp; omega), World.cell?_alloc_past _ _ _ (by simp), World.cell?_alloc_at _ _ _ _ rfl]
  · rw [hB.cell (p := ⟨w.heap.size + 1, j, none⟩) (by simp), World.cell?_alloc_at _ _ _ _ (by simp)]
  · exact (((Below.refl _ _).alloc (Nat.le_refl _) _).alloc (by simp) _).trans (hB.mono (by omega))

theorem boxes2_later {w wr wr' : World} {c1 c2 : Array Value} {T1 T2 : TypeId} (hB : Below (w.heap.size + 1 + 1) ((w.alloc (.cells c1 T1)).alloc (.cells c2 T2)) wr) (hB' : Below wr.heap.size wr wr') :
    Below (w.heap.size + 1 + 1) ((w.alloc (.cells c1 T1)).alloc (.cells c2 T2)) wr' :=
  hB.trans (hB'.mono (by have := hB.size; simp only [World.size_alloc] at this; omega))

theorem Rising_is {p : Option Addr} {n cap : Nat} {g : Nat → Nat → Int} {below : Int} {v : Bool} (h : risB n g below = v) (w : World) (hs : Sl w p 1 n g) (hn : n ≤ 9223372036854775807) :
    Calls Tryd.prog 27 #[.slice p n cap, .int .i64 below] w fun e w' => e = .returned (.bool v) ∧ w' = w := h ▸ Rising_any p n cap g below w hs hn

theorem In_is {x n : Int} {v : Bool} (h : (bitR x n == 1) = v) (hx : 0 ≤ x) (h0 : 0 ≤ n) (h1 : n ≤ 63) (w : World) :
    Calls Tryd.prog 68 #[.int .i64 x, .int .i64 n] w fun e w' => e = .returned (.bool v) ∧ w' = w := h ▸ In_any x n hx h0 h1 w

theorem sound_case (B : Book) (pm pg : Option Addr) (cm cg : Nat) (w : World) (hm : Sl w pm 3 B.nm B.mile) (hg : Sl w pg 4 B.ng B.gang) (hlm : B.nm ≤ 9223372036854775807) {v : Bool} (hok : bookB B = v) :
    Calls Tryd.prog 23 #[.agg #[.slice pm B.nm cm, .slice pg B.ng cg, .int .i64 B.nights]] w fun e w' => e = .returned (.bool v) ∧ Below w.heap.size w w' := by
  cases v
  · exact sound_false B pm pg cm cg w hm hg hlm hok
  · exact sound_true B pm pg cm cg w hm hg hok

end Go.Proofs.YtdcgmacknccklaaDoor
