/- isPlan and May of package gang. -/
import Derived.Test.YtdcgmacknccklaaDoorGg
import Derived.Test.YtdcgmacknccklaaDoorGd
namespace Go.Proofs.YtdcgmacknccklaaDoor
open Go Go.RowKit

theorem Sl.take {w : World} {p : Option Addr} {m n k : Nat} {g : Nat → Nat → Int} (h : Sl w p m n g) (hk : k ≤ n) : Sl w p m k g := fun h0 =>
  let ⟨b, off, hp, hb, hc⟩ := h (by omega)
  ⟨b, off, hp, hb, fun i hi => hc i (by omega)⟩

abbrev HeldW (W : World) (a : Nat) (x : Nat → Int) (w' : World) : Prop := Below W.heap.size W w' ∧ w'.cell? ⟨a, 0, none⟩ = some (.int .i64 (x 0)) ∧ w'.cell? ⟨a, 1, none⟩ = some (.int .i64 (x 1)) ∧ w'.cell? ⟨a, 2, none⟩ = some (.int .i64 (x 2))

theorem keepW {W w' : World} {a : Nat} {x : Nat → Int} (h : HeldW W a x W) (hb : Below W.heap.size W w') : HeldW W a x w' :=
  have lt : ∀ {c : Addr} {v : Value}, W.cell? c = some v → c.block < W.heap.size := fun h => World.block_lt_of_cell? W _ h
  ⟨hb, (hb.cell (lt h.2.1)).trans h.2.1, (hb.cell (lt h.2.2.1)).trans h.2.2.1, (hb.cell (lt h.2.2.2)).trans h.2.2.2⟩

theorem isNext_held {W wc : World} {a : Nat} {y : Nat → Int} (hq : HeldW W a y wc) {B : Book} {pm pg pp : Option Addr} {cm cg cp bb bm : Nat} {x : Nat → Int} {n : Nat} {g : Nat → Nat → Int} {v : Bool} (h : nextB B x n g = v)
    (hP : PB B pm pg cm cg bb bm W) (hm : Sl W pm 3 B.nm B.mile) (hg : Sl W pg 4 B.ng B.gang) (hok : bookB B = true) (hN : NB W) (hp : Sl W pp 3 n g) (hn : n ≤ 9223372036854775807) :
    Calls Tryd.prog 74 #[.pointer (some ⟨bb, 0, none⟩), .agg #[.int .i64 (x 0), .int .i64 (x 1), .int .i64 (x 2)], .slice pp n cp] wc fun e w' => e = .returned (.bool v) ∧ Below W.heap.size W w' :=
  h ▸ (isNext_any B pm pg pp cm cg cp bb bm wc (hP.below hq.1) (hm.below hq.1) (hg.below hq.1) hok (hN.below hq.1) x n g (hp.below hq.1) hn).mono fun _ _ ⟨h, hb⟩ => ⟨h, hq.1.trans (hb.mono hq.1.size)⟩

def planB (B : Book) (n : Nat) (g : Nat → Nat → Int) : Bool := decide (∀ i, i < n → nextB B (g i) i g = true)

set_option maxRecDepth 100000 in
set_option maxHeartbeats 1000000 in
theorem isPlan_any (B : Book) (pm pg pp : Option Addr) (cm cg cp bb bm : Nat) (w : World) (hP : PB B pm pg cm cg bb bm w) (hm : Sl w pm 3 B.nm B.mile) (hg : Sl w pg 4 B.ng B.gang) (hok : bookB B = true) (hN : NB w)
    (n : Nat) (g : Nat → Nat → Int) (hp : Sl w pp 3 n g) (hn : n ≤ cp) (hc : cp ≤ 9223372036854775807) :
    Calls Tryd.prog 45 #[.pointer (some ⟨bb, 0, none⟩), .slice pp n cp] w fun e w' => e = .returned (.bool (planB B n g)) ∧ Below w.heap.size w w' := by
  go_enter Tryd.func45, Tryd.ntmps45
  go_wp2_with fail
  go_loopw [9] (fun i wr => ∃ k : Nat, k ≤ n ∧ i = .int .i64 k ∧ (∀ j, j < k → nextB B (g j) j g = true) ∧ Below w.heap.size w wr) (fun i _ => n - (intOf i).toNat)
  case atStart => exact ⟨0, Nat.zero_le _, rfl, by omega, Below.refl _ _⟩
  case round =>
    rename_i wr
    obtain ⟨k, hk, rfl, hall, hB⟩ := hrel
    have Hall := Lib.hid hall
    clear hall
    have hsz := hB.size
    by_cases hlt : k < n
    · have hBR : Below w.heap.size w (wr.alloc (.cells #[.int .i64 (g k 0), .int .i64 (g k 1), .int .i64 (g k 2)] 54)) := hB.alloc hsz _
      have hpk := Lib.hid ((hp.take (Nat.le_of_lt hlt)).below hBR)
      obtain ⟨b, off, rfl, hb, hrow⟩ := hp.row3 hlt
      obtain ⟨hd0, hd1, hd2⟩ := hrow hB
      clear hrow
      have hS : HeldW (wr.alloc (.cells #[.int .i64 (g k 0), .int .i64 (g k 1), .int .i64 (g k 2)] 54)) wr.heap.size (g k) (wr.alloc (.cells #[.int .i64 (g k 0), .int .i64 (g k 1), .int .i64 (g k 2)] 54)) := ⟨Below.refl _ _, new2 _ _ _ _ rfl 0, new2 _ _ _ _ rfl 1, new2 _ _ _ _ rfl 2⟩
      have hSh := Lib.hid hS
      clear hS
      have hkc : (k : Int) ≤ cp := by omega
      cases hnx : nextB B (g k) k g
      all_goals
        go_wp2_with fail
        go_region_held3 (fun w' => Below ((wr.alloc (.cells #[.int .i64 (g k 0), .int .i64 (g k 1), .int .i64 (g k 2)] 54))).heap.size (wr.alloc (.cells #[.int .i64 (g k 0), .int .i64 (g k 1), .int .i64 (g k 2)] 54)) w' ∧ w'.cell? ⟨wr.heap.size, 0, none⟩ = some (.int .i64 (g k 0)) ∧ w'.cell? ⟨wr.heap.size, 1, none⟩ = some (.int .i64 (g k 1)) ∧ w'.cell? ⟨wr.heap.size, 2, none⟩ = some (.int .i64 (g k 2)))
          (first | exact keepW hSh.out (Below.drew (Below.refl _ _)) | exact keepW hSh.out hB5)
          (first
            | (go_at_call 74; refine (isNext_held (show HeldW (wr.alloc (.cells #[.int .i64 (g k 0), .int .i64 (g k 1), .int .i64 (g k 2)] 54)) wr.heap.size (g k) _ by assumption) hnx (hP.below hBR) (hm.below hBR) (hg.below hBR) hok (hN.below hBR) hpk.out (by omega)).mono ?_; rintro e w5 ⟨rfl, hB5⟩))
        go_wp2_with fail
      · go_ret
        exact ⟨ret_bool (by simp only [planB]; symm; simp only [decide_eq_false_iff_not]; intro hh; have := hh k hlt; rw [hnx] at this; cases this), hBR.trans (hB5.mono (by simp; omega))⟩
      · go_roundw
        case rel => exact ⟨k + 1, by omega, by go_num, fun j hj => by rcases Nat.lt_succ_iff_lt_or_eq.1 hj with h | rfl; exact Hall.out j h; exact hnx, hBR.trans (hB5.mono (by simp; omega))⟩
        case measure => simp [intOf]; omega
    · obtain rfl : k = n := by omega
      go_wp2_with fail
      go_ret
      exact ⟨ret_bool (by simp only [planB]; symm; simp only [decide_eq_true_eq]; exact Hall.out), hB⟩

set_option maxRecDepth 100000 in
theorem May_any (B : Book) (pm pg pp : Option Addr) (cm cg cp : Nat) (w : World) (hm : Sl w pm 3 B.nm B.mile) (hg : Sl w pg 4 B.ng B.gang) (hok : bookB B = true) (hN : NB w)
    (n : Nat) (g : Nat → Nat → Int) (hp : Sl w pp 3 n g) (hn : n ≤ cp) (hc : cp ≤ 9223372036854775807) :
    Calls Tryd.prog 12 #[.agg #[.slice pm B.nm cm, .slice pg B.ng cg, .int .i64 B.nights], .slice pp n cp] w fun e w' => e = .returned (.tuple #[.bool (planB B n g), .int .i64 0]) ∧ Below w.heap.size w w' := by
  have hbd := bookB_bd hok
  go_enter Tryd.func12, Tryd.ntmps12
  go_wp2_with (first
    | (go_at_call 10; refine (Check_any B _ _ _ _ _ (hm.alloc _) (hg.alloc _) (by omega)).mono ?_; rintro e w1 ⟨rfl, hB1⟩; rw [World.size_alloc] at hB1; obtain ⟨hx0, hW1⟩ := box_facts hB1; simp only [hok])
    | (go_at_call 36; refine (prepare_any B _ _ _ _ _).mono ?_; rintro e w2 ⟨bb, bm, rfl, hbb, hPB, hmap, hbm, hne, hB2⟩; have hB2' := box_later hB1 hB2; obtain ⟨hy0, hW2⟩ := box_facts hB2')
    | (go_at_call 45; refine (isPlan_any B _ _ _ _ _ _ bb bm _ hPB (hm.below hW2) (hg.below hW2) hok (hN.below hW2) n g (hp.below hW2) hn hc).mono ?_; rintro e w3 ⟨rfl, hB3⟩))
  go_ret2
  exact ⟨rfl, hW2.trans (hB3.mono hW2.size)⟩
end Go.Proofs.YtdcgmacknccklaaDoor
