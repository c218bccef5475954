/- The reference of layer 4: mended, Mended and Open. -/
import Derived.Test.YtdcgmacknccklaaDoorRk
import Derived.Test.YtdcgmacknccklaaDoorDb
namespace Go.Proofs.YtdcgmacknccklaaDoor
open Go Go.RowKit

theorem keepZ1 {W w' : World} {a : Nat} {v0 v1 v2 u : Value} {c : Addr} (h : HeldZ W a v0 v1 v2 W) (hc : W.cell? c = some u) (hb : Below W.heap.size W w') : Below W.heap.size W w' ∧ w'.cell? ⟨a, 0, none⟩ = some v0 ∧ w'.cell? ⟨a, 1, none⟩ = some v1 ∧ w'.cell? ⟨a, 2, none⟩ = some v2 ∧ w'.cell? c = some u :=
  have k := keepZ h hb
  ⟨k.1, k.2.1, k.2.2.1, k.2.2.2, (hb.cell (World.block_lt_of_cell? W _ hc)).trans hc⟩

theorem K_append (f : Nat → Bool) (c : Nat) : ∀ d, ∃ r, K f (c + d) = K f c ++ r
  | 0 => ⟨[], (List.append_nil _).symm⟩
  | d + 1 => by
    obtain ⟨r, h⟩ := K_append f c d
    rw [← Nat.add_assoc]
    cases hf : f (c + d)
    · rw [K_miss hf]; exact ⟨r, h⟩
    · rw [K_hit hf, h]; exact ⟨r ++ [((c + d : Nat) : Int)], by rw [List.append_assoc]⟩

theorem K_none {f : Nat → Bool} {c : Nat} (h : ∀ k, k < c → f k = false) : K f c = [] := by
  rw [K_congr (f2 := fun _ => false) h]; simp [K]

theorem K_first {f : Nat → Bool} {c k : Nat} (hk : k < c) (hf : f k = true) (h : ∀ j, j < k → f j = false) : (K f c).getD 0 0 = k ∧ ((K f c).length == 0) = false := by
  obtain ⟨r, hr⟩ := K_append f (k + 1) (c - (k + 1))
  rw [show k + 1 + (c - (k + 1)) = c by omega, K_hit hf, K_none h] at hr
  rw [hr]
  exact ⟨rfl, rfl⟩

theorem open_first {B : Book} {d : Nat → Int} {k : Nat} (hk : k < B.nm) (hf : mdB B d k = false) (h : ∀ j, j < k → mdB B d j = true) : openN B d = k ∧ openE B d = 0 := by
  have := K_first (f := fun k => !mdB B d k) hk (by simp [hf]) (fun j hj => by simp [h j hj])
  unfold openN openE
  rw [this.1, this.2]
  exact ⟨rfl, rfl⟩

theorem open_none {B : Book} {d : Nat → Int} (h : ∀ j, j < B.nm → mdB B d j = true) : openN B d = 0 ∧ openE B d = 4 := by
  unfold openN openE
  rw [K_none (f := fun k => !mdB B d k) (fun j hj => by simp [h j hj])]
  exact ⟨rfl, rfl⟩

theorem set_step {f : Nat → Bool} {k j : Nat} {v : Bool} (h : f k = v) : (decide (j < k + 1) && f j) = ((decide (j < k) && f j) || ((j == k) && v)) := by
  by_cases h1 : j = k
  · subst h1; simp [h]
  · have e : decide (j < k + 1) = decide (j < k) := by rw [decide_eq_decide]; omega
    have e2 : (j == k) = false := by simpa using h1
    rw [e, e2]; simp

section
variable (B : Book) (pm pg pp : Option Addr) (cm cg cp n : Nat) (g : Nat → Nat → Int) (w : World)

theorem hDone {W wc : World} (hb : Below W.heap.size W wc) (hg : Sl W pg 4 B.ng B.gang) (hok : bookB B = true) (hp : Sl W pp 3 n g) (hn : n ≤ 1000) (hf : Fit B n g) (m : Nat) :
    Calls Tryd.prog 63 #[.agg #[.slice pm B.nm cm, .slice pg B.ng cg, .int .i64 B.nights], .slice pp n cp, .int .i64 m] wc fun e w' => e = .returned (.agg #[.int .i64 (doneF B 0 g m n), .int .i64 (doneF B 1 g m n)]) ∧ Below W.heap.size W w' :=
  held hb (rdone_any B pm pg pp cm cg cp wc (hg.below hb) hok n g (hp.below hb) hn hf m)

set_option maxRecDepth 100000 in
set_option maxHeartbeats 2000000 in
theorem rmended_any (hm : Sl w pm 3 B.nm B.mile) (hg : Sl w pg 4 B.ng B.gang) (hok : bookB B = true) (hp : Sl w pp 3 n g) (hn : n ≤ 1000) (hf : Fit B n g) :
    Calls Tryd.prog 65 #[.agg #[.slice pm B.nm cm, .slice pg B.ng cg, .int .i64 B.nights], .slice pp n cp] w fun e w' => ∃ y : Int, e = .returned (.int .i64 y) ∧ (0 ≤ y ∧ y ≤ 15) ∧ (∀ j : Nat, j < 4 → (bitR y j == 1) = (decide (j < B.nm) && mdB B (fun m : Nat => doneF B 0 g m n) j)) ∧ Below w.heap.size w w' := by
  have hbd := bookB_bd hok
  have hW : Below w.heap.size w (w.alloc (.cells #[.slice pm B.nm cm, .slice pg B.ng cg, .int .i64 B.nights] 25)) := belowAlloc (Below.refl _ _) _
  go_enter Tryd.func65, Tryd.ntmps65
  go_wp2_with fail
  go_loopw [5, 6] (fun v i wr => ∃ k : Nat, k ≤ B.nm ∧ i = .int .i64 k ∧ (∃ y : Int, v = .int .i64 y ∧ (0 ≤ y ∧ y ≤ 15) ∧ ∀ j : Nat, j < 4 → (bitR y j == 1) = (decide (j < k) && mdB B (fun m : Nat => doneF B 0 g m n) j)) ∧ Below (w.heap.size + 1) (w.alloc (.cells #[.slice pm B.nm cm, .slice pg B.ng cg, .int .i64 B.nights] 25)) wr) (fun _ i _ => B.nm - (intOf i).toNat)
  case atStart => exact ⟨0, Nat.zero_le _, rfl, ⟨0, rfl, by omega, fun j hj => by rw [zero_bit j hj]; simp⟩, Below.refl _ _⟩
  case round =>
    rename_i wr
    obtain ⟨k, hk, rfl, ⟨y, rfl, hy, hyb⟩, hB⟩ := hrel
    have Hyb := Lib.hid hyb
    clear hyb
    have hsz := hB.size
    rw [World.size_alloc] at hsz
    obtain ⟨hx, hWr⟩ := box_facts hB
    by_cases hlt : k < B.nm
    · have hSh := Lib.hid (show HeldZ wr w.heap.size (.slice pm B.nm cm) (.slice pg B.ng cg) (.int .i64 B.nights) wr from ⟨Below.refl _ _, hx 0, hx 1, hx 2⟩)
      have hgr := hg.below hWr
      have hpr := hp.below hWr
      obtain ⟨b, off, rfl, hb, hrow⟩ := hm.row3 hlt
      obtain ⟨hd0, hd1, hd2⟩ := hrow hWr
      clear hrow
      have hbw : b < wr.heap.size := by omega
      have Hd1 := Lib.hid hd1
      have hk4 : k < 4 := by omega
      have hfld : ∀ w : World, (Instr.field 40 (.agg #[.int .i64 (doneF B 0 g k n), .int .i64 (doneF B 1 g k n)]) 0).run Tryd.prog w = .ok (.int .i64 (doneF B 0 g k n)) w := fun _ => by kernel_rfl
      cases hmd : mdB B (fun m : Nat => doneF B 0 g m n) k
      · have hge : ¬ B.mile k 1 ≤ doneF B 0 g k n := by simpa [mdB] using hmd
        have hge2 : decide (B.mile k 1 ≤ doneF B 0 g k n) = false := decide_eq_false hge
        have Hmd := Lib.hid hmd
        clear hge hmd
        go_wp2_with fail
        go_region_held3 (fun w' => Below wr.heap.size wr w' ∧ w'.cell? ⟨w.heap.size, 0, none⟩ = some (.slice (some ⟨b, off, none⟩) B.nm cm) ∧ w'.cell? ⟨w.heap.size, 1, none⟩ = some (.slice pg B.ng cg) ∧ w'.cell? ⟨w.heap.size, 2, none⟩ = some (.int .i64 B.nights) ∧ w'.cell? ⟨b, off + k * 3 + 1, none⟩ = some (.int .i64 (B.mile k 1)))
          (first | exact keepZ1 hSh.out Hd1.out (Below.drew (Below.refl _ _)) | exact keepZ1 hSh.out Hd1.out hB3)
          (first
            | (go_at_call 63; refine (hDone B _ pg pp cm cg cp n g (show Below wr.heap.size wr _ ∧ _ by assumption).1 hgr hok hpr hn hf k).mono ?_; rintro e w3 ⟨rfl, hB3⟩))
        go_wp2_with fail
        go_roundw
        case rel => exact ⟨k + 1, by omega, by go_num, ⟨y, rfl, hy, fun j hj => by rw [Hyb.out j hj, set_step Hmd.out]; simp⟩, hB.trans (hB3.mono hsz)⟩
        case measure => simp [intOf]; omega
      · have hle : B.mile k 1 ≤ doneF B 0 g k n := by simpa [mdB] using hmd
        have hle2 : decide (B.mile k 1 ≤ doneF B 0 g k n) = true := decide_eq_true hle
        have Hmd := Lib.hid hmd
        have Hob := Lib.hid (or_bit hy.1 hy.2 hk4)
        clear hle hmd
        go_wp2_with fail
        go_region_held3 (fun w' => Below wr.heap.size wr w' ∧ w'.cell? ⟨w.heap.size, 0, none⟩ = some (.slice (some ⟨b, off, none⟩) B.nm cm) ∧ w'.cell? ⟨w.heap.size, 1, none⟩ = some (.slice pg B.ng cg) ∧ w'.cell? ⟨w.heap.size, 2, none⟩ = some (.int .i64 B.nights) ∧ w'.cell? ⟨b, off + k * 3 + 1, none⟩ = some (.int .i64 (B.mile k 1)))
          (first | exact keepZ1 hSh.out Hd1.out (Below.drew (Below.refl _ _)) | exact keepZ1 hSh.out Hd1.out hB3)
          (first
            | (go_at_call 63; refine (hDone B _ pg pp cm cg cp n g (show Below wr.heap.size wr _ ∧ _ by assumption).1 hgr hok hpr hn hf k).mono ?_; rintro e w3 ⟨rfl, hB3⟩))
        go_wp2_with fail
        go_roundw
        case rel => exact ⟨k + 1, by omega, by go_num, ⟨orBit y k, by simp [orBit], Hob.out.1, fun j hj => by rw [Hob.out.2 j hj, Hyb.out j hj, set_step Hmd.out, Bool.and_true]⟩, hB.trans (hB3.mono hsz)⟩
        case measure => simp [intOf]; omega
    · obtain rfl : k = B.nm := by omega
      go_wp2_with fail
      go_ret
      exact ⟨y, rfl, hy, Hyb.out, hWr⟩

theorem asked_is {c : Int} {q : Bool} (h : ∀ W, Below w.heap.size w W → Calls Tryd.prog 50 #[.agg #[.slice pm B.nm cm, .slice pg B.ng cg, .int .i64 B.nights], .slice pp n cp, .bool q] W fun e w' => e = .returned (.int .i64 c) ∧ Below W.heap.size W w') {W : World} (hb : Below w.heap.size w W) :
    Calls Tryd.prog 50 #[.agg #[.slice pm B.nm cm, .slice pg B.ng cg, .int .i64 B.nights], .slice pp n cp, .bool q] W fun e w' => e = .returned (.int .i64 c) ∧ Below W.heap.size W w' := h W hb

set_option maxRecDepth 100000 in
theorem rMended_no (c : Int) (hr : ∀ W, Below w.heap.size w W → Calls Tryd.prog 50 #[.agg #[.slice pm B.nm cm, .slice pg B.ng cg, .int .i64 B.nights], .slice pp n cp, .bool true] W fun e w' => e = .returned (.int .i64 c) ∧ Below W.heap.size W w') (hc : (c == 0) = false) :
    Calls Tryd.prog 20 #[.agg #[.slice pm B.nm cm, .slice pg B.ng cg, .int .i64 B.nights], .slice pp n cp] w fun e w' => e = .returned (.tuple #[.slice none 0 0, .int .i64 c]) ∧ Below w.heap.size w w' := by
  have hW : Below w.heap.size w (w.alloc (.cells #[.slice pm B.nm cm, .slice pg B.ng cg, .int .i64 B.nights] 25)) := belowAlloc (Below.refl _ _) _
  have hr := Lib.hid hr
  go_enter Tryd.func20, Tryd.ntmps20
  go_wp2_with (go_at_call 50; refine (hr.out _ hW).mono ?_; rintro e w5 ⟨rfl, hB5⟩)
  go_ret2
  exact ⟨rfl, below_after hW hB5⟩

set_option maxRecDepth 100000 in
theorem rOpen_no (c : Int) (hr : ∀ W, Below w.heap.size w W → Calls Tryd.prog 50 #[.agg #[.slice pm B.nm cm, .slice pg B.ng cg, .int .i64 B.nights], .slice pp n cp, .bool true] W fun e w' => e = .returned (.int .i64 c) ∧ Below W.heap.size W w') (hc : (c == 0) = false) :
    Calls Tryd.prog 22 #[.agg #[.slice pm B.nm cm, .slice pg B.ng cg, .int .i64 B.nights], .slice pp n cp] w fun e w' => e = .returned (.tuple #[.int .i64 0, .int .i64 c]) ∧ Below w.heap.size w w' := by
  have hW : Below w.heap.size w (w.alloc (.cells #[.slice pm B.nm cm, .slice pg B.ng cg, .int .i64 B.nights] 25)) := belowAlloc (Below.refl _ _) _
  have hr := Lib.hid hr
  go_enter Tryd.func22, Tryd.ntmps22
  go_wp2_with (go_at_call 50; refine (hr.out _ hW).mono ?_; rintro e w5 ⟨rfl, hB5⟩)
  go_ret2
  exact ⟨rfl, below_after hW hB5⟩

set_option maxRecDepth 100000 in
theorem rMended_plan (hm : Sl w pm 3 B.nm B.mile) (hg : Sl w pg 4 B.ng B.gang) (hok : bookB B = true) (hp : Sl w pp 3 n g) (his : planB B n g = true) :
    Calls Tryd.prog 20 #[.agg #[.slice pm B.nm cm, .slice pg B.ng cg, .int .i64 B.nights], .slice pp n cp] w (MadeIs (mdB B (fun m : Nat => doneF B 0 g m n)) B.nm w) := by
  have hbd := bookB_bd hok
  have hln := planB_len hbd.2.1.2 hbd.2.2.2 his
  have hf := Lib.hid (plan_fit hok his)
  have hW : Below w.heap.size w (w.alloc (.cells #[.slice pm B.nm cm, .slice pg B.ng cg, .int .i64 B.nights] 25)) := belowAlloc (Below.refl _ _) _
  have e4 : K (fun j => decide (j < B.nm) && mdB B (fun m : Nat => doneF B 0 g m n) j) 4 = K (mdB B (fun m : Nat => doneF B 0 g m n)) B.nm := by
    rw [K_upto (c := B.nm) (by omega) (fun j h1 h2 => by simp; omega)]
    exact K_congr fun j hj => by simp [hj]
  have E4 := Lib.hid e4
  clear e4
  go_enter Tryd.func20, Tryd.ntmps20
  go_wp2_with (first
    | (go_at_call 50; refine (asked_plan B pm pg pp cm cg cp n g _ true his (hm.below hW) (hg.below hW) hok (hp.below hW) (by omega)).mono ?_; rintro e w1 ⟨rfl, hB1⟩; rw [World.size_alloc] at hB1; obtain ⟨hx0, hW1⟩ := box_facts hB1)
    | (go_at_call 65; refine (rmended_any B pm pg pp cm cg cp n g _ (hm.below hW1) (hg.below hW1) hok (hp.below hW1) (by omega) hf.out).mono ?_; rintro e w2 ⟨y, rfl, hy, hyb, hB2⟩; have hyb := Lib.hid hyb; have hW2 := below_after hW1 hB2)
    | (go_at_call 52; refine (All_any y hy.1 4 4 rfl (by omega) (fun j => decide (j < B.nm) && mdB B (fun m : Nat => doneF B 0 g m n) j) hyb.out _).mono ?_; rintro e w3 ⟨p, cap, rfl, hS, hB3⟩))
  go_ret2
  rw [E4.out] at hS ⊢
  exact ⟨p, cap, rfl, hS, below_after hW2 hB3⟩

set_option maxRecDepth 100000 in
set_option maxHeartbeats 1000000 in
theorem rOpen_plan (hm : Sl w pm 3 B.nm B.mile) (hg : Sl w pg 4 B.ng B.gang) (hok : bookB B = true) (hp : Sl w pp 3 n g) (his : planB B n g = true) :
    Calls Tryd.prog 22 #[.agg #[.slice pm B.nm cm, .slice pg B.ng cg, .int .i64 B.nights], .slice pp n cp] w fun e w' => e = .returned (.tuple #[.int .i64 (openN B (fun m : Nat => doneF B 0 g m n)), .int .i64 (openE B (fun m : Nat => doneF B 0 g m n))]) ∧ Below w.heap.size w w' := by
  have hbd := bookB_bd hok
  have hln := planB_len hbd.2.1.2 hbd.2.2.2 his
  have hf := Lib.hid (plan_fit hok his)
  have hW : Below w.heap.size w (w.alloc (.cells #[.slice pm B.nm cm, .slice pg B.ng cg, .int .i64 B.nights] 25)) := belowAlloc (Below.refl _ _) _
  go_enter Tryd.func22, Tryd.ntmps22
  go_wp2_with (first
    | (go_at_call 50; refine (asked_plan B pm pg pp cm cg cp n g _ true his (hm.below hW) (hg.below hW) hok (hp.below hW) (by omega)).mono ?_; rintro e w1 ⟨rfl, hB1⟩; rw [World.size_alloc] at hB1; obtain ⟨hx0, hW1⟩ := box_facts hB1)
    | (go_at_call 65; refine (rmended_any B pm pg pp cm cg cp n g _ (hm.below hW1) (hg.below hW1) hok (hp.below hW1) (by omega) hf.out).mono ?_; rintro e w2 ⟨y, rfl, hy, hyb, hB2⟩; have hyb := Lib.hid hyb; have hB2' := box_later hB1 hB2; obtain ⟨hy0, hW2⟩ := box_facts hB2'))
  go_loop [8] (fun i => ∃ k : Nat, k ≤ B.nm ∧ i = .int .i64 k ∧ ∀ j, j < k → mdB B (fun m : Nat => doneF B 0 g m n) j = true) (fun i => B.nm - (intOf i).toNat)
  case atStart => exact ⟨0, Nat.zero_le _, rfl, by omega⟩
  case round =>
    obtain ⟨k, hk, rfl, hall⟩ := hrel
    have Hall := Lib.hid hall
    clear hall
    by_cases hlt : k < B.nm
    · have hb4 := hyb.out k (by omega)
      rw [decide_eq_true hlt, Bool.true_and] at hb4
      cases hmd : mdB B (fun m : Nat => doneF B 0 g m n) k
      all_goals
        rw [hmd] at hb4
        have Hb4 := Lib.hid hb4
        have Hmd := Lib.hid hmd
        clear hb4 hmd
        go_wp2_with (go_at_call 68; refine (In_is Hb4.out hy.1 (by omega) (by omega) _).mono ?_; rintro e w4 ⟨rfl, rfl⟩)
      · go_ret2
        exact ⟨by rw [(open_first hlt Hmd.out Hall.out).1, (open_first hlt Hmd.out Hall.out).2]; rfl, hW2⟩
      · go_round
        case rel => exact ⟨k + 1, by omega, by go_num, fun j hj => by rcases Nat.lt_succ_iff_lt_or_eq.1 hj with h | rfl; exact Hall.out j h; exact Hmd.out⟩
        case measure => simp [intOf]; omega
    · obtain rfl : k = B.nm := by omega
      go_wp2_with fail
      go_ret2
      exact ⟨by rw [(open_none Hall.out).1, (open_none Hall.out).2]; rfl, hW2⟩
end
end Go.Proofs.YtdcgmacknccklaaDoor
