/- GangRules answers true for any book, works and number, where the chapter's examples are answered rightly. -/
import Derived.Test.YtdcgmacknccklaaDoorLd
import Derived.Test.YtdcgmacknccklaaDoorDb
namespace Go.Proofs.YtdcgmacknccklaaDoor
open Go Go.RowKit

set_option maxRecDepth 100000 in
theorem rules_no_book (B : Book) (pm pg pp : Option Addr) (cm cg cp n : Nat) (w : World) (hm : Sl w pm 3 B.nm B.mile) (hg : Sl w pg 4 B.ng B.gang) (hlm : B.nm ≤ 9223372036854775807) (hno : bookB B = false) (a : Int)
    (h9 : ∀ W, Below w.heap.size w W → Calls Tryd.prog 16 #[] W fun e w' => e = .returned (.bool true) ∧ Below W.heap.size W w') :
    Calls Tryd.prog 5 #[.agg #[.slice pm B.nm cm, .slice pg B.ng cg, .int .i64 B.nights], .slice pp n cp, .int .i64 a] w fun e w' => e = .returned (.bool true) ∧ Below w.heap.size w w' := by
  have hW : Below w.heap.size w (w.alloc (.cells #[.slice pm B.nm cm, .slice pg B.ng cg, .int .i64 B.nights] 25)) := belowAlloc (Below.refl _ _) _
  have h9 := Lib.hid h9
  go_enter Tryd.func5, Tryd.ntmps5
  go_wp2_with (first
    | (go_at_call 23; refine (sound_case B _ _ _ _ _ (hm.below hW) (hg.below hW) hlm hno).mono ?_; rintro e w1 ⟨rfl, hB1⟩; have hW1 := below_after hW hB1)
    | (go_at_call 16; refine (h9.out _ hW1).mono ?_; rintro e w2 ⟨rfl, hB2⟩))
  go_ret
  exact ⟨rfl, below_after hW1 hB2⟩

theorem lawful_is {B : Book} {pm pg pp : Option Addr} {cm cg cp : Nat} {W : World} (hm : Sl W pm 3 B.nm B.mile) (hg : Sl W pg 4 B.ng B.gang) (hok : bookB B = true) {n : Nat} {g : Nat → Nat → Int} (hp : Sl W pp 3 n g) (hn : n ≤ 9223372036854775807) {v : Bool} (hv : planB B n g = v) :
    Calls Tryd.prog 25 #[.agg #[.slice pm B.nm cm, .slice pg B.ng cg, .int .i64 B.nights], .slice pp n cp] W fun e w' => e = .returned (.bool v) ∧ Below W.heap.size W w' :=
  lawful_any B pm pg pp cm cg cp W hm hg hok n g hp hn v (by rw [← hv]; exact law_plan hok)

set_option maxRecDepth 100000 in
set_option maxHeartbeats 2000000 in
theorem rules_no_plan (B : Book) (pm pg pp : Option Addr) (cm cg cp n : Nat) (g : Nat → Nat → Int) (w : World) (hm : Sl w pm 3 B.nm B.mile) (hg : Sl w pg 4 B.ng B.gang) (hok : bookB B = true) (hN : NB w) (hp : Sl w pp 3 n g) (hn : n ≤ cp) (hc : cp ≤ 9223372036854775807) (hcp : pp = none → cp = 0) (hno : planB B n g = false) (a : Int)
    (h9 : ∀ W, Below w.heap.size w W → Calls Tryd.prog 16 #[] W fun e w' => e = .returned (.bool true) ∧ Below W.heap.size W w') :
    Calls Tryd.prog 5 #[.agg #[.slice pm B.nm cm, .slice pg B.ng cg, .int .i64 B.nights], .slice pp n cp, .int .i64 a] w fun e w' => e = .returned (.bool true) ∧ Below w.heap.size w w' := by
  have hbd := bookB_bd hok
  have hW : Below w.heap.size w (w.alloc (.cells #[.slice pm B.nm cm, .slice pg B.ng cg, .int .i64 B.nights] 25)) := belowAlloc (Below.refl _ _) _
  have h9 := Lib.hid h9
  have hcp := Lib.hid hcp
  have hmv : mayV B n g = false := by simp [mayV, hno]
  have hck := ckI_true hok
  have hcl : closedL B n g (a % B.nights) = [] := by simp [closedL, hno]
  have hce : closedE B n g (a % B.nights) = 41 := by simp [closedE, hok, hno]
  have Hmay := Lib.hid (fun W (hb : Below w.heap.size w W) => hck ▸ hmv ▸ May_all B pm pg pp cm cg cp n g W (hm.below hb) (hg.below hb) (by omega) (hN.below hb) (hp.below hb) hn hc)
  have Hclo := Lib.hid (fun W (hb : Below w.heap.size w W) => hce ▸ hcl ▸ Closed_all B pm pg pp cm cg cp n g W (a % B.nights) (hm.below hb) (hg.below hb) (by omega) (hN.below hb) (hp.below hb) hn hc hcp.out)
  have Hmen := Lib.hid (fun W (hb : Below w.heap.size w W) => Mended_no B pm pg pp cm cg cp n W 41 (fun W' hb' => read_no_plan B pm pg pp cm cg cp n W' ((hm.below hb).below hb') ((hg.below hb).below hb') hok ((hN.below hb).below hb') g ((hp.below hb).below hb') hn hc hno) rfl)
  clear hmv hck hcl hce
  go_enter Tryd.func5, Tryd.ntmps5
  go_wp2_with (first
    | (go_at_call 23; refine (sound_case B _ _ _ _ _ (hm.below hW) (hg.below hW) (by omega) hok).mono ?_; rintro e w1 ⟨rfl, hB1⟩; rw [World.size_alloc] at hB1; obtain ⟨hx0, hW1⟩ := box_facts hB1)
    | (go_at_call 12; refine (Hmay.out _ hW1).mono ?_; rintro e w2 ⟨rfl, hB2⟩; have hB2' := box_later hB1 hB2; obtain ⟨hy0, hW2⟩ := box_facts hB2')
    | (go_at_call 24; refine (Wrap_any _ _ (by omega) (by omega) _).mono ?_; rintro e w3 ⟨rfl, hw3⟩; obtain rfl := hw3.symm)
    | (go_at_call 14; refine (Hclo.out _ hW2).mono ?_; rintro e w4 ⟨p, cap, rfl, hS, hB4⟩; have hS := Lib.hid hS; have hB4' := box_later hB2' hB4; obtain ⟨hz0, hW4⟩ := box_facts hB4')
    | (go_at_call 25; refine (lawful_is (hm.below hW4) (hg.below hW4) hok (hp.below hW4) (by omega) hno).mono ?_; rintro e w5 ⟨rfl, hB5⟩; have hB5' := box_later hB4' hB5; obtain ⟨hu0, hW5⟩ := box_facts hB5')
    | (go_at_call 19; refine (Hmen.out _ hW5).mono ?_; rintro e w6 ⟨rfl, hB6⟩; have hW6 := below_after hW5 hB6)
    | (go_at_call 16; refine (h9.out _ hW6).mono ?_; rintro e w7 ⟨rfl, hB7⟩))
  go_ret
  exact ⟨rfl, below_after hW6 hB7⟩

abbrev HeldR (W : World) (a : Nat) (v0 v1 v2 : Value) (b o : Nat) (y z : Int) (w' : World) : Prop := Below W.heap.size W w' ∧ (w'.cell? ⟨a, 0, none⟩ = some v0 ∧ w'.cell? ⟨a, 1, none⟩ = some v1 ∧ w'.cell? ⟨a, 2, none⟩ = some v2) ∧ w'.cell? ⟨b, o + 1, none⟩ = some (.int .i64 y) ∧ w'.cell? ⟨b, o + 2, none⟩ = some (.int .i64 z)

theorem keepR {W w' : World} {a b o : Nat} {v0 v1 v2 : Value} {y z : Int} (h : HeldR W a v0 v1 v2 b o y z W) (hb : Below W.heap.size W w') : HeldR W a v0 v1 v2 b o y z w' :=
  have lt : ∀ {c : Addr} {v : Value}, W.cell? c = some v → c.block < W.heap.size := fun h => World.block_lt_of_cell? W _ h
  ⟨hb, ⟨(hb.cell (lt h.2.1.1)).trans h.2.1.1, (hb.cell (lt h.2.1.2.1)).trans h.2.1.2.1, (hb.cell (lt h.2.1.2.2)).trans h.2.1.2.2⟩, (hb.cell (lt h.2.2.1)).trans h.2.2.1, (hb.cell (lt h.2.2.2)).trans h.2.2.2⟩

set_option maxRecDepth 100000 in
set_option maxHeartbeats 4000000 in
theorem rules_walk (B : Book) (pm pg pp : Option Addr) (cm cg cp n : Nat) (g : Nat → Nat → Int) (w : World) (hm : Sl w pm 3 B.nm B.mile) (hg : Sl w pg 4 B.ng B.gang) (hok : bookB B = true) (hp : Sl w pp 3 n g) (hn : n ≤ 8) (a : Int) (L LC : List Int) (hL : L.length ≤ 8)
    (hris : risB L.length (fun i _ => LC.getD i 0) B.nm = true) (hpl : ∀ i, i < L.length → 0 ≤ plL (fun j _ => LC.getD j 0) (L.getD i 0) 0 L.length) (CL : Nat → List Int) (hcle : ∀ i, (CL i).length ≤ 1000) (hcpl : ∀ i, i < n → 0 ≤ plL (fun j _ => (CL i).getD j 0) (g i 0) 0 (CL i).length)
    (h1 : ∀ W, Below w.heap.size w W → Calls Tryd.prog 12 #[.agg #[.slice pm B.nm cm, .slice pg B.ng cg, .int .i64 B.nights], .slice pp n cp] W fun e w' => e = .returned (.tuple #[.bool true, .int .i64 0]) ∧ Below W.heap.size W w')
    (h2 : ∀ W, Below w.heap.size w W → Calls Tryd.prog 14 #[.agg #[.slice pm B.nm cm, .slice pg B.ng cg, .int .i64 B.nights], .slice pp n cp, .int .i64 (a % B.nights)] W fun e w' => ∃ p cap, e = .returned (.tuple #[.slice p L.length cap, .int .i64 0]) ∧ Sl w' p 1 L.length (fun i _ => LC.getD i 0) ∧ Below W.heap.size W w')
    (h3 : ∀ W, Below w.heap.size w W → Calls Tryd.prog 25 #[.agg #[.slice pm B.nm cm, .slice pg B.ng cg, .int .i64 B.nights], .slice pp n cp] W fun e w' => e = .returned (.bool true) ∧ Below W.heap.size W w')
    (h4 : ∀ W, Below w.heap.size w W → Calls Tryd.prog 26 #[.slice pp n cp, .int .i64 (a % B.nights)] W fun e w' => ∃ p cap, e = .returned (.slice p L.length cap) ∧ Sl w' p 1 L.length (fun i _ => L.getD i 0) ∧ Below W.heap.size W w')
    (h5 : ∀ i, i < n → ∀ W, Below w.heap.size w W → Calls Tryd.prog 7 #[.agg #[.slice pm B.nm cm, .slice pg B.ng cg, .int .i64 B.nights], .int .i64 (g i 1), .int .i64 (g i 2)] W (ListRes (CL i) 0 W))
    (h9 : ∀ W, Below w.heap.size w W → Calls Tryd.prog 16 #[] W fun e w' => e = .returned (.bool true) ∧ Below W.heap.size W w') :
    Calls Tryd.prog 5 #[.agg #[.slice pm B.nm cm, .slice pg B.ng cg, .int .i64 B.nights], .slice pp n cp, .int .i64 a] w fun e w' => e = .returned (.bool true) ∧ Below w.heap.size w w' := by
  have hbd := bookB_bd hok
  have hW : Below w.heap.size w (w.alloc (.cells #[.slice pm B.nm cm, .slice pg B.ng cg, .int .i64 B.nights] 25)) := belowAlloc (Below.refl _ _) _
  have H1 := Lib.hid h1; have H2 := Lib.hid h2; have H3 := Lib.hid h3; have H4 := Lib.hid h4; have H5 := Lib.hid h5; have H9 := Lib.hid h9; have Hpl := Lib.hid hpl; have Hcpl := Lib.hid hcpl; have Hcle := Lib.hid hcle
  clear h1 h2 h3 h4 h5 h9 hpl hcpl hcle
  go_enter Tryd.func5, Tryd.ntmps5
  go_wp2_with (first
    | (go_at_call 23; refine (sound_case B _ _ _ _ _ (hm.below hW) (hg.below hW) (by omega) hok).mono ?_; rintro e w1 ⟨rfl, hB1⟩; rw [World.size_alloc] at hB1; obtain ⟨hx0, hW1⟩ := box_facts hB1)
    | (go_at_call 12; refine (H1.out _ hW1).mono ?_; rintro e w2 ⟨rfl, hB2⟩; have hB2' := box_later hB1 hB2; obtain ⟨hy0, hW2⟩ := box_facts hB2')
    | (go_at_call 24; refine (Wrap_any _ _ (by omega) (by omega) _).mono ?_; rintro e w3 ⟨rfl, hw3⟩; obtain rfl := hw3.symm)
    | (go_at_call 14; refine (H2.out _ hW2).mono ?_; rintro e w4 ⟨p, cap, rfl, hS, hB4⟩; have hS := Lib.hid hS; have hB4' := box_later hB2' hB4; obtain ⟨hz0, hW4⟩ := box_facts hB4')
    | (go_at_call 25; refine (H3.out _ hW4).mono ?_; rintro e w5 ⟨rfl, hB5⟩; have hB5' := box_later hB4' hB5; obtain ⟨hu0, hW5⟩ := box_facts hB5')
    | (go_at_call 26; refine (H4.out _ hW5).mono ?_; rintro e w6 ⟨p6, cap6, rfl, hS6, hB6⟩; have hS6 := Lib.hid hS6; have hB6' := box_later hB5' hB6; obtain ⟨hv0, hW6⟩ := box_facts hB6'; have hSl := Lib.hid ((hS.out.below hB5).below hB6))
    | (go_at_call 27; refine (Rising_is hris _ hSl.out (by omega)).mono ?_; rintro e w7 ⟨rfl, hw7⟩; obtain rfl := hw7.symm))
  go_loop [15] (fun i => ∃ k : Nat, k ≤ L.length ∧ i = .int .i64 k) (fun i => L.length - (intOf i).toNat)
  case atStart => exact ⟨0, Nat.zero_le _, rfl⟩
  case round =>
    obtain ⟨k, hk, rfl⟩ := hrel
    by_cases hlt : k < L.length
    · obtain ⟨bl, ol, rfl, _, hcl⟩ := hS6.out (by omega)
      have l0 := hcl k hlt 0 (by omega)
      simp only [Nat.mul_one, Nat.add_zero] at l0
      have Hcl := @Lib.hid _ @hcl
      clear hcl
      have hge := Hpl.out k hlt
      generalize hx : L.getD k 0 = x at *
      have Hx := Lib.hid hx
      clear hx
      go_wp2_with (go_at_call 28; refine (Place_any _ _ _ (fun j _ => LC.getD j 0) _ _ hSl.out (by omega)).mono ?_; rintro e w8 ⟨rfl, hw8⟩; obtain rfl := hw8.symm)
      · exfalso
        have hlt9 : plL (fun j _ => LC.getD j 0) x 0 L.length < 0 := by simp only [List.getD_eq_getElem?_getD]; assumption
        omega
      · go_round
        case rel => exact ⟨k + 1, by omega, by go_num⟩
        case measure => simp [intOf]; omega
    · have Hke := Lib.hid (show k = L.length by omega)
      go_wp2_with fail
      go_loopw [16] (fun i wr => ∃ k : Nat, k ≤ n ∧ i = .int .i64 k ∧ Below (w.heap.size + 1) (w.alloc (.cells #[.slice pm B.nm cm, .slice pg B.ng cg, .int .i64 B.nights] 25)) wr) (fun i _ => n - (intOf i).toNat)
      case atStart => exact ⟨0, Nat.zero_le _, rfl, hB6'⟩
      case round =>
        obtain ⟨m, hmn, rfl, hB⟩ := hrel
        have hsz := hB.size
        rw [World.size_alloc] at hsz
        obtain ⟨hx, hWr⟩ := box_facts hB
        by_cases hlt2 : m < n
        · obtain ⟨b, off, rfl, hb, hrow⟩ := hp.row3 hlt2
          obtain ⟨hd0, hd1, hd2⟩ := hrow hWr
          have Hrow := @Lib.hid _ @hrow
          clear hrow
          have hSh := Lib.hid (show HeldR wr w.heap.size (.slice pm B.nm cm) (.slice pg B.ng cg) (.int .i64 B.nights) b (off + m * 3) (g m 1) (g m 2) wr from ⟨Below.refl _ _, ⟨hx 0, hx 1, hx 2⟩, hd1, hd2⟩)
          have hge := Hcpl.out m hlt2
          have hcle := Hcle.out m
          go_wp2_with fail
          go_region_held3 (fun w' => Below wr.heap.size wr w' ∧ (w'.cell? ⟨w.heap.size, 0, none⟩ = some (.slice pm B.nm cm) ∧ w'.cell? ⟨w.heap.size, 1, none⟩ = some (.slice pg B.ng cg) ∧ w'.cell? ⟨w.heap.size, 2, none⟩ = some (.int .i64 B.nights)) ∧ w'.cell? ⟨b, off + m * 3 + 1, none⟩ = some (.int .i64 (g m 1)) ∧ w'.cell? ⟨b, off + m * 3 + 2, none⟩ = some (.int .i64 (g m 2)))
            (first | exact keepR hSh.out (Below.drew (Below.refl _ _)) | exact keepR hSh.out hB8)
            (first | (go_at_call 7; refine (H5.out m hlt2 _ (below_after hWr (show Below wr.heap.size wr _ ∧ _ by assumption).1)).mono ?_; rintro e w8 ⟨p8, c8, rfl, s8, hB8'⟩; have s8 := Lib.hid s8; have hB8 := below_after (show Below wr.heap.size wr _ ∧ _ by assumption).1 hB8'))
          obtain ⟨q0, q1, q2⟩ := Hrow.out (below_after hWr hB8)
          go_wp2_with (go_at_call 28; refine (Place_any _ _ _ (fun j _ => (CL m).getD j 0) _ _ s8.out (by omega)).mono ?_; rintro e w9 ⟨rfl, hw9⟩; obtain rfl := hw9.symm)
          · exfalso
            have hlt9 : plL (fun j _ => (CL m).getD j 0) (g m 0) 0 (CL m).length < 0 := by simp only [List.getD_eq_getElem?_getD]; assumption
            omega
          · go_roundw
            case rel => exact ⟨m + 1, by omega, by go_num, hB.trans (hB8.mono hsz)⟩
            case measure => simp [intOf]; omega
        · have Hme := Lib.hid (show m = n by omega)
          go_wp2_with (go_at_call 16; refine (H9.out _ hWr).mono ?_; rintro e w9 ⟨rfl, hB9⟩)
          go_ret
          exact ⟨rfl, below_after hWr hB9⟩

theorem can_has {B : Book} (hok : bookB B = true) {n : Nat} {g : Nat → Nat → Int} (his : planB B n g = true) {i : Nat} (hi : i < n) : canE B (g i 1) (g i 2) = 0 ∧ 0 ≤ plL (fun j _ => (canL B (g i 1) (g i 2)).getD j 0) (g i 0) 0 (canL B (g i 1) (g i 2)).length := by
  have hs := ((planB_steps (bookB_bd hok).2.1.2).1 his i hi).1
  have hm := solo_mile hok hs
  obtain ⟨b0, b1, hc⟩ := solo_in hs
  have hq : canAsk B (g i 1) (g i 2) = true := by simp only [canAsk, inB, Bool.and_eq_true, decide_eq_true_eq]; omega
  refine ⟨by simp [canE, hok, hq], ?_⟩
  rw [pl_mem]
  have e : canL B (g i 1) (g i 2) = K (fun k => canB B (g i 1).toNat (g i 2).toNat k) B.nights.toNat := by unfold canL; rw [hok, hq]; rfl
  rw [e, mem_K2]
  refine ⟨(g i 0).toNat, by omega, ?_, by omega⟩
  rw [Int.toNat_of_nonneg hm.1, Int.toNat_of_nonneg b0.1]
  exact hc

theorem rules_any (hsh : ∀ W, NB W → Calls Tryd.prog 16 #[] W fun e w' => e = .returned (.bool true) ∧ Below W.heap.size W w')
    (B : Book) (pm pg pp : Option Addr) (cm cg cp n : Nat) (g : Nat → Nat → Int) (w : World) (hm : Sl w pm 3 B.nm B.mile) (hg : Sl w pg 4 B.ng B.gang) (hlm : B.nm ≤ 9223372036854775807) (hN : NB w)
    (hp : Sl w pp 3 n g) (hn : n ≤ cp) (hc : cp ≤ 9223372036854775807) (hcp : pp = none → cp = 0) (a : Int) :
    Calls Tryd.prog 5 #[.agg #[.slice pm B.nm cm, .slice pg B.ng cg, .int .i64 B.nights], .slice pp n cp, .int .i64 a] w fun e w' => e = .returned (.bool true) ∧ Below w.heap.size w w' := by
  have h9 : ∀ W, Below w.heap.size w W → Calls Tryd.prog 16 #[] W fun e w' => e = .returned (.bool true) ∧ Below W.heap.size W w' := fun W hb => hsh W (hN.below hb)
  cases hok : bookB B
  · exact rules_no_book B pm pg pp cm cg cp n w hm hg hlm hok a h9
  cases his : planB B n g
  · exact rules_no_plan B pm pg pp cm cg cp n g w hm hg hok hN hp hn hc hcp his a h9
  have hbd := bookB_bd hok
  have hln := planB_len hbd.2.1.2 hbd.2.2.2 his
  have r0 := Int.emod_nonneg a (show B.nights ≠ 0 by omega)
  have r1 := Int.emod_lt_of_pos a (show 0 < B.nights by omega)
  obtain ⟨hlen, hsub⟩ := closed_shut hok his r0 r1
  have hq : inB (a % B.nights) 0 (B.nights - 1) = true := by simp only [inB, Bool.and_eq_true, decide_eq_true_eq]; omega
  have ecl : closedL B n g (a % B.nights) = K (fun k : Nat => closeB n g (a % B.nights) k) B.nm := by unfold closedL; rw [hok, hq, his]; rfl
  have ece : closedE B n g (a % B.nights) = 0 := by simp [closedE, hok, hq, his]
  refine rules_walk B pm pg pp cm cg cp n g w hm hg hok hp hln a (shL g (a % B.nights) n) (closedL B n g (a % B.nights)) (Nat.le_trans (shL_le _ _ _) hln) ?_ ?_ (fun i => canL B (g i 1) (g i 2)) (fun i => canL_le _ _ _) (fun i hi => (can_has hok his hi).2) ?_ ?_ ?_ ?_ ?_ h9
  · rw [← hlen, ecl]; exact K_ris _ _
  · intro i hi
    rw [← hlen, pl_mem]
    apply hsub
    rw [List.getD_eq_getElem?_getD, List.getElem?_eq_getElem hi]
    exact List.getElem_mem hi
  · intro W hb
    have := May_all B pm pg pp cm cg cp n g W (hm.below hb) (hg.below hb) hlm (hN.below hb) (hp.below hb) hn hc
    rwa [ckI_true hok, show mayV B n g = true by simp [mayV, hok, his]] at this
  · intro W hb
    refine (Closed_all B pm pg pp cm cg cp n g W (a % B.nights) (hm.below hb) (hg.below hb) hlm (hN.below hb) (hp.below hb) hn hc hcp).mono ?_
    rintro e w' ⟨p, cap, he, hs, hbb⟩
    rw [ece, hlen] at he
    rw [hlen] at hs
    exact ⟨p, cap, he, hs, hbb⟩
  · intro W hb
    exact lawful_is (hm.below hb) (hg.below hb) hok (hp.below hb) (by omega) his
  · intro W hb
    exact shut_any pp n cp g (a % B.nights) W (hp.below hb) (by omega)
  · intro i hi W hb
    have := Can_all B pm pg cm cg W (g i 1) (g i 2) (hm.below hb) (hg.below hb) hlm
    rwa [(can_has hok his hi).1] at this
end Go.Proofs.YtdcgmacknccklaaDoor
