/- GangDones answers true for any book, works and mile, where the chapter's examples are answered rightly. -/
import Derived.Test.YtdcgmacknccklaaDoorDd
namespace Go.Proofs.YtdcgmacknccklaaDoor
open Go Go.RowKit

set_option maxRecDepth 100000 in
set_option maxHeartbeats 4000000 in
theorem dones_walk (B : Book) (pm pg pp : Option Addr) (cm cg cp n : Nat) (w : World) (m : Int) (LM : List Int) (lo hi ed em ov oc : Int) (hlm : LM.length ≤ 1000)
    (h1 : ∀ W, Below w.heap.size w W → Calls Tryd.prog 17 #[.agg #[.slice pm B.nm cm, .slice pg B.ng cg, .int .i64 B.nights], .slice pp n cp, .int .i64 m] W fun e w' => e = .returned (.tuple #[.agg #[.int .i64 lo, .int .i64 hi], .int .i64 ed]) ∧ Below W.heap.size W w')
    (h2 : ∀ W, Below w.heap.size w W → Calls Tryd.prog 18 #[.agg #[.slice pm B.nm cm, .slice pg B.ng cg, .int .i64 B.nights], .slice pp n cp, .int .i64 m] W fun e w' => e = .returned (.tuple #[.agg #[.int .i64 lo, .int .i64 hi], .int .i64 ed]) ∧ Below W.heap.size W w')
    (h3 : ∀ W, Below w.heap.size w W → Calls Tryd.prog 19 #[.agg #[.slice pm B.nm cm, .slice pg B.ng cg, .int .i64 B.nights], .slice pp n cp] W (ListRes LM em W))
    (h4 : ∀ W, Below w.heap.size w W → Calls Tryd.prog 20 #[.agg #[.slice pm B.nm cm, .slice pg B.ng cg, .int .i64 B.nights], .slice pp n cp] W (ListRes LM em W))
    (h5 : ∀ W, Below w.heap.size w W → Calls Tryd.prog 21 #[.agg #[.slice pm B.nm cm, .slice pg B.ng cg, .int .i64 B.nights], .slice pp n cp] W fun e w' => e = .returned (.tuple #[.int .i64 ov, .int .i64 oc]) ∧ Below W.heap.size W w')
    (h6 : ∀ W, Below w.heap.size w W → Calls Tryd.prog 22 #[.agg #[.slice pm B.nm cm, .slice pg B.ng cg, .int .i64 B.nights], .slice pp n cp] W fun e w' => e = .returned (.tuple #[.int .i64 ov, .int .i64 oc]) ∧ Below W.heap.size W w')
    (h9 : ∀ W, Below w.heap.size w W → Calls Tryd.prog 16 #[] W fun e w' => e = .returned (.bool true) ∧ Below W.heap.size W w') :
    Calls Tryd.prog 4 #[.agg #[.slice pm B.nm cm, .slice pg B.ng cg, .int .i64 B.nights], .slice pp n cp, .int .i64 m] w fun e w' => e = .returned (.bool true) ∧ Below w.heap.size w w' := by
  have hW0 : Below w.heap.size w (w.alloc (.cells #[.slice pm B.nm cm, .slice pg B.ng cg, .int .i64 B.nights] 25)) := belowAlloc (Below.refl _ _) _
  have H1 := Lib.hid h1; have H2 := Lib.hid h2; have H3 := Lib.hid h3; have H4 := Lib.hid h4; have H5 := Lib.hid h5; have H6 := Lib.hid h6; have H9 := Lib.hid h9
  clear h1 h2 h3 h4 h5 h6 h9
  go_enter Tryd.func4, Tryd.ntmps4
  go_wp2_with (first
    | (go_at_call 17; refine (H1.out _ hW0).mono ?_; rintro e w1 ⟨rfl, hB1⟩; rw [World.size_alloc] at hB1; have hz1 := hB1.size; rw [World.size_alloc] at hz1; have hB1' := hB1.alloc hz1 (.cells #[.int .i64 lo, .int .i64 hi] 40); obtain ⟨hx0, hW1⟩ := box_facts hB1')
    | (go_at_call 18; refine (H2.out _ hW1).mono ?_; rintro e w2 ⟨rfl, hB2⟩; have hB2' := box_later hB1' hB2; have hz2 := hB2'.size; rw [World.size_alloc] at hz2; have s0 := (hB2.cell (p := ⟨w1.heap.size, 0, none⟩) (by simp)).trans (new2 _ _ _ _ rfl 0); have s1 := (hB2.cell (p := ⟨w1.heap.size, 1, none⟩) (by simp)).trans (new2 _ _ _ _ rfl 1); simp only [List.getElem?_toArray, List.getElem?_cons_zero, List.getElem?_cons_succ] at s0 s1; have s2 := World.block_lt_of_cell? _ _ s0; have hB2'' := hB2'.alloc hz2 (.cells #[.int .i64 lo, .int .i64 hi] 40); obtain ⟨hy0, hW2⟩ := box_facts hB2'')
    | (go_at_call 19; refine (H3.out _ hW2).mono ?_; rintro e w3 ⟨p3, c3, rfl, s3, hB3⟩; have s3 := Lib.hid s3; have hB3' := box_later hB2'' hB3; obtain ⟨hz0, hW3⟩ := box_facts hB3')
    | (go_at_call 20; refine (H4.out _ hW3).mono ?_; rintro e w4 ⟨p4, c4, rfl, s4, hB4⟩; have s4 := Lib.hid s4; have hB4' := box_later hB3' hB4; obtain ⟨hu0, hW4⟩ := box_facts hB4')
    | (go_at_call 9; refine (Like_at hlm s3.out hB4 s4.out (Below.refl _ _)).mono ?_; rintro e w5 ⟨rfl, hB5⟩; have hB5' := box_later hB4' hB5; obtain ⟨hv0, hW5⟩ := box_facts hB5')
    | (go_at_call 21; refine (H5.out _ hW5).mono ?_; rintro e w6 ⟨rfl, hB6⟩; have hB6' := box_later hB5' hB6; obtain ⟨ht0, hW6⟩ := box_facts hB6')
    | (go_at_call 22; refine (H6.out _ hW6).mono ?_; rintro e w7 ⟨rfl, hB7⟩; have hW7 := below_after hW6 hB7)
    | (go_at_call 16; refine (H9.out _ hW7).mono ?_; rintro e w11 ⟨rfl, hB11⟩))
  go_ret
  exact ⟨rfl, below_after hW7 hB11⟩

theorem dones_any (hsh : ∀ W, NB W → Calls Tryd.prog 16 #[] W fun e w' => e = .returned (.bool true) ∧ Below W.heap.size W w')
    (B : Book) (pm pg pp : Option Addr) (cm cg cp n : Nat) (g : Nat → Nat → Int) (w : World) (hm : Sl w pm 3 B.nm B.mile) (hg : Sl w pg 4 B.ng B.gang) (hlm : B.nm ≤ 9223372036854775807) (hlg : B.ng ≤ 9223372036854775807) (hN : NB w)
    (hp : Sl w pp 3 n g) (hn : n ≤ cp) (hc : cp ≤ 9223372036854775807) (hcp : pp = none → cp = 0) (m : Int) :
    Calls Tryd.prog 4 #[.agg #[.slice pm B.nm cm, .slice pg B.ng cg, .int .i64 B.nights], .slice pp n cp, .int .i64 m] w fun e w' => e = .returned (.bool true) ∧ Below w.heap.size w w' :=
  dones_walk B pm pg pp cm cg cp n w m (mendL B n g) (spanAt B n g 0 m) (spanAt B n g 1 m) (planE B n g (inB m 0 (B.nm - 1))) (planE B n g true) (openV B n g) (openC B n g) (mendL_le _ _ _)
    (fun W hb => Done_all B pm pg pp cm cg cp n g W m (hm.below hb) (hg.below hb) hlm (hN.below hb) (hp.below hb) hn hc hcp)
    (fun W hb => rDone_all B pm pg pp cm cg cp n g W m (hm.below hb) (hg.below hb) hlm hlg (hp.below hb) (by omega))
    (fun W hb => Mended_all B pm pg pp cm cg cp n g W (hm.below hb) (hg.below hb) hlm (hN.below hb) (hp.below hb) hn hc hcp)
    (fun W hb => rMended_all B pm pg pp cm cg cp n g W (hm.below hb) (hg.below hb) hlm hlg (hp.below hb) (by omega))
    (fun W hb => Open_all B pm pg pp cm cg cp n g W (hm.below hb) (hg.below hb) hlm (hN.below hb) (hp.below hb) hn hc hcp)
    (fun W hb => rOpen_all B pm pg pp cm cg cp n g W (hm.below hb) (hg.below hb) hlm hlg (hp.below hb) (by omega))
    (fun W hb => hsh W (hN.below hb))
end Go.Proofs.YtdcgmacknccklaaDoor
