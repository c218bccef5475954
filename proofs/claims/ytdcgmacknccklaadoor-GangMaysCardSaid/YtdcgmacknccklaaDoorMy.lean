/- GangMays answers true for any book, works and numbers, where the chapter's examples are answered rightly. -/
import Derived.Test.YtdcgmacknccklaaDoorGu
namespace Go.Proofs.YtdcgmacknccklaaDoor
open Go Go.RowKit

theorem Like_at {l : List Int} (hl : l.length ≤ 1000) {W1 W wc : World} {p q : Option Addr} {c1 c2 : Nat} (s1 : Sl W1 p 1 l.length (fun i _ => l.getD i 0)) (h1 : Below W1.heap.size W1 W) (s2 : Sl W q 1 l.length (fun i _ => l.getD i 0)) (hb : Below W.heap.size W wc) :
    Calls Tryd.prog 9 #[.slice p l.length c1, .slice q l.length c2] wc fun e w' => e = .returned (.bool true) ∧ Below W.heap.size W w' :=
  held hb (Like_same p q c1 c2 l wc ((s1.below h1).below hb) (s2.below hb) hl)

set_option maxRecDepth 100000 in
set_option maxHeartbeats 4000000 in
theorem mays_walk (B : Book) (pm pg pp : Option Addr) (cm cg cp n : Nat) (w : World) (a0 a1 a2 : Int) (LC LD : List Int) (ec ed ck mk : Int) (mv : Bool) (hlc : LC.length ≤ 1000) (hld : LD.length ≤ 1000)
    (h1 : ∀ W, Below w.heap.size w W → Calls Tryd.prog 7 #[.agg #[.slice pm B.nm cm, .slice pg B.ng cg, .int .i64 B.nights], .int .i64 a0, .int .i64 a1] W (ListRes LC ec W))
    (h2 : ∀ W, Below w.heap.size w W → Calls Tryd.prog 8 #[.agg #[.slice pm B.nm cm, .slice pg B.ng cg, .int .i64 B.nights], .int .i64 a0, .int .i64 a1] W (ListRes LC ec W))
    (h3 : ∀ W, Below w.heap.size w W → Calls Tryd.prog 10 #[.agg #[.slice pm B.nm cm, .slice pg B.ng cg, .int .i64 B.nights]] W fun e w' => e = .returned (.int .i64 ck) ∧ Below W.heap.size W w')
    (h4 : ∀ W, Below w.heap.size w W → Calls Tryd.prog 11 #[.agg #[.slice pm B.nm cm, .slice pg B.ng cg, .int .i64 B.nights]] W fun e w' => e = .returned (.int .i64 ck) ∧ Below W.heap.size W w')
    (h5 : ∀ W, Below w.heap.size w W → Calls Tryd.prog 12 #[.agg #[.slice pm B.nm cm, .slice pg B.ng cg, .int .i64 B.nights], .slice pp n cp] W fun e w' => e = .returned (.tuple #[.bool mv, .int .i64 mk]) ∧ Below W.heap.size W w')
    (h6 : ∀ W, Below w.heap.size w W → Calls Tryd.prog 13 #[.agg #[.slice pm B.nm cm, .slice pg B.ng cg, .int .i64 B.nights], .slice pp n cp] W fun e w' => e = .returned (.tuple #[.bool mv, .int .i64 mk]) ∧ Below W.heap.size W w')
    (h7 : ∀ W, Below w.heap.size w W → Calls Tryd.prog 14 #[.agg #[.slice pm B.nm cm, .slice pg B.ng cg, .int .i64 B.nights], .slice pp n cp, .int .i64 a2] W (ListRes LD ed W))
    (h8 : ∀ W, Below w.heap.size w W → Calls Tryd.prog 15 #[.agg #[.slice pm B.nm cm, .slice pg B.ng cg, .int .i64 B.nights], .slice pp n cp, .int .i64 a2] W (ListRes LD ed W))
    (h9 : ∀ W, Below w.heap.size w W → Calls Tryd.prog 16 #[] W fun e w' => e = .returned (.bool true) ∧ Below W.heap.size W w') :
    Calls Tryd.prog 3 #[.agg #[.slice pm B.nm cm, .slice pg B.ng cg, .int .i64 B.nights], .slice pp n cp, .agg #[.int .i64 a0, .int .i64 a1, .int .i64 a2]] w fun e w' => e = .returned (.bool true) ∧ Below w.heap.size w w' := by
  have hW0 : Below w.heap.size w ((w.alloc (.cells #[.slice pm B.nm cm, .slice pg B.ng cg, .int .i64 B.nights] 25)).alloc (.cells #[.int .i64 a0, .int .i64 a1, .int .i64 a2] 27)) := belowAlloc (belowAlloc (Below.refl _ _) _) _
  have H1 := Lib.hid h1; have H2 := Lib.hid h2; have H3 := Lib.hid h3; have H4 := Lib.hid h4; have H5 := Lib.hid h5; have H6 := Lib.hid h6; have H7 := Lib.hid h7; have H8 := Lib.hid h8; have H9 := Lib.hid h9
  clear h1 h2 h3 h4 h5 h6 h7 h8 h9
  go_enter Tryd.func3, Tryd.ntmps3
  go_wp2_with (first
    | (go_at_call 7; refine (H1.out _ hW0).mono ?_; rintro e w1 ⟨p1, c1, rfl, s1, hB1⟩; simp only [World.size_alloc] at hB1; obtain ⟨hx0, hx1, hW1⟩ := boxes2 hB1)
    | (go_at_call 8; refine (H2.out _ hW1).mono ?_; rintro e w2 ⟨p2, c2, rfl, s2, hB2⟩; have hB2' := boxes2_later hB1 hB2; obtain ⟨hy0, hy1, hW2⟩ := boxes2 hB2'))
  have s1 := Lib.hid s1
  have s2 := Lib.hid s2
  have hSh := Lib.hid (show HeldZ w2 w.heap.size (.slice pm B.nm cm) (.slice pg B.ng cg) (.int .i64 B.nights) w2 from ⟨Below.refl _ _, hy0 0, hy0 1, hy0 2⟩)
  clear hx0 hx1
  go_wp2_with fail
  go_region_held3 (fun w' => Below w2.heap.size w2 w' ∧ w'.cell? ⟨w.heap.size, 0, none⟩ = some (.slice pm B.nm cm) ∧ w'.cell? ⟨w.heap.size, 1, none⟩ = some (.slice pg B.ng cg) ∧ w'.cell? ⟨w.heap.size, 2, none⟩ = some (.int .i64 B.nights))
    (first | exact keepZ hSh.out (Below.drew (Below.refl _ _)) | exact keepZ hSh.out hB5 | exact keepZ hSh.out hB4 | exact keepZ hSh.out hB3)
    (first
      | (go_at_call 9; refine (Like_at hlc s1.out hB2 s2.out (show HeldZ w2 w.heap.size (.slice pm B.nm cm) (.slice pg B.ng cg) (.int .i64 B.nights) _ by assumption).1).mono ?_; rintro e w3 ⟨rfl, hB3⟩)
      | (go_at_call 10; refine (held (show HeldZ w2 w.heap.size (.slice pm B.nm cm) (.slice pg B.ng cg) (.int .i64 B.nights) _ by assumption).1 (H3.out _ (below_after hW2 (show HeldZ w2 w.heap.size (.slice pm B.nm cm) (.slice pg B.ng cg) (.int .i64 B.nights) _ by assumption).1))).mono ?_; rintro e w4 ⟨rfl, hB4⟩)
      | (go_at_call 11; refine (held (show HeldZ w2 w.heap.size (.slice pm B.nm cm) (.slice pg B.ng cg) (.int .i64 B.nights) _ by assumption).1 (H4.out _ (below_after hW2 (show HeldZ w2 w.heap.size (.slice pm B.nm cm) (.slice pg B.ng cg) (.int .i64 B.nights) _ by assumption).1))).mono ?_; rintro e w5 ⟨rfl, hB5⟩))
  have hB5' := boxes2_later hB2' hB5
  obtain ⟨hz0, hz1, hW5⟩ := boxes2 hB5'
  clear hy0 hy1 hSh
  go_wp2_with (first
    | (go_at_call 12; refine (H5.out _ hW5).mono ?_; rintro e w6 ⟨rfl, hB6⟩; have hB6' := boxes2_later hB5' hB6; obtain ⟨hu0, hu1, hW6⟩ := boxes2 hB6')
    | (go_at_call 13; refine (H6.out _ hW6).mono ?_; rintro e w7 ⟨rfl, hB7⟩; have hB7' := boxes2_later hB6' hB7; obtain ⟨hv0, hv1, hW7⟩ := boxes2 hB7')
    | (go_at_call 14; refine (H7.out _ hW7).mono ?_; rintro e w8 ⟨p3, c3, rfl, s3, hB8⟩; have s3 := Lib.hid s3; have hB8' := boxes2_later hB7' hB8; obtain ⟨ht0, ht1, hW8⟩ := boxes2 hB8')
    | (go_at_call 15; refine (H8.out _ hW8).mono ?_; rintro e w9 ⟨p4, c4, rfl, s4, hB9⟩; have s4 := Lib.hid s4; have hW9 := below_after hW8 hB9)
    | (go_at_call 9; refine (Like_at hld s3.out hB9 s4.out (Below.refl _ _)).mono ?_; rintro e w10 ⟨rfl, hB10⟩; have hW10 := below_after hW9 hB10)
    | (go_at_call 16; refine (H9.out _ hW10).mono ?_; rintro e w11 ⟨rfl, hB11⟩))
  go_ret
  exact ⟨rfl, below_after hW10 hB11⟩

theorem mays_any (hsh : ∀ W, NB W → Calls Tryd.prog 16 #[] W fun e w' => e = .returned (.bool true) ∧ Below W.heap.size W w')
    (B : Book) (pm pg pp : Option Addr) (cm cg cp n : Nat) (g : Nat → Nat → Int) (w : World) (hm : Sl w pm 3 B.nm B.mile) (hg : Sl w pg 4 B.ng B.gang) (hlm : B.nm ≤ 9223372036854775807) (hlg : B.ng ≤ 9223372036854775807) (hN : NB w)
    (hp : Sl w pp 3 n g) (hn : n ≤ cp) (hc : cp ≤ 9223372036854775807) (hcp : pp = none → cp = 0) (a0 a1 a2 : Int) :
    Calls Tryd.prog 3 #[.agg #[.slice pm B.nm cm, .slice pg B.ng cg, .int .i64 B.nights], .slice pp n cp, .agg #[.int .i64 a0, .int .i64 a1, .int .i64 a2]] w fun e w' => e = .returned (.bool true) ∧ Below w.heap.size w w' :=
  mays_walk B pm pg pp cm cg cp n w a0 a1 a2 (canL B a0 a1) (closedL B n g a2) (canE B a0 a1) (closedE B n g a2) (ckI B) (ckI B) (mayV B n g) (canL_le _ _ _) (closedL_le _ _ _ _)
    (fun W hb => Can_all B pm pg cm cg W a0 a1 (hm.below hb) (hg.below hb) hlm)
    (fun W hb => rCan_all B pm pg cm cg W a0 a1 (hm.below hb) (hg.below hb) hlm hlg)
    (fun W hb => Check_all B pm pg cm cg W (hm.below hb) (hg.below hb) hlm)
    (fun W hb => rCheck_any B pm pg cm cg W (hm.below hb) (hg.below hb) hlm hlg)
    (fun W hb => May_all B pm pg pp cm cg cp n g W (hm.below hb) (hg.below hb) hlm (hN.below hb) (hp.below hb) hn hc)
    (fun W hb => rMay_all B pm pg pp cm cg cp n g W (hm.below hb) (hg.below hb) hlm hlg (hp.below hb) (by omega))
    (fun W hb => Closed_all B pm pg pp cm cg cp n g W a2 (hm.below hb) (hg.below hb) hlm (hN.below hb) (hp.below hb) hn hc hcp)
    (fun W hb => rClosed_all B pm pg pp cm cg cp n g W a2 (hm.below hb) (hg.below hb) hlm hlg (hp.below hb) (by omega))
    (fun W hb => hsh W (hN.below hb))
end Go.Proofs.YtdcgmacknccklaaDoor
