/- strength, done and plus of package gang. -/
import Derived.Test.YtdcgmacknccklaaDoorGhm
import Derived.Deep.RegionWith
import Derived.Laws.EntriesVeiled
namespace Go.Proofs.YtdcgmacknccklaaDoor
open Go Go.RowKit

theorem held {P : Program} {W wc : World} {f : FuncId} {args : Array Value} {v : Ending} (hq : Below W.heap.size W wc) (h : Calls P f args wc fun e w' => e = v ∧ Below wc.heap.size wc w') :
    Calls P f args wc fun e w' => e = v ∧ Below W.heap.size W w' := h.mono fun _ _ ⟨h, hb⟩ => ⟨h, hq.trans (hb.mono hq.size)⟩

set_option maxRecDepth 100000 in
theorem ends_any (w : World) : Calls Tryd.prog 104 #[] w fun e w' => e = .returned (.agg #[.func (.func 116) #[] #[], .func (.func 117) #[] #[]]) ∧ Below w.heap.size w w' := by
  go_enter Tryd.func104, Tryd.ntmps104
  go_wp2
  (try simp only [Exit.inBlock, Exit.then])
  refine bodyPost_ret (results_cell_row rfl _ _ w.heap.size 131 #[.func (.func 116) #[] #[], .func (.func 117) #[] #[]] (0, 0) _ rfl ?_ Tryd.underlying131 rfl (by kernel_rfl)) rfl ?_
  · exact heap_alloc_new w _
  exact ⟨rfl, (Below.refl _ _).alloc (Nat.le_refl _) _⟩

theorem low_any (a b : Int) (w : World) : Calls Tryd.prog 116 #[.agg #[.int .i64 a, .int .i64 b]] w fun e w' => e = .returned (.int .i64 a) ∧ Below w.heap.size w w' := by
  go_enter Tryd.func116, Tryd.ntmps116
  go_wp2
  go_ret
  exact ⟨rfl, (Below.refl _ _).alloc (Nat.le_refl _) _⟩

theorem high_any (a b : Int) (w : World) : Calls Tryd.prog 117 #[.agg #[.int .i64 a, .int .i64 b]] w fun e w' => e = .returned (.int .i64 b) ∧ Below w.heap.size w w' := by
  go_enter Tryd.func117, Tryd.ntmps117
  go_wp2
  go_ret
  exact ⟨rfl, (Below.refl _ _).alloc (Nat.le_refl _) _⟩

/-- How much a gang works in a night: 0: at least, 1: at most. -/
def st (B : Book) (hi : Nat) (i : Nat) : Int := B.gang i (2 + hi)

abbrev HeldG (W : World) (bb b o : Nat) (v : Value) (x y : Int) (w' : World) : Prop := Below W.heap.size W w' ∧ w'.cell? ⟨bb, 1, none⟩ = some v ∧ w'.cell? ⟨b, o + 2, none⟩ = some (.int .i64 x) ∧ w'.cell? ⟨b, o + 3, none⟩ = some (.int .i64 y)

theorem keepG {W w' : World} {bb b o : Nat} {v : Value} {x y : Int} (h : HeldG W bb b o v x y W) (hb : Below W.heap.size W w') : HeldG W bb b o v x y w' :=
  have lt : ∀ {c : Addr} {v : Value}, W.cell? c = some v → c.block < W.heap.size := fun h => World.block_lt_of_cell? W _ h
  ⟨hb, (hb.cell (lt h.2.1)).trans h.2.1, (hb.cell (lt h.2.2.1)).trans h.2.2.1, (hb.cell (lt h.2.2.2)).trans h.2.2.2⟩

set_option maxRecDepth 100000 in
theorem strength_any (B : Book) (pm pg : Option Addr) (cm cg bb bm : Nat) (w : World) (hP : PB B pm pg cm cg bb bm w) (hg : Sl w pg 4 B.ng B.gang) (iv hv : Int) (i hi : Nat) (hiv : iv = i) (hh : hv = hi) (hin : i < B.ng) (h2 : hi < 2) :
    Calls Tryd.prog 86 #[.pointer (some ⟨bb, 0, none⟩), .int .i64 iv, .int .i64 hv] w fun e w' => e = .returned (.int .i64 (st B hi i)) ∧ Below w.heap.size w w' := by
  subst hiv hh
  have i0 : ∀ w : World, (Instr.index 131 (.agg #[.func (.func 116) #[] #[], .func (.func 117) #[] #[]]) (.int .i64 0)).run Tryd.prog w = .ok (.func (.func 116) #[] #[]) w := fun _ => by kernel_rfl
  have i1 : ∀ w : World, (Instr.index 131 (.agg #[.func (.func 116) #[] #[], .func (.func 117) #[] #[]]) (.int .i64 1)).run Tryd.prog w = .ok (.func (.func 117) #[] #[]) w := fun _ => by kernel_rfl
  obtain ⟨b, off, rfl, hb, hrow⟩ := hg.row4 hin
  obtain ⟨_, _, hd2, hd3⟩ := hrow (Below.refl _ w)
  clear hrow
  have hS : HeldG w bb b (off + i * 4) (.slice (some ⟨b, off, none⟩) B.ng cg) (B.gang i 2) (B.gang i 3) w := ⟨Below.refl _ _, hP.2 1, hd2, hd3⟩
  have hSh := Lib.hid hS
  clear hS hP hg
  obtain rfl | rfl : hi = 0 ∨ hi = 1 := by omega
  all_goals
    go_enter Tryd.func86, Tryd.ntmps86
    go_wp2_with fail
    go_region_held3 (fun w' => Below w.heap.size w w' ∧ w'.cell? ⟨bb, 1, none⟩ = some (.slice (some ⟨b, off, none⟩) B.ng cg) ∧ w'.cell? ⟨b, off + i * 4 + 2, none⟩ = some (.int .i64 (B.gang i 2)) ∧ w'.cell? ⟨b, off + i * 4 + 3, none⟩ = some (.int .i64 (B.gang i 3)))
      (first | exact keepG hSh.out (Below.drew (Below.refl _ _)) | exact keepG hSh.out hB4 | exact keepG hSh.out hB3)
      (first
        | (go_at_call 104; refine (held (show HeldG w bb b (off + i * 4) (.slice (some ⟨b, off, none⟩) B.ng cg) (B.gang i 2) (B.gang i 3) _ by assumption).1 (ends_any _)).mono ?_; rintro e w3 ⟨rfl, hB3⟩)
        | (go_at_call 116; refine (held (show HeldG w bb b (off + i * 4) (.slice (some ⟨b, off, none⟩) B.ng cg) (B.gang i 2) (B.gang i 3) _ by assumption).1 (low_any _ _ _)).mono ?_; rintro e w4 ⟨rfl, hB4⟩)
        | (go_at_call 117; refine (held (show HeldG w bb b (off + i * 4) (.slice (some ⟨b, off, none⟩) B.ng cg) (B.gang i 2) (B.gang i 3) _ by assumption).1 (high_any _ _ _)).mono ?_; rintro e w4 ⟨rfl, hB4⟩))
    go_wp2_with fail
    go_ret
    exact ⟨rfl, hB4⟩
end Go.Proofs.YtdcgmacknccklaaDoor
