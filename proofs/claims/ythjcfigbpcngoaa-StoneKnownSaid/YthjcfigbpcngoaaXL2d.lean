/-
  Calls that are known, level 2: each is carried out as its row says.
-/
import Derived.Test.YthjcfigbpcngoaaXT1
import Derived.KernelRfl
namespace Go.Proofs.Ythjcfigbpcngoaa
open Go Go.Ev

set_option maxRecDepth 100000

def e2_21_4 : List Ent := [
  ⟨21, [.ptr 4 0], [[.int .i64 10, .int .i64 12, .int .i64 2, .int .i64 3, .int .i64 5, .int .i64 5, .int .i64 9, .int .i64 9], [.int .i64 (-1), .int .i64 0, .int .i64 0, .int .i64 4, .int .i64 0, .int .i64 1, .int .i64 1, .int .i64 6, .int .i64 0, .int .i64 (-1), .int .i64 1, .int .i64 5, .int .i64 1, .int .i64 (-1), .int .i64 0, .int .i64 6], [.int .i64 1], [.gs 2 1], [.sl 0 0 2 2, .sl 1 0 4 4, .int .i64 1, .int .i64 2, .int .i64 0, .int .i64 0, .fn 37 [] [.ptr 3 0]]], .bool false, [], 2674⟩]
theorem e2_21_4_ok : EntsOK 0 Try.prog gl0 e2_21_4 := .of (run_ok tbl1_ok) (by kernel_rfl)

end Go.Proofs.Ythjcfigbpcngoaa
