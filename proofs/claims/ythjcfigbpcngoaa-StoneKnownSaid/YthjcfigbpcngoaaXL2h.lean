/-
  Calls that are known, level 2: each is carried out as its row says.
-/
import Derived.Test.YthjcfigbpcngoaaXT1
import Derived.KernelRfl
namespace Go.Proofs.Ythjcfigbpcngoaa
open Go Go.Ev

set_option maxRecDepth 100000

def e2_25_2 : List Ent := [
  ⟨25, [.agg [.sl 0 0 2 2, .sl 1 0 4 4, .int .i64 1, .int .i64 2, .int .i64 0, .int .i64 0], .bool true], [[.int .i64 10, .int .i64 12, .int .i64 2, .int .i64 3, .int .i64 5, .int .i64 5, .int .i64 4, .int .i64 6], [.int .i64 (-1), .int .i64 0, .int .i64 0, .int .i64 4, .int .i64 0, .int .i64 1, .int .i64 1, .int .i64 6, .int .i64 0, .int .i64 (-1), .int .i64 1, .int .i64 5, .int .i64 1, .int .i64 (-1), .int .i64 0, .int .i64 6]], .tup [.agg [.ptr 19 0, .gs 1257 8], .int .i64 0], [(18, .cells [.nils]), (19, .cells [.sl 0 0 2 2, .sl 1 0 4 4, .int .i64 1, .int .i64 2, .int .i64 0, .int .i64 0, .fn 37 [] [.ptr 18 0]]), (1257, .grown [.int .i64 3, .int .i64 5, .int .i64 5, .int .i64 5, .int .i64 0, .int .i64 3, .int .i64 3, .int .i64 5, .int .i64 5, .int .i64 0, .int .i64 0, .int .i64 0, .int .i64 0, .int .i64 3, .int .i64 5, .int .i64 5, .int .i64 6, .int .i64 0, .int .i64 3, .int .i64 3, .int .i64 4, .int .i64 4, .int .i64 0, .int .i64 0, .int .i64 0, .int .i64 0, .int .i64 3, .int .i64 6, .int .i64 4, .int .i64 5, .int .i64 0, .int .i64 3, .int .i64 3, .int .i64 6, .int .i64 6, .int .i64 0, .int .i64 0, .int .i64 0, .int .i64 0, .int .i64 3, .int .i64 6, .int .i64 4, .int .i64 6, .int .i64 0, .int .i64 3, .int .i64 3, .int .i64 5, .int .i64 5, .int .i64 0, .int .i64 0, .int .i64 0, .int .i64 0, .int .i64 3, .int .i64 6, .int .i64 5, .int .i64 5, .int .i64 0, .int .i64 2, .int .i64 3, .int .i64 6, .int .i64 6, .int .i64 0, .int .i64 0, .int .i64 0, .int .i64 0, .int .i64 3, .int .i64 6, .int .i64 5, .int .i64 6, .int .i64 0, .int .i64 2, .int .i64 3, .int .i64 5, .int .i64 5, .int .i64 0, .int .i64 0, .int .i64 0, .int .i64 0, .int .i64 4, .int .i64 6, .int .i64 5, .int .i64 5, .int .i64 0, .int .i64 3, .int .i64 3, .int .i64 6, .int .i64 6, .int .i64 0, .int .i64 0, .int .i64 0, .int .i64 0, .int .i64 4, .int .i64 6, .int .i64 5, .int .i64 6, .int .i64 0, .int .i64 3, .int .i64 3, .int .i64 5, .int .i64 5, .int .i64 0, .int .i64 0, .int .i64 0, .int .i64 0] 13)], 1261⟩]
theorem e2_25_2_ok : EntsOK 0 Try.prog gl0 e2_25_2 := .of (run_ok tbl1_ok) (by kernel_rfl)

end Go.Proofs.Ythjcfigbpcngoaa
