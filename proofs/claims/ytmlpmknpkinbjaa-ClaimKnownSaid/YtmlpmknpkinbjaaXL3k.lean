/-
  Calls that are known, or carried out elsewhere, level 3: each is carried out as its row says.
-/
import Derived.Test.YtmlpmknpkinbjaaXT2
import Derived.KernelRfl
namespace Go.Proofs.Ytmlpmknpkinbjaa
open Go Go.Ev

set_option maxRecDepth 100000

def e3_19_1 : List Ent := [
  ⟨19, [.agg [.sl 0 0 2 2, .int .i64 3, .int .i64 0, .int .i64 2, .int .i64 6, .nils, .int .i64 5]], [[.int .i64 30, .int .i64 26, .int .i64 28, .int .i64 0, .int .i64 2, .int .i64 3, .int .i64 4, .int .i64 62, .int .i64 25, .int .i64 26, .int .i64 2, .int .i64 4, .int .i64 0, .int .i64 0]], .tup [.int .i64 0, .int .i64 4], [], 2019⟩]
theorem e3_19_1_ok : EntsOK 0 Try.prog gl0 e3_19_1 := .of (run_ok tbl2_ok xt2_ok) (by kernel_rfl)

def e3_19_2 : List Ent := [
  ⟨19, [.agg [.sl 0 0 2 2, .int .i64 3, .int .i64 0, .int .i64 2, .int .i64 6, .sl 1 0 1 1, .int .i64 5]], [[.int .i64 30, .int .i64 26, .int .i64 28, .int .i64 0, .int .i64 2, .int .i64 3, .int .i64 4, .int .i64 62, .int .i64 25, .int .i64 26, .int .i64 2, .int .i64 4, .int .i64 0, .int .i64 0], [.int .i64 1, .int .i64 66, .int .i64 0]], .tup [.int .i64 1, .int .i64 0], [], 1196⟩]
theorem e3_19_2_ok : EntsOK 0 Try.prog gl0 e3_19_2 := .of (run_ok tbl2_ok xt2_ok) (by kernel_rfl)

end Go.Proofs.Ytmlpmknpkinbjaa
