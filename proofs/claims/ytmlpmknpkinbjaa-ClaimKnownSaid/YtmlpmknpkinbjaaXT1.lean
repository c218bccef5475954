/-
  The tables of the calls that are known, and of those that are carried out elsewhere, up to level 1.
-/
import Derived.Test.YtmlpmknpkinbjaaXL1a
import Derived.Test.YtmlpmknpkinbjaaXL1b
import Derived.Test.YtmlpmknpkinbjaaXL1c
import Derived.Test.YtmlpmknpkinbjaaXL1d
import Derived.Test.YtmlpmknpkinbjaaXL1e
import Derived.KernelRfl
namespace Go.Proofs.Ytmlpmknpkinbjaa
open Go Go.Ev

def tbl1 : List (Nat × List Ent) := [(20, e1_20_0 ++ (e1_20_1 ++ (e1_20_2 ++ (e1_20_3))))]
theorem tbl1_ok : TblOK 0 Try.prog gl0 tbl1 := (.cons (.append e1_20_0_ok (.append e1_20_1_ok (.append e1_20_2_ok e1_20_3_ok))) .nil)
noncomputable def xt1 : List (Nat × List XEnt) := [(62, [x6401, x8036, x10176, x11907])]
theorem xt1_ok : XTblOK 0 Try.prog xt1 := (.cons (.cons (run_ok tbl0_ok xt0_ok) x6401_ok (.cons (run_ok tbl0_ok xt0_ok) x8036_ok (.cons (run_ok tbl0_ok xt0_ok) x10176_ok (.cons (run_ok tbl0_ok xt0_ok) x11907_ok .nil)))) .nil)

end Go.Proofs.Ytmlpmknpkinbjaa
