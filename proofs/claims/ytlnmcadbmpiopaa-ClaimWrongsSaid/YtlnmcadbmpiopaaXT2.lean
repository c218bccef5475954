/-
  The tables of the calls that are known, and of those that are carried out elsewhere, up to level 2.
-/
import Derived.Test.YtlnmcadbmpiopaaXL2a
import Derived.Test.YtlnmcadbmpiopaaXL2b
import Derived.Test.YtlnmcadbmpiopaaXL2c
import Derived.Test.YtlnmcadbmpiopaaXL2d
import Derived.Test.YtlnmcadbmpiopaaXL2e
import Derived.Test.YtlnmcadbmpiopaaXL2f
import Derived.Test.YtlnmcadbmpiopaaXL2g
import Derived.Test.YtlnmcadbmpiopaaXL2h
import Derived.Test.YtlnmcadbmpiopaaXL2i
import Derived.Test.YtlnmcadbmpiopaaXL2j
import Derived.Test.YtlnmcadbmpiopaaXL2k
import Derived.KernelRfl
namespace Go.Proofs.Ytlnmcadbmpiopaa
open Go Go.Ev

def tbl2 : List (Nat × List Ent) := [(11, e1_11_0), (9, e2_9_0), (13, e2_13_0), (15, e2_15_0), (17, e2_17_0), (20, e2_20_0), (22, e2_22_0), (24, e2_24_0), (26, e2_26_0), (28, e2_28_0), (30, e2_30_0), (32, e2_32_0)]
theorem tbl2_ok : TblOK 0 Try.prog gl0 tbl2 := (.cons e1_11_0_ok (.cons e2_9_0_ok (.cons e2_13_0_ok (.cons e2_15_0_ok (.cons e2_17_0_ok (.cons e2_20_0_ok (.cons e2_22_0_ok (.cons e2_24_0_ok (.cons e2_26_0_ok (.cons e2_28_0_ok (.cons e2_30_0_ok (.cons e2_32_0_ok .nil))))))))))))
noncomputable def xt2 : List (Nat × List XEnt) := [(108, [x5049, x6780])]
theorem xt2_ok : XTblOK 0 Try.prog xt2 := (.cons (.cons (run_ok tbl0_ok xt0_ok) x5049_ok (.cons (run_ok tbl0_ok xt0_ok) x6780_ok .nil)) .nil)

end Go.Proofs.Ytlnmcadbmpiopaa
