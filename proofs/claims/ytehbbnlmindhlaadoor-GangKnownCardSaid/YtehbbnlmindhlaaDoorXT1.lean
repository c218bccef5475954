/-
  The tables of the calls that are known, and of those that are carried out elsewhere, up to level 1.
-/
import Derived.Test.YtehbbnlmindhlaaDoorXL1a
import Derived.Test.YtehbbnlmindhlaaDoorXL1b
import Derived.Test.YtehbbnlmindhlaaDoorXL1c
import Derived.Test.YtehbbnlmindhlaaDoorXL1d
import Derived.Test.YtehbbnlmindhlaaDoorXL1e
import Derived.Test.YtehbbnlmindhlaaDoorXL1f
import Derived.Test.YtehbbnlmindhlaaDoorXL1g
import Derived.Test.YtehbbnlmindhlaaDoorXL1h
import Derived.Test.YtehbbnlmindhlaaDoorXL1i
import Derived.Test.YtehbbnlmindhlaaDoorXL1j
import Derived.Test.YtehbbnlmindhlaaDoorXL1k
import Derived.Test.YtehbbnlmindhlaaDoorXL1l
import Derived.KernelRfl
namespace Go.Proofs.YtehbbnlmindhlaaDoor
open Go Go.Ev

def tbl1 : List (Nat × List Ent) := [(18, e1_18_0 ++ (e1_18_1))]
theorem tbl1_ok : TblOK 1 Tryd.prog gl0 tbl1 := (.cons (.append e1_18_0_ok e1_18_1_ok) .nil)
noncomputable def xt1 : List (Nat × List XEnt) := [(70, [x2465, x3708, x6249, x8897, x10218, x12918, x15020, x16037, x17939, x18860, x21328])]
theorem xt1_ok : XTblOK 1 Tryd.prog xt1 := (.cons (.cons (run_ok tbl0_ok xt0_ok) x2465_ok (.cons (run_ok tbl0_ok xt0_ok) x3708_ok (.cons (run_ok tbl0_ok xt0_ok) x6249_ok (.cons (run_ok tbl0_ok xt0_ok) x8897_ok (.cons (run_ok tbl0_ok xt0_ok) x10218_ok (.cons (run_ok tbl0_ok xt0_ok) x12918_ok (.cons (run_ok tbl0_ok xt0_ok) x15020_ok (.cons (run_ok tbl0_ok xt0_ok) x16037_ok (.cons (run_ok tbl0_ok xt0_ok) x17939_ok (.cons (run_ok tbl0_ok xt0_ok) x18860_ok (.cons (run_ok tbl0_ok xt0_ok) x21328_ok .nil))))))))))) .nil)

end Go.Proofs.YtehbbnlmindhlaaDoor
