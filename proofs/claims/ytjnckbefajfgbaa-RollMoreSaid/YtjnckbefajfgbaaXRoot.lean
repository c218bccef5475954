/-
  The function itself is carried out, and answers true.
-/
import Derived.Test.YtjnckbefajfgbaaXT2
import Derived.KernelRfl
namespace Go.Proofs.Ytjnckbefajfgbaa
open Go Go.Ev

set_option maxRecDepth 100000

theorem root_true : saysTrue (evalB Try.prog gl0 tbl2 xt2 5000 gl0.length 21 [] (putObjs gl0 0 .leaf) gl0.length) = true := by kernel_rfl
theorem root_run : CallOK 0 Try.prog (evalB Try.prog gl0 tbl2 xt2 5000) := (run_ok tbl2_ok xt2_ok).1

end Go.Proofs.Ytjnckbefajfgbaa
