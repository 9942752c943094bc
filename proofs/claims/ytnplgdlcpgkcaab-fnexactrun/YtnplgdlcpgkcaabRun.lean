/-
  The exact law of run.
-/
import Derived.Test.YtnplgdlcpgkcaabRunGiven
import Derived.Test.YtnplgdlcpgkcaabRunImpl
namespace Go.Proofs.Ytnplgdlcpgkcaab

theorem run_holds : Rows.FnExactRunSaid := run_given run_impl
#print axioms run_holds
end Go.Proofs.Ytnplgdlcpgkcaab
