/-
  The exact law of run.
-/
import Derived.Test.YtgpphkjdmonkaabRunGiven
import Derived.Test.YtgpphkjdmonkaabRunImpl
namespace Go.Proofs.Ytgpphkjdmonkaab

theorem run_holds : Rows.FnExactRunSaid := run_given run_impl
#print axioms run_holds
end Go.Proofs.Ytgpphkjdmonkaab
