/-
  The exact law of tick.
-/
import Derived.Test.YtgpphkjdmonkaabTickGiven
import Derived.Test.YtgpphkjdmonkaabTickImplAll
namespace Go.Proofs.Ytgpphkjdmonkaab

theorem tick_holds : Rows.FnExactTickSaid := tick_given tick_impl
#print axioms tick_holds
end Go.Proofs.Ytgpphkjdmonkaab
