/-
  The exact law of tick.
-/
import Derived.Test.YtnplgdlcpgkcaabTickGiven
import Derived.Test.YtnplgdlcpgkcaabTickImplAll
namespace Go.Proofs.Ytnplgdlcpgkcaab

theorem tick_holds : Rows.FnExactTickSaid := tick_given tick_impl
#print axioms tick_holds
end Go.Proofs.Ytnplgdlcpgkcaab
