/-
  The laws' small functions: copies, and what is the same is found the same.
-/
import Derived.Test.YtgpphkjdmonkaaaGuardPlain
namespace Go.Proofs.Ytgpphkjdmonkaaa
open Go.RowKit
attribute [local go_sem ↓] Go.wp_at_zero Go.wp_at_succ


end Go.Proofs.Ytgpphkjdmonkaaa
