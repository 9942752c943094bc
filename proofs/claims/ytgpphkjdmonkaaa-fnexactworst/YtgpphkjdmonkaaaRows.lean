/-
  No cell of these rows narrows 'for every input' (looked for: loops, veiled, ifaces, maps, wideKeys, modest, calm, conditions, laid).
  DERIVED. THE GIVEN ROWS OF THIS SEAT. 9 by the template 'for every input the law returns true; each argument reads behind the call as it read before'; 0 by the template 'total and deterministic' (their statements: YtgpphkjdmonkaaaTotals.lean).
  GIVEN WITH THE SEED: the statements are not yours to turn. If you find one false, say at which input.
  Laid BY PROGRAM, IN A SANDBOX (cutbox-rows.mjs): the forced cells as the released guide's own fill.sh prints them over the translation 4d61c7aa8c2d8e7e… (all of the seat's roots in one cut). By AI agents, Wed Nov 11 2026. No macro, syntax, notation, axiom, sorry.
-/
import Derived.Test.YtgpphkjdmonkaaaChecked
import GoSem.Claim
import GoSem.ClaimJoined
import GoSem.ClaimMapViews
import Derived.JoinedTies
import Derived.KernelRfl
namespace Go.Proofs.Ytgpphkjdmonkaaa
/- THE CELL 'sum', in the pinned program and in every row, IS THE sha256 OF THE DUMP (.gsa) THAT YtgpphkjdmonkaaaProg.lean LOADS. Nothing in Lean hashes anything: it is a label: what it is worth is what the hold of that sum in a sandbox is worth. -/
noncomputable def Try.pinned : Pinned := { name := "ytgpphkjdmonkaaa", sum := "4d61c7aa8c2d8e7ece0ee3681405af5d007f5ec17c78b7226f5719d19748eb60", checked := Try.checked }
namespace Rows
def none {H : Type} : Left H := { results := [], args := [] }

/-- 'laws.FnEven': WHATEVER THE INPUT: true; the input reads as it did. -/
def fnEvenSpec : ChangeSpec := { name := "fnEven", fn := fun _ => fun
  | [d] => { results := [.lit (.bool true)], args := [d] }
  | _ => none }
def fnEvenRow : OpenClaim := { program := "ytgpphkjdmonkaaa", sum := "4d61c7aa8c2d8e7ece0ee3681405af5d007f5ec17c78b7226f5719d19748eb60", func := "loop.example/deadman/laws.FnEven", spec := "fnEven", unfollowed := true, recurses := true, apart := false }
def FnEvenSaid : Prop := fnEvenRow.holds Try.pinned (OpenSpec.ofChange fnEvenSpec)

/-- ITS FALSE NEIGHBOUR: 'it returns false'. Refute it at one input. -/
def fnEvenWrong : ChangeSpec := { name := "fnEven", fn := fun _ => fun
  | [d] => { results := [.lit (.bool false)], args := [d] }
  | _ => none }
def FnEvenWrongFalsely : Prop := fnEvenRow.holds Try.pinned (OpenSpec.ofChange fnEvenWrong)

/-- 'laws.FnCurves': WHATEVER THE INPUT: true; the input reads as it did. -/
def fnCurvesSpec : ChangeSpec := { name := "fnCurves", fn := fun _ => fun
  | [d1, d2] => { results := [.lit (.bool true)], args := [d1, d2] }
  | _ => none }
def fnCurvesRow : OpenClaim := { program := "ytgpphkjdmonkaaa", sum := "4d61c7aa8c2d8e7ece0ee3681405af5d007f5ec17c78b7226f5719d19748eb60", func := "loop.example/deadman/laws.FnCurves", spec := "fnCurves", unfollowed := true, recurses := true, apart := false }
def FnCurvesSaid : Prop := fnCurvesRow.holds Try.pinned (OpenSpec.ofChange fnCurvesSpec)

/-- ITS FALSE NEIGHBOUR: 'it returns false'. Refute it at one input. -/
def fnCurvesWrong : ChangeSpec := { name := "fnCurves", fn := fun _ => fun
  | [d1, d2] => { results := [.lit (.bool false)], args := [d1, d2] }
  | _ => none }
def FnCurvesWrongFalsely : Prop := fnCurvesRow.holds Try.pinned (OpenSpec.ofChange fnCurvesWrong)

/-- 'laws.FnLonger': WHATEVER THE INPUT: true; the input reads as it did. -/
def fnLongerSpec : ChangeSpec := { name := "fnLonger", fn := fun _ => fun
  | [d1, d2] => { results := [.lit (.bool true)], args := [d1, d2] }
  | _ => none }
def fnLongerRow : OpenClaim := { program := "ytgpphkjdmonkaaa", sum := "4d61c7aa8c2d8e7ece0ee3681405af5d007f5ec17c78b7226f5719d19748eb60", func := "loop.example/deadman/laws.FnLonger", spec := "fnLonger", unfollowed := true, recurses := true, apart := false }
def FnLongerSaid : Prop := fnLongerRow.holds Try.pinned (OpenSpec.ofChange fnLongerSpec)

/-- ITS FALSE NEIGHBOUR: 'it returns false'. Refute it at one input. -/
def fnLongerWrong : ChangeSpec := { name := "fnLonger", fn := fun _ => fun
  | [d1, d2] => { results := [.lit (.bool false)], args := [d1, d2] }
  | _ => none }
def FnLongerWrongFalsely : Prop := fnLongerRow.holds Try.pinned (OpenSpec.ofChange fnLongerWrong)

/-- 'laws.FnRun': WHATEVER THE INPUT: true; the input reads as it did. -/
def fnRunSpec : ChangeSpec := { name := "fnRun", fn := fun _ => fun
  | [d] => { results := [.lit (.bool true)], args := [d] }
  | _ => none }
def fnRunRow : OpenClaim := { program := "ytgpphkjdmonkaaa", sum := "4d61c7aa8c2d8e7ece0ee3681405af5d007f5ec17c78b7226f5719d19748eb60", func := "loop.example/deadman/laws.FnRun", spec := "fnRun", unfollowed := true, recurses := true, apart := false }
def FnRunSaid : Prop := fnRunRow.holds Try.pinned (OpenSpec.ofChange fnRunSpec)

/-- ITS FALSE NEIGHBOUR: 'it returns false'. Refute it at one input. -/
def fnRunWrong : ChangeSpec := { name := "fnRun", fn := fun _ => fun
  | [d] => { results := [.lit (.bool false)], args := [d] }
  | _ => none }
def FnRunWrongFalsely : Prop := fnRunRow.holds Try.pinned (OpenSpec.ofChange fnRunWrong)

/-- 'laws.FnExactBrakesOk': WHATEVER THE INPUT: true; the input reads as it did. -/
def fnExactBrakesOkSpec : ChangeSpec := { name := "fnExactBrakesOk", fn := fun _ => fun
  | [d] => { results := [.lit (.bool true)], args := [d] }
  | _ => none }
def fnExactBrakesOkRow : OpenClaim := { program := "ytgpphkjdmonkaaa", sum := "4d61c7aa8c2d8e7ece0ee3681405af5d007f5ec17c78b7226f5719d19748eb60", func := "loop.example/deadman/laws.FnExactBrakesOk", spec := "fnExactBrakesOk", apart := false }
def FnExactBrakesOkSaid : Prop := fnExactBrakesOkRow.holds Try.pinned (OpenSpec.ofChange fnExactBrakesOkSpec)

/-- ITS FALSE NEIGHBOUR: 'it returns false'. Refute it at one input. -/
def fnExactBrakesOkWrong : ChangeSpec := { name := "fnExactBrakesOk", fn := fun _ => fun
  | [d] => { results := [.lit (.bool false)], args := [d] }
  | _ => none }
def FnExactBrakesOkWrongFalsely : Prop := fnExactBrakesOkRow.holds Try.pinned (OpenSpec.ofChange fnExactBrakesOkWrong)

/-- 'laws.FnExactWorst': WHATEVER THE INPUT: true; the input reads as it did. -/
def fnExactWorstSpec : ChangeSpec := { name := "fnExactWorst", fn := fun _ => fun
  | [d1, d2] => { results := [.lit (.bool true)], args := [d1, d2] }
  | _ => none }
def fnExactWorstRow : OpenClaim := { program := "ytgpphkjdmonkaaa", sum := "4d61c7aa8c2d8e7ece0ee3681405af5d007f5ec17c78b7226f5719d19748eb60", func := "loop.example/deadman/laws.FnExactWorst", spec := "fnExactWorst", apart := false }
def FnExactWorstSaid : Prop := fnExactWorstRow.holds Try.pinned (OpenSpec.ofChange fnExactWorstSpec)

/-- ITS FALSE NEIGHBOUR: 'it returns false'. Refute it at one input. -/
def fnExactWorstWrong : ChangeSpec := { name := "fnExactWorst", fn := fun _ => fun
  | [d1, d2] => { results := [.lit (.bool false)], args := [d1, d2] }
  | _ => none }
def FnExactWorstWrongFalsely : Prop := fnExactWorstRow.holds Try.pinned (OpenSpec.ofChange fnExactWorstWrong)

/-- 'laws.FnExactGentle': WHATEVER THE INPUT: true; the input reads as it did. -/
def fnExactGentleSpec : ChangeSpec := { name := "fnExactGentle", fn := fun _ => fun
  | [d1, d2] => { results := [.lit (.bool true)], args := [d1, d2] }
  | _ => none }
def fnExactGentleRow : OpenClaim := { program := "ytgpphkjdmonkaaa", sum := "4d61c7aa8c2d8e7ece0ee3681405af5d007f5ec17c78b7226f5719d19748eb60", func := "loop.example/deadman/laws.FnExactGentle", spec := "fnExactGentle", apart := false }
def FnExactGentleSaid : Prop := fnExactGentleRow.holds Try.pinned (OpenSpec.ofChange fnExactGentleSpec)

/-- ITS FALSE NEIGHBOUR: 'it returns false'. Refute it at one input. -/
def fnExactGentleWrong : ChangeSpec := { name := "fnExactGentle", fn := fun _ => fun
  | [d1, d2] => { results := [.lit (.bool false)], args := [d1, d2] }
  | _ => none }
def FnExactGentleWrongFalsely : Prop := fnExactGentleRow.holds Try.pinned (OpenSpec.ofChange fnExactGentleWrong)

/-- 'laws.FnExactMostHard': WHATEVER THE INPUT: true; the input reads as it did. -/
def fnExactMostHardSpec : ChangeSpec := { name := "fnExactMostHard", fn := fun _ => fun
  | [d1, d2] => { results := [.lit (.bool true)], args := [d1, d2] }
  | _ => none }
def fnExactMostHardRow : OpenClaim := { program := "ytgpphkjdmonkaaa", sum := "4d61c7aa8c2d8e7ece0ee3681405af5d007f5ec17c78b7226f5719d19748eb60", func := "loop.example/deadman/laws.FnExactMostHard", spec := "fnExactMostHard", unfollowed := true, recurses := true, apart := false }
def FnExactMostHardSaid : Prop := fnExactMostHardRow.holds Try.pinned (OpenSpec.ofChange fnExactMostHardSpec)

/-- ITS FALSE NEIGHBOUR: 'it returns false'. Refute it at one input. -/
def fnExactMostHardWrong : ChangeSpec := { name := "fnExactMostHard", fn := fun _ => fun
  | [d1, d2] => { results := [.lit (.bool false)], args := [d1, d2] }
  | _ => none }
def FnExactMostHardWrongFalsely : Prop := fnExactMostHardRow.holds Try.pinned (OpenSpec.ofChange fnExactMostHardWrong)

/-- 'laws.FnExactPermitted': WHATEVER THE INPUT: true; the input reads as it did. -/
def fnExactPermittedSpec : ChangeSpec := { name := "fnExactPermitted", fn := fun _ => fun
  | [d1, d2, d3] => { results := [.lit (.bool true)], args := [d1, d2, d3] }
  | _ => none }
def fnExactPermittedRow : OpenClaim := { program := "ytgpphkjdmonkaaa", sum := "4d61c7aa8c2d8e7ece0ee3681405af5d007f5ec17c78b7226f5719d19748eb60", func := "loop.example/deadman/laws.FnExactPermitted", spec := "fnExactPermitted", unfollowed := true, recurses := true, apart := false }
def FnExactPermittedSaid : Prop := fnExactPermittedRow.holds Try.pinned (OpenSpec.ofChange fnExactPermittedSpec)

/-- ITS FALSE NEIGHBOUR: 'it returns false'. Refute it at one input. -/
def fnExactPermittedWrong : ChangeSpec := { name := "fnExactPermitted", fn := fun _ => fun
  | [d1, d2, d3] => { results := [.lit (.bool false)], args := [d1, d2, d3] }
  | _ => none }
def FnExactPermittedWrongFalsely : Prop := fnExactPermittedRow.holds Try.pinned (OpenSpec.ofChange fnExactPermittedWrong)

/- THE SECOND FORM. 'bulk': how many values and letters a reading holds, each counted each time it is reached (what is shared counts as often as it is met; a slice's spare places count too). A statement '..UptoSaid' is the law's where the arguments, and the package variables that the reading takes, are together of bulk at most 1048576: NARROWER than '..Said'. Prove '..Said' where nothing that the law and all that it calls make is longer than what came in: it says more and counts as full. Else prove '..UptoSaid'. A law counts once. -/
mutual
def uptoBulk {H : Type} : DataW H → Nat
  | .lit (.string bytes) => bytes.length + 1
  | .lit _ => 1
  | .nil => 1
  | .ptr d => uptoBulk d + 1
  | .slice elems spare => uptoBulkAll elems + uptoBulkAll spare + 1
  | .agg parts => uptoBulkAll parts + 1
  | .iface _ d => uptoBulk d + 1
  | .map entries => uptoBulkEntries entries + 1
  | .held _ => 1
def uptoBulkAll {H : Type} : List (DataW H) → Nat
  | [] => 0
  | d :: r => uptoBulk d + uptoBulkAll r
def uptoBulkEntries {H : Type} : List (Lit × DataW H) → Nat
  | [] => 0
  | x :: r => uptoBulkEntry x + uptoBulkEntries r
def uptoBulkEntry {H : Type} : Lit × DataW H → Nat
  | (.string bytes, d) => bytes.length + uptoBulk d + 1
  | (_, d) => uptoBulk d + 1
 end
def uptoSmall : (H : Type) → List (DataW H) → Bool := fun _ ds => decide (uptoBulkAll ds ≤ 1048576)
def OpenSpec.upto (s : _root_.Go.ChangeSpec) : _root_.Go.OpenSpec := { _root_.Go.OpenSpec.ofChange s with cond := some uptoSmall }

/-- 'laws.FnEven', WHERE WHAT IT READS IS OF BULK AT MOST 1048576: true; the input reads as it did. -/
def fnEvenUptoRow : OpenClaim := { program := "ytgpphkjdmonkaaa", sum := "4d61c7aa8c2d8e7ece0ee3681405af5d007f5ec17c78b7226f5719d19748eb60", func := "loop.example/deadman/laws.FnEven", spec := "fnEven", unfollowed := true, recurses := true, apart := false, narrowed := true }
def FnEvenUptoSaid : Prop := fnEvenUptoRow.holds Try.pinned (OpenSpec.upto fnEvenSpec)

/-- 'laws.FnCurves', WHERE WHAT IT READS IS OF BULK AT MOST 1048576: true; the input reads as it did. -/
def fnCurvesUptoRow : OpenClaim := { program := "ytgpphkjdmonkaaa", sum := "4d61c7aa8c2d8e7ece0ee3681405af5d007f5ec17c78b7226f5719d19748eb60", func := "loop.example/deadman/laws.FnCurves", spec := "fnCurves", unfollowed := true, recurses := true, apart := false, narrowed := true }
def FnCurvesUptoSaid : Prop := fnCurvesUptoRow.holds Try.pinned (OpenSpec.upto fnCurvesSpec)

/-- 'laws.FnLonger', WHERE WHAT IT READS IS OF BULK AT MOST 1048576: true; the input reads as it did. -/
def fnLongerUptoRow : OpenClaim := { program := "ytgpphkjdmonkaaa", sum := "4d61c7aa8c2d8e7ece0ee3681405af5d007f5ec17c78b7226f5719d19748eb60", func := "loop.example/deadman/laws.FnLonger", spec := "fnLonger", unfollowed := true, recurses := true, apart := false, narrowed := true }
def FnLongerUptoSaid : Prop := fnLongerUptoRow.holds Try.pinned (OpenSpec.upto fnLongerSpec)

/-- 'laws.FnRun', WHERE WHAT IT READS IS OF BULK AT MOST 1048576: true; the input reads as it did. -/
def fnRunUptoRow : OpenClaim := { program := "ytgpphkjdmonkaaa", sum := "4d61c7aa8c2d8e7ece0ee3681405af5d007f5ec17c78b7226f5719d19748eb60", func := "loop.example/deadman/laws.FnRun", spec := "fnRun", unfollowed := true, recurses := true, apart := false, narrowed := true }
def FnRunUptoSaid : Prop := fnRunUptoRow.holds Try.pinned (OpenSpec.upto fnRunSpec)

/-- 'laws.FnExactBrakesOk', WHERE WHAT IT READS IS OF BULK AT MOST 1048576: true; the input reads as it did. -/
def fnExactBrakesOkUptoRow : OpenClaim := { program := "ytgpphkjdmonkaaa", sum := "4d61c7aa8c2d8e7ece0ee3681405af5d007f5ec17c78b7226f5719d19748eb60", func := "loop.example/deadman/laws.FnExactBrakesOk", spec := "fnExactBrakesOk", apart := false, narrowed := true }
def FnExactBrakesOkUptoSaid : Prop := fnExactBrakesOkUptoRow.holds Try.pinned (OpenSpec.upto fnExactBrakesOkSpec)

/-- 'laws.FnExactWorst', WHERE WHAT IT READS IS OF BULK AT MOST 1048576: true; the input reads as it did. -/
def fnExactWorstUptoRow : OpenClaim := { program := "ytgpphkjdmonkaaa", sum := "4d61c7aa8c2d8e7ece0ee3681405af5d007f5ec17c78b7226f5719d19748eb60", func := "loop.example/deadman/laws.FnExactWorst", spec := "fnExactWorst", apart := false, narrowed := true }
def FnExactWorstUptoSaid : Prop := fnExactWorstUptoRow.holds Try.pinned (OpenSpec.upto fnExactWorstSpec)

/-- 'laws.FnExactGentle', WHERE WHAT IT READS IS OF BULK AT MOST 1048576: true; the input reads as it did. -/
def fnExactGentleUptoRow : OpenClaim := { program := "ytgpphkjdmonkaaa", sum := "4d61c7aa8c2d8e7ece0ee3681405af5d007f5ec17c78b7226f5719d19748eb60", func := "loop.example/deadman/laws.FnExactGentle", spec := "fnExactGentle", apart := false, narrowed := true }
def FnExactGentleUptoSaid : Prop := fnExactGentleUptoRow.holds Try.pinned (OpenSpec.upto fnExactGentleSpec)

/-- 'laws.FnExactMostHard', WHERE WHAT IT READS IS OF BULK AT MOST 1048576: true; the input reads as it did. -/
def fnExactMostHardUptoRow : OpenClaim := { program := "ytgpphkjdmonkaaa", sum := "4d61c7aa8c2d8e7ece0ee3681405af5d007f5ec17c78b7226f5719d19748eb60", func := "loop.example/deadman/laws.FnExactMostHard", spec := "fnExactMostHard", unfollowed := true, recurses := true, apart := false, narrowed := true }
def FnExactMostHardUptoSaid : Prop := fnExactMostHardUptoRow.holds Try.pinned (OpenSpec.upto fnExactMostHardSpec)

/-- 'laws.FnExactPermitted', WHERE WHAT IT READS IS OF BULK AT MOST 1048576: true; the input reads as it did. -/
def fnExactPermittedUptoRow : OpenClaim := { program := "ytgpphkjdmonkaaa", sum := "4d61c7aa8c2d8e7ece0ee3681405af5d007f5ec17c78b7226f5719d19748eb60", func := "loop.example/deadman/laws.FnExactPermitted", spec := "fnExactPermitted", unfollowed := true, recurses := true, apart := false, narrowed := true }
def FnExactPermittedUptoSaid : Prop := fnExactPermittedUptoRow.holds Try.pinned (OpenSpec.upto fnExactPermittedSpec)

end Rows
end Go.Proofs.Ytgpphkjdmonkaaa
