/-
  No cell of these rows narrows 'for every input' (looked for: loops, veiled, ifaces, maps, wideKeys, modest, calm, conditions, laid).
  DERIVED. THE GIVEN ROWS OF THIS SEAT. 12 by the template 'for every input the law returns true; each argument reads behind the call as it read before'; 0 by the template 'total and deterministic' (their statements: YtgmpehccklifdaaTotals.lean).
  GIVEN WITH THE SEED: the statements are not yours to turn. If you find one false, say at which input.
  Laid BY PROGRAM, IN A SANDBOX (cutbox-rows.mjs): the forced cells as the released guide's own fill.sh prints them over the translation cba663933948bde6… (all of the seat's roots in one cut). By AI agents, Wed Nov 11 2026. No macro, syntax, notation, axiom, sorry.
-/
import Derived.Test.YtgmpehccklifdaaChecked
import GoSem.Claim
import GoSem.ClaimJoined
import GoSem.ClaimMapViews
import Derived.JoinedTies
import Derived.KernelRfl
namespace Go.Proofs.Ytgmpehccklifdaa
/- THE CELL 'sum', in the pinned program and in every row, IS THE sha256 OF THE DUMP (.gsa) THAT YtgmpehccklifdaaProg.lean LOADS. Nothing in Lean hashes anything: it is a label: what it is worth is what the hold of that sum in a sandbox is worth. -/
noncomputable def Try.pinned : Pinned := { name := "ytgmpehccklifdaa", sum := "cba663933948bde668c070d0fb4b7fe45e08ddd5fc86274bb5ada1085cf34c5f", checked := Try.checked }
namespace Rows
def none {H : Type} : Left H := { results := [], args := [] }

/-- 'laws.FnExactIsWidth': WHATEVER THE INPUT: true; the input reads as it did. -/
def fnExactIsWidthSpec : ChangeSpec := { name := "fnExactIsWidth", fn := fun _ => fun
  | [d] => { results := [.lit (.bool true)], args := [d] }
  | _ => none }
def fnExactIsWidthRow : OpenClaim := { program := "ytgmpehccklifdaa", sum := "cba663933948bde668c070d0fb4b7fe45e08ddd5fc86274bb5ada1085cf34c5f", func := "loop.example/g00986/laws.FnExactIsWidth", spec := "fnExactIsWidth", plainKeys := false, apart := false }
def FnExactIsWidthSaid : Prop := fnExactIsWidthRow.holds Try.pinned (OpenSpec.ofChange fnExactIsWidthSpec)

/-- ITS FALSE NEIGHBOUR: 'it returns false'. Refute it at one input. -/
def fnExactIsWidthWrong : ChangeSpec := { name := "fnExactIsWidth", fn := fun _ => fun
  | [d] => { results := [.lit (.bool false)], args := [d] }
  | _ => none }
def FnExactIsWidthWrongFalsely : Prop := fnExactIsWidthRow.holds Try.pinned (OpenSpec.ofChange fnExactIsWidthWrong)

/-- 'laws.FnExactStateName': WHATEVER THE INPUT: true; the input reads as it did. -/
def fnExactStateNameSpec : ChangeSpec := { name := "fnExactStateName", fn := fun _ => fun
  | [d] => { results := [.lit (.bool true)], args := [d] }
  | _ => none }
def fnExactStateNameRow : OpenClaim := { program := "ytgmpehccklifdaa", sum := "cba663933948bde668c070d0fb4b7fe45e08ddd5fc86274bb5ada1085cf34c5f", func := "loop.example/g00986/laws.FnExactStateName", spec := "fnExactStateName", plainKeys := false, apart := false }
def FnExactStateNameSaid : Prop := fnExactStateNameRow.holds Try.pinned (OpenSpec.ofChange fnExactStateNameSpec)

/-- ITS FALSE NEIGHBOUR: 'it returns false'. Refute it at one input. -/
def fnExactStateNameWrong : ChangeSpec := { name := "fnExactStateName", fn := fun _ => fun
  | [d] => { results := [.lit (.bool false)], args := [d] }
  | _ => none }
def FnExactStateNameWrongFalsely : Prop := fnExactStateNameRow.holds Try.pinned (OpenSpec.ofChange fnExactStateNameWrong)

/-- 'laws.FnExactPortOk': WHATEVER THE INPUT: true; the input reads as it did. -/
def fnExactPortOkSpec : ChangeSpec := { name := "fnExactPortOk", fn := fun _ => fun
  | [d] => { results := [.lit (.bool true)], args := [d] }
  | _ => none }
def fnExactPortOkRow : OpenClaim := { program := "ytgmpehccklifdaa", sum := "cba663933948bde668c070d0fb4b7fe45e08ddd5fc86274bb5ada1085cf34c5f", func := "loop.example/g00986/laws.FnExactPortOk", spec := "fnExactPortOk", plainKeys := false, apart := false }
def FnExactPortOkSaid : Prop := fnExactPortOkRow.holds Try.pinned (OpenSpec.ofChange fnExactPortOkSpec)

/-- ITS FALSE NEIGHBOUR: 'it returns false'. Refute it at one input. -/
def fnExactPortOkWrong : ChangeSpec := { name := "fnExactPortOk", fn := fun _ => fun
  | [d] => { results := [.lit (.bool false)], args := [d] }
  | _ => none }
def FnExactPortOkWrongFalsely : Prop := fnExactPortOkRow.holds Try.pinned (OpenSpec.ofChange fnExactPortOkWrong)

/-- 'laws.FnExactAgreedWidth': WHATEVER THE INPUT: true; the input reads as it did. -/
def fnExactAgreedWidthSpec : ChangeSpec := { name := "fnExactAgreedWidth", fn := fun _ => fun
  | [d1, d2] => { results := [.lit (.bool true)], args := [d1, d2] }
  | _ => none }
def fnExactAgreedWidthRow : OpenClaim := { program := "ytgmpehccklifdaa", sum := "cba663933948bde668c070d0fb4b7fe45e08ddd5fc86274bb5ada1085cf34c5f", func := "loop.example/g00986/laws.FnExactAgreedWidth", spec := "fnExactAgreedWidth", plainKeys := false, apart := false }
def FnExactAgreedWidthSaid : Prop := fnExactAgreedWidthRow.holds Try.pinned (OpenSpec.ofChange fnExactAgreedWidthSpec)

/-- ITS FALSE NEIGHBOUR: 'it returns false'. Refute it at one input. -/
def fnExactAgreedWidthWrong : ChangeSpec := { name := "fnExactAgreedWidth", fn := fun _ => fun
  | [d1, d2] => { results := [.lit (.bool false)], args := [d1, d2] }
  | _ => none }
def FnExactAgreedWidthWrongFalsely : Prop := fnExactAgreedWidthRow.holds Try.pinned (OpenSpec.ofChange fnExactAgreedWidthWrong)

/-- 'laws.FnExactPortStep': WHATEVER THE INPUT: true; the input reads as it did. -/
def fnExactPortStepSpec : ChangeSpec := { name := "fnExactPortStep", fn := fun _ => fun
  | [d1, d2, d3] => { results := [.lit (.bool true)], args := [d1, d2, d3] }
  | _ => none }
def fnExactPortStepRow : OpenClaim := { program := "ytgmpehccklifdaa", sum := "cba663933948bde668c070d0fb4b7fe45e08ddd5fc86274bb5ada1085cf34c5f", func := "loop.example/g00986/laws.FnExactPortStep", spec := "fnExactPortStep", plainKeys := false, apart := false }
def FnExactPortStepSaid : Prop := fnExactPortStepRow.holds Try.pinned (OpenSpec.ofChange fnExactPortStepSpec)

/-- ITS FALSE NEIGHBOUR: 'it returns false'. Refute it at one input. -/
def fnExactPortStepWrong : ChangeSpec := { name := "fnExactPortStep", fn := fun _ => fun
  | [d1, d2, d3] => { results := [.lit (.bool false)], args := [d1, d2, d3] }
  | _ => none }
def FnExactPortStepWrongFalsely : Prop := fnExactPortStepRow.holds Try.pinned (OpenSpec.ofChange fnExactPortStepWrong)

/-- 'laws.FnExactPortRun': WHATEVER THE INPUT: true; the input reads as it did. -/
def fnExactPortRunSpec : ChangeSpec := { name := "fnExactPortRun", fn := fun _ => fun
  | [d1, d2, d3] => { results := [.lit (.bool true)], args := [d1, d2, d3] }
  | _ => none }
def fnExactPortRunRow : OpenClaim := { program := "ytgmpehccklifdaa", sum := "cba663933948bde668c070d0fb4b7fe45e08ddd5fc86274bb5ada1085cf34c5f", func := "loop.example/g00986/laws.FnExactPortRun", spec := "fnExactPortRun", plainKeys := false, apart := false }
def FnExactPortRunSaid : Prop := fnExactPortRunRow.holds Try.pinned (OpenSpec.ofChange fnExactPortRunSpec)

/-- ITS FALSE NEIGHBOUR: 'it returns false'. Refute it at one input. -/
def fnExactPortRunWrong : ChangeSpec := { name := "fnExactPortRun", fn := fun _ => fun
  | [d1, d2, d3] => { results := [.lit (.bool false)], args := [d1, d2, d3] }
  | _ => none }
def FnExactPortRunWrongFalsely : Prop := fnExactPortRunRow.holds Try.pinned (OpenSpec.ofChange fnExactPortRunWrong)

/-- 'laws.FnPorts': WHATEVER THE INPUT: true; the input reads as it did. -/
def fnPortsSpec : ChangeSpec := { name := "fnPorts", fn := fun _ => fun
  | [d] => { results := [.lit (.bool true)], args := [d] }
  | _ => none }
def fnPortsRow : OpenClaim := { program := "ytgmpehccklifdaa", sum := "cba663933948bde668c070d0fb4b7fe45e08ddd5fc86274bb5ada1085cf34c5f", func := "loop.example/g00986/laws.FnPorts", spec := "fnPorts", plainKeys := false, apart := false }
def FnPortsSaid : Prop := fnPortsRow.holds Try.pinned (OpenSpec.ofChange fnPortsSpec)

/-- ITS FALSE NEIGHBOUR: 'it returns false'. Refute it at one input. -/
def fnPortsWrong : ChangeSpec := { name := "fnPorts", fn := fun _ => fun
  | [d] => { results := [.lit (.bool false)], args := [d] }
  | _ => none }
def FnPortsWrongFalsely : Prop := fnPortsRow.holds Try.pinned (OpenSpec.ofChange fnPortsWrong)

/-- 'laws.FnExactNextState': WHATEVER THE INPUT: true; the input reads as it did. -/
def fnExactNextStateSpec : ChangeSpec := { name := "fnExactNextState", fn := fun _ => fun
  | [d] => { results := [.lit (.bool true)], args := [d] }
  | _ => none }
def fnExactNextStateRow : OpenClaim := { program := "ytgmpehccklifdaa", sum := "cba663933948bde668c070d0fb4b7fe45e08ddd5fc86274bb5ada1085cf34c5f", func := "loop.example/g00986/laws.FnExactNextState", spec := "fnExactNextState", plainKeys := false, apart := false }
def FnExactNextStateSaid : Prop := fnExactNextStateRow.holds Try.pinned (OpenSpec.ofChange fnExactNextStateSpec)

/-- ITS FALSE NEIGHBOUR: 'it returns false'. Refute it at one input. -/
def fnExactNextStateWrong : ChangeSpec := { name := "fnExactNextState", fn := fun _ => fun
  | [d] => { results := [.lit (.bool false)], args := [d] }
  | _ => none }
def FnExactNextStateWrongFalsely : Prop := fnExactNextStateRow.holds Try.pinned (OpenSpec.ofChange fnExactNextStateWrong)

/-- 'laws.FnExactScrambleBytes': WHATEVER THE INPUT: true; the input reads as it did. -/
def fnExactScrambleBytesSpec : ChangeSpec := { name := "fnExactScrambleBytes", fn := fun _ => fun
  | [d1, d2] => { results := [.lit (.bool true)], args := [d1, d2] }
  | _ => none }
def fnExactScrambleBytesRow : OpenClaim := { program := "ytgmpehccklifdaa", sum := "cba663933948bde668c070d0fb4b7fe45e08ddd5fc86274bb5ada1085cf34c5f", func := "loop.example/g00986/laws.FnExactScrambleBytes", spec := "fnExactScrambleBytes", unfollowed := true, recurses := true, plainKeys := false, apart := false }
def FnExactScrambleBytesSaid : Prop := fnExactScrambleBytesRow.holds Try.pinned (OpenSpec.ofChange fnExactScrambleBytesSpec)

/-- ITS FALSE NEIGHBOUR: 'it returns false'. Refute it at one input. -/
def fnExactScrambleBytesWrong : ChangeSpec := { name := "fnExactScrambleBytes", fn := fun _ => fun
  | [d1, d2] => { results := [.lit (.bool false)], args := [d1, d2] }
  | _ => none }
def FnExactScrambleBytesWrongFalsely : Prop := fnExactScrambleBytesRow.holds Try.pinned (OpenSpec.ofChange fnExactScrambleBytesWrong)

/-- 'laws.FnExactStateAfter': WHATEVER THE INPUT: true; the input reads as it did. -/
def fnExactStateAfterSpec : ChangeSpec := { name := "fnExactStateAfter", fn := fun _ => fun
  | [d1, d2] => { results := [.lit (.bool true)], args := [d1, d2] }
  | _ => none }
def fnExactStateAfterRow : OpenClaim := { program := "ytgmpehccklifdaa", sum := "cba663933948bde668c070d0fb4b7fe45e08ddd5fc86274bb5ada1085cf34c5f", func := "loop.example/g00986/laws.FnExactStateAfter", spec := "fnExactStateAfter", unfollowed := true, recurses := true, plainKeys := false, apart := false }
def FnExactStateAfterSaid : Prop := fnExactStateAfterRow.holds Try.pinned (OpenSpec.ofChange fnExactStateAfterSpec)

/-- ITS FALSE NEIGHBOUR: 'it returns false'. Refute it at one input. -/
def fnExactStateAfterWrong : ChangeSpec := { name := "fnExactStateAfter", fn := fun _ => fun
  | [d1, d2] => { results := [.lit (.bool false)], args := [d1, d2] }
  | _ => none }
def FnExactStateAfterWrongFalsely : Prop := fnExactStateAfterRow.holds Try.pinned (OpenSpec.ofChange fnExactStateAfterWrong)

/-- 'laws.FnExactPeriodOf': WHATEVER THE INPUT: true; the input reads as it did. -/
def fnExactPeriodOfSpec : ChangeSpec := { name := "fnExactPeriodOf", fn := fun _ => fun
  | [d] => { results := [.lit (.bool true)], args := [d] }
  | _ => none }
def fnExactPeriodOfRow : OpenClaim := { program := "ytgmpehccklifdaa", sum := "cba663933948bde668c070d0fb4b7fe45e08ddd5fc86274bb5ada1085cf34c5f", func := "loop.example/g00986/laws.FnExactPeriodOf", spec := "fnExactPeriodOf", unfollowed := true, recurses := true, plainKeys := false, apart := false }
def FnExactPeriodOfSaid : Prop := fnExactPeriodOfRow.holds Try.pinned (OpenSpec.ofChange fnExactPeriodOfSpec)

/-- ITS FALSE NEIGHBOUR: 'it returns false'. Refute it at one input. -/
def fnExactPeriodOfWrong : ChangeSpec := { name := "fnExactPeriodOf", fn := fun _ => fun
  | [d] => { results := [.lit (.bool false)], args := [d] }
  | _ => none }
def FnExactPeriodOfWrongFalsely : Prop := fnExactPeriodOfRow.holds Try.pinned (OpenSpec.ofChange fnExactPeriodOfWrong)

/-- 'laws.FnScrambles': WHATEVER THE INPUT: true; the input reads as it did. -/
def fnScramblesSpec : ChangeSpec := { name := "fnScrambles", fn := fun _ => fun
  | [d] => { results := [.lit (.bool true)], args := [d] }
  | _ => none }
def fnScramblesRow : OpenClaim := { program := "ytgmpehccklifdaa", sum := "cba663933948bde668c070d0fb4b7fe45e08ddd5fc86274bb5ada1085cf34c5f", func := "loop.example/g00986/laws.FnScrambles", spec := "fnScrambles", unfollowed := true, recurses := true, plainKeys := false, apart := false }
def FnScramblesSaid : Prop := fnScramblesRow.holds Try.pinned (OpenSpec.ofChange fnScramblesSpec)

/-- ITS FALSE NEIGHBOUR: 'it returns false'. Refute it at one input. -/
def fnScramblesWrong : ChangeSpec := { name := "fnScrambles", fn := fun _ => fun
  | [d] => { results := [.lit (.bool false)], args := [d] }
  | _ => none }
def FnScramblesWrongFalsely : Prop := fnScramblesRow.holds Try.pinned (OpenSpec.ofChange fnScramblesWrong)

/- THE SECOND FORM. 'bulk': how many values and letters a reading holds, each counted each time it is reached (what is shared counts as often as it is met; a slice's spare places count too). A statement '..UptoSaid' is the law's where the arguments, and the package variables that the reading takes, are together of bulk at most 1048576: NARROWER than '..Said'. Prove '..Said' where nothing that the law and all that it calls make is longer than what came in: it says more and counts as full. Else prove '..UptoSaid'. A law counts once. -/
mutual
def uptoBulk {H : Type} : DataW H → Nat
  | .lit (.string bytes) => bytes.length + 1
  | .lit _ => 1
  | .nil => 1
  | .ptr d => uptoBulk d + 1
  | .slice elems spare => uptoBulkAll elems + uptoBulkAll spare + 1
  | .agg parts => uptoBulkAll parts + 1
  | .iface _ d => uptoBulk d + 1
  | .map entries => uptoBulkEntries entries + 1
  | .held _ => 1
def uptoBulkAll {H : Type} : List (DataW H) → Nat
  | [] => 0
  | d :: r => uptoBulk d + uptoBulkAll r
def uptoBulkEntries {H : Type} : List (Lit × DataW H) → Nat
  | [] => 0
  | x :: r => uptoBulkEntry x + uptoBulkEntries r
def uptoBulkEntry {H : Type} : Lit × DataW H → Nat
  | (.string bytes, d) => bytes.length + uptoBulk d + 1
  | (_, d) => uptoBulk d + 1
 end
def uptoSmall : (H : Type) → List (DataW H) → Bool := fun _ ds => decide (uptoBulkAll ds ≤ 1048576)
def OpenSpec.upto (s : _root_.Go.ChangeSpec) : _root_.Go.OpenSpec := { _root_.Go.OpenSpec.ofChange s with cond := some uptoSmall }

/-- 'laws.FnExactIsWidth', WHERE WHAT IT READS IS OF BULK AT MOST 1048576: true; the input reads as it did. -/
def fnExactIsWidthUptoRow : OpenClaim := { program := "ytgmpehccklifdaa", sum := "cba663933948bde668c070d0fb4b7fe45e08ddd5fc86274bb5ada1085cf34c5f", func := "loop.example/g00986/laws.FnExactIsWidth", spec := "fnExactIsWidth", plainKeys := false, apart := false, narrowed := true }
def FnExactIsWidthUptoSaid : Prop := fnExactIsWidthUptoRow.holds Try.pinned (OpenSpec.upto fnExactIsWidthSpec)

/-- 'laws.FnExactStateName', WHERE WHAT IT READS IS OF BULK AT MOST 1048576: true; the input reads as it did. -/
def fnExactStateNameUptoRow : OpenClaim := { program := "ytgmpehccklifdaa", sum := "cba663933948bde668c070d0fb4b7fe45e08ddd5fc86274bb5ada1085cf34c5f", func := "loop.example/g00986/laws.FnExactStateName", spec := "fnExactStateName", plainKeys := false, apart := false, narrowed := true }
def FnExactStateNameUptoSaid : Prop := fnExactStateNameUptoRow.holds Try.pinned (OpenSpec.upto fnExactStateNameSpec)

/-- 'laws.FnExactPortOk', WHERE WHAT IT READS IS OF BULK AT MOST 1048576: true; the input reads as it did. -/
def fnExactPortOkUptoRow : OpenClaim := { program := "ytgmpehccklifdaa", sum := "cba663933948bde668c070d0fb4b7fe45e08ddd5fc86274bb5ada1085cf34c5f", func := "loop.example/g00986/laws.FnExactPortOk", spec := "fnExactPortOk", plainKeys := false, apart := false, narrowed := true }
def FnExactPortOkUptoSaid : Prop := fnExactPortOkUptoRow.holds Try.pinned (OpenSpec.upto fnExactPortOkSpec)

/-- 'laws.FnExactAgreedWidth', WHERE WHAT IT READS IS OF BULK AT MOST 1048576: true; the input reads as it did. -/
def fnExactAgreedWidthUptoRow : OpenClaim := { program := "ytgmpehccklifdaa", sum := "cba663933948bde668c070d0fb4b7fe45e08ddd5fc86274bb5ada1085cf34c5f", func := "loop.example/g00986/laws.FnExactAgreedWidth", spec := "fnExactAgreedWidth", plainKeys := false, apart := false, narrowed := true }
def FnExactAgreedWidthUptoSaid : Prop := fnExactAgreedWidthUptoRow.holds Try.pinned (OpenSpec.upto fnExactAgreedWidthSpec)

/-- 'laws.FnExactPortStep', WHERE WHAT IT READS IS OF BULK AT MOST 1048576: true; the input reads as it did. -/
def fnExactPortStepUptoRow : OpenClaim := { program := "ytgmpehccklifdaa", sum := "cba663933948bde668c070d0fb4b7fe45e08ddd5fc86274bb5ada1085cf34c5f", func := "loop.example/g00986/laws.FnExactPortStep", spec := "fnExactPortStep", plainKeys := false, apart := false, narrowed := true }
def FnExactPortStepUptoSaid : Prop := fnExactPortStepUptoRow.holds Try.pinned (OpenSpec.upto fnExactPortStepSpec)

/-- 'laws.FnExactPortRun', WHERE WHAT IT READS IS OF BULK AT MOST 1048576: true; the input reads as it did. -/
def fnExactPortRunUptoRow : OpenClaim := { program := "ytgmpehccklifdaa", sum := "cba663933948bde668c070d0fb4b7fe45e08ddd5fc86274bb5ada1085cf34c5f", func := "loop.example/g00986/laws.FnExactPortRun", spec := "fnExactPortRun", plainKeys := false, apart := false, narrowed := true }
def FnExactPortRunUptoSaid : Prop := fnExactPortRunUptoRow.holds Try.pinned (OpenSpec.upto fnExactPortRunSpec)

/-- 'laws.FnPorts', WHERE WHAT IT READS IS OF BULK AT MOST 1048576: true; the input reads as it did. -/
def fnPortsUptoRow : OpenClaim := { program := "ytgmpehccklifdaa", sum := "cba663933948bde668c070d0fb4b7fe45e08ddd5fc86274bb5ada1085cf34c5f", func := "loop.example/g00986/laws.FnPorts", spec := "fnPorts", plainKeys := false, apart := false, narrowed := true }
def FnPortsUptoSaid : Prop := fnPortsUptoRow.holds Try.pinned (OpenSpec.upto fnPortsSpec)

/-- 'laws.FnExactNextState', WHERE WHAT IT READS IS OF BULK AT MOST 1048576: true; the input reads as it did. -/
def fnExactNextStateUptoRow : OpenClaim := { program := "ytgmpehccklifdaa", sum := "cba663933948bde668c070d0fb4b7fe45e08ddd5fc86274bb5ada1085cf34c5f", func := "loop.example/g00986/laws.FnExactNextState", spec := "fnExactNextState", plainKeys := false, apart := false, narrowed := true }
def FnExactNextStateUptoSaid : Prop := fnExactNextStateUptoRow.holds Try.pinned (OpenSpec.upto fnExactNextStateSpec)

/-- 'laws.FnExactScrambleBytes', WHERE WHAT IT READS IS OF BULK AT MOST 1048576: true; the input reads as it did. -/
def fnExactScrambleBytesUptoRow : OpenClaim := { program := "ytgmpehccklifdaa", sum := "cba663933948bde668c070d0fb4b7fe45e08ddd5fc86274bb5ada1085cf34c5f", func := "loop.example/g00986/laws.FnExactScrambleBytes", spec := "fnExactScrambleBytes", unfollowed := true, recurses := true, plainKeys := false, apart := false, narrowed := true }
def FnExactScrambleBytesUptoSaid : Prop := fnExactScrambleBytesUptoRow.holds Try.pinned (OpenSpec.upto fnExactScrambleBytesSpec)

/-- 'laws.FnExactStateAfter', WHERE WHAT IT READS IS OF BULK AT MOST 1048576: true; the input reads as it did. -/
def fnExactStateAfterUptoRow : OpenClaim := { program := "ytgmpehccklifdaa", sum := "cba663933948bde668c070d0fb4b7fe45e08ddd5fc86274bb5ada1085cf34c5f", func := "loop.example/g00986/laws.FnExactStateAfter", spec := "fnExactStateAfter", unfollowed := true, recurses := true, plainKeys := false, apart := false, narrowed := true }
def FnExactStateAfterUptoSaid : Prop := fnExactStateAfterUptoRow.holds Try.pinned (OpenSpec.upto fnExactStateAfterSpec)

/-- 'laws.FnExactPeriodOf', WHERE WHAT IT READS IS OF BULK AT MOST 1048576: true; the input reads as it did. -/
def fnExactPeriodOfUptoRow : OpenClaim := { program := "ytgmpehccklifdaa", sum := "cba663933948bde668c070d0fb4b7fe45e08ddd5fc86274bb5ada1085cf34c5f", func := "loop.example/g00986/laws.FnExactPeriodOf", spec := "fnExactPeriodOf", unfollowed := true, recurses := true, plainKeys := false, apart := false, narrowed := true }
def FnExactPeriodOfUptoSaid : Prop := fnExactPeriodOfUptoRow.holds Try.pinned (OpenSpec.upto fnExactPeriodOfSpec)

/-- 'laws.FnScrambles', WHERE WHAT IT READS IS OF BULK AT MOST 1048576: true; the input reads as it did. -/
def fnScramblesUptoRow : OpenClaim := { program := "ytgmpehccklifdaa", sum := "cba663933948bde668c070d0fb4b7fe45e08ddd5fc86274bb5ada1085cf34c5f", func := "loop.example/g00986/laws.FnScrambles", spec := "fnScrambles", unfollowed := true, recurses := true, plainKeys := false, apart := false, narrowed := true }
def FnScramblesUptoSaid : Prop := fnScramblesUptoRow.holds Try.pinned (OpenSpec.upto fnScramblesSpec)

end Rows
end Go.Proofs.Ytgmpehccklifdaa
