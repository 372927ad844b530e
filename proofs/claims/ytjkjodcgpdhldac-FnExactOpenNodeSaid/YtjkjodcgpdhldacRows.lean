/-
  No cell of these rows narrows 'for every input' (looked for: loops, veiled, ifaces, maps, wideKeys, modest, calm, conditions, laid).
  DERIVED. THE GIVEN ROWS OF THIS SEAT. 12 by the template 'for every input the law returns true; each argument reads behind the call as it read before'; 0 by the template 'total and deterministic' (their statements: YtjkjodcgpdhldacTotals.lean).
  GIVEN WITH THE SEED: the statements are not yours to turn. If you find one false, say at which input.
  Laid BY PROGRAM, IN A SANDBOX (cutbox-rows.mjs): the forced cells as the released guide's own fill.sh prints them over the translation 32ff3c6b434054e7… (all of the seat's roots in one cut). By AI agents, Wed Nov 11 2026. No macro, syntax, notation, axiom, sorry.
-/
import Derived.Test.YtjkjodcgpdhldacChecked
import GoSem.Claim
import GoSem.ClaimJoined
import GoSem.ClaimMapViews
import Derived.JoinedTies
import Derived.KernelRfl
namespace Go.Proofs.Ytjkjodcgpdhldac
/- THE CELL 'sum', in the pinned program and in every row, IS THE sha256 OF THE DUMP (.gsa) THAT YtjkjodcgpdhldacProg.lean LOADS. Nothing in Lean hashes anything: it is a label: what it is worth is what the hold of that sum in a sandbox is worth. -/
noncomputable def Try.pinned : Pinned := { name := "ytjkjodcgpdhldac", sum := "32ff3c6b434054e7dc7b4002644612db94be1e532b51598be04f4a42800c440f", checked := Try.checked }
namespace Rows
def none {H : Type} : Left H := { results := [], args := [] }

/-- 'laws.FnExactTreeOk': WHATEVER THE INPUT: true; the input reads as it did. -/
def fnExactTreeOkSpec : ChangeSpec := { name := "fnExactTreeOk", fn := fun _ => fun
  | [d] => { results := [.lit (.bool true)], args := [d] }
  | _ => none }
def fnExactTreeOkRow : OpenClaim := { program := "ytjkjodcgpdhldac", sum := "32ff3c6b434054e7dc7b4002644612db94be1e532b51598be04f4a42800c440f", func := "loop.example/g00986/laws.FnExactTreeOk", spec := "fnExactTreeOk", unfollowed := true, recurses := true, apart := false }
def FnExactTreeOkSaid : Prop := fnExactTreeOkRow.holds Try.pinned (OpenSpec.ofChange fnExactTreeOkSpec)

/-- ITS FALSE NEIGHBOUR: 'it returns false'. Refute it at one input. -/
def fnExactTreeOkWrong : ChangeSpec := { name := "fnExactTreeOk", fn := fun _ => fun
  | [d] => { results := [.lit (.bool false)], args := [d] }
  | _ => none }
def FnExactTreeOkWrongFalsely : Prop := fnExactTreeOkRow.holds Try.pinned (OpenSpec.ofChange fnExactTreeOkWrong)

/-- 'laws.FnExactChildrenOf': WHATEVER THE INPUT: true; the input reads as it did. -/
def fnExactChildrenOfSpec : ChangeSpec := { name := "fnExactChildrenOf", fn := fun _ => fun
  | [d1, d2] => { results := [.lit (.bool true)], args := [d1, d2] }
  | _ => none }
def fnExactChildrenOfRow : OpenClaim := { program := "ytjkjodcgpdhldac", sum := "32ff3c6b434054e7dc7b4002644612db94be1e532b51598be04f4a42800c440f", func := "loop.example/g00986/laws.FnExactChildrenOf", spec := "fnExactChildrenOf", unfollowed := true, recurses := true, apart := false }
def FnExactChildrenOfSaid : Prop := fnExactChildrenOfRow.holds Try.pinned (OpenSpec.ofChange fnExactChildrenOfSpec)

/-- ITS FALSE NEIGHBOUR: 'it returns false'. Refute it at one input. -/
def fnExactChildrenOfWrong : ChangeSpec := { name := "fnExactChildrenOf", fn := fun _ => fun
  | [d1, d2] => { results := [.lit (.bool false)], args := [d1, d2] }
  | _ => none }
def FnExactChildrenOfWrongFalsely : Prop := fnExactChildrenOfRow.holds Try.pinned (OpenSpec.ofChange fnExactChildrenOfWrong)

/-- 'laws.FnExactPathTo': WHATEVER THE INPUT: true; the input reads as it did. -/
def fnExactPathToSpec : ChangeSpec := { name := "fnExactPathTo", fn := fun _ => fun
  | [d1, d2] => { results := [.lit (.bool true)], args := [d1, d2] }
  | _ => none }
def fnExactPathToRow : OpenClaim := { program := "ytjkjodcgpdhldac", sum := "32ff3c6b434054e7dc7b4002644612db94be1e532b51598be04f4a42800c440f", func := "loop.example/g00986/laws.FnExactPathTo", spec := "fnExactPathTo", unfollowed := true, recurses := true, apart := false }
def FnExactPathToSaid : Prop := fnExactPathToRow.holds Try.pinned (OpenSpec.ofChange fnExactPathToSpec)

/-- ITS FALSE NEIGHBOUR: 'it returns false'. Refute it at one input. -/
def fnExactPathToWrong : ChangeSpec := { name := "fnExactPathTo", fn := fun _ => fun
  | [d1, d2] => { results := [.lit (.bool false)], args := [d1, d2] }
  | _ => none }
def FnExactPathToWrongFalsely : Prop := fnExactPathToRow.holds Try.pinned (OpenSpec.ofChange fnExactPathToWrong)

/-- 'laws.FnExactIsBelow': WHATEVER THE INPUT: true; the input reads as it did. -/
def fnExactIsBelowSpec : ChangeSpec := { name := "fnExactIsBelow", fn := fun _ => fun
  | [d1, d2, d3] => { results := [.lit (.bool true)], args := [d1, d2, d3] }
  | _ => none }
def fnExactIsBelowRow : OpenClaim := { program := "ytjkjodcgpdhldac", sum := "32ff3c6b434054e7dc7b4002644612db94be1e532b51598be04f4a42800c440f", func := "loop.example/g00986/laws.FnExactIsBelow", spec := "fnExactIsBelow", unfollowed := true, recurses := true, apart := false }
def FnExactIsBelowSaid : Prop := fnExactIsBelowRow.holds Try.pinned (OpenSpec.ofChange fnExactIsBelowSpec)

/-- ITS FALSE NEIGHBOUR: 'it returns false'. Refute it at one input. -/
def fnExactIsBelowWrong : ChangeSpec := { name := "fnExactIsBelow", fn := fun _ => fun
  | [d1, d2, d3] => { results := [.lit (.bool false)], args := [d1, d2, d3] }
  | _ => none }
def FnExactIsBelowWrongFalsely : Prop := fnExactIsBelowRow.holds Try.pinned (OpenSpec.ofChange fnExactIsBelowWrong)

/-- 'laws.FnExactPathBetween': WHATEVER THE INPUT: true; the input reads as it did. -/
def fnExactPathBetweenSpec : ChangeSpec := { name := "fnExactPathBetween", fn := fun _ => fun
  | [d1, d2, d3] => { results := [.lit (.bool true)], args := [d1, d2, d3] }
  | _ => none }
def fnExactPathBetweenRow : OpenClaim := { program := "ytjkjodcgpdhldac", sum := "32ff3c6b434054e7dc7b4002644612db94be1e532b51598be04f4a42800c440f", func := "loop.example/g00986/laws.FnExactPathBetween", spec := "fnExactPathBetween", unfollowed := true, recurses := true, apart := false }
def FnExactPathBetweenSaid : Prop := fnExactPathBetweenRow.holds Try.pinned (OpenSpec.ofChange fnExactPathBetweenSpec)

/-- ITS FALSE NEIGHBOUR: 'it returns false'. Refute it at one input. -/
def fnExactPathBetweenWrong : ChangeSpec := { name := "fnExactPathBetween", fn := fun _ => fun
  | [d1, d2, d3] => { results := [.lit (.bool false)], args := [d1, d2, d3] }
  | _ => none }
def FnExactPathBetweenWrongFalsely : Prop := fnExactPathBetweenRow.holds Try.pinned (OpenSpec.ofChange fnExactPathBetweenWrong)

/-- 'laws.FnExactSizesOk': WHATEVER THE INPUT: true; the input reads as it did. -/
def fnExactSizesOkSpec : ChangeSpec := { name := "fnExactSizesOk", fn := fun _ => fun
  | [d1, d2] => { results := [.lit (.bool true)], args := [d1, d2] }
  | _ => none }
def fnExactSizesOkRow : OpenClaim := { program := "ytjkjodcgpdhldac", sum := "32ff3c6b434054e7dc7b4002644612db94be1e532b51598be04f4a42800c440f", func := "loop.example/g00986/laws.FnExactSizesOk", spec := "fnExactSizesOk", unfollowed := true, recurses := true, apart := false }
def FnExactSizesOkSaid : Prop := fnExactSizesOkRow.holds Try.pinned (OpenSpec.ofChange fnExactSizesOkSpec)

/-- ITS FALSE NEIGHBOUR: 'it returns false'. Refute it at one input. -/
def fnExactSizesOkWrong : ChangeSpec := { name := "fnExactSizesOk", fn := fun _ => fun
  | [d1, d2] => { results := [.lit (.bool false)], args := [d1, d2] }
  | _ => none }
def FnExactSizesOkWrongFalsely : Prop := fnExactSizesOkRow.holds Try.pinned (OpenSpec.ofChange fnExactSizesOkWrong)

/-- 'laws.FnExactGuardOk': WHATEVER THE INPUT: true; the input reads as it did. -/
def fnExactGuardOkSpec : ChangeSpec := { name := "fnExactGuardOk", fn := fun _ => fun
  | [d1, d2] => { results := [.lit (.bool true)], args := [d1, d2] }
  | _ => none }
def fnExactGuardOkRow : OpenClaim := { program := "ytjkjodcgpdhldac", sum := "32ff3c6b434054e7dc7b4002644612db94be1e532b51598be04f4a42800c440f", func := "loop.example/g00986/laws.FnExactGuardOk", spec := "fnExactGuardOk", unfollowed := true, recurses := true, apart := false }
def FnExactGuardOkSaid : Prop := fnExactGuardOkRow.holds Try.pinned (OpenSpec.ofChange fnExactGuardOkSpec)

/-- ITS FALSE NEIGHBOUR: 'it returns false'. Refute it at one input. -/
def fnExactGuardOkWrong : ChangeSpec := { name := "fnExactGuardOk", fn := fun _ => fun
  | [d1, d2] => { results := [.lit (.bool false)], args := [d1, d2] }
  | _ => none }
def FnExactGuardOkWrongFalsely : Prop := fnExactGuardOkRow.holds Try.pinned (OpenSpec.ofChange fnExactGuardOkWrong)

/-- 'laws.FnExactCutNode': WHATEVER THE INPUT: true; the input reads as it did. -/
def fnExactCutNodeSpec : ChangeSpec := { name := "fnExactCutNode", fn := fun _ => fun
  | [d1, d2, d3] => { results := [.lit (.bool true)], args := [d1, d2, d3] }
  | _ => none }
def fnExactCutNodeRow : OpenClaim := { program := "ytjkjodcgpdhldac", sum := "32ff3c6b434054e7dc7b4002644612db94be1e532b51598be04f4a42800c440f", func := "loop.example/g00986/laws.FnExactCutNode", spec := "fnExactCutNode", unfollowed := true, recurses := true, apart := false }
def FnExactCutNodeSaid : Prop := fnExactCutNodeRow.holds Try.pinned (OpenSpec.ofChange fnExactCutNodeSpec)

/-- ITS FALSE NEIGHBOUR: 'it returns false'. Refute it at one input. -/
def fnExactCutNodeWrong : ChangeSpec := { name := "fnExactCutNode", fn := fun _ => fun
  | [d1, d2, d3] => { results := [.lit (.bool false)], args := [d1, d2, d3] }
  | _ => none }
def FnExactCutNodeWrongFalsely : Prop := fnExactCutNodeRow.holds Try.pinned (OpenSpec.ofChange fnExactCutNodeWrong)

/-- 'laws.FnExactOpenNode': WHATEVER THE INPUT: true; the input reads as it did. -/
def fnExactOpenNodeSpec : ChangeSpec := { name := "fnExactOpenNode", fn := fun _ => fun
  | [d1, d2, d3] => { results := [.lit (.bool true)], args := [d1, d2, d3] }
  | _ => none }
def fnExactOpenNodeRow : OpenClaim := { program := "ytjkjodcgpdhldac", sum := "32ff3c6b434054e7dc7b4002644612db94be1e532b51598be04f4a42800c440f", func := "loop.example/g00986/laws.FnExactOpenNode", spec := "fnExactOpenNode", unfollowed := true, recurses := true, apart := false }
def FnExactOpenNodeSaid : Prop := fnExactOpenNodeRow.holds Try.pinned (OpenSpec.ofChange fnExactOpenNodeSpec)

/-- ITS FALSE NEIGHBOUR: 'it returns false'. Refute it at one input. -/
def fnExactOpenNodeWrong : ChangeSpec := { name := "fnExactOpenNode", fn := fun _ => fun
  | [d1, d2, d3] => { results := [.lit (.bool false)], args := [d1, d2, d3] }
  | _ => none }
def FnExactOpenNodeWrongFalsely : Prop := fnExactOpenNodeRow.holds Try.pinned (OpenSpec.ofChange fnExactOpenNodeWrong)

/-- 'laws.FnExactSleepOk': WHATEVER THE INPUT: true; the input reads as it did. -/
def fnExactSleepOkSpec : ChangeSpec := { name := "fnExactSleepOk", fn := fun _ => fun
  | [d1, d2] => { results := [.lit (.bool true)], args := [d1, d2] }
  | _ => none }
def fnExactSleepOkRow : OpenClaim := { program := "ytjkjodcgpdhldac", sum := "32ff3c6b434054e7dc7b4002644612db94be1e532b51598be04f4a42800c440f", func := "loop.example/g00986/laws.FnExactSleepOk", spec := "fnExactSleepOk", unfollowed := true, recurses := true, apart := false }
def FnExactSleepOkSaid : Prop := fnExactSleepOkRow.holds Try.pinned (OpenSpec.ofChange fnExactSleepOkSpec)

/-- ITS FALSE NEIGHBOUR: 'it returns false'. Refute it at one input. -/
def fnExactSleepOkWrong : ChangeSpec := { name := "fnExactSleepOk", fn := fun _ => fun
  | [d1, d2] => { results := [.lit (.bool false)], args := [d1, d2] }
  | _ => none }
def FnExactSleepOkWrongFalsely : Prop := fnExactSleepOkRow.holds Try.pinned (OpenSpec.ofChange fnExactSleepOkWrong)

/-- 'laws.FnExactSetSleep': WHATEVER THE INPUT: true; the input reads as it did. -/
def fnExactSetSleepSpec : ChangeSpec := { name := "fnExactSetSleep", fn := fun _ => fun
  | [d1, d2, d3, d4] => { results := [.lit (.bool true)], args := [d1, d2, d3, d4] }
  | _ => none }
def fnExactSetSleepRow : OpenClaim := { program := "ytjkjodcgpdhldac", sum := "32ff3c6b434054e7dc7b4002644612db94be1e532b51598be04f4a42800c440f", func := "loop.example/g00986/laws.FnExactSetSleep", spec := "fnExactSetSleep", unfollowed := true, recurses := true, apart := false }
def FnExactSetSleepSaid : Prop := fnExactSetSleepRow.holds Try.pinned (OpenSpec.ofChange fnExactSetSleepSpec)

/-- ITS FALSE NEIGHBOUR: 'it returns false'. Refute it at one input. -/
def fnExactSetSleepWrong : ChangeSpec := { name := "fnExactSetSleep", fn := fun _ => fun
  | [d1, d2, d3, d4] => { results := [.lit (.bool false)], args := [d1, d2, d3, d4] }
  | _ => none }
def FnExactSetSleepWrongFalsely : Prop := fnExactSetSleepRow.holds Try.pinned (OpenSpec.ofChange fnExactSetSleepWrong)

/-- 'laws.FnExactSlotsOf': WHATEVER THE INPUT: true; the input reads as it did. -/
def fnExactSlotsOfSpec : ChangeSpec := { name := "fnExactSlotsOf", fn := fun _ => fun
  | [d1, d2] => { results := [.lit (.bool true)], args := [d1, d2] }
  | _ => none }
def fnExactSlotsOfRow : OpenClaim := { program := "ytjkjodcgpdhldac", sum := "32ff3c6b434054e7dc7b4002644612db94be1e532b51598be04f4a42800c440f", func := "loop.example/g00986/laws.FnExactSlotsOf", spec := "fnExactSlotsOf", unfollowed := true, recurses := true, apart := false }
def FnExactSlotsOfSaid : Prop := fnExactSlotsOfRow.holds Try.pinned (OpenSpec.ofChange fnExactSlotsOfSpec)

/-- ITS FALSE NEIGHBOUR: 'it returns false'. Refute it at one input. -/
def fnExactSlotsOfWrong : ChangeSpec := { name := "fnExactSlotsOf", fn := fun _ => fun
  | [d1, d2] => { results := [.lit (.bool false)], args := [d1, d2] }
  | _ => none }
def FnExactSlotsOfWrongFalsely : Prop := fnExactSlotsOfRow.holds Try.pinned (OpenSpec.ofChange fnExactSlotsOfWrong)

/- THE SECOND FORM. 'bulk': how many values and letters a reading holds, each counted each time it is reached (what is shared counts as often as it is met; a slice's spare places count too). A statement '..UptoSaid' is the law's where the arguments, and the package variables that the reading takes, are together of bulk at most 1048576: NARROWER than '..Said'. Prove '..Said' where nothing that the law and all that it calls make is longer than what came in: it says more and counts as full. Else prove '..UptoSaid'. A law counts once. -/
mutual
def uptoBulk {H : Type} : DataW H → Nat
  | .lit (.string bytes) => bytes.length + 1
  | .lit _ => 1
  | .nil => 1
  | .ptr d => uptoBulk d + 1
  | .slice elems spare => uptoBulkAll elems + uptoBulkAll spare + 1
  | .agg parts => uptoBulkAll parts + 1
  | .iface _ d => uptoBulk d + 1
  | .map entries => uptoBulkEntries entries + 1
  | .held _ => 1
def uptoBulkAll {H : Type} : List (DataW H) → Nat
  | [] => 0
  | d :: r => uptoBulk d + uptoBulkAll r
def uptoBulkEntries {H : Type} : List (Lit × DataW H) → Nat
  | [] => 0
  | x :: r => uptoBulkEntry x + uptoBulkEntries r
def uptoBulkEntry {H : Type} : Lit × DataW H → Nat
  | (.string bytes, d) => bytes.length + uptoBulk d + 1
  | (_, d) => uptoBulk d + 1
 end
def uptoSmall : (H : Type) → List (DataW H) → Bool := fun _ ds => decide (uptoBulkAll ds ≤ 1048576)
def OpenSpec.upto (s : _root_.Go.ChangeSpec) : _root_.Go.OpenSpec := { _root_.Go.OpenSpec.ofChange s with cond := some uptoSmall }

/-- 'laws.FnExactTreeOk', WHERE WHAT IT READS IS OF BULK AT MOST 1048576: true; the input reads as it did. -/
def fnExactTreeOkUptoRow : OpenClaim := { program := "ytjkjodcgpdhldac", sum := "32ff3c6b434054e7dc7b4002644612db94be1e532b51598be04f4a42800c440f", func := "loop.example/g00986/laws.FnExactTreeOk", spec := "fnExactTreeOk", unfollowed := true, recurses := true, apart := false, narrowed := true }
def FnExactTreeOkUptoSaid : Prop := fnExactTreeOkUptoRow.holds Try.pinned (OpenSpec.upto fnExactTreeOkSpec)

/-- 'laws.FnExactChildrenOf', WHERE WHAT IT READS IS OF BULK AT MOST 1048576: true; the input reads as it did. -/
def fnExactChildrenOfUptoRow : OpenClaim := { program := "ytjkjodcgpdhldac", sum := "32ff3c6b434054e7dc7b4002644612db94be1e532b51598be04f4a42800c440f", func := "loop.example/g00986/laws.FnExactChildrenOf", spec := "fnExactChildrenOf", unfollowed := true, recurses := true, apart := false, narrowed := true }
def FnExactChildrenOfUptoSaid : Prop := fnExactChildrenOfUptoRow.holds Try.pinned (OpenSpec.upto fnExactChildrenOfSpec)

/-- 'laws.FnExactPathTo', WHERE WHAT IT READS IS OF BULK AT MOST 1048576: true; the input reads as it did. -/
def fnExactPathToUptoRow : OpenClaim := { program := "ytjkjodcgpdhldac", sum := "32ff3c6b434054e7dc7b4002644612db94be1e532b51598be04f4a42800c440f", func := "loop.example/g00986/laws.FnExactPathTo", spec := "fnExactPathTo", unfollowed := true, recurses := true, apart := false, narrowed := true }
def FnExactPathToUptoSaid : Prop := fnExactPathToUptoRow.holds Try.pinned (OpenSpec.upto fnExactPathToSpec)

/-- 'laws.FnExactIsBelow', WHERE WHAT IT READS IS OF BULK AT MOST 1048576: true; the input reads as it did. -/
def fnExactIsBelowUptoRow : OpenClaim := { program := "ytjkjodcgpdhldac", sum := "32ff3c6b434054e7dc7b4002644612db94be1e532b51598be04f4a42800c440f", func := "loop.example/g00986/laws.FnExactIsBelow", spec := "fnExactIsBelow", unfollowed := true, recurses := true, apart := false, narrowed := true }
def FnExactIsBelowUptoSaid : Prop := fnExactIsBelowUptoRow.holds Try.pinned (OpenSpec.upto fnExactIsBelowSpec)

/-- 'laws.FnExactPathBetween', WHERE WHAT IT READS IS OF BULK AT MOST 1048576: true; the input reads as it did. -/
def fnExactPathBetweenUptoRow : OpenClaim := { program := "ytjkjodcgpdhldac", sum := "32ff3c6b434054e7dc7b4002644612db94be1e532b51598be04f4a42800c440f", func := "loop.example/g00986/laws.FnExactPathBetween", spec := "fnExactPathBetween", unfollowed := true, recurses := true, apart := false, narrowed := true }
def FnExactPathBetweenUptoSaid : Prop := fnExactPathBetweenUptoRow.holds Try.pinned (OpenSpec.upto fnExactPathBetweenSpec)

/-- 'laws.FnExactSizesOk', WHERE WHAT IT READS IS OF BULK AT MOST 1048576: true; the input reads as it did. -/
def fnExactSizesOkUptoRow : OpenClaim := { program := "ytjkjodcgpdhldac", sum := "32ff3c6b434054e7dc7b4002644612db94be1e532b51598be04f4a42800c440f", func := "loop.example/g00986/laws.FnExactSizesOk", spec := "fnExactSizesOk", unfollowed := true, recurses := true, apart := false, narrowed := true }
def FnExactSizesOkUptoSaid : Prop := fnExactSizesOkUptoRow.holds Try.pinned (OpenSpec.upto fnExactSizesOkSpec)

/-- 'laws.FnExactGuardOk', WHERE WHAT IT READS IS OF BULK AT MOST 1048576: true; the input reads as it did. -/
def fnExactGuardOkUptoRow : OpenClaim := { program := "ytjkjodcgpdhldac", sum := "32ff3c6b434054e7dc7b4002644612db94be1e532b51598be04f4a42800c440f", func := "loop.example/g00986/laws.FnExactGuardOk", spec := "fnExactGuardOk", unfollowed := true, recurses := true, apart := false, narrowed := true }
def FnExactGuardOkUptoSaid : Prop := fnExactGuardOkUptoRow.holds Try.pinned (OpenSpec.upto fnExactGuardOkSpec)

/-- 'laws.FnExactCutNode', WHERE WHAT IT READS IS OF BULK AT MOST 1048576: true; the input reads as it did. -/
def fnExactCutNodeUptoRow : OpenClaim := { program := "ytjkjodcgpdhldac", sum := "32ff3c6b434054e7dc7b4002644612db94be1e532b51598be04f4a42800c440f", func := "loop.example/g00986/laws.FnExactCutNode", spec := "fnExactCutNode", unfollowed := true, recurses := true, apart := false, narrowed := true }
def FnExactCutNodeUptoSaid : Prop := fnExactCutNodeUptoRow.holds Try.pinned (OpenSpec.upto fnExactCutNodeSpec)

/-- 'laws.FnExactOpenNode', WHERE WHAT IT READS IS OF BULK AT MOST 1048576: true; the input reads as it did. -/
def fnExactOpenNodeUptoRow : OpenClaim := { program := "ytjkjodcgpdhldac", sum := "32ff3c6b434054e7dc7b4002644612db94be1e532b51598be04f4a42800c440f", func := "loop.example/g00986/laws.FnExactOpenNode", spec := "fnExactOpenNode", unfollowed := true, recurses := true, apart := false, narrowed := true }
def FnExactOpenNodeUptoSaid : Prop := fnExactOpenNodeUptoRow.holds Try.pinned (OpenSpec.upto fnExactOpenNodeSpec)

/-- 'laws.FnExactSleepOk', WHERE WHAT IT READS IS OF BULK AT MOST 1048576: true; the input reads as it did. -/
def fnExactSleepOkUptoRow : OpenClaim := { program := "ytjkjodcgpdhldac", sum := "32ff3c6b434054e7dc7b4002644612db94be1e532b51598be04f4a42800c440f", func := "loop.example/g00986/laws.FnExactSleepOk", spec := "fnExactSleepOk", unfollowed := true, recurses := true, apart := false, narrowed := true }
def FnExactSleepOkUptoSaid : Prop := fnExactSleepOkUptoRow.holds Try.pinned (OpenSpec.upto fnExactSleepOkSpec)

/-- 'laws.FnExactSetSleep', WHERE WHAT IT READS IS OF BULK AT MOST 1048576: true; the input reads as it did. -/
def fnExactSetSleepUptoRow : OpenClaim := { program := "ytjkjodcgpdhldac", sum := "32ff3c6b434054e7dc7b4002644612db94be1e532b51598be04f4a42800c440f", func := "loop.example/g00986/laws.FnExactSetSleep", spec := "fnExactSetSleep", unfollowed := true, recurses := true, apart := false, narrowed := true }
def FnExactSetSleepUptoSaid : Prop := fnExactSetSleepUptoRow.holds Try.pinned (OpenSpec.upto fnExactSetSleepSpec)

/-- 'laws.FnExactSlotsOf', WHERE WHAT IT READS IS OF BULK AT MOST 1048576: true; the input reads as it did. -/
def fnExactSlotsOfUptoRow : OpenClaim := { program := "ytjkjodcgpdhldac", sum := "32ff3c6b434054e7dc7b4002644612db94be1e532b51598be04f4a42800c440f", func := "loop.example/g00986/laws.FnExactSlotsOf", spec := "fnExactSlotsOf", unfollowed := true, recurses := true, apart := false, narrowed := true }
def FnExactSlotsOfUptoSaid : Prop := fnExactSlotsOfUptoRow.holds Try.pinned (OpenSpec.upto fnExactSlotsOfSpec)

end Rows
end Go.Proofs.Ytjkjodcgpdhldac
