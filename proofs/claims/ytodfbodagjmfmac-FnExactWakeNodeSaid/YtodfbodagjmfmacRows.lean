/-
  No cell of these rows narrows 'for every input' (looked for: loops, veiled, ifaces, maps, wideKeys, modest, calm, conditions, laid).
  DERIVED. THE GIVEN ROWS OF THIS SEAT. 12 by the template 'for every input the law returns true; each argument reads behind the call as it read before'; 0 by the template 'total and deterministic' (their statements: YtodfbodagjmfmacTotals.lean).
  GIVEN WITH THE SEED: the statements are not yours to turn. If you find one false, say at which input.
  Laid BY PROGRAM, IN A SANDBOX (cutbox-rows.mjs): the forced cells as the released guide's own fill.sh prints them over the translation f36863d6b8aaac85… (all of the seat's roots in one cut). By AI agents, Wed Nov 11 2026. No macro, syntax, notation, axiom, sorry.
-/
import Derived.Test.YtodfbodagjmfmacChecked
import GoSem.Claim
import GoSem.ClaimJoined
import GoSem.ClaimMapViews
import Derived.JoinedTies
import Derived.KernelRfl
namespace Go.Proofs.Ytodfbodagjmfmac
/- THE CELL 'sum', in the pinned program and in every row, IS THE sha256 OF THE DUMP (.gsa) THAT YtodfbodagjmfmacProg.lean LOADS. Nothing in Lean hashes anything: it is a label: what it is worth is what the hold of that sum in a sandbox is worth. -/
noncomputable def Try.pinned : Pinned := { name := "ytodfbodagjmfmac", sum := "f36863d6b8aaac8548fe5302eccae58d30a026efc43560c1a8ead40612a566f2", checked := Try.checked }
namespace Rows
def none {H : Type} : Left H := { results := [], args := [] }

/-- 'laws.FnExactDeepestFor': WHATEVER THE INPUT: true; the input reads as it did. -/
def fnExactDeepestForSpec : ChangeSpec := { name := "fnExactDeepestFor", fn := fun _ => fun
  | [d1, d2, d3] => { results := [.lit (.bool true)], args := [d1, d2, d3] }
  | _ => none }
def fnExactDeepestForRow : OpenClaim := { program := "ytodfbodagjmfmac", sum := "f36863d6b8aaac8548fe5302eccae58d30a026efc43560c1a8ead40612a566f2", func := "loop.example/g00986/laws.FnExactDeepestFor", spec := "fnExactDeepestFor", unfollowed := true, recurses := true, apart := false }
def FnExactDeepestForSaid : Prop := fnExactDeepestForRow.holds Try.pinned (OpenSpec.ofChange fnExactDeepestForSpec)

/-- ITS FALSE NEIGHBOUR: 'it returns false'. Refute it at one input. -/
def fnExactDeepestForWrong : ChangeSpec := { name := "fnExactDeepestFor", fn := fun _ => fun
  | [d1, d2, d3] => { results := [.lit (.bool false)], args := [d1, d2, d3] }
  | _ => none }
def FnExactDeepestForWrongFalsely : Prop := fnExactDeepestForRow.holds Try.pinned (OpenSpec.ofChange fnExactDeepestForWrong)

/-- 'laws.FnExactSettleSleep': WHATEVER THE INPUT: true; the input reads as it did. -/
def fnExactSettleSleepSpec : ChangeSpec := { name := "fnExactSettleSleep", fn := fun _ => fun
  | [d1, d2] => { results := [.lit (.bool true)], args := [d1, d2] }
  | _ => none }
def fnExactSettleSleepRow : OpenClaim := { program := "ytodfbodagjmfmac", sum := "f36863d6b8aaac8548fe5302eccae58d30a026efc43560c1a8ead40612a566f2", func := "loop.example/g00986/laws.FnExactSettleSleep", spec := "fnExactSettleSleep", unfollowed := true, recurses := true, apart := false }
def FnExactSettleSleepSaid : Prop := fnExactSettleSleepRow.holds Try.pinned (OpenSpec.ofChange fnExactSettleSleepSpec)

/-- ITS FALSE NEIGHBOUR: 'it returns false'. Refute it at one input. -/
def fnExactSettleSleepWrong : ChangeSpec := { name := "fnExactSettleSleep", fn := fun _ => fun
  | [d1, d2] => { results := [.lit (.bool false)], args := [d1, d2] }
  | _ => none }
def FnExactSettleSleepWrongFalsely : Prop := fnExactSettleSleepRow.holds Try.pinned (OpenSpec.ofChange fnExactSettleSleepWrong)

/-- 'laws.FnExactWakeNode': WHATEVER THE INPUT: true; the input reads as it did. -/
def fnExactWakeNodeSpec : ChangeSpec := { name := "fnExactWakeNode", fn := fun _ => fun
  | [d1, d2, d3] => { results := [.lit (.bool true)], args := [d1, d2, d3] }
  | _ => none }
def fnExactWakeNodeRow : OpenClaim := { program := "ytodfbodagjmfmac", sum := "f36863d6b8aaac8548fe5302eccae58d30a026efc43560c1a8ead40612a566f2", func := "loop.example/g00986/laws.FnExactWakeNode", spec := "fnExactWakeNode", unfollowed := true, recurses := true, apart := false }
def FnExactWakeNodeSaid : Prop := fnExactWakeNodeRow.holds Try.pinned (OpenSpec.ofChange fnExactWakeNodeSpec)

/-- ITS FALSE NEIGHBOUR: 'it returns false'. Refute it at one input. -/
def fnExactWakeNodeWrong : ChangeSpec := { name := "fnExactWakeNode", fn := fun _ => fun
  | [d1, d2, d3] => { results := [.lit (.bool false)], args := [d1, d2, d3] }
  | _ => none }
def FnExactWakeNodeWrongFalsely : Prop := fnExactWakeNodeRow.holds Try.pinned (OpenSpec.ofChange fnExactWakeNodeWrong)

/-- 'laws.FnSleeps': WHATEVER THE INPUT: true; the input reads as it did. -/
def fnSleepsSpec : ChangeSpec := { name := "fnSleeps", fn := fun _ => fun
  | [d] => { results := [.lit (.bool true)], args := [d] }
  | _ => none }
def fnSleepsRow : OpenClaim := { program := "ytodfbodagjmfmac", sum := "f36863d6b8aaac8548fe5302eccae58d30a026efc43560c1a8ead40612a566f2", func := "loop.example/g00986/laws.FnSleeps", spec := "fnSleeps", unfollowed := true, recurses := true, apart := false }
def FnSleepsSaid : Prop := fnSleepsRow.holds Try.pinned (OpenSpec.ofChange fnSleepsSpec)

/-- ITS FALSE NEIGHBOUR: 'it returns false'. Refute it at one input. -/
def fnSleepsWrong : ChangeSpec := { name := "fnSleeps", fn := fun _ => fun
  | [d] => { results := [.lit (.bool false)], args := [d] }
  | _ => none }
def FnSleepsWrongFalsely : Prop := fnSleepsRow.holds Try.pinned (OpenSpec.ofChange fnSleepsWrong)

/-- 'laws.FnWakes': WHATEVER THE INPUT: true; the input reads as it did. -/
def fnWakesSpec : ChangeSpec := { name := "fnWakes", fn := fun _ => fun
  | [d] => { results := [.lit (.bool true)], args := [d] }
  | _ => none }
def fnWakesRow : OpenClaim := { program := "ytodfbodagjmfmac", sum := "f36863d6b8aaac8548fe5302eccae58d30a026efc43560c1a8ead40612a566f2", func := "loop.example/g00986/laws.FnWakes", spec := "fnWakes", unfollowed := true, recurses := true, apart := false }
def FnWakesSaid : Prop := fnWakesRow.holds Try.pinned (OpenSpec.ofChange fnWakesSpec)

/-- ITS FALSE NEIGHBOUR: 'it returns false'. Refute it at one input. -/
def fnWakesWrong : ChangeSpec := { name := "fnWakes", fn := fun _ => fun
  | [d] => { results := [.lit (.bool false)], args := [d] }
  | _ => none }
def FnWakesWrongFalsely : Prop := fnWakesRow.holds Try.pinned (OpenSpec.ofChange fnWakesWrong)

/-- 'laws.FnExactCutOff': WHATEVER THE INPUT: true; the input reads as it did. -/
def fnExactCutOffSpec : ChangeSpec := { name := "fnExactCutOff", fn := fun _ => fun
  | [d1, d2] => { results := [.lit (.bool true)], args := [d1, d2] }
  | _ => none }
def fnExactCutOffRow : OpenClaim := { program := "ytodfbodagjmfmac", sum := "f36863d6b8aaac8548fe5302eccae58d30a026efc43560c1a8ead40612a566f2", func := "loop.example/g00986/laws.FnExactCutOff", spec := "fnExactCutOff", unfollowed := true, recurses := true, apart := false }
def FnExactCutOffSaid : Prop := fnExactCutOffRow.holds Try.pinned (OpenSpec.ofChange fnExactCutOffSpec)

/-- ITS FALSE NEIGHBOUR: 'it returns false'. Refute it at one input. -/
def fnExactCutOffWrong : ChangeSpec := { name := "fnExactCutOff", fn := fun _ => fun
  | [d1, d2] => { results := [.lit (.bool false)], args := [d1, d2] }
  | _ => none }
def FnExactCutOffWrongFalsely : Prop := fnExactCutOffRow.holds Try.pinned (OpenSpec.ofChange fnExactCutOffWrong)

/-- 'laws.FnExactAnswerFor': WHATEVER THE INPUT: true; the input reads as it did. -/
def fnExactAnswerForSpec : ChangeSpec := { name := "fnExactAnswerFor", fn := fun _ => fun
  | [d1, d2, d3, d4, d5] => { results := [.lit (.bool true)], args := [d1, d2, d3, d4, d5] }
  | _ => none }
def fnExactAnswerForRow : OpenClaim := { program := "ytodfbodagjmfmac", sum := "f36863d6b8aaac8548fe5302eccae58d30a026efc43560c1a8ead40612a566f2", func := "loop.example/g00986/laws.FnExactAnswerFor", spec := "fnExactAnswerFor", unfollowed := true, recurses := true, apart := false }
def FnExactAnswerForSaid : Prop := fnExactAnswerForRow.holds Try.pinned (OpenSpec.ofChange fnExactAnswerForSpec)

/-- ITS FALSE NEIGHBOUR: 'it returns false'. Refute it at one input. -/
def fnExactAnswerForWrong : ChangeSpec := { name := "fnExactAnswerFor", fn := fun _ => fun
  | [d1, d2, d3, d4, d5] => { results := [.lit (.bool false)], args := [d1, d2, d3, d4, d5] }
  | _ => none }
def FnExactAnswerForWrongFalsely : Prop := fnExactAnswerForRow.holds Try.pinned (OpenSpec.ofChange fnExactAnswerForWrong)

/-- 'laws.FnRefusals': WHATEVER THE INPUT: true; the input reads as it did. -/
def fnRefusalsSpec : ChangeSpec := { name := "fnRefusals", fn := fun _ => fun
  | [d] => { results := [.lit (.bool true)], args := [d] }
  | _ => none }
def fnRefusalsRow : OpenClaim := { program := "ytodfbodagjmfmac", sum := "f36863d6b8aaac8548fe5302eccae58d30a026efc43560c1a8ead40612a566f2", func := "loop.example/g00986/laws.FnRefusals", spec := "fnRefusals", unfollowed := true, recurses := true, apart := false }
def FnRefusalsSaid : Prop := fnRefusalsRow.holds Try.pinned (OpenSpec.ofChange fnRefusalsSpec)

/-- ITS FALSE NEIGHBOUR: 'it returns false'. Refute it at one input. -/
def fnRefusalsWrong : ChangeSpec := { name := "fnRefusals", fn := fun _ => fun
  | [d] => { results := [.lit (.bool false)], args := [d] }
  | _ => none }
def FnRefusalsWrongFalsely : Prop := fnRefusalsRow.holds Try.pinned (OpenSpec.ofChange fnRefusalsWrong)

/-- 'laws.FnGuards': WHATEVER THE INPUT: true; the input reads as it did. -/
def fnGuardsSpec : ChangeSpec := { name := "fnGuards", fn := fun _ => fun
  | [d] => { results := [.lit (.bool true)], args := [d] }
  | _ => none }
def fnGuardsRow : OpenClaim := { program := "ytodfbodagjmfmac", sum := "f36863d6b8aaac8548fe5302eccae58d30a026efc43560c1a8ead40612a566f2", func := "loop.example/g00986/laws.FnGuards", spec := "fnGuards", unfollowed := true, recurses := true, apart := false }
def FnGuardsSaid : Prop := fnGuardsRow.holds Try.pinned (OpenSpec.ofChange fnGuardsSpec)

/-- ITS FALSE NEIGHBOUR: 'it returns false'. Refute it at one input. -/
def fnGuardsWrong : ChangeSpec := { name := "fnGuards", fn := fun _ => fun
  | [d] => { results := [.lit (.bool false)], args := [d] }
  | _ => none }
def FnGuardsWrongFalsely : Prop := fnGuardsRow.holds Try.pinned (OpenSpec.ofChange fnGuardsWrong)

/-- 'laws.FnExactEnumerate': WHATEVER THE INPUT: true; the input reads as it did. -/
def fnExactEnumerateSpec : ChangeSpec := { name := "fnExactEnumerate", fn := fun _ => fun
  | [d] => { results := [.lit (.bool true)], args := [d] }
  | _ => none }
def fnExactEnumerateRow : OpenClaim := { program := "ytodfbodagjmfmac", sum := "f36863d6b8aaac8548fe5302eccae58d30a026efc43560c1a8ead40612a566f2", func := "loop.example/g00986/laws.FnExactEnumerate", spec := "fnExactEnumerate", unfollowed := true, recurses := true, apart := false }
def FnExactEnumerateSaid : Prop := fnExactEnumerateRow.holds Try.pinned (OpenSpec.ofChange fnExactEnumerateSpec)

/-- ITS FALSE NEIGHBOUR: 'it returns false'. Refute it at one input. -/
def fnExactEnumerateWrong : ChangeSpec := { name := "fnExactEnumerate", fn := fun _ => fun
  | [d] => { results := [.lit (.bool false)], args := [d] }
  | _ => none }
def FnExactEnumerateWrongFalsely : Prop := fnExactEnumerateRow.holds Try.pinned (OpenSpec.ofChange fnExactEnumerateWrong)

/-- 'laws.FnExactNodeId': WHATEVER THE INPUT: true; the input reads as it did. -/
def fnExactNodeIdSpec : ChangeSpec := { name := "fnExactNodeId", fn := fun _ => fun
  | [d1, d2, d3, d4] => { results := [.lit (.bool true)], args := [d1, d2, d3, d4] }
  | _ => none }
def fnExactNodeIdRow : OpenClaim := { program := "ytodfbodagjmfmac", sum := "f36863d6b8aaac8548fe5302eccae58d30a026efc43560c1a8ead40612a566f2", func := "loop.example/g00986/laws.FnExactNodeId", spec := "fnExactNodeId", unfollowed := true, recurses := true, apart := false }
def FnExactNodeIdSaid : Prop := fnExactNodeIdRow.holds Try.pinned (OpenSpec.ofChange fnExactNodeIdSpec)

/-- ITS FALSE NEIGHBOUR: 'it returns false'. Refute it at one input. -/
def fnExactNodeIdWrong : ChangeSpec := { name := "fnExactNodeId", fn := fun _ => fun
  | [d1, d2, d3, d4] => { results := [.lit (.bool false)], args := [d1, d2, d3, d4] }
  | _ => none }
def FnExactNodeIdWrongFalsely : Prop := fnExactNodeIdRow.holds Try.pinned (OpenSpec.ofChange fnExactNodeIdWrong)

/-- 'laws.FnNumbers': WHATEVER THE INPUT: true; the input reads as it did. -/
def fnNumbersSpec : ChangeSpec := { name := "fnNumbers", fn := fun _ => fun
  | [d] => { results := [.lit (.bool true)], args := [d] }
  | _ => none }
def fnNumbersRow : OpenClaim := { program := "ytodfbodagjmfmac", sum := "f36863d6b8aaac8548fe5302eccae58d30a026efc43560c1a8ead40612a566f2", func := "loop.example/g00986/laws.FnNumbers", spec := "fnNumbers", unfollowed := true, recurses := true, apart := false }
def FnNumbersSaid : Prop := fnNumbersRow.holds Try.pinned (OpenSpec.ofChange fnNumbersSpec)

/-- ITS FALSE NEIGHBOUR: 'it returns false'. Refute it at one input. -/
def fnNumbersWrong : ChangeSpec := { name := "fnNumbers", fn := fun _ => fun
  | [d] => { results := [.lit (.bool false)], args := [d] }
  | _ => none }
def FnNumbersWrongFalsely : Prop := fnNumbersRow.holds Try.pinned (OpenSpec.ofChange fnNumbersWrong)

/- THE SECOND FORM. 'bulk': how many values and letters a reading holds, each counted each time it is reached (what is shared counts as often as it is met; a slice's spare places count too). A statement '..UptoSaid' is the law's where the arguments, and the package variables that the reading takes, are together of bulk at most 1048576: NARROWER than '..Said'. Prove '..Said' where nothing that the law and all that it calls make is longer than what came in: it says more and counts as full. Else prove '..UptoSaid'. A law counts once. -/
mutual
def uptoBulk {H : Type} : DataW H → Nat
  | .lit (.string bytes) => bytes.length + 1
  | .lit _ => 1
  | .nil => 1
  | .ptr d => uptoBulk d + 1
  | .slice elems spare => uptoBulkAll elems + uptoBulkAll spare + 1
  | .agg parts => uptoBulkAll parts + 1
  | .iface _ d => uptoBulk d + 1
  | .map entries => uptoBulkEntries entries + 1
  | .held _ => 1
def uptoBulkAll {H : Type} : List (DataW H) → Nat
  | [] => 0
  | d :: r => uptoBulk d + uptoBulkAll r
def uptoBulkEntries {H : Type} : List (Lit × DataW H) → Nat
  | [] => 0
  | x :: r => uptoBulkEntry x + uptoBulkEntries r
def uptoBulkEntry {H : Type} : Lit × DataW H → Nat
  | (.string bytes, d) => bytes.length + uptoBulk d + 1
  | (_, d) => uptoBulk d + 1
 end
def uptoSmall : (H : Type) → List (DataW H) → Bool := fun _ ds => decide (uptoBulkAll ds ≤ 1048576)
def OpenSpec.upto (s : _root_.Go.ChangeSpec) : _root_.Go.OpenSpec := { _root_.Go.OpenSpec.ofChange s with cond := some uptoSmall }

/-- 'laws.FnExactDeepestFor', WHERE WHAT IT READS IS OF BULK AT MOST 1048576: true; the input reads as it did. -/
def fnExactDeepestForUptoRow : OpenClaim := { program := "ytodfbodagjmfmac", sum := "f36863d6b8aaac8548fe5302eccae58d30a026efc43560c1a8ead40612a566f2", func := "loop.example/g00986/laws.FnExactDeepestFor", spec := "fnExactDeepestFor", unfollowed := true, recurses := true, apart := false, narrowed := true }
def FnExactDeepestForUptoSaid : Prop := fnExactDeepestForUptoRow.holds Try.pinned (OpenSpec.upto fnExactDeepestForSpec)

/-- 'laws.FnExactSettleSleep', WHERE WHAT IT READS IS OF BULK AT MOST 1048576: true; the input reads as it did. -/
def fnExactSettleSleepUptoRow : OpenClaim := { program := "ytodfbodagjmfmac", sum := "f36863d6b8aaac8548fe5302eccae58d30a026efc43560c1a8ead40612a566f2", func := "loop.example/g00986/laws.FnExactSettleSleep", spec := "fnExactSettleSleep", unfollowed := true, recurses := true, apart := false, narrowed := true }
def FnExactSettleSleepUptoSaid : Prop := fnExactSettleSleepUptoRow.holds Try.pinned (OpenSpec.upto fnExactSettleSleepSpec)

/-- 'laws.FnExactWakeNode', WHERE WHAT IT READS IS OF BULK AT MOST 1048576: true; the input reads as it did. -/
def fnExactWakeNodeUptoRow : OpenClaim := { program := "ytodfbodagjmfmac", sum := "f36863d6b8aaac8548fe5302eccae58d30a026efc43560c1a8ead40612a566f2", func := "loop.example/g00986/laws.FnExactWakeNode", spec := "fnExactWakeNode", unfollowed := true, recurses := true, apart := false, narrowed := true }
def FnExactWakeNodeUptoSaid : Prop := fnExactWakeNodeUptoRow.holds Try.pinned (OpenSpec.upto fnExactWakeNodeSpec)

/-- 'laws.FnSleeps', WHERE WHAT IT READS IS OF BULK AT MOST 1048576: true; the input reads as it did. -/
def fnSleepsUptoRow : OpenClaim := { program := "ytodfbodagjmfmac", sum := "f36863d6b8aaac8548fe5302eccae58d30a026efc43560c1a8ead40612a566f2", func := "loop.example/g00986/laws.FnSleeps", spec := "fnSleeps", unfollowed := true, recurses := true, apart := false, narrowed := true }
def FnSleepsUptoSaid : Prop := fnSleepsUptoRow.holds Try.pinned (OpenSpec.upto fnSleepsSpec)

/-- 'laws.FnWakes', WHERE WHAT IT READS IS OF BULK AT MOST 1048576: true; the input reads as it did. -/
def fnWakesUptoRow : OpenClaim := { program := "ytodfbodagjmfmac", sum := "f36863d6b8aaac8548fe5302eccae58d30a026efc43560c1a8ead40612a566f2", func := "loop.example/g00986/laws.FnWakes", spec := "fnWakes", unfollowed := true, recurses := true, apart := false, narrowed := true }
def FnWakesUptoSaid : Prop := fnWakesUptoRow.holds Try.pinned (OpenSpec.upto fnWakesSpec)

/-- 'laws.FnExactCutOff', WHERE WHAT IT READS IS OF BULK AT MOST 1048576: true; the input reads as it did. -/
def fnExactCutOffUptoRow : OpenClaim := { program := "ytodfbodagjmfmac", sum := "f36863d6b8aaac8548fe5302eccae58d30a026efc43560c1a8ead40612a566f2", func := "loop.example/g00986/laws.FnExactCutOff", spec := "fnExactCutOff", unfollowed := true, recurses := true, apart := false, narrowed := true }
def FnExactCutOffUptoSaid : Prop := fnExactCutOffUptoRow.holds Try.pinned (OpenSpec.upto fnExactCutOffSpec)

/-- 'laws.FnExactAnswerFor', WHERE WHAT IT READS IS OF BULK AT MOST 1048576: true; the input reads as it did. -/
def fnExactAnswerForUptoRow : OpenClaim := { program := "ytodfbodagjmfmac", sum := "f36863d6b8aaac8548fe5302eccae58d30a026efc43560c1a8ead40612a566f2", func := "loop.example/g00986/laws.FnExactAnswerFor", spec := "fnExactAnswerFor", unfollowed := true, recurses := true, apart := false, narrowed := true }
def FnExactAnswerForUptoSaid : Prop := fnExactAnswerForUptoRow.holds Try.pinned (OpenSpec.upto fnExactAnswerForSpec)

/-- 'laws.FnRefusals', WHERE WHAT IT READS IS OF BULK AT MOST 1048576: true; the input reads as it did. -/
def fnRefusalsUptoRow : OpenClaim := { program := "ytodfbodagjmfmac", sum := "f36863d6b8aaac8548fe5302eccae58d30a026efc43560c1a8ead40612a566f2", func := "loop.example/g00986/laws.FnRefusals", spec := "fnRefusals", unfollowed := true, recurses := true, apart := false, narrowed := true }
def FnRefusalsUptoSaid : Prop := fnRefusalsUptoRow.holds Try.pinned (OpenSpec.upto fnRefusalsSpec)

/-- 'laws.FnGuards', WHERE WHAT IT READS IS OF BULK AT MOST 1048576: true; the input reads as it did. -/
def fnGuardsUptoRow : OpenClaim := { program := "ytodfbodagjmfmac", sum := "f36863d6b8aaac8548fe5302eccae58d30a026efc43560c1a8ead40612a566f2", func := "loop.example/g00986/laws.FnGuards", spec := "fnGuards", unfollowed := true, recurses := true, apart := false, narrowed := true }
def FnGuardsUptoSaid : Prop := fnGuardsUptoRow.holds Try.pinned (OpenSpec.upto fnGuardsSpec)

/-- 'laws.FnExactEnumerate', WHERE WHAT IT READS IS OF BULK AT MOST 1048576: true; the input reads as it did. -/
def fnExactEnumerateUptoRow : OpenClaim := { program := "ytodfbodagjmfmac", sum := "f36863d6b8aaac8548fe5302eccae58d30a026efc43560c1a8ead40612a566f2", func := "loop.example/g00986/laws.FnExactEnumerate", spec := "fnExactEnumerate", unfollowed := true, recurses := true, apart := false, narrowed := true }
def FnExactEnumerateUptoSaid : Prop := fnExactEnumerateUptoRow.holds Try.pinned (OpenSpec.upto fnExactEnumerateSpec)

/-- 'laws.FnExactNodeId', WHERE WHAT IT READS IS OF BULK AT MOST 1048576: true; the input reads as it did. -/
def fnExactNodeIdUptoRow : OpenClaim := { program := "ytodfbodagjmfmac", sum := "f36863d6b8aaac8548fe5302eccae58d30a026efc43560c1a8ead40612a566f2", func := "loop.example/g00986/laws.FnExactNodeId", spec := "fnExactNodeId", unfollowed := true, recurses := true, apart := false, narrowed := true }
def FnExactNodeIdUptoSaid : Prop := fnExactNodeIdUptoRow.holds Try.pinned (OpenSpec.upto fnExactNodeIdSpec)

/-- 'laws.FnNumbers', WHERE WHAT IT READS IS OF BULK AT MOST 1048576: true; the input reads as it did. -/
def fnNumbersUptoRow : OpenClaim := { program := "ytodfbodagjmfmac", sum := "f36863d6b8aaac8548fe5302eccae58d30a026efc43560c1a8ead40612a566f2", func := "loop.example/g00986/laws.FnNumbers", spec := "fnNumbers", unfollowed := true, recurses := true, apart := false, narrowed := true }
def FnNumbersUptoSaid : Prop := fnNumbersUptoRow.holds Try.pinned (OpenSpec.upto fnNumbersSpec)

end Rows
end Go.Proofs.Ytodfbodagjmfmac
