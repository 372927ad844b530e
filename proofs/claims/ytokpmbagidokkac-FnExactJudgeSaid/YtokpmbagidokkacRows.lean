/-
  No cell of these rows narrows 'for every input' (looked for: loops, veiled, ifaces, maps, wideKeys, modest, calm, conditions, laid).
  DERIVED. THE GIVEN ROWS OF THIS SEAT. 8 by the template 'for every input the law returns true; each argument reads behind the call as it read before'; 0 by the template 'total and deterministic' (their statements: YtokpmbagidokkacTotals.lean).
  GIVEN WITH THE SEED: the statements are not yours to turn. If you find one false, say at which input.
  Laid BY PROGRAM, IN A SANDBOX (cutbox-rows.mjs): the forced cells as the released guide's own fill.sh prints them over the translation ba42c809452d9c7e… (all of the seat's roots in one cut). By AI agents, Wed Nov 11 2026. No macro, syntax, notation, axiom, sorry.
-/
import Derived.Test.YtokpmbagidokkacChecked
import GoSem.Claim
import GoSem.ClaimJoined
import GoSem.ClaimMapViews
import Derived.JoinedTies
import Derived.KernelRfl
namespace Go.Proofs.Ytokpmbagidokkac
/- THE CELL 'sum', in the pinned program and in every row, IS THE sha256 OF THE DUMP (.gsa) THAT YtokpmbagidokkacProg.lean LOADS. Nothing in Lean hashes anything: it is a label: what it is worth is what the hold of that sum in a sandbox is worth. -/
noncomputable def Try.pinned : Pinned := { name := "ytokpmbagidokkac", sum := "ba42c809452d9c7eb4220ff6c8b57280907fae917305a16ff2b5486395205657", checked := Try.checked }
namespace Rows
def none {H : Type} : Left H := { results := [], args := [] }

/-- 'laws.FnExactWireFrame': WHATEVER THE INPUT: true; the input reads as it did. -/
def fnExactWireFrameSpec : ChangeSpec := { name := "fnExactWireFrame", fn := fun _ => fun
  | [d] => { results := [.lit (.bool true)], args := [d] }
  | _ => none }
def fnExactWireFrameRow : OpenClaim := { program := "ytokpmbagidokkac", sum := "ba42c809452d9c7eb4220ff6c8b57280907fae917305a16ff2b5486395205657", func := "loop.example/g00986/laws.FnExactWireFrame", spec := "fnExactWireFrame", apart := false }
def FnExactWireFrameSaid : Prop := fnExactWireFrameRow.holds Try.pinned (OpenSpec.ofChange fnExactWireFrameSpec)

/-- ITS FALSE NEIGHBOUR: 'it returns false'. Refute it at one input. -/
def fnExactWireFrameWrong : ChangeSpec := { name := "fnExactWireFrame", fn := fun _ => fun
  | [d] => { results := [.lit (.bool false)], args := [d] }
  | _ => none }
def FnExactWireFrameWrongFalsely : Prop := fnExactWireFrameRow.holds Try.pinned (OpenSpec.ofChange fnExactWireFrameWrong)

/-- 'laws.FnExactTakeWire': WHATEVER THE INPUT: true; the input reads as it did. -/
def fnExactTakeWireSpec : ChangeSpec := { name := "fnExactTakeWire", fn := fun _ => fun
  | [d] => { results := [.lit (.bool true)], args := [d] }
  | _ => none }
def fnExactTakeWireRow : OpenClaim := { program := "ytokpmbagidokkac", sum := "ba42c809452d9c7eb4220ff6c8b57280907fae917305a16ff2b5486395205657", func := "loop.example/g00986/laws.FnExactTakeWire", spec := "fnExactTakeWire", apart := false }
def FnExactTakeWireSaid : Prop := fnExactTakeWireRow.holds Try.pinned (OpenSpec.ofChange fnExactTakeWireSpec)

/-- ITS FALSE NEIGHBOUR: 'it returns false'. Refute it at one input. -/
def fnExactTakeWireWrong : ChangeSpec := { name := "fnExactTakeWire", fn := fun _ => fun
  | [d] => { results := [.lit (.bool false)], args := [d] }
  | _ => none }
def FnExactTakeWireWrongFalsely : Prop := fnExactTakeWireRow.holds Try.pinned (OpenSpec.ofChange fnExactTakeWireWrong)

/-- 'laws.FnExactJudge': WHATEVER THE INPUT: true; the input reads as it did. -/
def fnExactJudgeSpec : ChangeSpec := { name := "fnExactJudge", fn := fun _ => fun
  | [d1, d2] => { results := [.lit (.bool true)], args := [d1, d2] }
  | _ => none }
def fnExactJudgeRow : OpenClaim := { program := "ytokpmbagidokkac", sum := "ba42c809452d9c7eb4220ff6c8b57280907fae917305a16ff2b5486395205657", func := "loop.example/g00986/laws.FnExactJudge", spec := "fnExactJudge", unfollowed := true, recurses := true, leaving := true, apart := false }
def FnExactJudgeSaid : Prop := fnExactJudgeRow.holds Try.pinned (OpenSpec.ofChange fnExactJudgeSpec)

/-- ITS FALSE NEIGHBOUR: 'it returns false'. Refute it at one input. -/
def fnExactJudgeWrong : ChangeSpec := { name := "fnExactJudge", fn := fun _ => fun
  | [d1, d2] => { results := [.lit (.bool false)], args := [d1, d2] }
  | _ => none }
def FnExactJudgeWrongFalsely : Prop := fnExactJudgeRow.holds Try.pinned (OpenSpec.ofChange fnExactJudgeWrong)

/-- 'laws.FnExactTakeFrame': WHATEVER THE INPUT: true; the input reads as it did. -/
def fnExactTakeFrameSpec : ChangeSpec := { name := "fnExactTakeFrame", fn := fun _ => fun
  | [d1, d2] => { results := [.lit (.bool true)], args := [d1, d2] }
  | _ => none }
def fnExactTakeFrameRow : OpenClaim := { program := "ytokpmbagidokkac", sum := "ba42c809452d9c7eb4220ff6c8b57280907fae917305a16ff2b5486395205657", func := "loop.example/g00986/laws.FnExactTakeFrame", spec := "fnExactTakeFrame", unfollowed := true, recurses := true, leaving := true, apart := false }
def FnExactTakeFrameSaid : Prop := fnExactTakeFrameRow.holds Try.pinned (OpenSpec.ofChange fnExactTakeFrameSpec)

/-- ITS FALSE NEIGHBOUR: 'it returns false'. Refute it at one input. -/
def fnExactTakeFrameWrong : ChangeSpec := { name := "fnExactTakeFrame", fn := fun _ => fun
  | [d1, d2] => { results := [.lit (.bool false)], args := [d1, d2] }
  | _ => none }
def FnExactTakeFrameWrongFalsely : Prop := fnExactTakeFrameRow.holds Try.pinned (OpenSpec.ofChange fnExactTakeFrameWrong)

/-- 'laws.FnExactAckOf': WHATEVER THE INPUT: true; the input reads as it did. -/
def fnExactAckOfSpec : ChangeSpec := { name := "fnExactAckOf", fn := fun _ => fun
  | [d] => { results := [.lit (.bool true)], args := [d] }
  | _ => none }
def fnExactAckOfRow : OpenClaim := { program := "ytokpmbagidokkac", sum := "ba42c809452d9c7eb4220ff6c8b57280907fae917305a16ff2b5486395205657", func := "loop.example/g00986/laws.FnExactAckOf", spec := "fnExactAckOf", apart := false }
def FnExactAckOfSaid : Prop := fnExactAckOfRow.holds Try.pinned (OpenSpec.ofChange fnExactAckOfSpec)

/-- ITS FALSE NEIGHBOUR: 'it returns false'. Refute it at one input. -/
def fnExactAckOfWrong : ChangeSpec := { name := "fnExactAckOf", fn := fun _ => fun
  | [d] => { results := [.lit (.bool false)], args := [d] }
  | _ => none }
def FnExactAckOfWrongFalsely : Prop := fnExactAckOfRow.holds Try.pinned (OpenSpec.ofChange fnExactAckOfWrong)

/-- 'laws.FnLinkSteps': WHATEVER THE INPUT: true; the input reads as it did. -/
def fnLinkStepsSpec : ChangeSpec := { name := "fnLinkSteps", fn := fun _ => fun
  | [d] => { results := [.lit (.bool true)], args := [d] }
  | _ => none }
def fnLinkStepsRow : OpenClaim := { program := "ytokpmbagidokkac", sum := "ba42c809452d9c7eb4220ff6c8b57280907fae917305a16ff2b5486395205657", func := "loop.example/g00986/laws.FnLinkSteps", spec := "fnLinkSteps", unfollowed := true, recurses := true, leaving := true, apart := false }
def FnLinkStepsSaid : Prop := fnLinkStepsRow.holds Try.pinned (OpenSpec.ofChange fnLinkStepsSpec)

/-- ITS FALSE NEIGHBOUR: 'it returns false'. Refute it at one input. -/
def fnLinkStepsWrong : ChangeSpec := { name := "fnLinkSteps", fn := fun _ => fun
  | [d] => { results := [.lit (.bool false)], args := [d] }
  | _ => none }
def FnLinkStepsWrongFalsely : Prop := fnLinkStepsRow.holds Try.pinned (OpenSpec.ofChange fnLinkStepsWrong)

/-- 'laws.FnLinkOnce': WHATEVER THE INPUT: true; the input reads as it did. -/
def fnLinkOnceSpec : ChangeSpec := { name := "fnLinkOnce", fn := fun _ => fun
  | [d] => { results := [.lit (.bool true)], args := [d] }
  | _ => none }
def fnLinkOnceRow : OpenClaim := { program := "ytokpmbagidokkac", sum := "ba42c809452d9c7eb4220ff6c8b57280907fae917305a16ff2b5486395205657", func := "loop.example/g00986/laws.FnLinkOnce", spec := "fnLinkOnce", unfollowed := true, recurses := true, leaving := true, apart := false }
def FnLinkOnceSaid : Prop := fnLinkOnceRow.holds Try.pinned (OpenSpec.ofChange fnLinkOnceSpec)

/-- ITS FALSE NEIGHBOUR: 'it returns false'. Refute it at one input. -/
def fnLinkOnceWrong : ChangeSpec := { name := "fnLinkOnce", fn := fun _ => fun
  | [d] => { results := [.lit (.bool false)], args := [d] }
  | _ => none }
def FnLinkOnceWrongFalsely : Prop := fnLinkOnceRow.holds Try.pinned (OpenSpec.ofChange fnLinkOnceWrong)

/-- 'laws.FnExactLinkOk': WHATEVER THE INPUT: true; the input reads as it did. -/
def fnExactLinkOkSpec : ChangeSpec := { name := "fnExactLinkOk", fn := fun _ => fun
  | [d] => { results := [.lit (.bool true)], args := [d] }
  | _ => none }
def fnExactLinkOkRow : OpenClaim := { program := "ytokpmbagidokkac", sum := "ba42c809452d9c7eb4220ff6c8b57280907fae917305a16ff2b5486395205657", func := "loop.example/g00986/laws.FnExactLinkOk", spec := "fnExactLinkOk", unfollowed := true, recurses := true, leaving := true, apart := false }
def FnExactLinkOkSaid : Prop := fnExactLinkOkRow.holds Try.pinned (OpenSpec.ofChange fnExactLinkOkSpec)

/-- ITS FALSE NEIGHBOUR: 'it returns false'. Refute it at one input. -/
def fnExactLinkOkWrong : ChangeSpec := { name := "fnExactLinkOk", fn := fun _ => fun
  | [d] => { results := [.lit (.bool false)], args := [d] }
  | _ => none }
def FnExactLinkOkWrongFalsely : Prop := fnExactLinkOkRow.holds Try.pinned (OpenSpec.ofChange fnExactLinkOkWrong)

/- THE SECOND FORM. 'bulk': how many values and letters a reading holds, each counted each time it is reached (what is shared counts as often as it is met; a slice's spare places count too). A statement '..UptoSaid' is the law's where the arguments, and the package variables that the reading takes, are together of bulk at most 1048576: NARROWER than '..Said'. Prove '..Said' where nothing that the law and all that it calls make is longer than what came in: it says more and counts as full. Else prove '..UptoSaid'. A law counts once. -/
mutual
def uptoBulk {H : Type} : DataW H → Nat
  | .lit (.string bytes) => bytes.length + 1
  | .lit _ => 1
  | .nil => 1
  | .ptr d => uptoBulk d + 1
  | .slice elems spare => uptoBulkAll elems + uptoBulkAll spare + 1
  | .agg parts => uptoBulkAll parts + 1
  | .iface _ d => uptoBulk d + 1
  | .map entries => uptoBulkEntries entries + 1
  | .held _ => 1
def uptoBulkAll {H : Type} : List (DataW H) → Nat
  | [] => 0
  | d :: r => uptoBulk d + uptoBulkAll r
def uptoBulkEntries {H : Type} : List (Lit × DataW H) → Nat
  | [] => 0
  | x :: r => uptoBulkEntry x + uptoBulkEntries r
def uptoBulkEntry {H : Type} : Lit × DataW H → Nat
  | (.string bytes, d) => bytes.length + uptoBulk d + 1
  | (_, d) => uptoBulk d + 1
 end
def uptoSmall : (H : Type) → List (DataW H) → Bool := fun _ ds => decide (uptoBulkAll ds ≤ 1048576)
def OpenSpec.upto (s : _root_.Go.ChangeSpec) : _root_.Go.OpenSpec := { _root_.Go.OpenSpec.ofChange s with cond := some uptoSmall }

/-- 'laws.FnExactWireFrame', WHERE WHAT IT READS IS OF BULK AT MOST 1048576: true; the input reads as it did. -/
def fnExactWireFrameUptoRow : OpenClaim := { program := "ytokpmbagidokkac", sum := "ba42c809452d9c7eb4220ff6c8b57280907fae917305a16ff2b5486395205657", func := "loop.example/g00986/laws.FnExactWireFrame", spec := "fnExactWireFrame", apart := false, narrowed := true }
def FnExactWireFrameUptoSaid : Prop := fnExactWireFrameUptoRow.holds Try.pinned (OpenSpec.upto fnExactWireFrameSpec)

/-- 'laws.FnExactTakeWire', WHERE WHAT IT READS IS OF BULK AT MOST 1048576: true; the input reads as it did. -/
def fnExactTakeWireUptoRow : OpenClaim := { program := "ytokpmbagidokkac", sum := "ba42c809452d9c7eb4220ff6c8b57280907fae917305a16ff2b5486395205657", func := "loop.example/g00986/laws.FnExactTakeWire", spec := "fnExactTakeWire", apart := false, narrowed := true }
def FnExactTakeWireUptoSaid : Prop := fnExactTakeWireUptoRow.holds Try.pinned (OpenSpec.upto fnExactTakeWireSpec)

/-- 'laws.FnExactJudge', WHERE WHAT IT READS IS OF BULK AT MOST 1048576: true; the input reads as it did. -/
def fnExactJudgeUptoRow : OpenClaim := { program := "ytokpmbagidokkac", sum := "ba42c809452d9c7eb4220ff6c8b57280907fae917305a16ff2b5486395205657", func := "loop.example/g00986/laws.FnExactJudge", spec := "fnExactJudge", unfollowed := true, recurses := true, leaving := true, apart := false, narrowed := true }
def FnExactJudgeUptoSaid : Prop := fnExactJudgeUptoRow.holds Try.pinned (OpenSpec.upto fnExactJudgeSpec)

/-- 'laws.FnExactTakeFrame', WHERE WHAT IT READS IS OF BULK AT MOST 1048576: true; the input reads as it did. -/
def fnExactTakeFrameUptoRow : OpenClaim := { program := "ytokpmbagidokkac", sum := "ba42c809452d9c7eb4220ff6c8b57280907fae917305a16ff2b5486395205657", func := "loop.example/g00986/laws.FnExactTakeFrame", spec := "fnExactTakeFrame", unfollowed := true, recurses := true, leaving := true, apart := false, narrowed := true }
def FnExactTakeFrameUptoSaid : Prop := fnExactTakeFrameUptoRow.holds Try.pinned (OpenSpec.upto fnExactTakeFrameSpec)

/-- 'laws.FnExactAckOf', WHERE WHAT IT READS IS OF BULK AT MOST 1048576: true; the input reads as it did. -/
def fnExactAckOfUptoRow : OpenClaim := { program := "ytokpmbagidokkac", sum := "ba42c809452d9c7eb4220ff6c8b57280907fae917305a16ff2b5486395205657", func := "loop.example/g00986/laws.FnExactAckOf", spec := "fnExactAckOf", apart := false, narrowed := true }
def FnExactAckOfUptoSaid : Prop := fnExactAckOfUptoRow.holds Try.pinned (OpenSpec.upto fnExactAckOfSpec)

/-- 'laws.FnLinkSteps', WHERE WHAT IT READS IS OF BULK AT MOST 1048576: true; the input reads as it did. -/
def fnLinkStepsUptoRow : OpenClaim := { program := "ytokpmbagidokkac", sum := "ba42c809452d9c7eb4220ff6c8b57280907fae917305a16ff2b5486395205657", func := "loop.example/g00986/laws.FnLinkSteps", spec := "fnLinkSteps", unfollowed := true, recurses := true, leaving := true, apart := false, narrowed := true }
def FnLinkStepsUptoSaid : Prop := fnLinkStepsUptoRow.holds Try.pinned (OpenSpec.upto fnLinkStepsSpec)

/-- 'laws.FnLinkOnce', WHERE WHAT IT READS IS OF BULK AT MOST 1048576: true; the input reads as it did. -/
def fnLinkOnceUptoRow : OpenClaim := { program := "ytokpmbagidokkac", sum := "ba42c809452d9c7eb4220ff6c8b57280907fae917305a16ff2b5486395205657", func := "loop.example/g00986/laws.FnLinkOnce", spec := "fnLinkOnce", unfollowed := true, recurses := true, leaving := true, apart := false, narrowed := true }
def FnLinkOnceUptoSaid : Prop := fnLinkOnceUptoRow.holds Try.pinned (OpenSpec.upto fnLinkOnceSpec)

/-- 'laws.FnExactLinkOk', WHERE WHAT IT READS IS OF BULK AT MOST 1048576: true; the input reads as it did. -/
def fnExactLinkOkUptoRow : OpenClaim := { program := "ytokpmbagidokkac", sum := "ba42c809452d9c7eb4220ff6c8b57280907fae917305a16ff2b5486395205657", func := "loop.example/g00986/laws.FnExactLinkOk", spec := "fnExactLinkOk", unfollowed := true, recurses := true, leaving := true, apart := false, narrowed := true }
def FnExactLinkOkUptoSaid : Prop := fnExactLinkOkUptoRow.holds Try.pinned (OpenSpec.upto fnExactLinkOkSpec)

end Rows
end Go.Proofs.Ytokpmbagidokkac
