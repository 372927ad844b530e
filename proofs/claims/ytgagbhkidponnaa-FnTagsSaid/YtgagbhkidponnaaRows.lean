/-
  No cell of these rows narrows 'for every input' (looked for: loops, veiled, ifaces, maps, wideKeys, modest, calm, conditions, laid).
  DERIVED. THE GIVEN ROWS OF THIS SEAT. 8 by the template 'for every input the law returns true; each argument reads behind the call as it read before'; 0 by the template 'total and deterministic' (their statements: YtgagbhkidponnaaTotals.lean).
  GIVEN WITH THE SEED: the statements are not yours to turn. If you find one false, say at which input.
  Laid BY PROGRAM, IN A SANDBOX (cutbox-rows.mjs): the forced cells as the released guide's own fill.sh prints them over the translation f1579b81ecd33579… (all of the seat's roots in one cut). By AI agents, Wed Nov 11 2026. No macro, syntax, notation, axiom, sorry.
-/
import Derived.Test.YtgagbhkidponnaaChecked
import GoSem.Claim
import GoSem.ClaimJoined
import GoSem.ClaimMapViews
import Derived.JoinedTies
import Derived.KernelRfl
namespace Go.Proofs.Ytgagbhkidponnaa
/- THE CELL 'sum', in the pinned program and in every row, IS THE sha256 OF THE DUMP (.gsa) THAT YtgagbhkidponnaaProg.lean LOADS. Nothing in Lean hashes anything: it is a label: what it is worth is what the hold of that sum in a sandbox is worth. -/
noncomputable def Try.pinned : Pinned := { name := "ytgagbhkidponnaa", sum := "f1579b81ecd335797586cad58ffc0ce92ede87f2ac590fa526043afe3b3e47ab", checked := Try.checked }
namespace Rows
def none {H : Type} : Left H := { results := [], args := [] }

/-- 'laws.FnExactSettleSleep': WHATEVER THE INPUT: true; the input reads as it did. -/
def fnExactSettleSleepSpec : ChangeSpec := { name := "fnExactSettleSleep", fn := fun _ => fun
  | [d1, d2] => { results := [.lit (.bool true)], args := [d1, d2] }
  | _ => none }
def fnExactSettleSleepRow : OpenClaim := { program := "ytgagbhkidponnaa", sum := "f1579b81ecd335797586cad58ffc0ce92ede87f2ac590fa526043afe3b3e47ab", func := "loop.example/g00986/laws.FnExactSettleSleep", spec := "fnExactSettleSleep", unfollowed := true, recurses := true, apart := false }
def FnExactSettleSleepSaid : Prop := fnExactSettleSleepRow.holds Try.pinned (OpenSpec.ofChange fnExactSettleSleepSpec)

/-- ITS FALSE NEIGHBOUR: 'it returns false'. Refute it at one input. -/
def fnExactSettleSleepWrong : ChangeSpec := { name := "fnExactSettleSleep", fn := fun _ => fun
  | [d1, d2] => { results := [.lit (.bool false)], args := [d1, d2] }
  | _ => none }
def FnExactSettleSleepWrongFalsely : Prop := fnExactSettleSleepRow.holds Try.pinned (OpenSpec.ofChange fnExactSettleSleepWrong)

/-- 'laws.FnSleeps': WHATEVER THE INPUT: true; the input reads as it did. -/
def fnSleepsSpec : ChangeSpec := { name := "fnSleeps", fn := fun _ => fun
  | [d] => { results := [.lit (.bool true)], args := [d] }
  | _ => none }
def fnSleepsRow : OpenClaim := { program := "ytgagbhkidponnaa", sum := "f1579b81ecd335797586cad58ffc0ce92ede87f2ac590fa526043afe3b3e47ab", func := "loop.example/g00986/laws.FnSleeps", spec := "fnSleeps", unfollowed := true, recurses := true, apart := false }
def FnSleepsSaid : Prop := fnSleepsRow.holds Try.pinned (OpenSpec.ofChange fnSleepsSpec)

/-- ITS FALSE NEIGHBOUR: 'it returns false'. Refute it at one input. -/
def fnSleepsWrong : ChangeSpec := { name := "fnSleeps", fn := fun _ => fun
  | [d] => { results := [.lit (.bool false)], args := [d] }
  | _ => none }
def FnSleepsWrongFalsely : Prop := fnSleepsRow.holds Try.pinned (OpenSpec.ofChange fnSleepsWrong)

/-- 'laws.FnWakes': WHATEVER THE INPUT: true; the input reads as it did. -/
def fnWakesSpec : ChangeSpec := { name := "fnWakes", fn := fun _ => fun
  | [d] => { results := [.lit (.bool true)], args := [d] }
  | _ => none }
def fnWakesRow : OpenClaim := { program := "ytgagbhkidponnaa", sum := "f1579b81ecd335797586cad58ffc0ce92ede87f2ac590fa526043afe3b3e47ab", func := "loop.example/g00986/laws.FnWakes", spec := "fnWakes", unfollowed := true, recurses := true, apart := false }
def FnWakesSaid : Prop := fnWakesRow.holds Try.pinned (OpenSpec.ofChange fnWakesSpec)

/-- ITS FALSE NEIGHBOUR: 'it returns false'. Refute it at one input. -/
def fnWakesWrong : ChangeSpec := { name := "fnWakes", fn := fun _ => fun
  | [d] => { results := [.lit (.bool false)], args := [d] }
  | _ => none }
def FnWakesWrongFalsely : Prop := fnWakesRow.holds Try.pinned (OpenSpec.ofChange fnWakesWrong)

/-- 'laws.FnVirtuals': WHATEVER THE INPUT: true; the input reads as it did. -/
def fnVirtualsSpec : ChangeSpec := { name := "fnVirtuals", fn := fun _ => fun
  | [d] => { results := [.lit (.bool true)], args := [d] }
  | _ => none }
def fnVirtualsRow : OpenClaim := { program := "ytgagbhkidponnaa", sum := "f1579b81ecd335797586cad58ffc0ce92ede87f2ac590fa526043afe3b3e47ab", func := "loop.example/g00986/laws.FnVirtuals", spec := "fnVirtuals", unfollowed := true, recurses := true, apart := false }
def FnVirtualsSaid : Prop := fnVirtualsRow.holds Try.pinned (OpenSpec.ofChange fnVirtualsSpec)

/-- ITS FALSE NEIGHBOUR: 'it returns false'. Refute it at one input. -/
def fnVirtualsWrong : ChangeSpec := { name := "fnVirtuals", fn := fun _ => fun
  | [d] => { results := [.lit (.bool false)], args := [d] }
  | _ => none }
def FnVirtualsWrongFalsely : Prop := fnVirtualsRow.holds Try.pinned (OpenSpec.ofChange fnVirtualsWrong)

/-- 'laws.FnTags': WHATEVER THE INPUT: true; the input reads as it did. -/
def fnTagsSpec : ChangeSpec := { name := "fnTags", fn := fun _ => fun
  | [d] => { results := [.lit (.bool true)], args := [d] }
  | _ => none }
def fnTagsRow : OpenClaim := { program := "ytgagbhkidponnaa", sum := "f1579b81ecd335797586cad58ffc0ce92ede87f2ac590fa526043afe3b3e47ab", func := "loop.example/g00986/laws.FnTags", spec := "fnTags", apart := false }
def FnTagsSaid : Prop := fnTagsRow.holds Try.pinned (OpenSpec.ofChange fnTagsSpec)

/-- ITS FALSE NEIGHBOUR: 'it returns false'. Refute it at one input. -/
def fnTagsWrong : ChangeSpec := { name := "fnTags", fn := fun _ => fun
  | [d] => { results := [.lit (.bool false)], args := [d] }
  | _ => none }
def FnTagsWrongFalsely : Prop := fnTagsRow.holds Try.pinned (OpenSpec.ofChange fnTagsWrong)

/-- 'laws.FnExactRemoveNode': WHATEVER THE INPUT: true; the input reads as it did. -/
def fnExactRemoveNodeSpec : ChangeSpec := { name := "fnExactRemoveNode", fn := fun _ => fun
  | [d1, d2] => { results := [.lit (.bool true)], args := [d1, d2] }
  | _ => none }
def fnExactRemoveNodeRow : OpenClaim := { program := "ytgagbhkidponnaa", sum := "f1579b81ecd335797586cad58ffc0ce92ede87f2ac590fa526043afe3b3e47ab", func := "loop.example/g00986/laws.FnExactRemoveNode", spec := "fnExactRemoveNode", unfollowed := true, recurses := true, apart := false }
def FnExactRemoveNodeSaid : Prop := fnExactRemoveNodeRow.holds Try.pinned (OpenSpec.ofChange fnExactRemoveNodeSpec)

/-- ITS FALSE NEIGHBOUR: 'it returns false'. Refute it at one input. -/
def fnExactRemoveNodeWrong : ChangeSpec := { name := "fnExactRemoveNode", fn := fun _ => fun
  | [d1, d2] => { results := [.lit (.bool false)], args := [d1, d2] }
  | _ => none }
def FnExactRemoveNodeWrongFalsely : Prop := fnExactRemoveNodeRow.holds Try.pinned (OpenSpec.ofChange fnExactRemoveNodeWrong)

/-- 'laws.FnPlugs': WHATEVER THE INPUT: true; the input reads as it did. -/
def fnPlugsSpec : ChangeSpec := { name := "fnPlugs", fn := fun _ => fun
  | [d] => { results := [.lit (.bool true)], args := [d] }
  | _ => none }
def fnPlugsRow : OpenClaim := { program := "ytgagbhkidponnaa", sum := "f1579b81ecd335797586cad58ffc0ce92ede87f2ac590fa526043afe3b3e47ab", func := "loop.example/g00986/laws.FnPlugs", spec := "fnPlugs", unfollowed := true, recurses := true, apart := false }
def FnPlugsSaid : Prop := fnPlugsRow.holds Try.pinned (OpenSpec.ofChange fnPlugsSpec)

/-- ITS FALSE NEIGHBOUR: 'it returns false'. Refute it at one input. -/
def fnPlugsWrong : ChangeSpec := { name := "fnPlugs", fn := fun _ => fun
  | [d] => { results := [.lit (.bool false)], args := [d] }
  | _ => none }
def FnPlugsWrongFalsely : Prop := fnPlugsRow.holds Try.pinned (OpenSpec.ofChange fnPlugsWrong)

/-- 'laws.FnExactScrambleBytes': WHATEVER THE INPUT: true; the input reads as it did. -/
def fnExactScrambleBytesSpec : ChangeSpec := { name := "fnExactScrambleBytes", fn := fun _ => fun
  | [d1, d2] => { results := [.lit (.bool true)], args := [d1, d2] }
  | _ => none }
def fnExactScrambleBytesRow : OpenClaim := { program := "ytgagbhkidponnaa", sum := "f1579b81ecd335797586cad58ffc0ce92ede87f2ac590fa526043afe3b3e47ab", func := "loop.example/g00986/laws.FnExactScrambleBytes", spec := "fnExactScrambleBytes", unfollowed := true, recurses := true, apart := false }
def FnExactScrambleBytesSaid : Prop := fnExactScrambleBytesRow.holds Try.pinned (OpenSpec.ofChange fnExactScrambleBytesSpec)

/-- ITS FALSE NEIGHBOUR: 'it returns false'. Refute it at one input. -/
def fnExactScrambleBytesWrong : ChangeSpec := { name := "fnExactScrambleBytes", fn := fun _ => fun
  | [d1, d2] => { results := [.lit (.bool false)], args := [d1, d2] }
  | _ => none }
def FnExactScrambleBytesWrongFalsely : Prop := fnExactScrambleBytesRow.holds Try.pinned (OpenSpec.ofChange fnExactScrambleBytesWrong)

/- THE SECOND FORM. 'bulk': how many values and letters a reading holds, each counted each time it is reached (what is shared counts as often as it is met; a slice's spare places count too). A statement '..UptoSaid' is the law's where the arguments, and the package variables that the reading takes, are together of bulk at most 1048576: NARROWER than '..Said'. Prove '..Said' where nothing that the law and all that it calls make is longer than what came in: it says more and counts as full. Else prove '..UptoSaid'. A law counts once. -/
mutual
def uptoBulk {H : Type} : DataW H → Nat
  | .lit (.string bytes) => bytes.length + 1
  | .lit _ => 1
  | .nil => 1
  | .ptr d => uptoBulk d + 1
  | .slice elems spare => uptoBulkAll elems + uptoBulkAll spare + 1
  | .agg parts => uptoBulkAll parts + 1
  | .iface _ d => uptoBulk d + 1
  | .map entries => uptoBulkEntries entries + 1
  | .held _ => 1
def uptoBulkAll {H : Type} : List (DataW H) → Nat
  | [] => 0
  | d :: r => uptoBulk d + uptoBulkAll r
def uptoBulkEntries {H : Type} : List (Lit × DataW H) → Nat
  | [] => 0
  | x :: r => uptoBulkEntry x + uptoBulkEntries r
def uptoBulkEntry {H : Type} : Lit × DataW H → Nat
  | (.string bytes, d) => bytes.length + uptoBulk d + 1
  | (_, d) => uptoBulk d + 1
 end
def uptoSmall : (H : Type) → List (DataW H) → Bool := fun _ ds => decide (uptoBulkAll ds ≤ 1048576)
def OpenSpec.upto (s : _root_.Go.ChangeSpec) : _root_.Go.OpenSpec := { _root_.Go.OpenSpec.ofChange s with cond := some uptoSmall }

/-- 'laws.FnExactSettleSleep', WHERE WHAT IT READS IS OF BULK AT MOST 1048576: true; the input reads as it did. -/
def fnExactSettleSleepUptoRow : OpenClaim := { program := "ytgagbhkidponnaa", sum := "f1579b81ecd335797586cad58ffc0ce92ede87f2ac590fa526043afe3b3e47ab", func := "loop.example/g00986/laws.FnExactSettleSleep", spec := "fnExactSettleSleep", unfollowed := true, recurses := true, apart := false, narrowed := true }
def FnExactSettleSleepUptoSaid : Prop := fnExactSettleSleepUptoRow.holds Try.pinned (OpenSpec.upto fnExactSettleSleepSpec)

/-- 'laws.FnSleeps', WHERE WHAT IT READS IS OF BULK AT MOST 1048576: true; the input reads as it did. -/
def fnSleepsUptoRow : OpenClaim := { program := "ytgagbhkidponnaa", sum := "f1579b81ecd335797586cad58ffc0ce92ede87f2ac590fa526043afe3b3e47ab", func := "loop.example/g00986/laws.FnSleeps", spec := "fnSleeps", unfollowed := true, recurses := true, apart := false, narrowed := true }
def FnSleepsUptoSaid : Prop := fnSleepsUptoRow.holds Try.pinned (OpenSpec.upto fnSleepsSpec)

/-- 'laws.FnWakes', WHERE WHAT IT READS IS OF BULK AT MOST 1048576: true; the input reads as it did. -/
def fnWakesUptoRow : OpenClaim := { program := "ytgagbhkidponnaa", sum := "f1579b81ecd335797586cad58ffc0ce92ede87f2ac590fa526043afe3b3e47ab", func := "loop.example/g00986/laws.FnWakes", spec := "fnWakes", unfollowed := true, recurses := true, apart := false, narrowed := true }
def FnWakesUptoSaid : Prop := fnWakesUptoRow.holds Try.pinned (OpenSpec.upto fnWakesSpec)

/-- 'laws.FnVirtuals', WHERE WHAT IT READS IS OF BULK AT MOST 1048576: true; the input reads as it did. -/
def fnVirtualsUptoRow : OpenClaim := { program := "ytgagbhkidponnaa", sum := "f1579b81ecd335797586cad58ffc0ce92ede87f2ac590fa526043afe3b3e47ab", func := "loop.example/g00986/laws.FnVirtuals", spec := "fnVirtuals", unfollowed := true, recurses := true, apart := false, narrowed := true }
def FnVirtualsUptoSaid : Prop := fnVirtualsUptoRow.holds Try.pinned (OpenSpec.upto fnVirtualsSpec)

/-- 'laws.FnTags', WHERE WHAT IT READS IS OF BULK AT MOST 1048576: true; the input reads as it did. -/
def fnTagsUptoRow : OpenClaim := { program := "ytgagbhkidponnaa", sum := "f1579b81ecd335797586cad58ffc0ce92ede87f2ac590fa526043afe3b3e47ab", func := "loop.example/g00986/laws.FnTags", spec := "fnTags", apart := false, narrowed := true }
def FnTagsUptoSaid : Prop := fnTagsUptoRow.holds Try.pinned (OpenSpec.upto fnTagsSpec)

/-- 'laws.FnExactRemoveNode', WHERE WHAT IT READS IS OF BULK AT MOST 1048576: true; the input reads as it did. -/
def fnExactRemoveNodeUptoRow : OpenClaim := { program := "ytgagbhkidponnaa", sum := "f1579b81ecd335797586cad58ffc0ce92ede87f2ac590fa526043afe3b3e47ab", func := "loop.example/g00986/laws.FnExactRemoveNode", spec := "fnExactRemoveNode", unfollowed := true, recurses := true, apart := false, narrowed := true }
def FnExactRemoveNodeUptoSaid : Prop := fnExactRemoveNodeUptoRow.holds Try.pinned (OpenSpec.upto fnExactRemoveNodeSpec)

/-- 'laws.FnPlugs', WHERE WHAT IT READS IS OF BULK AT MOST 1048576: true; the input reads as it did. -/
def fnPlugsUptoRow : OpenClaim := { program := "ytgagbhkidponnaa", sum := "f1579b81ecd335797586cad58ffc0ce92ede87f2ac590fa526043afe3b3e47ab", func := "loop.example/g00986/laws.FnPlugs", spec := "fnPlugs", unfollowed := true, recurses := true, apart := false, narrowed := true }
def FnPlugsUptoSaid : Prop := fnPlugsUptoRow.holds Try.pinned (OpenSpec.upto fnPlugsSpec)

/-- 'laws.FnExactScrambleBytes', WHERE WHAT IT READS IS OF BULK AT MOST 1048576: true; the input reads as it did. -/
def fnExactScrambleBytesUptoRow : OpenClaim := { program := "ytgagbhkidponnaa", sum := "f1579b81ecd335797586cad58ffc0ce92ede87f2ac590fa526043afe3b3e47ab", func := "loop.example/g00986/laws.FnExactScrambleBytes", spec := "fnExactScrambleBytes", unfollowed := true, recurses := true, apart := false, narrowed := true }
def FnExactScrambleBytesUptoSaid : Prop := fnExactScrambleBytesUptoRow.holds Try.pinned (OpenSpec.upto fnExactScrambleBytesSpec)

end Rows
end Go.Proofs.Ytgagbhkidponnaa
