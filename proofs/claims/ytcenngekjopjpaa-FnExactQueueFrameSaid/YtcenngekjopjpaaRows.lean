/-
  No cell of these rows narrows 'for every input' (looked for: loops, veiled, ifaces, maps, wideKeys, modest, calm, conditions, laid).
  DERIVED. THE GIVEN ROWS OF THIS SEAT. 5 by the template 'for every input the law returns true; each argument reads behind the call as it read before'; 0 by the template 'total and deterministic' (their statements: YtcenngekjopjpaaTotals.lean).
  GIVEN WITH THE SEED: the statements are not yours to turn. If you find one false, say at which input.
  Laid BY PROGRAM, IN A SANDBOX (cutbox-rows.mjs): the forced cells as the released guide's own fill.sh prints them over the translation 787444fea18dfaa8… (all of the seat's roots in one cut). By AI agents, Wed Nov 11 2026. No macro, syntax, notation, axiom, sorry.
-/
import Derived.Test.YtcenngekjopjpaaChecked
import GoSem.Claim
import GoSem.ClaimJoined
import GoSem.ClaimMapViews
import Derived.JoinedTies
import Derived.KernelRfl
namespace Go.Proofs.Ytcenngekjopjpaa
/- THE CELL 'sum', in the pinned program and in every row, IS THE sha256 OF THE DUMP (.gsa) THAT YtcenngekjopjpaaProg.lean LOADS. Nothing in Lean hashes anything: it is a label: what it is worth is what the hold of that sum in a sandbox is worth. -/
noncomputable def Try.pinned : Pinned := { name := "ytcenngekjopjpaa", sum := "787444fea18dfaa82cfb63df4af010aefcf5d7493c47f1321464e9667ee156c8", checked := Try.checked }
namespace Rows
def none {H : Type} : Left H := { results := [], args := [] }

/-- 'laws.FnExactSenderOk': WHATEVER THE INPUT: true; the input reads as it did. -/
def fnExactSenderOkSpec : ChangeSpec := { name := "fnExactSenderOk", fn := fun _ => fun
  | [d] => { results := [.lit (.bool true)], args := [d] }
  | _ => none }
def fnExactSenderOkRow : OpenClaim := { program := "ytcenngekjopjpaa", sum := "787444fea18dfaa82cfb63df4af010aefcf5d7493c47f1321464e9667ee156c8", func := "loop.example/g00986/laws.FnExactSenderOk", spec := "fnExactSenderOk", unfollowed := true, recurses := true, apart := false }
def FnExactSenderOkSaid : Prop := fnExactSenderOkRow.holds Try.pinned (OpenSpec.ofChange fnExactSenderOkSpec)

/-- ITS FALSE NEIGHBOUR: 'it returns false'. Refute it at one input. -/
def fnExactSenderOkWrong : ChangeSpec := { name := "fnExactSenderOk", fn := fun _ => fun
  | [d] => { results := [.lit (.bool false)], args := [d] }
  | _ => none }
def FnExactSenderOkWrongFalsely : Prop := fnExactSenderOkRow.holds Try.pinned (OpenSpec.ofChange fnExactSenderOkWrong)

/-- 'laws.FnExactReplay': WHATEVER THE INPUT: true; the input reads as it did. -/
def fnExactReplaySpec : ChangeSpec := { name := "fnExactReplay", fn := fun _ => fun
  | [d] => { results := [.lit (.bool true)], args := [d] }
  | _ => none }
def fnExactReplayRow : OpenClaim := { program := "ytcenngekjopjpaa", sum := "787444fea18dfaa82cfb63df4af010aefcf5d7493c47f1321464e9667ee156c8", func := "loop.example/g00986/laws.FnExactReplay", spec := "fnExactReplay", unfollowed := true, recurses := true, apart := false }
def FnExactReplaySaid : Prop := fnExactReplayRow.holds Try.pinned (OpenSpec.ofChange fnExactReplaySpec)

/-- ITS FALSE NEIGHBOUR: 'it returns false'. Refute it at one input. -/
def fnExactReplayWrong : ChangeSpec := { name := "fnExactReplay", fn := fun _ => fun
  | [d] => { results := [.lit (.bool false)], args := [d] }
  | _ => none }
def FnExactReplayWrongFalsely : Prop := fnExactReplayRow.holds Try.pinned (OpenSpec.ofChange fnExactReplayWrong)

/-- 'laws.FnExactTakeReady': WHATEVER THE INPUT: true; the input reads as it did. -/
def fnExactTakeReadySpec : ChangeSpec := { name := "fnExactTakeReady", fn := fun _ => fun
  | [d] => { results := [.lit (.bool true)], args := [d] }
  | _ => none }
def fnExactTakeReadyRow : OpenClaim := { program := "ytcenngekjopjpaa", sum := "787444fea18dfaa82cfb63df4af010aefcf5d7493c47f1321464e9667ee156c8", func := "loop.example/g00986/laws.FnExactTakeReady", spec := "fnExactTakeReady", unfollowed := true, recurses := true, apart := false }
def FnExactTakeReadySaid : Prop := fnExactTakeReadyRow.holds Try.pinned (OpenSpec.ofChange fnExactTakeReadySpec)

/-- ITS FALSE NEIGHBOUR: 'it returns false'. Refute it at one input. -/
def fnExactTakeReadyWrong : ChangeSpec := { name := "fnExactTakeReady", fn := fun _ => fun
  | [d] => { results := [.lit (.bool false)], args := [d] }
  | _ => none }
def FnExactTakeReadyWrongFalsely : Prop := fnExactTakeReadyRow.holds Try.pinned (OpenSpec.ofChange fnExactTakeReadyWrong)

/-- 'laws.FnExactTakeAck': WHATEVER THE INPUT: true; the input reads as it did. -/
def fnExactTakeAckSpec : ChangeSpec := { name := "fnExactTakeAck", fn := fun _ => fun
  | [d1, d2] => { results := [.lit (.bool true)], args := [d1, d2] }
  | _ => none }
def fnExactTakeAckRow : OpenClaim := { program := "ytcenngekjopjpaa", sum := "787444fea18dfaa82cfb63df4af010aefcf5d7493c47f1321464e9667ee156c8", func := "loop.example/g00986/laws.FnExactTakeAck", spec := "fnExactTakeAck", unfollowed := true, recurses := true, apart := false }
def FnExactTakeAckSaid : Prop := fnExactTakeAckRow.holds Try.pinned (OpenSpec.ofChange fnExactTakeAckSpec)

/-- ITS FALSE NEIGHBOUR: 'it returns false'. Refute it at one input. -/
def fnExactTakeAckWrong : ChangeSpec := { name := "fnExactTakeAck", fn := fun _ => fun
  | [d1, d2] => { results := [.lit (.bool false)], args := [d1, d2] }
  | _ => none }
def FnExactTakeAckWrongFalsely : Prop := fnExactTakeAckRow.holds Try.pinned (OpenSpec.ofChange fnExactTakeAckWrong)

/-- 'laws.FnExactQueueFrame': WHATEVER THE INPUT: true; the input reads as it did. -/
def fnExactQueueFrameSpec : ChangeSpec := { name := "fnExactQueueFrame", fn := fun _ => fun
  | [d1, d2] => { results := [.lit (.bool true)], args := [d1, d2] }
  | _ => none }
def fnExactQueueFrameRow : OpenClaim := { program := "ytcenngekjopjpaa", sum := "787444fea18dfaa82cfb63df4af010aefcf5d7493c47f1321464e9667ee156c8", func := "loop.example/g00986/laws.FnExactQueueFrame", spec := "fnExactQueueFrame", unfollowed := true, recurses := true, apart := false }
def FnExactQueueFrameSaid : Prop := fnExactQueueFrameRow.holds Try.pinned (OpenSpec.ofChange fnExactQueueFrameSpec)

/-- ITS FALSE NEIGHBOUR: 'it returns false'. Refute it at one input. -/
def fnExactQueueFrameWrong : ChangeSpec := { name := "fnExactQueueFrame", fn := fun _ => fun
  | [d1, d2] => { results := [.lit (.bool false)], args := [d1, d2] }
  | _ => none }
def FnExactQueueFrameWrongFalsely : Prop := fnExactQueueFrameRow.holds Try.pinned (OpenSpec.ofChange fnExactQueueFrameWrong)

/- THE SECOND FORM. 'bulk': how many values and letters a reading holds, each counted each time it is reached (what is shared counts as often as it is met; a slice's spare places count too). A statement '..UptoSaid' is the law's where the arguments, and the package variables that the reading takes, are together of bulk at most 1048576: NARROWER than '..Said'. Prove '..Said' where nothing that the law and all that it calls make is longer than what came in: it says more and counts as full. Else prove '..UptoSaid'. A law counts once. -/
mutual
def uptoBulk {H : Type} : DataW H → Nat
  | .lit (.string bytes) => bytes.length + 1
  | .lit _ => 1
  | .nil => 1
  | .ptr d => uptoBulk d + 1
  | .slice elems spare => uptoBulkAll elems + uptoBulkAll spare + 1
  | .agg parts => uptoBulkAll parts + 1
  | .iface _ d => uptoBulk d + 1
  | .map entries => uptoBulkEntries entries + 1
  | .held _ => 1
def uptoBulkAll {H : Type} : List (DataW H) → Nat
  | [] => 0
  | d :: r => uptoBulk d + uptoBulkAll r
def uptoBulkEntries {H : Type} : List (Lit × DataW H) → Nat
  | [] => 0
  | x :: r => uptoBulkEntry x + uptoBulkEntries r
def uptoBulkEntry {H : Type} : Lit × DataW H → Nat
  | (.string bytes, d) => bytes.length + uptoBulk d + 1
  | (_, d) => uptoBulk d + 1
 end
def uptoSmall : (H : Type) → List (DataW H) → Bool := fun _ ds => decide (uptoBulkAll ds ≤ 1048576)
def OpenSpec.upto (s : _root_.Go.ChangeSpec) : _root_.Go.OpenSpec := { _root_.Go.OpenSpec.ofChange s with cond := some uptoSmall }

/-- 'laws.FnExactSenderOk', WHERE WHAT IT READS IS OF BULK AT MOST 1048576: true; the input reads as it did. -/
def fnExactSenderOkUptoRow : OpenClaim := { program := "ytcenngekjopjpaa", sum := "787444fea18dfaa82cfb63df4af010aefcf5d7493c47f1321464e9667ee156c8", func := "loop.example/g00986/laws.FnExactSenderOk", spec := "fnExactSenderOk", unfollowed := true, recurses := true, apart := false, narrowed := true }
def FnExactSenderOkUptoSaid : Prop := fnExactSenderOkUptoRow.holds Try.pinned (OpenSpec.upto fnExactSenderOkSpec)

/-- 'laws.FnExactReplay', WHERE WHAT IT READS IS OF BULK AT MOST 1048576: true; the input reads as it did. -/
def fnExactReplayUptoRow : OpenClaim := { program := "ytcenngekjopjpaa", sum := "787444fea18dfaa82cfb63df4af010aefcf5d7493c47f1321464e9667ee156c8", func := "loop.example/g00986/laws.FnExactReplay", spec := "fnExactReplay", unfollowed := true, recurses := true, apart := false, narrowed := true }
def FnExactReplayUptoSaid : Prop := fnExactReplayUptoRow.holds Try.pinned (OpenSpec.upto fnExactReplaySpec)

/-- 'laws.FnExactTakeReady', WHERE WHAT IT READS IS OF BULK AT MOST 1048576: true; the input reads as it did. -/
def fnExactTakeReadyUptoRow : OpenClaim := { program := "ytcenngekjopjpaa", sum := "787444fea18dfaa82cfb63df4af010aefcf5d7493c47f1321464e9667ee156c8", func := "loop.example/g00986/laws.FnExactTakeReady", spec := "fnExactTakeReady", unfollowed := true, recurses := true, apart := false, narrowed := true }
def FnExactTakeReadyUptoSaid : Prop := fnExactTakeReadyUptoRow.holds Try.pinned (OpenSpec.upto fnExactTakeReadySpec)

/-- 'laws.FnExactTakeAck', WHERE WHAT IT READS IS OF BULK AT MOST 1048576: true; the input reads as it did. -/
def fnExactTakeAckUptoRow : OpenClaim := { program := "ytcenngekjopjpaa", sum := "787444fea18dfaa82cfb63df4af010aefcf5d7493c47f1321464e9667ee156c8", func := "loop.example/g00986/laws.FnExactTakeAck", spec := "fnExactTakeAck", unfollowed := true, recurses := true, apart := false, narrowed := true }
def FnExactTakeAckUptoSaid : Prop := fnExactTakeAckUptoRow.holds Try.pinned (OpenSpec.upto fnExactTakeAckSpec)

/-- 'laws.FnExactQueueFrame', WHERE WHAT IT READS IS OF BULK AT MOST 1048576: true; the input reads as it did. -/
def fnExactQueueFrameUptoRow : OpenClaim := { program := "ytcenngekjopjpaa", sum := "787444fea18dfaa82cfb63df4af010aefcf5d7493c47f1321464e9667ee156c8", func := "loop.example/g00986/laws.FnExactQueueFrame", spec := "fnExactQueueFrame", unfollowed := true, recurses := true, apart := false, narrowed := true }
def FnExactQueueFrameUptoSaid : Prop := fnExactQueueFrameUptoRow.holds Try.pinned (OpenSpec.upto fnExactQueueFrameSpec)

end Rows
end Go.Proofs.Ytcenngekjopjpaa
