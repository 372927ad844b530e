/-
  No cell of these rows narrows 'for every input' (looked for: loops, veiled, ifaces, maps, wideKeys, modest, calm, conditions, laid).
  DERIVED. THE GIVEN ROWS OF THIS SEAT. 7 by the template 'for every input the law returns true; each argument reads behind the call as it read before'; 0 by the template 'total and deterministic' (their statements: YtnighnkkeiegnabTotals.lean).
  GIVEN WITH THE SEED: the statements are not yours to turn. If you find one false, say at which input.
  Laid BY PROGRAM, IN A SANDBOX (cutbox-rows.mjs): the forced cells as the released guide's own fill.sh prints them over the translation 080732f6c5d50206… (all of the seat's roots in one cut). By AI agents, Wed Nov 11 2026. No macro, syntax, notation, axiom, sorry.
-/
import Derived.Test.YtnighnkkeiegnabChecked
import GoSem.Claim
import GoSem.ClaimJoined
import GoSem.ClaimMapViews
import Derived.JoinedTies
import Derived.KernelRfl
namespace Go.Proofs.Ytnighnkkeiegnab
/- THE CELL 'sum', in the pinned program and in every row, IS THE sha256 OF THE DUMP (.gsa) THAT YtnighnkkeiegnabProg.lean LOADS. Nothing in Lean hashes anything: it is a label: what it is worth is what the hold of that sum in a sandbox is worth. -/
noncomputable def Try.pinned : Pinned := { name := "ytnighnkkeiegnab", sum := "080732f6c5d502060b8a2839d5495198aa300645837090001510f036c6be4814", checked := Try.checked }
namespace Rows
def none {H : Type} : Left H := { results := [], args := [] }

/-- 'laws.FnExactSameFabric': WHATEVER THE INPUT: true; the input reads as it did. -/
def fnExactSameFabricSpec : ChangeSpec := { name := "fnExactSameFabric", fn := fun _ => fun
  | [d1, d2] => { results := [.lit (.bool true)], args := [d1, d2] }
  | _ => none }
def fnExactSameFabricRow : OpenClaim := { program := "ytnighnkkeiegnab", sum := "080732f6c5d502060b8a2839d5495198aa300645837090001510f036c6be4814", func := "loop.example/g00986/laws.FnExactSameFabric", spec := "fnExactSameFabric", unfollowed := true, recurses := true, apart := false }
def FnExactSameFabricSaid : Prop := fnExactSameFabricRow.holds Try.pinned (OpenSpec.ofChange fnExactSameFabricSpec)

/-- ITS FALSE NEIGHBOUR: 'it returns false'. Refute it at one input. -/
def fnExactSameFabricWrong : ChangeSpec := { name := "fnExactSameFabric", fn := fun _ => fun
  | [d1, d2] => { results := [.lit (.bool false)], args := [d1, d2] }
  | _ => none }
def FnExactSameFabricWrongFalsely : Prop := fnExactSameFabricRow.holds Try.pinned (OpenSpec.ofChange fnExactSameFabricWrong)

/-- 'laws.FnExactLinkOk': WHATEVER THE INPUT: true; the input reads as it did. -/
def fnExactLinkOkSpec : ChangeSpec := { name := "fnExactLinkOk", fn := fun _ => fun
  | [d] => { results := [.lit (.bool true)], args := [d] }
  | _ => none }
def fnExactLinkOkRow : OpenClaim := { program := "ytnighnkkeiegnab", sum := "080732f6c5d502060b8a2839d5495198aa300645837090001510f036c6be4814", func := "loop.example/g00986/laws.FnExactLinkOk", spec := "fnExactLinkOk", unfollowed := true, recurses := true, apart := false }
def FnExactLinkOkSaid : Prop := fnExactLinkOkRow.holds Try.pinned (OpenSpec.ofChange fnExactLinkOkSpec)

/-- ITS FALSE NEIGHBOUR: 'it returns false'. Refute it at one input. -/
def fnExactLinkOkWrong : ChangeSpec := { name := "fnExactLinkOk", fn := fun _ => fun
  | [d] => { results := [.lit (.bool false)], args := [d] }
  | _ => none }
def FnExactLinkOkWrongFalsely : Prop := fnExactLinkOkRow.holds Try.pinned (OpenSpec.ofChange fnExactLinkOkWrong)

/-- 'laws.FnExactJoinLanes': WHATEVER THE INPUT: true; the input reads as it did. -/
def fnExactJoinLanesSpec : ChangeSpec := { name := "fnExactJoinLanes", fn := fun _ => fun
  | [d] => { results := [.lit (.bool true)], args := [d] }
  | _ => none }
def fnExactJoinLanesRow : OpenClaim := { program := "ytnighnkkeiegnab", sum := "080732f6c5d502060b8a2839d5495198aa300645837090001510f036c6be4814", func := "loop.example/g00986/laws.FnExactJoinLanes", spec := "fnExactJoinLanes", apart := false }
def FnExactJoinLanesSaid : Prop := fnExactJoinLanesRow.holds Try.pinned (OpenSpec.ofChange fnExactJoinLanesSpec)

/-- ITS FALSE NEIGHBOUR: 'it returns false'. Refute it at one input. -/
def fnExactJoinLanesWrong : ChangeSpec := { name := "fnExactJoinLanes", fn := fun _ => fun
  | [d] => { results := [.lit (.bool false)], args := [d] }
  | _ => none }
def FnExactJoinLanesWrongFalsely : Prop := fnExactJoinLanesRow.holds Try.pinned (OpenSpec.ofChange fnExactJoinLanesWrong)

/-- 'laws.FnExactReverseLanes': WHATEVER THE INPUT: true; the input reads as it did. -/
def fnExactReverseLanesSpec : ChangeSpec := { name := "fnExactReverseLanes", fn := fun _ => fun
  | [d] => { results := [.lit (.bool true)], args := [d] }
  | _ => none }
def fnExactReverseLanesRow : OpenClaim := { program := "ytnighnkkeiegnab", sum := "080732f6c5d502060b8a2839d5495198aa300645837090001510f036c6be4814", func := "loop.example/g00986/laws.FnExactReverseLanes", spec := "fnExactReverseLanes", apart := false }
def FnExactReverseLanesSaid : Prop := fnExactReverseLanesRow.holds Try.pinned (OpenSpec.ofChange fnExactReverseLanesSpec)

/-- ITS FALSE NEIGHBOUR: 'it returns false'. Refute it at one input. -/
def fnExactReverseLanesWrong : ChangeSpec := { name := "fnExactReverseLanes", fn := fun _ => fun
  | [d] => { results := [.lit (.bool false)], args := [d] }
  | _ => none }
def FnExactReverseLanesWrongFalsely : Prop := fnExactReverseLanesRow.holds Try.pinned (OpenSpec.ofChange fnExactReverseLanesWrong)

/-- 'laws.FnExactAlignLanes': WHATEVER THE INPUT: true; the input reads as it did. -/
def fnExactAlignLanesSpec : ChangeSpec := { name := "fnExactAlignLanes", fn := fun _ => fun
  | [d] => { results := [.lit (.bool true)], args := [d] }
  | _ => none }
def fnExactAlignLanesRow : OpenClaim := { program := "ytnighnkkeiegnab", sum := "080732f6c5d502060b8a2839d5495198aa300645837090001510f036c6be4814", func := "loop.example/g00986/laws.FnExactAlignLanes", spec := "fnExactAlignLanes", apart := false }
def FnExactAlignLanesSaid : Prop := fnExactAlignLanesRow.holds Try.pinned (OpenSpec.ofChange fnExactAlignLanesSpec)

/-- ITS FALSE NEIGHBOUR: 'it returns false'. Refute it at one input. -/
def fnExactAlignLanesWrong : ChangeSpec := { name := "fnExactAlignLanes", fn := fun _ => fun
  | [d] => { results := [.lit (.bool false)], args := [d] }
  | _ => none }
def FnExactAlignLanesWrongFalsely : Prop := fnExactAlignLanesRow.holds Try.pinned (OpenSpec.ofChange fnExactAlignLanesWrong)

/-- 'laws.FnExactSkewLanes': WHATEVER THE INPUT: true; the input reads as it did. -/
def fnExactSkewLanesSpec : ChangeSpec := { name := "fnExactSkewLanes", fn := fun _ => fun
  | [d1, d2] => { results := [.lit (.bool true)], args := [d1, d2] }
  | _ => none }
def fnExactSkewLanesRow : OpenClaim := { program := "ytnighnkkeiegnab", sum := "080732f6c5d502060b8a2839d5495198aa300645837090001510f036c6be4814", func := "loop.example/g00986/laws.FnExactSkewLanes", spec := "fnExactSkewLanes", apart := false }
def FnExactSkewLanesSaid : Prop := fnExactSkewLanesRow.holds Try.pinned (OpenSpec.ofChange fnExactSkewLanesSpec)

/-- ITS FALSE NEIGHBOUR: 'it returns false'. Refute it at one input. -/
def fnExactSkewLanesWrong : ChangeSpec := { name := "fnExactSkewLanes", fn := fun _ => fun
  | [d1, d2] => { results := [.lit (.bool false)], args := [d1, d2] }
  | _ => none }
def FnExactSkewLanesWrongFalsely : Prop := fnExactSkewLanesRow.holds Try.pinned (OpenSpec.ofChange fnExactSkewLanesWrong)

/-- 'laws.FnExactTakeFrame': WHATEVER THE INPUT: true; the input reads as it did. -/
def fnExactTakeFrameSpec : ChangeSpec := { name := "fnExactTakeFrame", fn := fun _ => fun
  | [d1, d2] => { results := [.lit (.bool true)], args := [d1, d2] }
  | _ => none }
def fnExactTakeFrameRow : OpenClaim := { program := "ytnighnkkeiegnab", sum := "080732f6c5d502060b8a2839d5495198aa300645837090001510f036c6be4814", func := "loop.example/g00986/laws.FnExactTakeFrame", spec := "fnExactTakeFrame", unfollowed := true, recurses := true, apart := false }
def FnExactTakeFrameSaid : Prop := fnExactTakeFrameRow.holds Try.pinned (OpenSpec.ofChange fnExactTakeFrameSpec)

/-- ITS FALSE NEIGHBOUR: 'it returns false'. Refute it at one input. -/
def fnExactTakeFrameWrong : ChangeSpec := { name := "fnExactTakeFrame", fn := fun _ => fun
  | [d1, d2] => { results := [.lit (.bool false)], args := [d1, d2] }
  | _ => none }
def FnExactTakeFrameWrongFalsely : Prop := fnExactTakeFrameRow.holds Try.pinned (OpenSpec.ofChange fnExactTakeFrameWrong)

/- THE SECOND FORM. 'bulk': how many values and letters a reading holds, each counted each time it is reached (what is shared counts as often as it is met; a slice's spare places count too). A statement '..UptoSaid' is the law's where the arguments, and the package variables that the reading takes, are together of bulk at most 1048576: NARROWER than '..Said'. Prove '..Said' where nothing that the law and all that it calls make is longer than what came in: it says more and counts as full. Else prove '..UptoSaid'. A law counts once. -/
mutual
def uptoBulk {H : Type} : DataW H → Nat
  | .lit (.string bytes) => bytes.length + 1
  | .lit _ => 1
  | .nil => 1
  | .ptr d => uptoBulk d + 1
  | .slice elems spare => uptoBulkAll elems + uptoBulkAll spare + 1
  | .agg parts => uptoBulkAll parts + 1
  | .iface _ d => uptoBulk d + 1
  | .map entries => uptoBulkEntries entries + 1
  | .held _ => 1
def uptoBulkAll {H : Type} : List (DataW H) → Nat
  | [] => 0
  | d :: r => uptoBulk d + uptoBulkAll r
def uptoBulkEntries {H : Type} : List (Lit × DataW H) → Nat
  | [] => 0
  | x :: r => uptoBulkEntry x + uptoBulkEntries r
def uptoBulkEntry {H : Type} : Lit × DataW H → Nat
  | (.string bytes, d) => bytes.length + uptoBulk d + 1
  | (_, d) => uptoBulk d + 1
 end
def uptoSmall : (H : Type) → List (DataW H) → Bool := fun _ ds => decide (uptoBulkAll ds ≤ 1048576)
def OpenSpec.upto (s : _root_.Go.ChangeSpec) : _root_.Go.OpenSpec := { _root_.Go.OpenSpec.ofChange s with cond := some uptoSmall }

/-- 'laws.FnExactSameFabric', WHERE WHAT IT READS IS OF BULK AT MOST 1048576: true; the input reads as it did. -/
def fnExactSameFabricUptoRow : OpenClaim := { program := "ytnighnkkeiegnab", sum := "080732f6c5d502060b8a2839d5495198aa300645837090001510f036c6be4814", func := "loop.example/g00986/laws.FnExactSameFabric", spec := "fnExactSameFabric", unfollowed := true, recurses := true, apart := false, narrowed := true }
def FnExactSameFabricUptoSaid : Prop := fnExactSameFabricUptoRow.holds Try.pinned (OpenSpec.upto fnExactSameFabricSpec)

/-- 'laws.FnExactLinkOk', WHERE WHAT IT READS IS OF BULK AT MOST 1048576: true; the input reads as it did. -/
def fnExactLinkOkUptoRow : OpenClaim := { program := "ytnighnkkeiegnab", sum := "080732f6c5d502060b8a2839d5495198aa300645837090001510f036c6be4814", func := "loop.example/g00986/laws.FnExactLinkOk", spec := "fnExactLinkOk", unfollowed := true, recurses := true, apart := false, narrowed := true }
def FnExactLinkOkUptoSaid : Prop := fnExactLinkOkUptoRow.holds Try.pinned (OpenSpec.upto fnExactLinkOkSpec)

/-- 'laws.FnExactJoinLanes', WHERE WHAT IT READS IS OF BULK AT MOST 1048576: true; the input reads as it did. -/
def fnExactJoinLanesUptoRow : OpenClaim := { program := "ytnighnkkeiegnab", sum := "080732f6c5d502060b8a2839d5495198aa300645837090001510f036c6be4814", func := "loop.example/g00986/laws.FnExactJoinLanes", spec := "fnExactJoinLanes", apart := false, narrowed := true }
def FnExactJoinLanesUptoSaid : Prop := fnExactJoinLanesUptoRow.holds Try.pinned (OpenSpec.upto fnExactJoinLanesSpec)

/-- 'laws.FnExactReverseLanes', WHERE WHAT IT READS IS OF BULK AT MOST 1048576: true; the input reads as it did. -/
def fnExactReverseLanesUptoRow : OpenClaim := { program := "ytnighnkkeiegnab", sum := "080732f6c5d502060b8a2839d5495198aa300645837090001510f036c6be4814", func := "loop.example/g00986/laws.FnExactReverseLanes", spec := "fnExactReverseLanes", apart := false, narrowed := true }
def FnExactReverseLanesUptoSaid : Prop := fnExactReverseLanesUptoRow.holds Try.pinned (OpenSpec.upto fnExactReverseLanesSpec)

/-- 'laws.FnExactAlignLanes', WHERE WHAT IT READS IS OF BULK AT MOST 1048576: true; the input reads as it did. -/
def fnExactAlignLanesUptoRow : OpenClaim := { program := "ytnighnkkeiegnab", sum := "080732f6c5d502060b8a2839d5495198aa300645837090001510f036c6be4814", func := "loop.example/g00986/laws.FnExactAlignLanes", spec := "fnExactAlignLanes", apart := false, narrowed := true }
def FnExactAlignLanesUptoSaid : Prop := fnExactAlignLanesUptoRow.holds Try.pinned (OpenSpec.upto fnExactAlignLanesSpec)

/-- 'laws.FnExactSkewLanes', WHERE WHAT IT READS IS OF BULK AT MOST 1048576: true; the input reads as it did. -/
def fnExactSkewLanesUptoRow : OpenClaim := { program := "ytnighnkkeiegnab", sum := "080732f6c5d502060b8a2839d5495198aa300645837090001510f036c6be4814", func := "loop.example/g00986/laws.FnExactSkewLanes", spec := "fnExactSkewLanes", apart := false, narrowed := true }
def FnExactSkewLanesUptoSaid : Prop := fnExactSkewLanesUptoRow.holds Try.pinned (OpenSpec.upto fnExactSkewLanesSpec)

/-- 'laws.FnExactTakeFrame', WHERE WHAT IT READS IS OF BULK AT MOST 1048576: true; the input reads as it did. -/
def fnExactTakeFrameUptoRow : OpenClaim := { program := "ytnighnkkeiegnab", sum := "080732f6c5d502060b8a2839d5495198aa300645837090001510f036c6be4814", func := "loop.example/g00986/laws.FnExactTakeFrame", spec := "fnExactTakeFrame", unfollowed := true, recurses := true, apart := false, narrowed := true }
def FnExactTakeFrameUptoSaid : Prop := fnExactTakeFrameUptoRow.holds Try.pinned (OpenSpec.upto fnExactTakeFrameSpec)

end Rows
end Go.Proofs.Ytnighnkkeiegnab
