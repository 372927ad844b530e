/-
  No cell of these rows narrows 'for every input' (looked for: loops, veiled, ifaces, maps, wideKeys, modest, calm, conditions, laid).
  DERIVED. THE GIVEN ROWS OF THIS SEAT. 12 by the template 'for every input the law returns true; each argument reads behind the call as it read before'; 0 by the template 'total and deterministic' (their statements: YtoedgncidoldaaaTotals.lean).
  GIVEN WITH THE SEED: the statements are not yours to turn. If you find one false, say at which input.
  Laid BY PROGRAM, IN A SANDBOX (cutbox-rows.mjs): the forced cells as the released guide's own fill.sh prints them over the translation 6516cfdaeabfe150… (all of the seat's roots in one cut). By AI agents, Wed Nov 11 2026. No macro, syntax, notation, axiom, sorry.
-/
import Derived.Test.YtoedgncidoldaaaChecked
import GoSem.Claim
import GoSem.ClaimJoined
import GoSem.ClaimMapViews
import Derived.JoinedTies
import Derived.KernelRfl
namespace Go.Proofs.Ytoedgncidoldaaa
/- THE CELL 'sum', in the pinned program and in every row, IS THE sha256 OF THE DUMP (.gsa) THAT YtoedgncidoldaaaProg.lean LOADS. Nothing in Lean hashes anything: it is a label: what it is worth is what the hold of that sum in a sandbox is worth. -/
noncomputable def Try.pinned : Pinned := { name := "ytoedgncidoldaaa", sum := "6516cfdaeabfe1508f3ecfa1a71f47baca1b76f9b08a99655ff7348189844ab8", checked := Try.checked }
namespace Rows
def none {H : Type} : Left H := { results := [], args := [] }

/-- 'laws.FnExactHopsOf': WHATEVER THE INPUT: true; the input reads as it did. -/
def fnExactHopsOfSpec : ChangeSpec := { name := "fnExactHopsOf", fn := fun _ => fun
  | [d] => { results := [.lit (.bool true)], args := [d] }
  | _ => none }
def fnExactHopsOfRow : OpenClaim := { program := "ytoedgncidoldaaa", sum := "6516cfdaeabfe1508f3ecfa1a71f47baca1b76f9b08a99655ff7348189844ab8", func := "loop.example/g00986/laws.FnExactHopsOf", spec := "fnExactHopsOf", apart := false }
def FnExactHopsOfSaid : Prop := fnExactHopsOfRow.holds Try.pinned (OpenSpec.ofChange fnExactHopsOfSpec)

/-- ITS FALSE NEIGHBOUR: 'it returns false'. Refute it at one input. -/
def fnExactHopsOfWrong : ChangeSpec := { name := "fnExactHopsOf", fn := fun _ => fun
  | [d] => { results := [.lit (.bool false)], args := [d] }
  | _ => none }
def FnExactHopsOfWrongFalsely : Prop := fnExactHopsOfRow.holds Try.pinned (OpenSpec.ofChange fnExactHopsOfWrong)

/-- 'laws.FnExactTotalSize': WHATEVER THE INPUT: true; the input reads as it did. -/
def fnExactTotalSizeSpec : ChangeSpec := { name := "fnExactTotalSize", fn := fun _ => fun
  | [d] => { results := [.lit (.bool true)], args := [d] }
  | _ => none }
def fnExactTotalSizeRow : OpenClaim := { program := "ytoedgncidoldaaa", sum := "6516cfdaeabfe1508f3ecfa1a71f47baca1b76f9b08a99655ff7348189844ab8", func := "loop.example/g00986/laws.FnExactTotalSize", spec := "fnExactTotalSize", apart := false }
def FnExactTotalSizeSaid : Prop := fnExactTotalSizeRow.holds Try.pinned (OpenSpec.ofChange fnExactTotalSizeSpec)

/-- ITS FALSE NEIGHBOUR: 'it returns false'. Refute it at one input. -/
def fnExactTotalSizeWrong : ChangeSpec := { name := "fnExactTotalSize", fn := fun _ => fun
  | [d] => { results := [.lit (.bool false)], args := [d] }
  | _ => none }
def FnExactTotalSizeWrongFalsely : Prop := fnExactTotalSizeRow.holds Try.pinned (OpenSpec.ofChange fnExactTotalSizeWrong)

/-- 'laws.FnExactBarOk': WHATEVER THE INPUT: true; the input reads as it did. -/
def fnExactBarOkSpec : ChangeSpec := { name := "fnExactBarOk", fn := fun _ => fun
  | [d] => { results := [.lit (.bool true)], args := [d] }
  | _ => none }
def fnExactBarOkRow : OpenClaim := { program := "ytoedgncidoldaaa", sum := "6516cfdaeabfe1508f3ecfa1a71f47baca1b76f9b08a99655ff7348189844ab8", func := "loop.example/g00986/laws.FnExactBarOk", spec := "fnExactBarOk", apart := false }
def FnExactBarOkSaid : Prop := fnExactBarOkRow.holds Try.pinned (OpenSpec.ofChange fnExactBarOkSpec)

/-- ITS FALSE NEIGHBOUR: 'it returns false'. Refute it at one input. -/
def fnExactBarOkWrong : ChangeSpec := { name := "fnExactBarOk", fn := fun _ => fun
  | [d] => { results := [.lit (.bool false)], args := [d] }
  | _ => none }
def FnExactBarOkWrongFalsely : Prop := fnExactBarOkRow.holds Try.pinned (OpenSpec.ofChange fnExactBarOkWrong)

/-- 'laws.FnExactWriteBar': WHATEVER THE INPUT: true; the input reads as it did. -/
def fnExactWriteBarSpec : ChangeSpec := { name := "fnExactWriteBar", fn := fun _ => fun
  | [d1, d2] => { results := [.lit (.bool true)], args := [d1, d2] }
  | _ => none }
def fnExactWriteBarRow : OpenClaim := { program := "ytoedgncidoldaaa", sum := "6516cfdaeabfe1508f3ecfa1a71f47baca1b76f9b08a99655ff7348189844ab8", func := "loop.example/g00986/laws.FnExactWriteBar", spec := "fnExactWriteBar", apart := false }
def FnExactWriteBarSaid : Prop := fnExactWriteBarRow.holds Try.pinned (OpenSpec.ofChange fnExactWriteBarSpec)

/-- ITS FALSE NEIGHBOUR: 'it returns false'. Refute it at one input. -/
def fnExactWriteBarWrong : ChangeSpec := { name := "fnExactWriteBar", fn := fun _ => fun
  | [d1, d2] => { results := [.lit (.bool false)], args := [d1, d2] }
  | _ => none }
def FnExactWriteBarWrongFalsely : Prop := fnExactWriteBarRow.holds Try.pinned (OpenSpec.ofChange fnExactWriteBarWrong)

/-- 'laws.FnExactSizeFromMask': WHATEVER THE INPUT: true; the input reads as it did. -/
def fnExactSizeFromMaskSpec : ChangeSpec := { name := "fnExactSizeFromMask", fn := fun _ => fun
  | [d] => { results := [.lit (.bool true)], args := [d] }
  | _ => none }
def fnExactSizeFromMaskRow : OpenClaim := { program := "ytoedgncidoldaaa", sum := "6516cfdaeabfe1508f3ecfa1a71f47baca1b76f9b08a99655ff7348189844ab8", func := "loop.example/g00986/laws.FnExactSizeFromMask", spec := "fnExactSizeFromMask", apart := false }
def FnExactSizeFromMaskSaid : Prop := fnExactSizeFromMaskRow.holds Try.pinned (OpenSpec.ofChange fnExactSizeFromMaskSpec)

/-- ITS FALSE NEIGHBOUR: 'it returns false'. Refute it at one input. -/
def fnExactSizeFromMaskWrong : ChangeSpec := { name := "fnExactSizeFromMask", fn := fun _ => fun
  | [d] => { results := [.lit (.bool false)], args := [d] }
  | _ => none }
def FnExactSizeFromMaskWrongFalsely : Prop := fnExactSizeFromMaskRow.holds Try.pinned (OpenSpec.ofChange fnExactSizeFromMaskWrong)

/-- 'laws.FnExactCovers': WHATEVER THE INPUT: true; the input reads as it did. -/
def fnExactCoversSpec : ChangeSpec := { name := "fnExactCovers", fn := fun _ => fun
  | [d1, d2] => { results := [.lit (.bool true)], args := [d1, d2] }
  | _ => none }
def fnExactCoversRow : OpenClaim := { program := "ytoedgncidoldaaa", sum := "6516cfdaeabfe1508f3ecfa1a71f47baca1b76f9b08a99655ff7348189844ab8", func := "loop.example/g00986/laws.FnExactCovers", spec := "fnExactCovers", apart := false }
def FnExactCoversSaid : Prop := fnExactCoversRow.holds Try.pinned (OpenSpec.ofChange fnExactCoversSpec)

/-- ITS FALSE NEIGHBOUR: 'it returns false'. Refute it at one input. -/
def fnExactCoversWrong : ChangeSpec := { name := "fnExactCovers", fn := fun _ => fun
  | [d1, d2] => { results := [.lit (.bool false)], args := [d1, d2] }
  | _ => none }
def FnExactCoversWrongFalsely : Prop := fnExactCoversRow.holds Try.pinned (OpenSpec.ofChange fnExactCoversWrong)

/-- 'laws.FnExactBarsOverlap': WHATEVER THE INPUT: true; the input reads as it did. -/
def fnExactBarsOverlapSpec : ChangeSpec := { name := "fnExactBarsOverlap", fn := fun _ => fun
  | [d1, d2] => { results := [.lit (.bool true)], args := [d1, d2] }
  | _ => none }
def fnExactBarsOverlapRow : OpenClaim := { program := "ytoedgncidoldaaa", sum := "6516cfdaeabfe1508f3ecfa1a71f47baca1b76f9b08a99655ff7348189844ab8", func := "loop.example/g00986/laws.FnExactBarsOverlap", spec := "fnExactBarsOverlap", apart := false }
def FnExactBarsOverlapSaid : Prop := fnExactBarsOverlapRow.holds Try.pinned (OpenSpec.ofChange fnExactBarsOverlapSpec)

/-- ITS FALSE NEIGHBOUR: 'it returns false'. Refute it at one input. -/
def fnExactBarsOverlapWrong : ChangeSpec := { name := "fnExactBarsOverlap", fn := fun _ => fun
  | [d1, d2] => { results := [.lit (.bool false)], args := [d1, d2] }
  | _ => none }
def FnExactBarsOverlapWrongFalsely : Prop := fnExactBarsOverlapRow.holds Try.pinned (OpenSpec.ofChange fnExactBarsOverlapWrong)

/-- 'laws.FnBars': WHATEVER THE INPUT: true; the input reads as it did. -/
def fnBarsSpec : ChangeSpec := { name := "fnBars", fn := fun _ => fun
  | [d] => { results := [.lit (.bool true)], args := [d] }
  | _ => none }
def fnBarsRow : OpenClaim := { program := "ytoedgncidoldaaa", sum := "6516cfdaeabfe1508f3ecfa1a71f47baca1b76f9b08a99655ff7348189844ab8", func := "loop.example/g00986/laws.FnBars", spec := "fnBars", apart := false }
def FnBarsSaid : Prop := fnBarsRow.holds Try.pinned (OpenSpec.ofChange fnBarsSpec)

/-- ITS FALSE NEIGHBOUR: 'it returns false'. Refute it at one input. -/
def fnBarsWrong : ChangeSpec := { name := "fnBars", fn := fun _ => fun
  | [d] => { results := [.lit (.bool false)], args := [d] }
  | _ => none }
def FnBarsWrongFalsely : Prop := fnBarsRow.holds Try.pinned (OpenSpec.ofChange fnBarsWrong)

/-- 'laws.FnExactOffsetOf': WHATEVER THE INPUT: true; the input reads as it did. -/
def fnExactOffsetOfSpec : ChangeSpec := { name := "fnExactOffsetOf", fn := fun _ => fun
  | [d1, d2, d3] => { results := [.lit (.bool true)], args := [d1, d2, d3] }
  | _ => none }
def fnExactOffsetOfRow : OpenClaim := { program := "ytoedgncidoldaaa", sum := "6516cfdaeabfe1508f3ecfa1a71f47baca1b76f9b08a99655ff7348189844ab8", func := "loop.example/g00986/laws.FnExactOffsetOf", spec := "fnExactOffsetOf", apart := false }
def FnExactOffsetOfSaid : Prop := fnExactOffsetOfRow.holds Try.pinned (OpenSpec.ofChange fnExactOffsetOfSpec)

/-- ITS FALSE NEIGHBOUR: 'it returns false'. Refute it at one input. -/
def fnExactOffsetOfWrong : ChangeSpec := { name := "fnExactOffsetOf", fn := fun _ => fun
  | [d1, d2, d3] => { results := [.lit (.bool false)], args := [d1, d2, d3] }
  | _ => none }
def FnExactOffsetOfWrongFalsely : Prop := fnExactOffsetOfRow.holds Try.pinned (OpenSpec.ofChange fnExactOffsetOfWrong)

/-- 'laws.FnExactIsPayload': WHATEVER THE INPUT: true; the input reads as it did. -/
def fnExactIsPayloadSpec : ChangeSpec := { name := "fnExactIsPayload", fn := fun _ => fun
  | [d] => { results := [.lit (.bool true)], args := [d] }
  | _ => none }
def fnExactIsPayloadRow : OpenClaim := { program := "ytoedgncidoldaaa", sum := "6516cfdaeabfe1508f3ecfa1a71f47baca1b76f9b08a99655ff7348189844ab8", func := "loop.example/g00986/laws.FnExactIsPayload", spec := "fnExactIsPayload", apart := false }
def FnExactIsPayloadSaid : Prop := fnExactIsPayloadRow.holds Try.pinned (OpenSpec.ofChange fnExactIsPayloadSpec)

/-- ITS FALSE NEIGHBOUR: 'it returns false'. Refute it at one input. -/
def fnExactIsPayloadWrong : ChangeSpec := { name := "fnExactIsPayload", fn := fun _ => fun
  | [d] => { results := [.lit (.bool false)], args := [d] }
  | _ => none }
def FnExactIsPayloadWrongFalsely : Prop := fnExactIsPayloadRow.holds Try.pinned (OpenSpec.ofChange fnExactIsPayloadWrong)

/-- 'laws.FnExactPieceCount': WHATEVER THE INPUT: true; the input reads as it did. -/
def fnExactPieceCountSpec : ChangeSpec := { name := "fnExactPieceCount", fn := fun _ => fun
  | [d1, d2, d3] => { results := [.lit (.bool true)], args := [d1, d2, d3] }
  | _ => none }
def fnExactPieceCountRow : OpenClaim := { program := "ytoedgncidoldaaa", sum := "6516cfdaeabfe1508f3ecfa1a71f47baca1b76f9b08a99655ff7348189844ab8", func := "loop.example/g00986/laws.FnExactPieceCount", spec := "fnExactPieceCount", apart := false }
def FnExactPieceCountSaid : Prop := fnExactPieceCountRow.holds Try.pinned (OpenSpec.ofChange fnExactPieceCountSpec)

/-- ITS FALSE NEIGHBOUR: 'it returns false'. Refute it at one input. -/
def fnExactPieceCountWrong : ChangeSpec := { name := "fnExactPieceCount", fn := fun _ => fun
  | [d1, d2, d3] => { results := [.lit (.bool false)], args := [d1, d2, d3] }
  | _ => none }
def FnExactPieceCountWrongFalsely : Prop := fnExactPieceCountRow.holds Try.pinned (OpenSpec.ofChange fnExactPieceCountWrong)

/-- 'laws.FnExactSplitRange': WHATEVER THE INPUT: true; the input reads as it did. -/
def fnExactSplitRangeSpec : ChangeSpec := { name := "fnExactSplitRange", fn := fun _ => fun
  | [d1, d2, d3] => { results := [.lit (.bool true)], args := [d1, d2, d3] }
  | _ => none }
def fnExactSplitRangeRow : OpenClaim := { program := "ytoedgncidoldaaa", sum := "6516cfdaeabfe1508f3ecfa1a71f47baca1b76f9b08a99655ff7348189844ab8", func := "loop.example/g00986/laws.FnExactSplitRange", spec := "fnExactSplitRange", apart := false }
def FnExactSplitRangeSaid : Prop := fnExactSplitRangeRow.holds Try.pinned (OpenSpec.ofChange fnExactSplitRangeSpec)

/-- ITS FALSE NEIGHBOUR: 'it returns false'. Refute it at one input. -/
def fnExactSplitRangeWrong : ChangeSpec := { name := "fnExactSplitRange", fn := fun _ => fun
  | [d1, d2, d3] => { results := [.lit (.bool false)], args := [d1, d2, d3] }
  | _ => none }
def FnExactSplitRangeWrongFalsely : Prop := fnExactSplitRangeRow.holds Try.pinned (OpenSpec.ofChange fnExactSplitRangeWrong)

/- THE SECOND FORM. 'bulk': how many values and letters a reading holds, each counted each time it is reached (what is shared counts as often as it is met; a slice's spare places count too). A statement '..UptoSaid' is the law's where the arguments, and the package variables that the reading takes, are together of bulk at most 1048576: NARROWER than '..Said'. Prove '..Said' where nothing that the law and all that it calls make is longer than what came in: it says more and counts as full. Else prove '..UptoSaid'. A law counts once. -/
mutual
def uptoBulk {H : Type} : DataW H → Nat
  | .lit (.string bytes) => bytes.length + 1
  | .lit _ => 1
  | .nil => 1
  | .ptr d => uptoBulk d + 1
  | .slice elems spare => uptoBulkAll elems + uptoBulkAll spare + 1
  | .agg parts => uptoBulkAll parts + 1
  | .iface _ d => uptoBulk d + 1
  | .map entries => uptoBulkEntries entries + 1
  | .held _ => 1
def uptoBulkAll {H : Type} : List (DataW H) → Nat
  | [] => 0
  | d :: r => uptoBulk d + uptoBulkAll r
def uptoBulkEntries {H : Type} : List (Lit × DataW H) → Nat
  | [] => 0
  | x :: r => uptoBulkEntry x + uptoBulkEntries r
def uptoBulkEntry {H : Type} : Lit × DataW H → Nat
  | (.string bytes, d) => bytes.length + uptoBulk d + 1
  | (_, d) => uptoBulk d + 1
 end
def uptoSmall : (H : Type) → List (DataW H) → Bool := fun _ ds => decide (uptoBulkAll ds ≤ 1048576)
def OpenSpec.upto (s : _root_.Go.ChangeSpec) : _root_.Go.OpenSpec := { _root_.Go.OpenSpec.ofChange s with cond := some uptoSmall }

/-- 'laws.FnExactHopsOf', WHERE WHAT IT READS IS OF BULK AT MOST 1048576: true; the input reads as it did. -/
def fnExactHopsOfUptoRow : OpenClaim := { program := "ytoedgncidoldaaa", sum := "6516cfdaeabfe1508f3ecfa1a71f47baca1b76f9b08a99655ff7348189844ab8", func := "loop.example/g00986/laws.FnExactHopsOf", spec := "fnExactHopsOf", apart := false, narrowed := true }
def FnExactHopsOfUptoSaid : Prop := fnExactHopsOfUptoRow.holds Try.pinned (OpenSpec.upto fnExactHopsOfSpec)

/-- 'laws.FnExactTotalSize', WHERE WHAT IT READS IS OF BULK AT MOST 1048576: true; the input reads as it did. -/
def fnExactTotalSizeUptoRow : OpenClaim := { program := "ytoedgncidoldaaa", sum := "6516cfdaeabfe1508f3ecfa1a71f47baca1b76f9b08a99655ff7348189844ab8", func := "loop.example/g00986/laws.FnExactTotalSize", spec := "fnExactTotalSize", apart := false, narrowed := true }
def FnExactTotalSizeUptoSaid : Prop := fnExactTotalSizeUptoRow.holds Try.pinned (OpenSpec.upto fnExactTotalSizeSpec)

/-- 'laws.FnExactBarOk', WHERE WHAT IT READS IS OF BULK AT MOST 1048576: true; the input reads as it did. -/
def fnExactBarOkUptoRow : OpenClaim := { program := "ytoedgncidoldaaa", sum := "6516cfdaeabfe1508f3ecfa1a71f47baca1b76f9b08a99655ff7348189844ab8", func := "loop.example/g00986/laws.FnExactBarOk", spec := "fnExactBarOk", apart := false, narrowed := true }
def FnExactBarOkUptoSaid : Prop := fnExactBarOkUptoRow.holds Try.pinned (OpenSpec.upto fnExactBarOkSpec)

/-- 'laws.FnExactWriteBar', WHERE WHAT IT READS IS OF BULK AT MOST 1048576: true; the input reads as it did. -/
def fnExactWriteBarUptoRow : OpenClaim := { program := "ytoedgncidoldaaa", sum := "6516cfdaeabfe1508f3ecfa1a71f47baca1b76f9b08a99655ff7348189844ab8", func := "loop.example/g00986/laws.FnExactWriteBar", spec := "fnExactWriteBar", apart := false, narrowed := true }
def FnExactWriteBarUptoSaid : Prop := fnExactWriteBarUptoRow.holds Try.pinned (OpenSpec.upto fnExactWriteBarSpec)

/-- 'laws.FnExactSizeFromMask', WHERE WHAT IT READS IS OF BULK AT MOST 1048576: true; the input reads as it did. -/
def fnExactSizeFromMaskUptoRow : OpenClaim := { program := "ytoedgncidoldaaa", sum := "6516cfdaeabfe1508f3ecfa1a71f47baca1b76f9b08a99655ff7348189844ab8", func := "loop.example/g00986/laws.FnExactSizeFromMask", spec := "fnExactSizeFromMask", apart := false, narrowed := true }
def FnExactSizeFromMaskUptoSaid : Prop := fnExactSizeFromMaskUptoRow.holds Try.pinned (OpenSpec.upto fnExactSizeFromMaskSpec)

/-- 'laws.FnExactCovers', WHERE WHAT IT READS IS OF BULK AT MOST 1048576: true; the input reads as it did. -/
def fnExactCoversUptoRow : OpenClaim := { program := "ytoedgncidoldaaa", sum := "6516cfdaeabfe1508f3ecfa1a71f47baca1b76f9b08a99655ff7348189844ab8", func := "loop.example/g00986/laws.FnExactCovers", spec := "fnExactCovers", apart := false, narrowed := true }
def FnExactCoversUptoSaid : Prop := fnExactCoversUptoRow.holds Try.pinned (OpenSpec.upto fnExactCoversSpec)

/-- 'laws.FnExactBarsOverlap', WHERE WHAT IT READS IS OF BULK AT MOST 1048576: true; the input reads as it did. -/
def fnExactBarsOverlapUptoRow : OpenClaim := { program := "ytoedgncidoldaaa", sum := "6516cfdaeabfe1508f3ecfa1a71f47baca1b76f9b08a99655ff7348189844ab8", func := "loop.example/g00986/laws.FnExactBarsOverlap", spec := "fnExactBarsOverlap", apart := false, narrowed := true }
def FnExactBarsOverlapUptoSaid : Prop := fnExactBarsOverlapUptoRow.holds Try.pinned (OpenSpec.upto fnExactBarsOverlapSpec)

/-- 'laws.FnBars', WHERE WHAT IT READS IS OF BULK AT MOST 1048576: true; the input reads as it did. -/
def fnBarsUptoRow : OpenClaim := { program := "ytoedgncidoldaaa", sum := "6516cfdaeabfe1508f3ecfa1a71f47baca1b76f9b08a99655ff7348189844ab8", func := "loop.example/g00986/laws.FnBars", spec := "fnBars", apart := false, narrowed := true }
def FnBarsUptoSaid : Prop := fnBarsUptoRow.holds Try.pinned (OpenSpec.upto fnBarsSpec)

/-- 'laws.FnExactOffsetOf', WHERE WHAT IT READS IS OF BULK AT MOST 1048576: true; the input reads as it did. -/
def fnExactOffsetOfUptoRow : OpenClaim := { program := "ytoedgncidoldaaa", sum := "6516cfdaeabfe1508f3ecfa1a71f47baca1b76f9b08a99655ff7348189844ab8", func := "loop.example/g00986/laws.FnExactOffsetOf", spec := "fnExactOffsetOf", apart := false, narrowed := true }
def FnExactOffsetOfUptoSaid : Prop := fnExactOffsetOfUptoRow.holds Try.pinned (OpenSpec.upto fnExactOffsetOfSpec)

/-- 'laws.FnExactIsPayload', WHERE WHAT IT READS IS OF BULK AT MOST 1048576: true; the input reads as it did. -/
def fnExactIsPayloadUptoRow : OpenClaim := { program := "ytoedgncidoldaaa", sum := "6516cfdaeabfe1508f3ecfa1a71f47baca1b76f9b08a99655ff7348189844ab8", func := "loop.example/g00986/laws.FnExactIsPayload", spec := "fnExactIsPayload", apart := false, narrowed := true }
def FnExactIsPayloadUptoSaid : Prop := fnExactIsPayloadUptoRow.holds Try.pinned (OpenSpec.upto fnExactIsPayloadSpec)

/-- 'laws.FnExactPieceCount', WHERE WHAT IT READS IS OF BULK AT MOST 1048576: true; the input reads as it did. -/
def fnExactPieceCountUptoRow : OpenClaim := { program := "ytoedgncidoldaaa", sum := "6516cfdaeabfe1508f3ecfa1a71f47baca1b76f9b08a99655ff7348189844ab8", func := "loop.example/g00986/laws.FnExactPieceCount", spec := "fnExactPieceCount", apart := false, narrowed := true }
def FnExactPieceCountUptoSaid : Prop := fnExactPieceCountUptoRow.holds Try.pinned (OpenSpec.upto fnExactPieceCountSpec)

/-- 'laws.FnExactSplitRange', WHERE WHAT IT READS IS OF BULK AT MOST 1048576: true; the input reads as it did. -/
def fnExactSplitRangeUptoRow : OpenClaim := { program := "ytoedgncidoldaaa", sum := "6516cfdaeabfe1508f3ecfa1a71f47baca1b76f9b08a99655ff7348189844ab8", func := "loop.example/g00986/laws.FnExactSplitRange", spec := "fnExactSplitRange", apart := false, narrowed := true }
def FnExactSplitRangeUptoSaid : Prop := fnExactSplitRangeUptoRow.holds Try.pinned (OpenSpec.upto fnExactSplitRangeSpec)

end Rows
end Go.Proofs.Ytoedgncidoldaaa
