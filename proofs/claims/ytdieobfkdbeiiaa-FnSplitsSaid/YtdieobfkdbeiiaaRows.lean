/-
  No cell of these rows narrows 'for every input' (looked for: loops, veiled, ifaces, maps, wideKeys, modest, calm, conditions, laid).
  DERIVED. THE GIVEN ROWS OF THIS SEAT. 12 by the template 'for every input the law returns true; each argument reads behind the call as it read before'; 0 by the template 'total and deterministic' (their statements: YtdieobfkdbeiiaaTotals.lean).
  GIVEN WITH THE SEED: the statements are not yours to turn. If you find one false, say at which input.
  Laid BY PROGRAM, IN A SANDBOX (cutbox-rows.mjs): the forced cells as the released guide's own fill.sh prints them over the translation ed0f4abe729db603… (all of the seat's roots in one cut). By AI agents, Wed Nov 11 2026. No macro, syntax, notation, axiom, sorry.
-/
import Derived.Test.YtdieobfkdbeiiaaChecked
import GoSem.Claim
import GoSem.ClaimJoined
import GoSem.ClaimMapViews
import Derived.JoinedTies
import Derived.KernelRfl
namespace Go.Proofs.Ytdieobfkdbeiiaa
/- THE CELL 'sum', in the pinned program and in every row, IS THE sha256 OF THE DUMP (.gsa) THAT YtdieobfkdbeiiaaProg.lean LOADS. Nothing in Lean hashes anything: it is a label: what it is worth is what the hold of that sum in a sandbox is worth. -/
noncomputable def Try.pinned : Pinned := { name := "ytdieobfkdbeiiaa", sum := "ed0f4abe729db6031903516bf653a333b4e49cfa3be05b1898e091b81de45541", checked := Try.checked }
namespace Rows
def none {H : Type} : Left H := { results := [], args := [] }

/-- 'laws.FnExactTreeOk': WHATEVER THE INPUT: true; the input reads as it did. -/
def fnExactTreeOkSpec : ChangeSpec := { name := "fnExactTreeOk", fn := fun _ => fun
  | [d] => { results := [.lit (.bool true)], args := [d] }
  | _ => none }
def fnExactTreeOkRow : OpenClaim := { program := "ytdieobfkdbeiiaa", sum := "ed0f4abe729db6031903516bf653a333b4e49cfa3be05b1898e091b81de45541", func := "loop.example/g00986/laws.FnExactTreeOk", spec := "fnExactTreeOk", unfollowed := true, recurses := true, apart := false }
def FnExactTreeOkSaid : Prop := fnExactTreeOkRow.holds Try.pinned (OpenSpec.ofChange fnExactTreeOkSpec)

/-- ITS FALSE NEIGHBOUR: 'it returns false'. Refute it at one input. -/
def fnExactTreeOkWrong : ChangeSpec := { name := "fnExactTreeOk", fn := fun _ => fun
  | [d] => { results := [.lit (.bool false)], args := [d] }
  | _ => none }
def FnExactTreeOkWrongFalsely : Prop := fnExactTreeOkRow.holds Try.pinned (OpenSpec.ofChange fnExactTreeOkWrong)

/-- 'laws.FnExactChildrenOf': WHATEVER THE INPUT: true; the input reads as it did. -/
def fnExactChildrenOfSpec : ChangeSpec := { name := "fnExactChildrenOf", fn := fun _ => fun
  | [d1, d2] => { results := [.lit (.bool true)], args := [d1, d2] }
  | _ => none }
def fnExactChildrenOfRow : OpenClaim := { program := "ytdieobfkdbeiiaa", sum := "ed0f4abe729db6031903516bf653a333b4e49cfa3be05b1898e091b81de45541", func := "loop.example/g00986/laws.FnExactChildrenOf", spec := "fnExactChildrenOf", unfollowed := true, recurses := true, apart := false }
def FnExactChildrenOfSaid : Prop := fnExactChildrenOfRow.holds Try.pinned (OpenSpec.ofChange fnExactChildrenOfSpec)

/-- ITS FALSE NEIGHBOUR: 'it returns false'. Refute it at one input. -/
def fnExactChildrenOfWrong : ChangeSpec := { name := "fnExactChildrenOf", fn := fun _ => fun
  | [d1, d2] => { results := [.lit (.bool false)], args := [d1, d2] }
  | _ => none }
def FnExactChildrenOfWrongFalsely : Prop := fnExactChildrenOfRow.holds Try.pinned (OpenSpec.ofChange fnExactChildrenOfWrong)

/-- 'laws.FnExactPathTo': WHATEVER THE INPUT: true; the input reads as it did. -/
def fnExactPathToSpec : ChangeSpec := { name := "fnExactPathTo", fn := fun _ => fun
  | [d1, d2] => { results := [.lit (.bool true)], args := [d1, d2] }
  | _ => none }
def fnExactPathToRow : OpenClaim := { program := "ytdieobfkdbeiiaa", sum := "ed0f4abe729db6031903516bf653a333b4e49cfa3be05b1898e091b81de45541", func := "loop.example/g00986/laws.FnExactPathTo", spec := "fnExactPathTo", unfollowed := true, recurses := true, apart := false }
def FnExactPathToSaid : Prop := fnExactPathToRow.holds Try.pinned (OpenSpec.ofChange fnExactPathToSpec)

/-- ITS FALSE NEIGHBOUR: 'it returns false'. Refute it at one input. -/
def fnExactPathToWrong : ChangeSpec := { name := "fnExactPathTo", fn := fun _ => fun
  | [d1, d2] => { results := [.lit (.bool false)], args := [d1, d2] }
  | _ => none }
def FnExactPathToWrongFalsely : Prop := fnExactPathToRow.holds Try.pinned (OpenSpec.ofChange fnExactPathToWrong)

/-- 'laws.FnExactIsBelow': WHATEVER THE INPUT: true; the input reads as it did. -/
def fnExactIsBelowSpec : ChangeSpec := { name := "fnExactIsBelow", fn := fun _ => fun
  | [d1, d2, d3] => { results := [.lit (.bool true)], args := [d1, d2, d3] }
  | _ => none }
def fnExactIsBelowRow : OpenClaim := { program := "ytdieobfkdbeiiaa", sum := "ed0f4abe729db6031903516bf653a333b4e49cfa3be05b1898e091b81de45541", func := "loop.example/g00986/laws.FnExactIsBelow", spec := "fnExactIsBelow", unfollowed := true, recurses := true, apart := false }
def FnExactIsBelowSaid : Prop := fnExactIsBelowRow.holds Try.pinned (OpenSpec.ofChange fnExactIsBelowSpec)

/-- ITS FALSE NEIGHBOUR: 'it returns false'. Refute it at one input. -/
def fnExactIsBelowWrong : ChangeSpec := { name := "fnExactIsBelow", fn := fun _ => fun
  | [d1, d2, d3] => { results := [.lit (.bool false)], args := [d1, d2, d3] }
  | _ => none }
def FnExactIsBelowWrongFalsely : Prop := fnExactIsBelowRow.holds Try.pinned (OpenSpec.ofChange fnExactIsBelowWrong)

/-- 'laws.FnExactPathBetween': WHATEVER THE INPUT: true; the input reads as it did. -/
def fnExactPathBetweenSpec : ChangeSpec := { name := "fnExactPathBetween", fn := fun _ => fun
  | [d1, d2, d3] => { results := [.lit (.bool true)], args := [d1, d2, d3] }
  | _ => none }
def fnExactPathBetweenRow : OpenClaim := { program := "ytdieobfkdbeiiaa", sum := "ed0f4abe729db6031903516bf653a333b4e49cfa3be05b1898e091b81de45541", func := "loop.example/g00986/laws.FnExactPathBetween", spec := "fnExactPathBetween", unfollowed := true, recurses := true, apart := false }
def FnExactPathBetweenSaid : Prop := fnExactPathBetweenRow.holds Try.pinned (OpenSpec.ofChange fnExactPathBetweenSpec)

/-- ITS FALSE NEIGHBOUR: 'it returns false'. Refute it at one input. -/
def fnExactPathBetweenWrong : ChangeSpec := { name := "fnExactPathBetween", fn := fun _ => fun
  | [d1, d2, d3] => { results := [.lit (.bool false)], args := [d1, d2, d3] }
  | _ => none }
def FnExactPathBetweenWrongFalsely : Prop := fnExactPathBetweenRow.holds Try.pinned (OpenSpec.ofChange fnExactPathBetweenWrong)

/-- 'laws.FnTags': WHATEVER THE INPUT: true; the input reads as it did. -/
def fnTagsSpec : ChangeSpec := { name := "fnTags", fn := fun _ => fun
  | [d] => { results := [.lit (.bool true)], args := [d] }
  | _ => none }
def fnTagsRow : OpenClaim := { program := "ytdieobfkdbeiiaa", sum := "ed0f4abe729db6031903516bf653a333b4e49cfa3be05b1898e091b81de45541", func := "loop.example/g00986/laws.FnTags", spec := "fnTags", apart := false }
def FnTagsSaid : Prop := fnTagsRow.holds Try.pinned (OpenSpec.ofChange fnTagsSpec)

/-- ITS FALSE NEIGHBOUR: 'it returns false'. Refute it at one input. -/
def fnTagsWrong : ChangeSpec := { name := "fnTags", fn := fun _ => fun
  | [d] => { results := [.lit (.bool false)], args := [d] }
  | _ => none }
def FnTagsWrongFalsely : Prop := fnTagsRow.holds Try.pinned (OpenSpec.ofChange fnTagsWrong)

/-- 'laws.FnSplits': WHATEVER THE INPUT: true; the input reads as it did. -/
def fnSplitsSpec : ChangeSpec := { name := "fnSplits", fn := fun _ => fun
  | [d] => { results := [.lit (.bool true)], args := [d] }
  | _ => none }
def fnSplitsRow : OpenClaim := { program := "ytdieobfkdbeiiaa", sum := "ed0f4abe729db6031903516bf653a333b4e49cfa3be05b1898e091b81de45541", func := "loop.example/g00986/laws.FnSplits", spec := "fnSplits", apart := false }
def FnSplitsSaid : Prop := fnSplitsRow.holds Try.pinned (OpenSpec.ofChange fnSplitsSpec)

/-- ITS FALSE NEIGHBOUR: 'it returns false'. Refute it at one input. -/
def fnSplitsWrong : ChangeSpec := { name := "fnSplits", fn := fun _ => fun
  | [d] => { results := [.lit (.bool false)], args := [d] }
  | _ => none }
def FnSplitsWrongFalsely : Prop := fnSplitsRow.holds Try.pinned (OpenSpec.ofChange fnSplitsWrong)

/-- 'laws.FnExactNewGather': WHATEVER THE INPUT: true; the input reads as it did. -/
def fnExactNewGatherSpec : ChangeSpec := { name := "fnExactNewGather", fn := fun _ => fun
  | [d] => { results := [.lit (.bool true)], args := [d] }
  | _ => none }
def fnExactNewGatherRow : OpenClaim := { program := "ytdieobfkdbeiiaa", sum := "ed0f4abe729db6031903516bf653a333b4e49cfa3be05b1898e091b81de45541", func := "loop.example/g00986/laws.FnExactNewGather", spec := "fnExactNewGather", unfollowed := true, recurses := true, apart := false }
def FnExactNewGatherSaid : Prop := fnExactNewGatherRow.holds Try.pinned (OpenSpec.ofChange fnExactNewGatherSpec)

/-- ITS FALSE NEIGHBOUR: 'it returns false'. Refute it at one input. -/
def fnExactNewGatherWrong : ChangeSpec := { name := "fnExactNewGather", fn := fun _ => fun
  | [d] => { results := [.lit (.bool false)], args := [d] }
  | _ => none }
def FnExactNewGatherWrongFalsely : Prop := fnExactNewGatherRow.holds Try.pinned (OpenSpec.ofChange fnExactNewGatherWrong)

/-- 'laws.FnExactGatherOk': WHATEVER THE INPUT: true; the input reads as it did. -/
def fnExactGatherOkSpec : ChangeSpec := { name := "fnExactGatherOk", fn := fun _ => fun
  | [d] => { results := [.lit (.bool true)], args := [d] }
  | _ => none }
def fnExactGatherOkRow : OpenClaim := { program := "ytdieobfkdbeiiaa", sum := "ed0f4abe729db6031903516bf653a333b4e49cfa3be05b1898e091b81de45541", func := "loop.example/g00986/laws.FnExactGatherOk", spec := "fnExactGatherOk", apart := false }
def FnExactGatherOkSaid : Prop := fnExactGatherOkRow.holds Try.pinned (OpenSpec.ofChange fnExactGatherOkSpec)

/-- ITS FALSE NEIGHBOUR: 'it returns false'. Refute it at one input. -/
def fnExactGatherOkWrong : ChangeSpec := { name := "fnExactGatherOk", fn := fun _ => fun
  | [d] => { results := [.lit (.bool false)], args := [d] }
  | _ => none }
def FnExactGatherOkWrongFalsely : Prop := fnExactGatherOkRow.holds Try.pinned (OpenSpec.ofChange fnExactGatherOkWrong)

/-- 'laws.FnExactRefusalOf': WHATEVER THE INPUT: true; the input reads as it did. -/
def fnExactRefusalOfSpec : ChangeSpec := { name := "fnExactRefusalOf", fn := fun _ => fun
  | [d1, d2, d3] => { results := [.lit (.bool true)], args := [d1, d2, d3] }
  | _ => none }
def fnExactRefusalOfRow : OpenClaim := { program := "ytdieobfkdbeiiaa", sum := "ed0f4abe729db6031903516bf653a333b4e49cfa3be05b1898e091b81de45541", func := "loop.example/g00986/laws.FnExactRefusalOf", spec := "fnExactRefusalOf", unfollowed := true, recurses := true, apart := false }
def FnExactRefusalOfSaid : Prop := fnExactRefusalOfRow.holds Try.pinned (OpenSpec.ofChange fnExactRefusalOfSpec)

/-- ITS FALSE NEIGHBOUR: 'it returns false'. Refute it at one input. -/
def fnExactRefusalOfWrong : ChangeSpec := { name := "fnExactRefusalOf", fn := fun _ => fun
  | [d1, d2, d3] => { results := [.lit (.bool false)], args := [d1, d2, d3] }
  | _ => none }
def FnExactRefusalOfWrongFalsely : Prop := fnExactRefusalOfRow.holds Try.pinned (OpenSpec.ofChange fnExactRefusalOfWrong)

/-- 'laws.FnExactNewRequester': WHATEVER THE INPUT: true; the input reads as it did. -/
def fnExactNewRequesterSpec : ChangeSpec := { name := "fnExactNewRequester", fn := fun _ => fun
  | [d] => { results := [.lit (.bool true)], args := [d] }
  | _ => none }
def fnExactNewRequesterRow : OpenClaim := { program := "ytdieobfkdbeiiaa", sum := "ed0f4abe729db6031903516bf653a333b4e49cfa3be05b1898e091b81de45541", func := "loop.example/g00986/laws.FnExactNewRequester", spec := "fnExactNewRequester", apart := false }
def FnExactNewRequesterSaid : Prop := fnExactNewRequesterRow.holds Try.pinned (OpenSpec.ofChange fnExactNewRequesterSpec)

/-- ITS FALSE NEIGHBOUR: 'it returns false'. Refute it at one input. -/
def fnExactNewRequesterWrong : ChangeSpec := { name := "fnExactNewRequester", fn := fun _ => fun
  | [d] => { results := [.lit (.bool false)], args := [d] }
  | _ => none }
def FnExactNewRequesterWrongFalsely : Prop := fnExactNewRequesterRow.holds Try.pinned (OpenSpec.ofChange fnExactNewRequesterWrong)

/-- 'laws.FnExactSizesOk': WHATEVER THE INPUT: true; the input reads as it did. -/
def fnExactSizesOkSpec : ChangeSpec := { name := "fnExactSizesOk", fn := fun _ => fun
  | [d1, d2] => { results := [.lit (.bool true)], args := [d1, d2] }
  | _ => none }
def fnExactSizesOkRow : OpenClaim := { program := "ytdieobfkdbeiiaa", sum := "ed0f4abe729db6031903516bf653a333b4e49cfa3be05b1898e091b81de45541", func := "loop.example/g00986/laws.FnExactSizesOk", spec := "fnExactSizesOk", unfollowed := true, recurses := true, apart := false }
def FnExactSizesOkSaid : Prop := fnExactSizesOkRow.holds Try.pinned (OpenSpec.ofChange fnExactSizesOkSpec)

/-- ITS FALSE NEIGHBOUR: 'it returns false'. Refute it at one input. -/
def fnExactSizesOkWrong : ChangeSpec := { name := "fnExactSizesOk", fn := fun _ => fun
  | [d1, d2] => { results := [.lit (.bool false)], args := [d1, d2] }
  | _ => none }
def FnExactSizesOkWrongFalsely : Prop := fnExactSizesOkRow.holds Try.pinned (OpenSpec.ofChange fnExactSizesOkWrong)

/- THE SECOND FORM. 'bulk': how many values and letters a reading holds, each counted each time it is reached (what is shared counts as often as it is met; a slice's spare places count too). A statement '..UptoSaid' is the law's where the arguments, and the package variables that the reading takes, are together of bulk at most 1048576: NARROWER than '..Said'. Prove '..Said' where nothing that the law and all that it calls make is longer than what came in: it says more and counts as full. Else prove '..UptoSaid'. A law counts once. -/
mutual
def uptoBulk {H : Type} : DataW H → Nat
  | .lit (.string bytes) => bytes.length + 1
  | .lit _ => 1
  | .nil => 1
  | .ptr d => uptoBulk d + 1
  | .slice elems spare => uptoBulkAll elems + uptoBulkAll spare + 1
  | .agg parts => uptoBulkAll parts + 1
  | .iface _ d => uptoBulk d + 1
  | .map entries => uptoBulkEntries entries + 1
  | .held _ => 1
def uptoBulkAll {H : Type} : List (DataW H) → Nat
  | [] => 0
  | d :: r => uptoBulk d + uptoBulkAll r
def uptoBulkEntries {H : Type} : List (Lit × DataW H) → Nat
  | [] => 0
  | x :: r => uptoBulkEntry x + uptoBulkEntries r
def uptoBulkEntry {H : Type} : Lit × DataW H → Nat
  | (.string bytes, d) => bytes.length + uptoBulk d + 1
  | (_, d) => uptoBulk d + 1
 end
def uptoSmall : (H : Type) → List (DataW H) → Bool := fun _ ds => decide (uptoBulkAll ds ≤ 1048576)
def OpenSpec.upto (s : _root_.Go.ChangeSpec) : _root_.Go.OpenSpec := { _root_.Go.OpenSpec.ofChange s with cond := some uptoSmall }

/-- 'laws.FnExactTreeOk', WHERE WHAT IT READS IS OF BULK AT MOST 1048576: true; the input reads as it did. -/
def fnExactTreeOkUptoRow : OpenClaim := { program := "ytdieobfkdbeiiaa", sum := "ed0f4abe729db6031903516bf653a333b4e49cfa3be05b1898e091b81de45541", func := "loop.example/g00986/laws.FnExactTreeOk", spec := "fnExactTreeOk", unfollowed := true, recurses := true, apart := false, narrowed := true }
def FnExactTreeOkUptoSaid : Prop := fnExactTreeOkUptoRow.holds Try.pinned (OpenSpec.upto fnExactTreeOkSpec)

/-- 'laws.FnExactChildrenOf', WHERE WHAT IT READS IS OF BULK AT MOST 1048576: true; the input reads as it did. -/
def fnExactChildrenOfUptoRow : OpenClaim := { program := "ytdieobfkdbeiiaa", sum := "ed0f4abe729db6031903516bf653a333b4e49cfa3be05b1898e091b81de45541", func := "loop.example/g00986/laws.FnExactChildrenOf", spec := "fnExactChildrenOf", unfollowed := true, recurses := true, apart := false, narrowed := true }
def FnExactChildrenOfUptoSaid : Prop := fnExactChildrenOfUptoRow.holds Try.pinned (OpenSpec.upto fnExactChildrenOfSpec)

/-- 'laws.FnExactPathTo', WHERE WHAT IT READS IS OF BULK AT MOST 1048576: true; the input reads as it did. -/
def fnExactPathToUptoRow : OpenClaim := { program := "ytdieobfkdbeiiaa", sum := "ed0f4abe729db6031903516bf653a333b4e49cfa3be05b1898e091b81de45541", func := "loop.example/g00986/laws.FnExactPathTo", spec := "fnExactPathTo", unfollowed := true, recurses := true, apart := false, narrowed := true }
def FnExactPathToUptoSaid : Prop := fnExactPathToUptoRow.holds Try.pinned (OpenSpec.upto fnExactPathToSpec)

/-- 'laws.FnExactIsBelow', WHERE WHAT IT READS IS OF BULK AT MOST 1048576: true; the input reads as it did. -/
def fnExactIsBelowUptoRow : OpenClaim := { program := "ytdieobfkdbeiiaa", sum := "ed0f4abe729db6031903516bf653a333b4e49cfa3be05b1898e091b81de45541", func := "loop.example/g00986/laws.FnExactIsBelow", spec := "fnExactIsBelow", unfollowed := true, recurses := true, apart := false, narrowed := true }
def FnExactIsBelowUptoSaid : Prop := fnExactIsBelowUptoRow.holds Try.pinned (OpenSpec.upto fnExactIsBelowSpec)

/-- 'laws.FnExactPathBetween', WHERE WHAT IT READS IS OF BULK AT MOST 1048576: true; the input reads as it did. -/
def fnExactPathBetweenUptoRow : OpenClaim := { program := "ytdieobfkdbeiiaa", sum := "ed0f4abe729db6031903516bf653a333b4e49cfa3be05b1898e091b81de45541", func := "loop.example/g00986/laws.FnExactPathBetween", spec := "fnExactPathBetween", unfollowed := true, recurses := true, apart := false, narrowed := true }
def FnExactPathBetweenUptoSaid : Prop := fnExactPathBetweenUptoRow.holds Try.pinned (OpenSpec.upto fnExactPathBetweenSpec)

/-- 'laws.FnTags', WHERE WHAT IT READS IS OF BULK AT MOST 1048576: true; the input reads as it did. -/
def fnTagsUptoRow : OpenClaim := { program := "ytdieobfkdbeiiaa", sum := "ed0f4abe729db6031903516bf653a333b4e49cfa3be05b1898e091b81de45541", func := "loop.example/g00986/laws.FnTags", spec := "fnTags", apart := false, narrowed := true }
def FnTagsUptoSaid : Prop := fnTagsUptoRow.holds Try.pinned (OpenSpec.upto fnTagsSpec)

/-- 'laws.FnSplits', WHERE WHAT IT READS IS OF BULK AT MOST 1048576: true; the input reads as it did. -/
def fnSplitsUptoRow : OpenClaim := { program := "ytdieobfkdbeiiaa", sum := "ed0f4abe729db6031903516bf653a333b4e49cfa3be05b1898e091b81de45541", func := "loop.example/g00986/laws.FnSplits", spec := "fnSplits", apart := false, narrowed := true }
def FnSplitsUptoSaid : Prop := fnSplitsUptoRow.holds Try.pinned (OpenSpec.upto fnSplitsSpec)

/-- 'laws.FnExactNewGather', WHERE WHAT IT READS IS OF BULK AT MOST 1048576: true; the input reads as it did. -/
def fnExactNewGatherUptoRow : OpenClaim := { program := "ytdieobfkdbeiiaa", sum := "ed0f4abe729db6031903516bf653a333b4e49cfa3be05b1898e091b81de45541", func := "loop.example/g00986/laws.FnExactNewGather", spec := "fnExactNewGather", unfollowed := true, recurses := true, apart := false, narrowed := true }
def FnExactNewGatherUptoSaid : Prop := fnExactNewGatherUptoRow.holds Try.pinned (OpenSpec.upto fnExactNewGatherSpec)

/-- 'laws.FnExactGatherOk', WHERE WHAT IT READS IS OF BULK AT MOST 1048576: true; the input reads as it did. -/
def fnExactGatherOkUptoRow : OpenClaim := { program := "ytdieobfkdbeiiaa", sum := "ed0f4abe729db6031903516bf653a333b4e49cfa3be05b1898e091b81de45541", func := "loop.example/g00986/laws.FnExactGatherOk", spec := "fnExactGatherOk", apart := false, narrowed := true }
def FnExactGatherOkUptoSaid : Prop := fnExactGatherOkUptoRow.holds Try.pinned (OpenSpec.upto fnExactGatherOkSpec)

/-- 'laws.FnExactRefusalOf', WHERE WHAT IT READS IS OF BULK AT MOST 1048576: true; the input reads as it did. -/
def fnExactRefusalOfUptoRow : OpenClaim := { program := "ytdieobfkdbeiiaa", sum := "ed0f4abe729db6031903516bf653a333b4e49cfa3be05b1898e091b81de45541", func := "loop.example/g00986/laws.FnExactRefusalOf", spec := "fnExactRefusalOf", unfollowed := true, recurses := true, apart := false, narrowed := true }
def FnExactRefusalOfUptoSaid : Prop := fnExactRefusalOfUptoRow.holds Try.pinned (OpenSpec.upto fnExactRefusalOfSpec)

/-- 'laws.FnExactNewRequester', WHERE WHAT IT READS IS OF BULK AT MOST 1048576: true; the input reads as it did. -/
def fnExactNewRequesterUptoRow : OpenClaim := { program := "ytdieobfkdbeiiaa", sum := "ed0f4abe729db6031903516bf653a333b4e49cfa3be05b1898e091b81de45541", func := "loop.example/g00986/laws.FnExactNewRequester", spec := "fnExactNewRequester", apart := false, narrowed := true }
def FnExactNewRequesterUptoSaid : Prop := fnExactNewRequesterUptoRow.holds Try.pinned (OpenSpec.upto fnExactNewRequesterSpec)

/-- 'laws.FnExactSizesOk', WHERE WHAT IT READS IS OF BULK AT MOST 1048576: true; the input reads as it did. -/
def fnExactSizesOkUptoRow : OpenClaim := { program := "ytdieobfkdbeiiaa", sum := "ed0f4abe729db6031903516bf653a333b4e49cfa3be05b1898e091b81de45541", func := "loop.example/g00986/laws.FnExactSizesOk", spec := "fnExactSizesOk", unfollowed := true, recurses := true, apart := false, narrowed := true }
def FnExactSizesOkUptoSaid : Prop := fnExactSizesOkUptoRow.holds Try.pinned (OpenSpec.upto fnExactSizesOkSpec)

end Rows
end Go.Proofs.Ytdieobfkdbeiiaa
