/-
  No cell of these rows narrows 'for every input' (looked for: loops, veiled, ifaces, maps, wideKeys, modest, calm, conditions, laid).
  DERIVED. THE GIVEN ROWS OF THIS SEAT. 8 by the template 'for every input the law returns true; each argument reads behind the call as it read before'; 0 by the template 'total and deterministic' (their statements: YtoedgncidoldaabTotals.lean).
  GIVEN WITH THE SEED: the statements are not yours to turn. If you find one false, say at which input.
  Laid BY PROGRAM, IN A SANDBOX (cutbox-rows.mjs): the forced cells as the released guide's own fill.sh prints them over the translation b95ec56f0e7699bf… (all of the seat's roots in one cut). By AI agents, Wed Nov 11 2026. No macro, syntax, notation, axiom, sorry.
-/
import Derived.Test.YtoedgncidoldaabChecked
import GoSem.Claim
import GoSem.ClaimJoined
import GoSem.ClaimMapViews
import Derived.JoinedTies
import Derived.KernelRfl
namespace Go.Proofs.Ytoedgncidoldaab
/- THE CELL 'sum', in the pinned program and in every row, IS THE sha256 OF THE DUMP (.gsa) THAT YtoedgncidoldaabProg.lean LOADS. Nothing in Lean hashes anything: it is a label: what it is worth is what the hold of that sum in a sandbox is worth. -/
noncomputable def Try.pinned : Pinned := { name := "ytoedgncidoldaab", sum := "b95ec56f0e7699bf99cfdcc33544a9c64e9bed03e619f7f82777bede8bfe14a2", checked := Try.checked }
namespace Rows
def none {H : Type} : Left H := { results := [], args := [] }

/-- 'laws.FnExactRegistersOk': WHATEVER THE INPUT: true; the input reads as it did. -/
def fnExactRegistersOkSpec : ChangeSpec := { name := "fnExactRegistersOk", fn := fun _ => fun
  | [d] => { results := [.lit (.bool true)], args := [d] }
  | _ => none }
def fnExactRegistersOkRow : OpenClaim := { program := "ytoedgncidoldaab", sum := "b95ec56f0e7699bf99cfdcc33544a9c64e9bed03e619f7f82777bede8bfe14a2", func := "loop.example/g00986/laws.FnExactRegistersOk", spec := "fnExactRegistersOk", apart := false }
def FnExactRegistersOkSaid : Prop := fnExactRegistersOkRow.holds Try.pinned (OpenSpec.ofChange fnExactRegistersOkSpec)

/-- ITS FALSE NEIGHBOUR: 'it returns false'. Refute it at one input. -/
def fnExactRegistersOkWrong : ChangeSpec := { name := "fnExactRegistersOk", fn := fun _ => fun
  | [d] => { results := [.lit (.bool false)], args := [d] }
  | _ => none }
def FnExactRegistersOkWrongFalsely : Prop := fnExactRegistersOkRow.holds Try.pinned (OpenSpec.ofChange fnExactRegistersOkWrong)

/-- 'laws.FnExactNewTags': WHATEVER THE INPUT: true; the input reads as it did. -/
def fnExactNewTagsSpec : ChangeSpec := { name := "fnExactNewTags", fn := fun _ => fun
  | [] => { results := [.lit (.bool true)], args := [] }
  | _ => none }
def fnExactNewTagsRow : OpenClaim := { program := "ytoedgncidoldaab", sum := "b95ec56f0e7699bf99cfdcc33544a9c64e9bed03e619f7f82777bede8bfe14a2", func := "loop.example/g00986/laws.FnExactNewTags", spec := "fnExactNewTags", apart := false }
def FnExactNewTagsSaid : Prop := fnExactNewTagsRow.holds Try.pinned (OpenSpec.ofChange fnExactNewTagsSpec)

/-- ITS FALSE NEIGHBOUR: 'it returns false'. Refute it at one input. -/
def fnExactNewTagsWrong : ChangeSpec := { name := "fnExactNewTags", fn := fun _ => fun
  | [] => { results := [.lit (.bool false)], args := [] }
  | _ => none }
def FnExactNewTagsWrongFalsely : Prop := fnExactNewTagsRow.holds Try.pinned (OpenSpec.ofChange fnExactNewTagsWrong)

/-- 'laws.FnExactTagsOk': WHATEVER THE INPUT: true; the input reads as it did. -/
def fnExactTagsOkSpec : ChangeSpec := { name := "fnExactTagsOk", fn := fun _ => fun
  | [d] => { results := [.lit (.bool true)], args := [d] }
  | _ => none }
def fnExactTagsOkRow : OpenClaim := { program := "ytoedgncidoldaab", sum := "b95ec56f0e7699bf99cfdcc33544a9c64e9bed03e619f7f82777bede8bfe14a2", func := "loop.example/g00986/laws.FnExactTagsOk", spec := "fnExactTagsOk", apart := false }
def FnExactTagsOkSaid : Prop := fnExactTagsOkRow.holds Try.pinned (OpenSpec.ofChange fnExactTagsOkSpec)

/-- ITS FALSE NEIGHBOUR: 'it returns false'. Refute it at one input. -/
def fnExactTagsOkWrong : ChangeSpec := { name := "fnExactTagsOk", fn := fun _ => fun
  | [d] => { results := [.lit (.bool false)], args := [d] }
  | _ => none }
def FnExactTagsOkWrongFalsely : Prop := fnExactTagsOkRow.holds Try.pinned (OpenSpec.ofChange fnExactTagsOkWrong)

/-- 'laws.FnExactTakeTag': WHATEVER THE INPUT: true; the input reads as it did. -/
def fnExactTakeTagSpec : ChangeSpec := { name := "fnExactTakeTag", fn := fun _ => fun
  | [d] => { results := [.lit (.bool true)], args := [d] }
  | _ => none }
def fnExactTakeTagRow : OpenClaim := { program := "ytoedgncidoldaab", sum := "b95ec56f0e7699bf99cfdcc33544a9c64e9bed03e619f7f82777bede8bfe14a2", func := "loop.example/g00986/laws.FnExactTakeTag", spec := "fnExactTakeTag", apart := false }
def FnExactTakeTagSaid : Prop := fnExactTakeTagRow.holds Try.pinned (OpenSpec.ofChange fnExactTakeTagSpec)

/-- ITS FALSE NEIGHBOUR: 'it returns false'. Refute it at one input. -/
def fnExactTakeTagWrong : ChangeSpec := { name := "fnExactTakeTag", fn := fun _ => fun
  | [d] => { results := [.lit (.bool false)], args := [d] }
  | _ => none }
def FnExactTakeTagWrongFalsely : Prop := fnExactTakeTagRow.holds Try.pinned (OpenSpec.ofChange fnExactTakeTagWrong)

/-- 'laws.FnExactFreeTag': WHATEVER THE INPUT: true; the input reads as it did. -/
def fnExactFreeTagSpec : ChangeSpec := { name := "fnExactFreeTag", fn := fun _ => fun
  | [d1, d2] => { results := [.lit (.bool true)], args := [d1, d2] }
  | _ => none }
def fnExactFreeTagRow : OpenClaim := { program := "ytoedgncidoldaab", sum := "b95ec56f0e7699bf99cfdcc33544a9c64e9bed03e619f7f82777bede8bfe14a2", func := "loop.example/g00986/laws.FnExactFreeTag", spec := "fnExactFreeTag", apart := false }
def FnExactFreeTagSaid : Prop := fnExactFreeTagRow.holds Try.pinned (OpenSpec.ofChange fnExactFreeTagSpec)

/-- ITS FALSE NEIGHBOUR: 'it returns false'. Refute it at one input. -/
def fnExactFreeTagWrong : ChangeSpec := { name := "fnExactFreeTag", fn := fun _ => fun
  | [d1, d2] => { results := [.lit (.bool false)], args := [d1, d2] }
  | _ => none }
def FnExactFreeTagWrongFalsely : Prop := fnExactFreeTagRow.holds Try.pinned (OpenSpec.ofChange fnExactFreeTagWrong)

/-- 'laws.FnExactCountBusy': WHATEVER THE INPUT: true; the input reads as it did. -/
def fnExactCountBusySpec : ChangeSpec := { name := "fnExactCountBusy", fn := fun _ => fun
  | [d] => { results := [.lit (.bool true)], args := [d] }
  | _ => none }
def fnExactCountBusyRow : OpenClaim := { program := "ytoedgncidoldaab", sum := "b95ec56f0e7699bf99cfdcc33544a9c64e9bed03e619f7f82777bede8bfe14a2", func := "loop.example/g00986/laws.FnExactCountBusy", spec := "fnExactCountBusy", apart := false }
def FnExactCountBusySaid : Prop := fnExactCountBusyRow.holds Try.pinned (OpenSpec.ofChange fnExactCountBusySpec)

/-- ITS FALSE NEIGHBOUR: 'it returns false'. Refute it at one input. -/
def fnExactCountBusyWrong : ChangeSpec := { name := "fnExactCountBusy", fn := fun _ => fun
  | [d] => { results := [.lit (.bool false)], args := [d] }
  | _ => none }
def FnExactCountBusyWrongFalsely : Prop := fnExactCountBusyRow.holds Try.pinned (OpenSpec.ofChange fnExactCountBusyWrong)

/-- 'laws.FnExactVectorsOk': WHATEVER THE INPUT: true; the input reads as it did. -/
def fnExactVectorsOkSpec : ChangeSpec := { name := "fnExactVectorsOk", fn := fun _ => fun
  | [d] => { results := [.lit (.bool true)], args := [d] }
  | _ => none }
def fnExactVectorsOkRow : OpenClaim := { program := "ytoedgncidoldaab", sum := "b95ec56f0e7699bf99cfdcc33544a9c64e9bed03e619f7f82777bede8bfe14a2", func := "loop.example/g00986/laws.FnExactVectorsOk", spec := "fnExactVectorsOk", apart := false }
def FnExactVectorsOkSaid : Prop := fnExactVectorsOkRow.holds Try.pinned (OpenSpec.ofChange fnExactVectorsOkSpec)

/-- ITS FALSE NEIGHBOUR: 'it returns false'. Refute it at one input. -/
def fnExactVectorsOkWrong : ChangeSpec := { name := "fnExactVectorsOk", fn := fun _ => fun
  | [d] => { results := [.lit (.bool false)], args := [d] }
  | _ => none }
def FnExactVectorsOkWrongFalsely : Prop := fnExactVectorsOkRow.holds Try.pinned (OpenSpec.ofChange fnExactVectorsOkWrong)

/-- 'laws.FnExactPendingOf': WHATEVER THE INPUT: true; the input reads as it did. -/
def fnExactPendingOfSpec : ChangeSpec := { name := "fnExactPendingOf", fn := fun _ => fun
  | [d] => { results := [.lit (.bool true)], args := [d] }
  | _ => none }
def fnExactPendingOfRow : OpenClaim := { program := "ytoedgncidoldaab", sum := "b95ec56f0e7699bf99cfdcc33544a9c64e9bed03e619f7f82777bede8bfe14a2", func := "loop.example/g00986/laws.FnExactPendingOf", spec := "fnExactPendingOf", apart := false }
def FnExactPendingOfSaid : Prop := fnExactPendingOfRow.holds Try.pinned (OpenSpec.ofChange fnExactPendingOfSpec)

/-- ITS FALSE NEIGHBOUR: 'it returns false'. Refute it at one input. -/
def fnExactPendingOfWrong : ChangeSpec := { name := "fnExactPendingOf", fn := fun _ => fun
  | [d] => { results := [.lit (.bool false)], args := [d] }
  | _ => none }
def FnExactPendingOfWrongFalsely : Prop := fnExactPendingOfRow.holds Try.pinned (OpenSpec.ofChange fnExactPendingOfWrong)

/- THE SECOND FORM. 'bulk': how many values and letters a reading holds, each counted each time it is reached (what is shared counts as often as it is met; a slice's spare places count too). A statement '..UptoSaid' is the law's where the arguments, and the package variables that the reading takes, are together of bulk at most 1048576: NARROWER than '..Said'. Prove '..Said' where nothing that the law and all that it calls make is longer than what came in: it says more and counts as full. Else prove '..UptoSaid'. A law counts once. -/
mutual
def uptoBulk {H : Type} : DataW H → Nat
  | .lit (.string bytes) => bytes.length + 1
  | .lit _ => 1
  | .nil => 1
  | .ptr d => uptoBulk d + 1
  | .slice elems spare => uptoBulkAll elems + uptoBulkAll spare + 1
  | .agg parts => uptoBulkAll parts + 1
  | .iface _ d => uptoBulk d + 1
  | .map entries => uptoBulkEntries entries + 1
  | .held _ => 1
def uptoBulkAll {H : Type} : List (DataW H) → Nat
  | [] => 0
  | d :: r => uptoBulk d + uptoBulkAll r
def uptoBulkEntries {H : Type} : List (Lit × DataW H) → Nat
  | [] => 0
  | x :: r => uptoBulkEntry x + uptoBulkEntries r
def uptoBulkEntry {H : Type} : Lit × DataW H → Nat
  | (.string bytes, d) => bytes.length + uptoBulk d + 1
  | (_, d) => uptoBulk d + 1
 end
def uptoSmall : (H : Type) → List (DataW H) → Bool := fun _ ds => decide (uptoBulkAll ds ≤ 1048576)
def OpenSpec.upto (s : _root_.Go.ChangeSpec) : _root_.Go.OpenSpec := { _root_.Go.OpenSpec.ofChange s with cond := some uptoSmall }

/-- 'laws.FnExactRegistersOk', WHERE WHAT IT READS IS OF BULK AT MOST 1048576: true; the input reads as it did. -/
def fnExactRegistersOkUptoRow : OpenClaim := { program := "ytoedgncidoldaab", sum := "b95ec56f0e7699bf99cfdcc33544a9c64e9bed03e619f7f82777bede8bfe14a2", func := "loop.example/g00986/laws.FnExactRegistersOk", spec := "fnExactRegistersOk", apart := false, narrowed := true }
def FnExactRegistersOkUptoSaid : Prop := fnExactRegistersOkUptoRow.holds Try.pinned (OpenSpec.upto fnExactRegistersOkSpec)

/-- 'laws.FnExactNewTags', WHERE WHAT IT READS IS OF BULK AT MOST 1048576: true; the input reads as it did. -/
def fnExactNewTagsUptoRow : OpenClaim := { program := "ytoedgncidoldaab", sum := "b95ec56f0e7699bf99cfdcc33544a9c64e9bed03e619f7f82777bede8bfe14a2", func := "loop.example/g00986/laws.FnExactNewTags", spec := "fnExactNewTags", apart := false, narrowed := true }
def FnExactNewTagsUptoSaid : Prop := fnExactNewTagsUptoRow.holds Try.pinned (OpenSpec.upto fnExactNewTagsSpec)

/-- 'laws.FnExactTagsOk', WHERE WHAT IT READS IS OF BULK AT MOST 1048576: true; the input reads as it did. -/
def fnExactTagsOkUptoRow : OpenClaim := { program := "ytoedgncidoldaab", sum := "b95ec56f0e7699bf99cfdcc33544a9c64e9bed03e619f7f82777bede8bfe14a2", func := "loop.example/g00986/laws.FnExactTagsOk", spec := "fnExactTagsOk", apart := false, narrowed := true }
def FnExactTagsOkUptoSaid : Prop := fnExactTagsOkUptoRow.holds Try.pinned (OpenSpec.upto fnExactTagsOkSpec)

/-- 'laws.FnExactTakeTag', WHERE WHAT IT READS IS OF BULK AT MOST 1048576: true; the input reads as it did. -/
def fnExactTakeTagUptoRow : OpenClaim := { program := "ytoedgncidoldaab", sum := "b95ec56f0e7699bf99cfdcc33544a9c64e9bed03e619f7f82777bede8bfe14a2", func := "loop.example/g00986/laws.FnExactTakeTag", spec := "fnExactTakeTag", apart := false, narrowed := true }
def FnExactTakeTagUptoSaid : Prop := fnExactTakeTagUptoRow.holds Try.pinned (OpenSpec.upto fnExactTakeTagSpec)

/-- 'laws.FnExactFreeTag', WHERE WHAT IT READS IS OF BULK AT MOST 1048576: true; the input reads as it did. -/
def fnExactFreeTagUptoRow : OpenClaim := { program := "ytoedgncidoldaab", sum := "b95ec56f0e7699bf99cfdcc33544a9c64e9bed03e619f7f82777bede8bfe14a2", func := "loop.example/g00986/laws.FnExactFreeTag", spec := "fnExactFreeTag", apart := false, narrowed := true }
def FnExactFreeTagUptoSaid : Prop := fnExactFreeTagUptoRow.holds Try.pinned (OpenSpec.upto fnExactFreeTagSpec)

/-- 'laws.FnExactCountBusy', WHERE WHAT IT READS IS OF BULK AT MOST 1048576: true; the input reads as it did. -/
def fnExactCountBusyUptoRow : OpenClaim := { program := "ytoedgncidoldaab", sum := "b95ec56f0e7699bf99cfdcc33544a9c64e9bed03e619f7f82777bede8bfe14a2", func := "loop.example/g00986/laws.FnExactCountBusy", spec := "fnExactCountBusy", apart := false, narrowed := true }
def FnExactCountBusyUptoSaid : Prop := fnExactCountBusyUptoRow.holds Try.pinned (OpenSpec.upto fnExactCountBusySpec)

/-- 'laws.FnExactVectorsOk', WHERE WHAT IT READS IS OF BULK AT MOST 1048576: true; the input reads as it did. -/
def fnExactVectorsOkUptoRow : OpenClaim := { program := "ytoedgncidoldaab", sum := "b95ec56f0e7699bf99cfdcc33544a9c64e9bed03e619f7f82777bede8bfe14a2", func := "loop.example/g00986/laws.FnExactVectorsOk", spec := "fnExactVectorsOk", apart := false, narrowed := true }
def FnExactVectorsOkUptoSaid : Prop := fnExactVectorsOkUptoRow.holds Try.pinned (OpenSpec.upto fnExactVectorsOkSpec)

/-- 'laws.FnExactPendingOf', WHERE WHAT IT READS IS OF BULK AT MOST 1048576: true; the input reads as it did. -/
def fnExactPendingOfUptoRow : OpenClaim := { program := "ytoedgncidoldaab", sum := "b95ec56f0e7699bf99cfdcc33544a9c64e9bed03e619f7f82777bede8bfe14a2", func := "loop.example/g00986/laws.FnExactPendingOf", spec := "fnExactPendingOf", apart := false, narrowed := true }
def FnExactPendingOfUptoSaid : Prop := fnExactPendingOfUptoRow.holds Try.pinned (OpenSpec.upto fnExactPendingOfSpec)

end Rows
end Go.Proofs.Ytoedgncidoldaab
