/-
  No cell of these rows narrows 'for every input' (looked for: loops, veiled, ifaces, maps, wideKeys, modest, calm, conditions, laid).
  DERIVED. THE GIVEN ROWS OF THIS SEAT. 11 by the template 'for every input the law returns true; each argument reads behind the call as it read before'; 0 by the template 'total and deterministic' (their statements: YteaaobklfhlgiaaTotals.lean).
  GIVEN WITH THE SEED: the statements are not yours to turn. If you find one false, say at which input.
  Laid BY PROGRAM, IN A SANDBOX (cutbox-rows.mjs): the forced cells as the released guide's own fill.sh prints them over the translation 7bf4124c883891f2… (all of the seat's roots in one cut). By AI agents, Wed Nov 11 2026. No macro, syntax, notation, axiom, sorry.
-/
import Derived.Test.YteaaobklfhlgiaaChecked
import GoSem.Claim
import GoSem.ClaimJoined
import GoSem.ClaimMapViews
import Derived.JoinedTies
import Derived.KernelRfl
namespace Go.Proofs.Yteaaobklfhlgiaa
/- THE CELL 'sum', in the pinned program and in every row, IS THE sha256 OF THE DUMP (.gsa) THAT YteaaobklfhlgiaaProg.lean LOADS. Nothing in Lean hashes anything: it is a label: what it is worth is what the hold of that sum in a sandbox is worth. -/
noncomputable def Try.pinned : Pinned := { name := "yteaaobklfhlgiaa", sum := "7bf4124c883891f291fce8907fda86e2d7eb429e97f951dae0ae3e3041a26fd3", checked := Try.checked }
namespace Rows
def none {H : Type} : Left H := { results := [], args := [] }

/-- 'laws.FnFields': WHATEVER THE INPUT: true; the input reads as it did. -/
def fnFieldsSpec : ChangeSpec := { name := "fnFields", fn := fun _ => fun
  | [d] => { results := [.lit (.bool true)], args := [d] }
  | _ => none }
def fnFieldsRow : OpenClaim := { program := "yteaaobklfhlgiaa", sum := "7bf4124c883891f291fce8907fda86e2d7eb429e97f951dae0ae3e3041a26fd3", func := "loop.example/g00986/laws.FnFields", spec := "fnFields", apart := false }
def FnFieldsSaid : Prop := fnFieldsRow.holds Try.pinned (OpenSpec.ofChange fnFieldsSpec)

/-- ITS FALSE NEIGHBOUR: 'it returns false'. Refute it at one input. -/
def fnFieldsWrong : ChangeSpec := { name := "fnFields", fn := fun _ => fun
  | [d] => { results := [.lit (.bool false)], args := [d] }
  | _ => none }
def FnFieldsWrongFalsely : Prop := fnFieldsRow.holds Try.pinned (OpenSpec.ofChange fnFieldsWrong)

/-- 'laws.FnExactFieldOf': WHATEVER THE INPUT: true; the input reads as it did. -/
def fnExactFieldOfSpec : ChangeSpec := { name := "fnExactFieldOf", fn := fun _ => fun
  | [d1, d2, d3] => { results := [.lit (.bool true)], args := [d1, d2, d3] }
  | _ => none }
def fnExactFieldOfRow : OpenClaim := { program := "yteaaobklfhlgiaa", sum := "7bf4124c883891f291fce8907fda86e2d7eb429e97f951dae0ae3e3041a26fd3", func := "loop.example/g00986/laws.FnExactFieldOf", spec := "fnExactFieldOf", apart := false }
def FnExactFieldOfSaid : Prop := fnExactFieldOfRow.holds Try.pinned (OpenSpec.ofChange fnExactFieldOfSpec)

/-- ITS FALSE NEIGHBOUR: 'it returns false'. Refute it at one input. -/
def fnExactFieldOfWrong : ChangeSpec := { name := "fnExactFieldOf", fn := fun _ => fun
  | [d1, d2, d3] => { results := [.lit (.bool false)], args := [d1, d2, d3] }
  | _ => none }
def FnExactFieldOfWrongFalsely : Prop := fnExactFieldOfRow.holds Try.pinned (OpenSpec.ofChange fnExactFieldOfWrong)

/-- 'laws.FnExactWithField': WHATEVER THE INPUT: true; the input reads as it did. -/
def fnExactWithFieldSpec : ChangeSpec := { name := "fnExactWithField", fn := fun _ => fun
  | [d1, d2, d3, d4] => { results := [.lit (.bool true)], args := [d1, d2, d3, d4] }
  | _ => none }
def fnExactWithFieldRow : OpenClaim := { program := "yteaaobklfhlgiaa", sum := "7bf4124c883891f291fce8907fda86e2d7eb429e97f951dae0ae3e3041a26fd3", func := "loop.example/g00986/laws.FnExactWithField", spec := "fnExactWithField", apart := false }
def FnExactWithFieldSaid : Prop := fnExactWithFieldRow.holds Try.pinned (OpenSpec.ofChange fnExactWithFieldSpec)

/-- ITS FALSE NEIGHBOUR: 'it returns false'. Refute it at one input. -/
def fnExactWithFieldWrong : ChangeSpec := { name := "fnExactWithField", fn := fun _ => fun
  | [d1, d2, d3, d4] => { results := [.lit (.bool false)], args := [d1, d2, d3, d4] }
  | _ => none }
def FnExactWithFieldWrongFalsely : Prop := fnExactWithFieldRow.holds Try.pinned (OpenSpec.ofChange fnExactWithFieldWrong)

/-- 'laws.FnExactCountOnes': WHATEVER THE INPUT: true; the input reads as it did. -/
def fnExactCountOnesSpec : ChangeSpec := { name := "fnExactCountOnes", fn := fun _ => fun
  | [d] => { results := [.lit (.bool true)], args := [d] }
  | _ => none }
def fnExactCountOnesRow : OpenClaim := { program := "yteaaobklfhlgiaa", sum := "7bf4124c883891f291fce8907fda86e2d7eb429e97f951dae0ae3e3041a26fd3", func := "loop.example/g00986/laws.FnExactCountOnes", spec := "fnExactCountOnes", apart := false }
def FnExactCountOnesSaid : Prop := fnExactCountOnesRow.holds Try.pinned (OpenSpec.ofChange fnExactCountOnesSpec)

/-- ITS FALSE NEIGHBOUR: 'it returns false'. Refute it at one input. -/
def fnExactCountOnesWrong : ChangeSpec := { name := "fnExactCountOnes", fn := fun _ => fun
  | [d] => { results := [.lit (.bool false)], args := [d] }
  | _ => none }
def FnExactCountOnesWrongFalsely : Prop := fnExactCountOnesRow.holds Try.pinned (OpenSpec.ofChange fnExactCountOnesWrong)

/-- 'laws.FnExactIsPower': WHATEVER THE INPUT: true; the input reads as it did. -/
def fnExactIsPowerSpec : ChangeSpec := { name := "fnExactIsPower", fn := fun _ => fun
  | [d] => { results := [.lit (.bool true)], args := [d] }
  | _ => none }
def fnExactIsPowerRow : OpenClaim := { program := "yteaaobklfhlgiaa", sum := "7bf4124c883891f291fce8907fda86e2d7eb429e97f951dae0ae3e3041a26fd3", func := "loop.example/g00986/laws.FnExactIsPower", spec := "fnExactIsPower", apart := false }
def FnExactIsPowerSaid : Prop := fnExactIsPowerRow.holds Try.pinned (OpenSpec.ofChange fnExactIsPowerSpec)

/-- ITS FALSE NEIGHBOUR: 'it returns false'. Refute it at one input. -/
def fnExactIsPowerWrong : ChangeSpec := { name := "fnExactIsPower", fn := fun _ => fun
  | [d] => { results := [.lit (.bool false)], args := [d] }
  | _ => none }
def FnExactIsPowerWrongFalsely : Prop := fnExactIsPowerRow.holds Try.pinned (OpenSpec.ofChange fnExactIsPowerWrong)

/-- 'laws.FnExactRoundUp': WHATEVER THE INPUT: true; the input reads as it did. -/
def fnExactRoundUpSpec : ChangeSpec := { name := "fnExactRoundUp", fn := fun _ => fun
  | [d1, d2] => { results := [.lit (.bool true)], args := [d1, d2] }
  | _ => none }
def fnExactRoundUpRow : OpenClaim := { program := "yteaaobklfhlgiaa", sum := "7bf4124c883891f291fce8907fda86e2d7eb429e97f951dae0ae3e3041a26fd3", func := "loop.example/g00986/laws.FnExactRoundUp", spec := "fnExactRoundUp", apart := false }
def FnExactRoundUpSaid : Prop := fnExactRoundUpRow.holds Try.pinned (OpenSpec.ofChange fnExactRoundUpSpec)

/-- ITS FALSE NEIGHBOUR: 'it returns false'. Refute it at one input. -/
def fnExactRoundUpWrong : ChangeSpec := { name := "fnExactRoundUp", fn := fun _ => fun
  | [d1, d2] => { results := [.lit (.bool false)], args := [d1, d2] }
  | _ => none }
def FnExactRoundUpWrongFalsely : Prop := fnExactRoundUpRow.holds Try.pinned (OpenSpec.ofChange fnExactRoundUpWrong)

/-- 'laws.FnExactMakeId': WHATEVER THE INPUT: true; the input reads as it did. -/
def fnExactMakeIdSpec : ChangeSpec := { name := "fnExactMakeId", fn := fun _ => fun
  | [d1, d2, d3] => { results := [.lit (.bool true)], args := [d1, d2, d3] }
  | _ => none }
def fnExactMakeIdRow : OpenClaim := { program := "yteaaobklfhlgiaa", sum := "7bf4124c883891f291fce8907fda86e2d7eb429e97f951dae0ae3e3041a26fd3", func := "loop.example/g00986/laws.FnExactMakeId", spec := "fnExactMakeId", apart := false }
def FnExactMakeIdSaid : Prop := fnExactMakeIdRow.holds Try.pinned (OpenSpec.ofChange fnExactMakeIdSpec)

/-- ITS FALSE NEIGHBOUR: 'it returns false'. Refute it at one input. -/
def fnExactMakeIdWrong : ChangeSpec := { name := "fnExactMakeId", fn := fun _ => fun
  | [d1, d2, d3] => { results := [.lit (.bool false)], args := [d1, d2, d3] }
  | _ => none }
def FnExactMakeIdWrongFalsely : Prop := fnExactMakeIdRow.holds Try.pinned (OpenSpec.ofChange fnExactMakeIdWrong)

/-- 'laws.FnExactIsId': WHATEVER THE INPUT: true; the input reads as it did. -/
def fnExactIsIdSpec : ChangeSpec := { name := "fnExactIsId", fn := fun _ => fun
  | [d] => { results := [.lit (.bool true)], args := [d] }
  | _ => none }
def fnExactIsIdRow : OpenClaim := { program := "yteaaobklfhlgiaa", sum := "7bf4124c883891f291fce8907fda86e2d7eb429e97f951dae0ae3e3041a26fd3", func := "loop.example/g00986/laws.FnExactIsId", spec := "fnExactIsId", apart := false }
def FnExactIsIdSaid : Prop := fnExactIsIdRow.holds Try.pinned (OpenSpec.ofChange fnExactIsIdSpec)

/-- ITS FALSE NEIGHBOUR: 'it returns false'. Refute it at one input. -/
def fnExactIsIdWrong : ChangeSpec := { name := "fnExactIsId", fn := fun _ => fun
  | [d] => { results := [.lit (.bool false)], args := [d] }
  | _ => none }
def FnExactIsIdWrongFalsely : Prop := fnExactIsIdRow.holds Try.pinned (OpenSpec.ofChange fnExactIsIdWrong)

/-- 'laws.FnExactBusOf': WHATEVER THE INPUT: true; the input reads as it did. -/
def fnExactBusOfSpec : ChangeSpec := { name := "fnExactBusOf", fn := fun _ => fun
  | [d] => { results := [.lit (.bool true)], args := [d] }
  | _ => none }
def fnExactBusOfRow : OpenClaim := { program := "yteaaobklfhlgiaa", sum := "7bf4124c883891f291fce8907fda86e2d7eb429e97f951dae0ae3e3041a26fd3", func := "loop.example/g00986/laws.FnExactBusOf", spec := "fnExactBusOf", apart := false }
def FnExactBusOfSaid : Prop := fnExactBusOfRow.holds Try.pinned (OpenSpec.ofChange fnExactBusOfSpec)

/-- ITS FALSE NEIGHBOUR: 'it returns false'. Refute it at one input. -/
def fnExactBusOfWrong : ChangeSpec := { name := "fnExactBusOf", fn := fun _ => fun
  | [d] => { results := [.lit (.bool false)], args := [d] }
  | _ => none }
def FnExactBusOfWrongFalsely : Prop := fnExactBusOfRow.holds Try.pinned (OpenSpec.ofChange fnExactBusOfWrong)

/-- 'laws.FnExactDeviceOf': WHATEVER THE INPUT: true; the input reads as it did. -/
def fnExactDeviceOfSpec : ChangeSpec := { name := "fnExactDeviceOf", fn := fun _ => fun
  | [d] => { results := [.lit (.bool true)], args := [d] }
  | _ => none }
def fnExactDeviceOfRow : OpenClaim := { program := "yteaaobklfhlgiaa", sum := "7bf4124c883891f291fce8907fda86e2d7eb429e97f951dae0ae3e3041a26fd3", func := "loop.example/g00986/laws.FnExactDeviceOf", spec := "fnExactDeviceOf", apart := false }
def FnExactDeviceOfSaid : Prop := fnExactDeviceOfRow.holds Try.pinned (OpenSpec.ofChange fnExactDeviceOfSpec)

/-- ITS FALSE NEIGHBOUR: 'it returns false'. Refute it at one input. -/
def fnExactDeviceOfWrong : ChangeSpec := { name := "fnExactDeviceOf", fn := fun _ => fun
  | [d] => { results := [.lit (.bool false)], args := [d] }
  | _ => none }
def FnExactDeviceOfWrongFalsely : Prop := fnExactDeviceOfRow.holds Try.pinned (OpenSpec.ofChange fnExactDeviceOfWrong)

/-- 'laws.FnExactFunctionOf': WHATEVER THE INPUT: true; the input reads as it did. -/
def fnExactFunctionOfSpec : ChangeSpec := { name := "fnExactFunctionOf", fn := fun _ => fun
  | [d] => { results := [.lit (.bool true)], args := [d] }
  | _ => none }
def fnExactFunctionOfRow : OpenClaim := { program := "yteaaobklfhlgiaa", sum := "7bf4124c883891f291fce8907fda86e2d7eb429e97f951dae0ae3e3041a26fd3", func := "loop.example/g00986/laws.FnExactFunctionOf", spec := "fnExactFunctionOf", apart := false }
def FnExactFunctionOfSaid : Prop := fnExactFunctionOfRow.holds Try.pinned (OpenSpec.ofChange fnExactFunctionOfSpec)

/-- ITS FALSE NEIGHBOUR: 'it returns false'. Refute it at one input. -/
def fnExactFunctionOfWrong : ChangeSpec := { name := "fnExactFunctionOf", fn := fun _ => fun
  | [d] => { results := [.lit (.bool false)], args := [d] }
  | _ => none }
def FnExactFunctionOfWrongFalsely : Prop := fnExactFunctionOfRow.holds Try.pinned (OpenSpec.ofChange fnExactFunctionOfWrong)

/- THE SECOND FORM. 'bulk': how many values and letters a reading holds, each counted each time it is reached (what is shared counts as often as it is met; a slice's spare places count too). A statement '..UptoSaid' is the law's where the arguments, and the package variables that the reading takes, are together of bulk at most 1048576: NARROWER than '..Said'. Prove '..Said' where nothing that the law and all that it calls make is longer than what came in: it says more and counts as full. Else prove '..UptoSaid'. A law counts once. -/
mutual
def uptoBulk {H : Type} : DataW H → Nat
  | .lit (.string bytes) => bytes.length + 1
  | .lit _ => 1
  | .nil => 1
  | .ptr d => uptoBulk d + 1
  | .slice elems spare => uptoBulkAll elems + uptoBulkAll spare + 1
  | .agg parts => uptoBulkAll parts + 1
  | .iface _ d => uptoBulk d + 1
  | .map entries => uptoBulkEntries entries + 1
  | .held _ => 1
def uptoBulkAll {H : Type} : List (DataW H) → Nat
  | [] => 0
  | d :: r => uptoBulk d + uptoBulkAll r
def uptoBulkEntries {H : Type} : List (Lit × DataW H) → Nat
  | [] => 0
  | x :: r => uptoBulkEntry x + uptoBulkEntries r
def uptoBulkEntry {H : Type} : Lit × DataW H → Nat
  | (.string bytes, d) => bytes.length + uptoBulk d + 1
  | (_, d) => uptoBulk d + 1
 end
def uptoSmall : (H : Type) → List (DataW H) → Bool := fun _ ds => decide (uptoBulkAll ds ≤ 1048576)
def OpenSpec.upto (s : _root_.Go.ChangeSpec) : _root_.Go.OpenSpec := { _root_.Go.OpenSpec.ofChange s with cond := some uptoSmall }

/-- 'laws.FnFields', WHERE WHAT IT READS IS OF BULK AT MOST 1048576: true; the input reads as it did. -/
def fnFieldsUptoRow : OpenClaim := { program := "yteaaobklfhlgiaa", sum := "7bf4124c883891f291fce8907fda86e2d7eb429e97f951dae0ae3e3041a26fd3", func := "loop.example/g00986/laws.FnFields", spec := "fnFields", apart := false, narrowed := true }
def FnFieldsUptoSaid : Prop := fnFieldsUptoRow.holds Try.pinned (OpenSpec.upto fnFieldsSpec)

/-- 'laws.FnExactFieldOf', WHERE WHAT IT READS IS OF BULK AT MOST 1048576: true; the input reads as it did. -/
def fnExactFieldOfUptoRow : OpenClaim := { program := "yteaaobklfhlgiaa", sum := "7bf4124c883891f291fce8907fda86e2d7eb429e97f951dae0ae3e3041a26fd3", func := "loop.example/g00986/laws.FnExactFieldOf", spec := "fnExactFieldOf", apart := false, narrowed := true }
def FnExactFieldOfUptoSaid : Prop := fnExactFieldOfUptoRow.holds Try.pinned (OpenSpec.upto fnExactFieldOfSpec)

/-- 'laws.FnExactWithField', WHERE WHAT IT READS IS OF BULK AT MOST 1048576: true; the input reads as it did. -/
def fnExactWithFieldUptoRow : OpenClaim := { program := "yteaaobklfhlgiaa", sum := "7bf4124c883891f291fce8907fda86e2d7eb429e97f951dae0ae3e3041a26fd3", func := "loop.example/g00986/laws.FnExactWithField", spec := "fnExactWithField", apart := false, narrowed := true }
def FnExactWithFieldUptoSaid : Prop := fnExactWithFieldUptoRow.holds Try.pinned (OpenSpec.upto fnExactWithFieldSpec)

/-- 'laws.FnExactCountOnes', WHERE WHAT IT READS IS OF BULK AT MOST 1048576: true; the input reads as it did. -/
def fnExactCountOnesUptoRow : OpenClaim := { program := "yteaaobklfhlgiaa", sum := "7bf4124c883891f291fce8907fda86e2d7eb429e97f951dae0ae3e3041a26fd3", func := "loop.example/g00986/laws.FnExactCountOnes", spec := "fnExactCountOnes", apart := false, narrowed := true }
def FnExactCountOnesUptoSaid : Prop := fnExactCountOnesUptoRow.holds Try.pinned (OpenSpec.upto fnExactCountOnesSpec)

/-- 'laws.FnExactIsPower', WHERE WHAT IT READS IS OF BULK AT MOST 1048576: true; the input reads as it did. -/
def fnExactIsPowerUptoRow : OpenClaim := { program := "yteaaobklfhlgiaa", sum := "7bf4124c883891f291fce8907fda86e2d7eb429e97f951dae0ae3e3041a26fd3", func := "loop.example/g00986/laws.FnExactIsPower", spec := "fnExactIsPower", apart := false, narrowed := true }
def FnExactIsPowerUptoSaid : Prop := fnExactIsPowerUptoRow.holds Try.pinned (OpenSpec.upto fnExactIsPowerSpec)

/-- 'laws.FnExactRoundUp', WHERE WHAT IT READS IS OF BULK AT MOST 1048576: true; the input reads as it did. -/
def fnExactRoundUpUptoRow : OpenClaim := { program := "yteaaobklfhlgiaa", sum := "7bf4124c883891f291fce8907fda86e2d7eb429e97f951dae0ae3e3041a26fd3", func := "loop.example/g00986/laws.FnExactRoundUp", spec := "fnExactRoundUp", apart := false, narrowed := true }
def FnExactRoundUpUptoSaid : Prop := fnExactRoundUpUptoRow.holds Try.pinned (OpenSpec.upto fnExactRoundUpSpec)

/-- 'laws.FnExactMakeId', WHERE WHAT IT READS IS OF BULK AT MOST 1048576: true; the input reads as it did. -/
def fnExactMakeIdUptoRow : OpenClaim := { program := "yteaaobklfhlgiaa", sum := "7bf4124c883891f291fce8907fda86e2d7eb429e97f951dae0ae3e3041a26fd3", func := "loop.example/g00986/laws.FnExactMakeId", spec := "fnExactMakeId", apart := false, narrowed := true }
def FnExactMakeIdUptoSaid : Prop := fnExactMakeIdUptoRow.holds Try.pinned (OpenSpec.upto fnExactMakeIdSpec)

/-- 'laws.FnExactIsId', WHERE WHAT IT READS IS OF BULK AT MOST 1048576: true; the input reads as it did. -/
def fnExactIsIdUptoRow : OpenClaim := { program := "yteaaobklfhlgiaa", sum := "7bf4124c883891f291fce8907fda86e2d7eb429e97f951dae0ae3e3041a26fd3", func := "loop.example/g00986/laws.FnExactIsId", spec := "fnExactIsId", apart := false, narrowed := true }
def FnExactIsIdUptoSaid : Prop := fnExactIsIdUptoRow.holds Try.pinned (OpenSpec.upto fnExactIsIdSpec)

/-- 'laws.FnExactBusOf', WHERE WHAT IT READS IS OF BULK AT MOST 1048576: true; the input reads as it did. -/
def fnExactBusOfUptoRow : OpenClaim := { program := "yteaaobklfhlgiaa", sum := "7bf4124c883891f291fce8907fda86e2d7eb429e97f951dae0ae3e3041a26fd3", func := "loop.example/g00986/laws.FnExactBusOf", spec := "fnExactBusOf", apart := false, narrowed := true }
def FnExactBusOfUptoSaid : Prop := fnExactBusOfUptoRow.holds Try.pinned (OpenSpec.upto fnExactBusOfSpec)

/-- 'laws.FnExactDeviceOf', WHERE WHAT IT READS IS OF BULK AT MOST 1048576: true; the input reads as it did. -/
def fnExactDeviceOfUptoRow : OpenClaim := { program := "yteaaobklfhlgiaa", sum := "7bf4124c883891f291fce8907fda86e2d7eb429e97f951dae0ae3e3041a26fd3", func := "loop.example/g00986/laws.FnExactDeviceOf", spec := "fnExactDeviceOf", apart := false, narrowed := true }
def FnExactDeviceOfUptoSaid : Prop := fnExactDeviceOfUptoRow.holds Try.pinned (OpenSpec.upto fnExactDeviceOfSpec)

/-- 'laws.FnExactFunctionOf', WHERE WHAT IT READS IS OF BULK AT MOST 1048576: true; the input reads as it did. -/
def fnExactFunctionOfUptoRow : OpenClaim := { program := "yteaaobklfhlgiaa", sum := "7bf4124c883891f291fce8907fda86e2d7eb429e97f951dae0ae3e3041a26fd3", func := "loop.example/g00986/laws.FnExactFunctionOf", spec := "fnExactFunctionOf", apart := false, narrowed := true }
def FnExactFunctionOfUptoSaid : Prop := fnExactFunctionOfUptoRow.holds Try.pinned (OpenSpec.upto fnExactFunctionOfSpec)

end Rows
end Go.Proofs.Yteaaobklfhlgiaa
