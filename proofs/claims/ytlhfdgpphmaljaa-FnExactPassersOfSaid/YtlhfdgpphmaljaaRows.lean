/-
  No cell of these rows narrows 'for every input' (looked for: loops, veiled, ifaces, maps, wideKeys, modest, calm, conditions, laid).
  DERIVED. THE GIVEN ROWS OF THIS SEAT. 10 by the template 'for every input the law returns true; each argument reads behind the call as it read before'; 0 by the template 'total and deterministic' (their statements: YtlhfdgpphmaljaaTotals.lean).
  GIVEN WITH THE SEED: the statements are not yours to turn. If you find one false, say at which input.
  Laid BY PROGRAM, IN A SANDBOX (cutbox-rows.mjs): the forced cells as the released guide's own fill.sh prints them over the translation 902e20014a3923a0… (all of the seat's roots in one cut). By AI agents, Wed Nov 11 2026. No macro, syntax, notation, axiom, sorry.
-/
import Derived.Test.YtlhfdgpphmaljaaChecked
import GoSem.Claim
import GoSem.ClaimJoined
import GoSem.ClaimMapViews
import Derived.JoinedTies
import Derived.KernelRfl
namespace Go.Proofs.Ytlhfdgpphmaljaa
/- THE CELL 'sum', in the pinned program and in every row, IS THE sha256 OF THE DUMP (.gsa) THAT YtlhfdgpphmaljaaProg.lean LOADS. Nothing in Lean hashes anything: it is a label: what it is worth is what the hold of that sum in a sandbox is worth. -/
noncomputable def Try.pinned : Pinned := { name := "ytlhfdgpphmaljaa", sum := "902e20014a3923a09b3b4f22c577191ee6b14df50b4149697beeb87a28e28b5a", checked := Try.checked }
namespace Rows
def none {H : Type} : Left H := { results := [], args := [] }

/-- 'laws.FnExactRefusalOf': WHATEVER THE INPUT: true; the input reads as it did. -/
def fnExactRefusalOfSpec : ChangeSpec := { name := "fnExactRefusalOf", fn := fun _ => fun
  | [d1, d2, d3] => { results := [.lit (.bool true)], args := [d1, d2, d3] }
  | _ => none }
def fnExactRefusalOfRow : OpenClaim := { program := "ytlhfdgpphmaljaa", sum := "902e20014a3923a09b3b4f22c577191ee6b14df50b4149697beeb87a28e28b5a", func := "loop.example/g00986/laws.FnExactRefusalOf", spec := "fnExactRefusalOf", unfollowed := true, recurses := true, apart := false }
def FnExactRefusalOfSaid : Prop := fnExactRefusalOfRow.holds Try.pinned (OpenSpec.ofChange fnExactRefusalOfSpec)

/-- ITS FALSE NEIGHBOUR: 'it returns false'. Refute it at one input. -/
def fnExactRefusalOfWrong : ChangeSpec := { name := "fnExactRefusalOf", fn := fun _ => fun
  | [d1, d2, d3] => { results := [.lit (.bool false)], args := [d1, d2, d3] }
  | _ => none }
def FnExactRefusalOfWrongFalsely : Prop := fnExactRefusalOfRow.holds Try.pinned (OpenSpec.ofChange fnExactRefusalOfWrong)

/-- 'laws.FnExactNewGather': WHATEVER THE INPUT: true; the input reads as it did. -/
def fnExactNewGatherSpec : ChangeSpec := { name := "fnExactNewGather", fn := fun _ => fun
  | [d] => { results := [.lit (.bool true)], args := [d] }
  | _ => none }
def fnExactNewGatherRow : OpenClaim := { program := "ytlhfdgpphmaljaa", sum := "902e20014a3923a09b3b4f22c577191ee6b14df50b4149697beeb87a28e28b5a", func := "loop.example/g00986/laws.FnExactNewGather", spec := "fnExactNewGather", unfollowed := true, recurses := true, apart := false }
def FnExactNewGatherSaid : Prop := fnExactNewGatherRow.holds Try.pinned (OpenSpec.ofChange fnExactNewGatherSpec)

/-- ITS FALSE NEIGHBOUR: 'it returns false'. Refute it at one input. -/
def fnExactNewGatherWrong : ChangeSpec := { name := "fnExactNewGather", fn := fun _ => fun
  | [d] => { results := [.lit (.bool false)], args := [d] }
  | _ => none }
def FnExactNewGatherWrongFalsely : Prop := fnExactNewGatherRow.holds Try.pinned (OpenSpec.ofChange fnExactNewGatherWrong)

/-- 'laws.FnExactPassersOf': WHATEVER THE INPUT: true; the input reads as it did. -/
def fnExactPassersOfSpec : ChangeSpec := { name := "fnExactPassersOf", fn := fun _ => fun
  | [d] => { results := [.lit (.bool true)], args := [d] }
  | _ => none }
def fnExactPassersOfRow : OpenClaim := { program := "ytlhfdgpphmaljaa", sum := "902e20014a3923a09b3b4f22c577191ee6b14df50b4149697beeb87a28e28b5a", func := "loop.example/g00986/laws.FnExactPassersOf", spec := "fnExactPassersOf", unfollowed := true, recurses := true, apart := false }
def FnExactPassersOfSaid : Prop := fnExactPassersOfRow.holds Try.pinned (OpenSpec.ofChange fnExactPassersOfSpec)

/-- ITS FALSE NEIGHBOUR: 'it returns false'. Refute it at one input. -/
def fnExactPassersOfWrong : ChangeSpec := { name := "fnExactPassersOf", fn := fun _ => fun
  | [d] => { results := [.lit (.bool false)], args := [d] }
  | _ => none }
def FnExactPassersOfWrongFalsely : Prop := fnExactPassersOfRow.holds Try.pinned (OpenSpec.ofChange fnExactPassersOfWrong)

/-- 'laws.FnExactIsLegalOrder': WHATEVER THE INPUT: true; the input reads as it did. -/
def fnExactIsLegalOrderSpec : ChangeSpec := { name := "fnExactIsLegalOrder", fn := fun _ => fun
  | [d1, d2] => { results := [.lit (.bool true)], args := [d1, d2] }
  | _ => none }
def fnExactIsLegalOrderRow : OpenClaim := { program := "ytlhfdgpphmaljaa", sum := "902e20014a3923a09b3b4f22c577191ee6b14df50b4149697beeb87a28e28b5a", func := "loop.example/g00986/laws.FnExactIsLegalOrder", spec := "fnExactIsLegalOrder", unfollowed := true, recurses := true, apart := false }
def FnExactIsLegalOrderSaid : Prop := fnExactIsLegalOrderRow.holds Try.pinned (OpenSpec.ofChange fnExactIsLegalOrderSpec)

/-- ITS FALSE NEIGHBOUR: 'it returns false'. Refute it at one input. -/
def fnExactIsLegalOrderWrong : ChangeSpec := { name := "fnExactIsLegalOrder", fn := fun _ => fun
  | [d1, d2] => { results := [.lit (.bool false)], args := [d1, d2] }
  | _ => none }
def FnExactIsLegalOrderWrongFalsely : Prop := fnExactIsLegalOrderRow.holds Try.pinned (OpenSpec.ofChange fnExactIsLegalOrderWrong)

/-- 'laws.FnPassers': WHATEVER THE INPUT: true; the input reads as it did. -/
def fnPassersSpec : ChangeSpec := { name := "fnPassers", fn := fun _ => fun
  | [d] => { results := [.lit (.bool true)], args := [d] }
  | _ => none }
def fnPassersRow : OpenClaim := { program := "ytlhfdgpphmaljaa", sum := "902e20014a3923a09b3b4f22c577191ee6b14df50b4149697beeb87a28e28b5a", func := "loop.example/g00986/laws.FnPassers", spec := "fnPassers", unfollowed := true, recurses := true, apart := false }
def FnPassersSaid : Prop := fnPassersRow.holds Try.pinned (OpenSpec.ofChange fnPassersSpec)

/-- ITS FALSE NEIGHBOUR: 'it returns false'. Refute it at one input. -/
def fnPassersWrong : ChangeSpec := { name := "fnPassers", fn := fun _ => fun
  | [d] => { results := [.lit (.bool false)], args := [d] }
  | _ => none }
def FnPassersWrongFalsely : Prop := fnPassersRow.holds Try.pinned (OpenSpec.ofChange fnPassersWrong)

/-- 'laws.FnOrders': WHATEVER THE INPUT: true; the input reads as it did. -/
def fnOrdersSpec : ChangeSpec := { name := "fnOrders", fn := fun _ => fun
  | [d] => { results := [.lit (.bool true)], args := [d] }
  | _ => none }
def fnOrdersRow : OpenClaim := { program := "ytlhfdgpphmaljaa", sum := "902e20014a3923a09b3b4f22c577191ee6b14df50b4149697beeb87a28e28b5a", func := "loop.example/g00986/laws.FnOrders", spec := "fnOrders", unfollowed := true, recurses := true, apart := false }
def FnOrdersSaid : Prop := fnOrdersRow.holds Try.pinned (OpenSpec.ofChange fnOrdersSpec)

/-- ITS FALSE NEIGHBOUR: 'it returns false'. Refute it at one input. -/
def fnOrdersWrong : ChangeSpec := { name := "fnOrders", fn := fun _ => fun
  | [d] => { results := [.lit (.bool false)], args := [d] }
  | _ => none }
def FnOrdersWrongFalsely : Prop := fnOrdersRow.holds Try.pinned (OpenSpec.ofChange fnOrdersWrong)

/-- 'laws.FnExactSeenBefore': WHATEVER THE INPUT: true; the input reads as it did. -/
def fnExactSeenBeforeSpec : ChangeSpec := { name := "fnExactSeenBefore", fn := fun _ => fun
  | [d1, d2] => { results := [.lit (.bool true)], args := [d1, d2] }
  | _ => none }
def fnExactSeenBeforeRow : OpenClaim := { program := "ytlhfdgpphmaljaa", sum := "902e20014a3923a09b3b4f22c577191ee6b14df50b4149697beeb87a28e28b5a", func := "loop.example/g00986/laws.FnExactSeenBefore", spec := "fnExactSeenBefore", unfollowed := true, recurses := true, apart := false }
def FnExactSeenBeforeSaid : Prop := fnExactSeenBeforeRow.holds Try.pinned (OpenSpec.ofChange fnExactSeenBeforeSpec)

/-- ITS FALSE NEIGHBOUR: 'it returns false'. Refute it at one input. -/
def fnExactSeenBeforeWrong : ChangeSpec := { name := "fnExactSeenBefore", fn := fun _ => fun
  | [d1, d2] => { results := [.lit (.bool false)], args := [d1, d2] }
  | _ => none }
def FnExactSeenBeforeWrongFalsely : Prop := fnExactSeenBeforeRow.holds Try.pinned (OpenSpec.ofChange fnExactSeenBeforeWrong)

/-- 'laws.FnExactTakeAnswer': WHATEVER THE INPUT: true; the input reads as it did. -/
def fnExactTakeAnswerSpec : ChangeSpec := { name := "fnExactTakeAnswer", fn := fun _ => fun
  | [d1, d2] => { results := [.lit (.bool true)], args := [d1, d2] }
  | _ => none }
def fnExactTakeAnswerRow : OpenClaim := { program := "ytlhfdgpphmaljaa", sum := "902e20014a3923a09b3b4f22c577191ee6b14df50b4149697beeb87a28e28b5a", func := "loop.example/g00986/laws.FnExactTakeAnswer", spec := "fnExactTakeAnswer", unfollowed := true, recurses := true, apart := false }
def FnExactTakeAnswerSaid : Prop := fnExactTakeAnswerRow.holds Try.pinned (OpenSpec.ofChange fnExactTakeAnswerSpec)

/-- ITS FALSE NEIGHBOUR: 'it returns false'. Refute it at one input. -/
def fnExactTakeAnswerWrong : ChangeSpec := { name := "fnExactTakeAnswer", fn := fun _ => fun
  | [d1, d2] => { results := [.lit (.bool false)], args := [d1, d2] }
  | _ => none }
def FnExactTakeAnswerWrongFalsely : Prop := fnExactTakeAnswerRow.holds Try.pinned (OpenSpec.ofChange fnExactTakeAnswerWrong)

/-- 'laws.FnExactGatherAll': WHATEVER THE INPUT: true; the input reads as it did. -/
def fnExactGatherAllSpec : ChangeSpec := { name := "fnExactGatherAll", fn := fun _ => fun
  | [d1, d2] => { results := [.lit (.bool true)], args := [d1, d2] }
  | _ => none }
def fnExactGatherAllRow : OpenClaim := { program := "ytlhfdgpphmaljaa", sum := "902e20014a3923a09b3b4f22c577191ee6b14df50b4149697beeb87a28e28b5a", func := "loop.example/g00986/laws.FnExactGatherAll", spec := "fnExactGatherAll", unfollowed := true, recurses := true, apart := false }
def FnExactGatherAllSaid : Prop := fnExactGatherAllRow.holds Try.pinned (OpenSpec.ofChange fnExactGatherAllSpec)

/-- ITS FALSE NEIGHBOUR: 'it returns false'. Refute it at one input. -/
def fnExactGatherAllWrong : ChangeSpec := { name := "fnExactGatherAll", fn := fun _ => fun
  | [d1, d2] => { results := [.lit (.bool false)], args := [d1, d2] }
  | _ => none }
def FnExactGatherAllWrongFalsely : Prop := fnExactGatherAllRow.holds Try.pinned (OpenSpec.ofChange fnExactGatherAllWrong)

/-- 'laws.FnExactAnswersTo': WHATEVER THE INPUT: true; the input reads as it did. -/
def fnExactAnswersToSpec : ChangeSpec := { name := "fnExactAnswersTo", fn := fun _ => fun
  | [d1, d2, d3, d4] => { results := [.lit (.bool true)], args := [d1, d2, d3, d4] }
  | _ => none }
def fnExactAnswersToRow : OpenClaim := { program := "ytlhfdgpphmaljaa", sum := "902e20014a3923a09b3b4f22c577191ee6b14df50b4149697beeb87a28e28b5a", func := "loop.example/g00986/laws.FnExactAnswersTo", spec := "fnExactAnswersTo", unfollowed := true, recurses := true, apart := false }
def FnExactAnswersToSaid : Prop := fnExactAnswersToRow.holds Try.pinned (OpenSpec.ofChange fnExactAnswersToSpec)

/-- ITS FALSE NEIGHBOUR: 'it returns false'. Refute it at one input. -/
def fnExactAnswersToWrong : ChangeSpec := { name := "fnExactAnswersTo", fn := fun _ => fun
  | [d1, d2, d3, d4] => { results := [.lit (.bool false)], args := [d1, d2, d3, d4] }
  | _ => none }
def FnExactAnswersToWrongFalsely : Prop := fnExactAnswersToRow.holds Try.pinned (OpenSpec.ofChange fnExactAnswersToWrong)

/- THE SECOND FORM. 'bulk': how many values and letters a reading holds, each counted each time it is reached (what is shared counts as often as it is met; a slice's spare places count too). A statement '..UptoSaid' is the law's where the arguments, and the package variables that the reading takes, are together of bulk at most 1048576: NARROWER than '..Said'. Prove '..Said' where nothing that the law and all that it calls make is longer than what came in: it says more and counts as full. Else prove '..UptoSaid'. A law counts once. -/
mutual
def uptoBulk {H : Type} : DataW H → Nat
  | .lit (.string bytes) => bytes.length + 1
  | .lit _ => 1
  | .nil => 1
  | .ptr d => uptoBulk d + 1
  | .slice elems spare => uptoBulkAll elems + uptoBulkAll spare + 1
  | .agg parts => uptoBulkAll parts + 1
  | .iface _ d => uptoBulk d + 1
  | .map entries => uptoBulkEntries entries + 1
  | .held _ => 1
def uptoBulkAll {H : Type} : List (DataW H) → Nat
  | [] => 0
  | d :: r => uptoBulk d + uptoBulkAll r
def uptoBulkEntries {H : Type} : List (Lit × DataW H) → Nat
  | [] => 0
  | x :: r => uptoBulkEntry x + uptoBulkEntries r
def uptoBulkEntry {H : Type} : Lit × DataW H → Nat
  | (.string bytes, d) => bytes.length + uptoBulk d + 1
  | (_, d) => uptoBulk d + 1
 end
def uptoSmall : (H : Type) → List (DataW H) → Bool := fun _ ds => decide (uptoBulkAll ds ≤ 1048576)
def OpenSpec.upto (s : _root_.Go.ChangeSpec) : _root_.Go.OpenSpec := { _root_.Go.OpenSpec.ofChange s with cond := some uptoSmall }

/-- 'laws.FnExactRefusalOf', WHERE WHAT IT READS IS OF BULK AT MOST 1048576: true; the input reads as it did. -/
def fnExactRefusalOfUptoRow : OpenClaim := { program := "ytlhfdgpphmaljaa", sum := "902e20014a3923a09b3b4f22c577191ee6b14df50b4149697beeb87a28e28b5a", func := "loop.example/g00986/laws.FnExactRefusalOf", spec := "fnExactRefusalOf", unfollowed := true, recurses := true, apart := false, narrowed := true }
def FnExactRefusalOfUptoSaid : Prop := fnExactRefusalOfUptoRow.holds Try.pinned (OpenSpec.upto fnExactRefusalOfSpec)

/-- 'laws.FnExactNewGather', WHERE WHAT IT READS IS OF BULK AT MOST 1048576: true; the input reads as it did. -/
def fnExactNewGatherUptoRow : OpenClaim := { program := "ytlhfdgpphmaljaa", sum := "902e20014a3923a09b3b4f22c577191ee6b14df50b4149697beeb87a28e28b5a", func := "loop.example/g00986/laws.FnExactNewGather", spec := "fnExactNewGather", unfollowed := true, recurses := true, apart := false, narrowed := true }
def FnExactNewGatherUptoSaid : Prop := fnExactNewGatherUptoRow.holds Try.pinned (OpenSpec.upto fnExactNewGatherSpec)

/-- 'laws.FnExactPassersOf', WHERE WHAT IT READS IS OF BULK AT MOST 1048576: true; the input reads as it did. -/
def fnExactPassersOfUptoRow : OpenClaim := { program := "ytlhfdgpphmaljaa", sum := "902e20014a3923a09b3b4f22c577191ee6b14df50b4149697beeb87a28e28b5a", func := "loop.example/g00986/laws.FnExactPassersOf", spec := "fnExactPassersOf", unfollowed := true, recurses := true, apart := false, narrowed := true }
def FnExactPassersOfUptoSaid : Prop := fnExactPassersOfUptoRow.holds Try.pinned (OpenSpec.upto fnExactPassersOfSpec)

/-- 'laws.FnExactIsLegalOrder', WHERE WHAT IT READS IS OF BULK AT MOST 1048576: true; the input reads as it did. -/
def fnExactIsLegalOrderUptoRow : OpenClaim := { program := "ytlhfdgpphmaljaa", sum := "902e20014a3923a09b3b4f22c577191ee6b14df50b4149697beeb87a28e28b5a", func := "loop.example/g00986/laws.FnExactIsLegalOrder", spec := "fnExactIsLegalOrder", unfollowed := true, recurses := true, apart := false, narrowed := true }
def FnExactIsLegalOrderUptoSaid : Prop := fnExactIsLegalOrderUptoRow.holds Try.pinned (OpenSpec.upto fnExactIsLegalOrderSpec)

/-- 'laws.FnPassers', WHERE WHAT IT READS IS OF BULK AT MOST 1048576: true; the input reads as it did. -/
def fnPassersUptoRow : OpenClaim := { program := "ytlhfdgpphmaljaa", sum := "902e20014a3923a09b3b4f22c577191ee6b14df50b4149697beeb87a28e28b5a", func := "loop.example/g00986/laws.FnPassers", spec := "fnPassers", unfollowed := true, recurses := true, apart := false, narrowed := true }
def FnPassersUptoSaid : Prop := fnPassersUptoRow.holds Try.pinned (OpenSpec.upto fnPassersSpec)

/-- 'laws.FnOrders', WHERE WHAT IT READS IS OF BULK AT MOST 1048576: true; the input reads as it did. -/
def fnOrdersUptoRow : OpenClaim := { program := "ytlhfdgpphmaljaa", sum := "902e20014a3923a09b3b4f22c577191ee6b14df50b4149697beeb87a28e28b5a", func := "loop.example/g00986/laws.FnOrders", spec := "fnOrders", unfollowed := true, recurses := true, apart := false, narrowed := true }
def FnOrdersUptoSaid : Prop := fnOrdersUptoRow.holds Try.pinned (OpenSpec.upto fnOrdersSpec)

/-- 'laws.FnExactSeenBefore', WHERE WHAT IT READS IS OF BULK AT MOST 1048576: true; the input reads as it did. -/
def fnExactSeenBeforeUptoRow : OpenClaim := { program := "ytlhfdgpphmaljaa", sum := "902e20014a3923a09b3b4f22c577191ee6b14df50b4149697beeb87a28e28b5a", func := "loop.example/g00986/laws.FnExactSeenBefore", spec := "fnExactSeenBefore", unfollowed := true, recurses := true, apart := false, narrowed := true }
def FnExactSeenBeforeUptoSaid : Prop := fnExactSeenBeforeUptoRow.holds Try.pinned (OpenSpec.upto fnExactSeenBeforeSpec)

/-- 'laws.FnExactTakeAnswer', WHERE WHAT IT READS IS OF BULK AT MOST 1048576: true; the input reads as it did. -/
def fnExactTakeAnswerUptoRow : OpenClaim := { program := "ytlhfdgpphmaljaa", sum := "902e20014a3923a09b3b4f22c577191ee6b14df50b4149697beeb87a28e28b5a", func := "loop.example/g00986/laws.FnExactTakeAnswer", spec := "fnExactTakeAnswer", unfollowed := true, recurses := true, apart := false, narrowed := true }
def FnExactTakeAnswerUptoSaid : Prop := fnExactTakeAnswerUptoRow.holds Try.pinned (OpenSpec.upto fnExactTakeAnswerSpec)

/-- 'laws.FnExactGatherAll', WHERE WHAT IT READS IS OF BULK AT MOST 1048576: true; the input reads as it did. -/
def fnExactGatherAllUptoRow : OpenClaim := { program := "ytlhfdgpphmaljaa", sum := "902e20014a3923a09b3b4f22c577191ee6b14df50b4149697beeb87a28e28b5a", func := "loop.example/g00986/laws.FnExactGatherAll", spec := "fnExactGatherAll", unfollowed := true, recurses := true, apart := false, narrowed := true }
def FnExactGatherAllUptoSaid : Prop := fnExactGatherAllUptoRow.holds Try.pinned (OpenSpec.upto fnExactGatherAllSpec)

/-- 'laws.FnExactAnswersTo', WHERE WHAT IT READS IS OF BULK AT MOST 1048576: true; the input reads as it did. -/
def fnExactAnswersToUptoRow : OpenClaim := { program := "ytlhfdgpphmaljaa", sum := "902e20014a3923a09b3b4f22c577191ee6b14df50b4149697beeb87a28e28b5a", func := "loop.example/g00986/laws.FnExactAnswersTo", spec := "fnExactAnswersTo", unfollowed := true, recurses := true, apart := false, narrowed := true }
def FnExactAnswersToUptoSaid : Prop := fnExactAnswersToUptoRow.holds Try.pinned (OpenSpec.upto fnExactAnswersToSpec)

end Rows
end Go.Proofs.Ytlhfdgpphmaljaa
