/-
  No cell of these rows narrows 'for every input' (looked for: loops, veiled, ifaces, maps, wideKeys, modest, calm, conditions, laid).
  DERIVED. THE GIVEN ROWS OF THIS SEAT. 12 by the template 'for every input the law returns true; each argument reads behind the call as it read before'; 0 by the template 'total and deterministic' (their statements: YtgmpehccklifdabTotals.lean).
  GIVEN WITH THE SEED: the statements are not yours to turn. If you find one false, say at which input.
  Laid BY PROGRAM, IN A SANDBOX (cutbox-rows.mjs): the forced cells as the released guide's own fill.sh prints them over the translation 0e9b83675e60abbc… (all of the seat's roots in one cut). By AI agents, Wed Nov 11 2026. No macro, syntax, notation, axiom, sorry.
-/
import Derived.Test.YtgmpehccklifdabChecked
import GoSem.Claim
import GoSem.ClaimJoined
import GoSem.ClaimMapViews
import Derived.JoinedTies
import Derived.KernelRfl
namespace Go.Proofs.Ytgmpehccklifdab
/- THE CELL 'sum', in the pinned program and in every row, IS THE sha256 OF THE DUMP (.gsa) THAT YtgmpehccklifdabProg.lean LOADS. Nothing in Lean hashes anything: it is a label: what it is worth is what the hold of that sum in a sandbox is worth. -/
noncomputable def Try.pinned : Pinned := { name := "ytgmpehccklifdab", sum := "0e9b83675e60abbcef1cae191c92df9f1e23dec1fde130742a414286822d4c8a", checked := Try.checked }
namespace Rows
def none {H : Type} : Left H := { results := [], args := [] }

/-- 'laws.FnExactMayPass': WHATEVER THE INPUT: true; the input reads as it did. -/
def fnExactMayPassSpec : ChangeSpec := { name := "fnExactMayPass", fn := fun _ => fun
  | [d1, d2] => { results := [.lit (.bool true)], args := [d1, d2] }
  | _ => none }
def fnExactMayPassRow : OpenClaim := { program := "ytgmpehccklifdab", sum := "0e9b83675e60abbcef1cae191c92df9f1e23dec1fde130742a414286822d4c8a", func := "loop.example/g00986/laws.FnExactMayPass", spec := "fnExactMayPass", unfollowed := true, recurses := true, apart := false }
def FnExactMayPassSaid : Prop := fnExactMayPassRow.holds Try.pinned (OpenSpec.ofChange fnExactMayPassSpec)

/-- ITS FALSE NEIGHBOUR: 'it returns false'. Refute it at one input. -/
def fnExactMayPassWrong : ChangeSpec := { name := "fnExactMayPass", fn := fun _ => fun
  | [d1, d2] => { results := [.lit (.bool false)], args := [d1, d2] }
  | _ => none }
def FnExactMayPassWrongFalsely : Prop := fnExactMayPassRow.holds Try.pinned (OpenSpec.ofChange fnExactMayPassWrong)

/-- 'laws.FnExactMustPass': WHATEVER THE INPUT: true; the input reads as it did. -/
def fnExactMustPassSpec : ChangeSpec := { name := "fnExactMustPass", fn := fun _ => fun
  | [d1, d2] => { results := [.lit (.bool true)], args := [d1, d2] }
  | _ => none }
def fnExactMustPassRow : OpenClaim := { program := "ytgmpehccklifdab", sum := "0e9b83675e60abbcef1cae191c92df9f1e23dec1fde130742a414286822d4c8a", func := "loop.example/g00986/laws.FnExactMustPass", spec := "fnExactMustPass", unfollowed := true, recurses := true, apart := false }
def FnExactMustPassSaid : Prop := fnExactMustPassRow.holds Try.pinned (OpenSpec.ofChange fnExactMustPassSpec)

/-- ITS FALSE NEIGHBOUR: 'it returns false'. Refute it at one input. -/
def fnExactMustPassWrong : ChangeSpec := { name := "fnExactMustPass", fn := fun _ => fun
  | [d1, d2] => { results := [.lit (.bool false)], args := [d1, d2] }
  | _ => none }
def FnExactMustPassWrongFalsely : Prop := fnExactMustPassRow.holds Try.pinned (OpenSpec.ofChange fnExactMustPassWrong)

/-- 'laws.FnOrders': WHATEVER THE INPUT: true; the input reads as it did. -/
def fnOrdersSpec : ChangeSpec := { name := "fnOrders", fn := fun _ => fun
  | [d] => { results := [.lit (.bool true)], args := [d] }
  | _ => none }
def fnOrdersRow : OpenClaim := { program := "ytgmpehccklifdab", sum := "0e9b83675e60abbcef1cae191c92df9f1e23dec1fde130742a414286822d4c8a", func := "loop.example/g00986/laws.FnOrders", spec := "fnOrders", unfollowed := true, recurses := true, apart := false }
def FnOrdersSaid : Prop := fnOrdersRow.holds Try.pinned (OpenSpec.ofChange fnOrdersSpec)

/-- ITS FALSE NEIGHBOUR: 'it returns false'. Refute it at one input. -/
def fnOrdersWrong : ChangeSpec := { name := "fnOrders", fn := fun _ => fun
  | [d] => { results := [.lit (.bool false)], args := [d] }
  | _ => none }
def FnOrdersWrongFalsely : Prop := fnOrdersRow.holds Try.pinned (OpenSpec.ofChange fnOrdersWrong)

/-- 'laws.FnExactCreditsOk': WHATEVER THE INPUT: true; the input reads as it did. -/
def fnExactCreditsOkSpec : ChangeSpec := { name := "fnExactCreditsOk", fn := fun _ => fun
  | [d] => { results := [.lit (.bool true)], args := [d] }
  | _ => none }
def fnExactCreditsOkRow : OpenClaim := { program := "ytgmpehccklifdab", sum := "0e9b83675e60abbcef1cae191c92df9f1e23dec1fde130742a414286822d4c8a", func := "loop.example/g00986/laws.FnExactCreditsOk", spec := "fnExactCreditsOk", apart := false }
def FnExactCreditsOkSaid : Prop := fnExactCreditsOkRow.holds Try.pinned (OpenSpec.ofChange fnExactCreditsOkSpec)

/-- ITS FALSE NEIGHBOUR: 'it returns false'. Refute it at one input. -/
def fnExactCreditsOkWrong : ChangeSpec := { name := "fnExactCreditsOk", fn := fun _ => fun
  | [d] => { results := [.lit (.bool false)], args := [d] }
  | _ => none }
def FnExactCreditsOkWrongFalsely : Prop := fnExactCreditsOkRow.holds Try.pinned (OpenSpec.ofChange fnExactCreditsOkWrong)

/-- 'laws.FnExactCanSend': WHATEVER THE INPUT: true; the input reads as it did. -/
def fnExactCanSendSpec : ChangeSpec := { name := "fnExactCanSend", fn := fun _ => fun
  | [d1, d2] => { results := [.lit (.bool true)], args := [d1, d2] }
  | _ => none }
def fnExactCanSendRow : OpenClaim := { program := "ytgmpehccklifdab", sum := "0e9b83675e60abbcef1cae191c92df9f1e23dec1fde130742a414286822d4c8a", func := "loop.example/g00986/laws.FnExactCanSend", spec := "fnExactCanSend", unfollowed := true, recurses := true, apart := false }
def FnExactCanSendSaid : Prop := fnExactCanSendRow.holds Try.pinned (OpenSpec.ofChange fnExactCanSendSpec)

/-- ITS FALSE NEIGHBOUR: 'it returns false'. Refute it at one input. -/
def fnExactCanSendWrong : ChangeSpec := { name := "fnExactCanSend", fn := fun _ => fun
  | [d1, d2] => { results := [.lit (.bool false)], args := [d1, d2] }
  | _ => none }
def FnExactCanSendWrongFalsely : Prop := fnExactCanSendRow.holds Try.pinned (OpenSpec.ofChange fnExactCanSendWrong)

/-- 'laws.FnExactSameCredits': WHATEVER THE INPUT: true; the input reads as it did. -/
def fnExactSameCreditsSpec : ChangeSpec := { name := "fnExactSameCredits", fn := fun _ => fun
  | [d1, d2] => { results := [.lit (.bool true)], args := [d1, d2] }
  | _ => none }
def fnExactSameCreditsRow : OpenClaim := { program := "ytgmpehccklifdab", sum := "0e9b83675e60abbcef1cae191c92df9f1e23dec1fde130742a414286822d4c8a", func := "loop.example/g00986/laws.FnExactSameCredits", spec := "fnExactSameCredits", apart := false }
def FnExactSameCreditsSaid : Prop := fnExactSameCreditsRow.holds Try.pinned (OpenSpec.ofChange fnExactSameCreditsSpec)

/-- ITS FALSE NEIGHBOUR: 'it returns false'. Refute it at one input. -/
def fnExactSameCreditsWrong : ChangeSpec := { name := "fnExactSameCredits", fn := fun _ => fun
  | [d1, d2] => { results := [.lit (.bool false)], args := [d1, d2] }
  | _ => none }
def FnExactSameCreditsWrongFalsely : Prop := fnExactSameCreditsRow.holds Try.pinned (OpenSpec.ofChange fnExactSameCreditsWrong)

/-- 'laws.FnExactSpendCredits': WHATEVER THE INPUT: true; the input reads as it did. -/
def fnExactSpendCreditsSpec : ChangeSpec := { name := "fnExactSpendCredits", fn := fun _ => fun
  | [d1, d2] => { results := [.lit (.bool true)], args := [d1, d2] }
  | _ => none }
def fnExactSpendCreditsRow : OpenClaim := { program := "ytgmpehccklifdab", sum := "0e9b83675e60abbcef1cae191c92df9f1e23dec1fde130742a414286822d4c8a", func := "loop.example/g00986/laws.FnExactSpendCredits", spec := "fnExactSpendCredits", unfollowed := true, recurses := true, apart := false }
def FnExactSpendCreditsSaid : Prop := fnExactSpendCreditsRow.holds Try.pinned (OpenSpec.ofChange fnExactSpendCreditsSpec)

/-- ITS FALSE NEIGHBOUR: 'it returns false'. Refute it at one input. -/
def fnExactSpendCreditsWrong : ChangeSpec := { name := "fnExactSpendCredits", fn := fun _ => fun
  | [d1, d2] => { results := [.lit (.bool false)], args := [d1, d2] }
  | _ => none }
def FnExactSpendCreditsWrongFalsely : Prop := fnExactSpendCreditsRow.holds Try.pinned (OpenSpec.ofChange fnExactSpendCreditsWrong)

/-- 'laws.FnExactReturnCredits': WHATEVER THE INPUT: true; the input reads as it did. -/
def fnExactReturnCreditsSpec : ChangeSpec := { name := "fnExactReturnCredits", fn := fun _ => fun
  | [d1, d2] => { results := [.lit (.bool true)], args := [d1, d2] }
  | _ => none }
def fnExactReturnCreditsRow : OpenClaim := { program := "ytgmpehccklifdab", sum := "0e9b83675e60abbcef1cae191c92df9f1e23dec1fde130742a414286822d4c8a", func := "loop.example/g00986/laws.FnExactReturnCredits", spec := "fnExactReturnCredits", unfollowed := true, recurses := true, apart := false }
def FnExactReturnCreditsSaid : Prop := fnExactReturnCreditsRow.holds Try.pinned (OpenSpec.ofChange fnExactReturnCreditsSpec)

/-- ITS FALSE NEIGHBOUR: 'it returns false'. Refute it at one input. -/
def fnExactReturnCreditsWrong : ChangeSpec := { name := "fnExactReturnCredits", fn := fun _ => fun
  | [d1, d2] => { results := [.lit (.bool false)], args := [d1, d2] }
  | _ => none }
def FnExactReturnCreditsWrongFalsely : Prop := fnExactReturnCreditsRow.holds Try.pinned (OpenSpec.ofChange fnExactReturnCreditsWrong)

/-- 'laws.FnCredits': WHATEVER THE INPUT: true; the input reads as it did. -/
def fnCreditsSpec : ChangeSpec := { name := "fnCredits", fn := fun _ => fun
  | [d] => { results := [.lit (.bool true)], args := [d] }
  | _ => none }
def fnCreditsRow : OpenClaim := { program := "ytgmpehccklifdab", sum := "0e9b83675e60abbcef1cae191c92df9f1e23dec1fde130742a414286822d4c8a", func := "loop.example/g00986/laws.FnCredits", spec := "fnCredits", unfollowed := true, recurses := true, apart := false }
def FnCreditsSaid : Prop := fnCreditsRow.holds Try.pinned (OpenSpec.ofChange fnCreditsSpec)

/-- ITS FALSE NEIGHBOUR: 'it returns false'. Refute it at one input. -/
def fnCreditsWrong : ChangeSpec := { name := "fnCredits", fn := fun _ => fun
  | [d] => { results := [.lit (.bool false)], args := [d] }
  | _ => none }
def FnCreditsWrongFalsely : Prop := fnCreditsRow.holds Try.pinned (OpenSpec.ofChange fnCreditsWrong)

/-- 'laws.FnExactHeldOf': WHATEVER THE INPUT: true; the input reads as it did. -/
def fnExactHeldOfSpec : ChangeSpec := { name := "fnExactHeldOf", fn := fun _ => fun
  | [d1, d2] => { results := [.lit (.bool true)], args := [d1, d2] }
  | _ => none }
def fnExactHeldOfRow : OpenClaim := { program := "ytgmpehccklifdab", sum := "0e9b83675e60abbcef1cae191c92df9f1e23dec1fde130742a414286822d4c8a", func := "loop.example/g00986/laws.FnExactHeldOf", spec := "fnExactHeldOf", unfollowed := true, recurses := true, apart := false }
def FnExactHeldOfSaid : Prop := fnExactHeldOfRow.holds Try.pinned (OpenSpec.ofChange fnExactHeldOfSpec)

/-- ITS FALSE NEIGHBOUR: 'it returns false'. Refute it at one input. -/
def fnExactHeldOfWrong : ChangeSpec := { name := "fnExactHeldOf", fn := fun _ => fun
  | [d1, d2] => { results := [.lit (.bool false)], args := [d1, d2] }
  | _ => none }
def FnExactHeldOfWrongFalsely : Prop := fnExactHeldOfRow.holds Try.pinned (OpenSpec.ofChange fnExactHeldOfWrong)

/-- 'laws.FnExactPassersOf': WHATEVER THE INPUT: true; the input reads as it did. -/
def fnExactPassersOfSpec : ChangeSpec := { name := "fnExactPassersOf", fn := fun _ => fun
  | [d] => { results := [.lit (.bool true)], args := [d] }
  | _ => none }
def fnExactPassersOfRow : OpenClaim := { program := "ytgmpehccklifdab", sum := "0e9b83675e60abbcef1cae191c92df9f1e23dec1fde130742a414286822d4c8a", func := "loop.example/g00986/laws.FnExactPassersOf", spec := "fnExactPassersOf", unfollowed := true, recurses := true, apart := false }
def FnExactPassersOfSaid : Prop := fnExactPassersOfRow.holds Try.pinned (OpenSpec.ofChange fnExactPassersOfSpec)

/-- ITS FALSE NEIGHBOUR: 'it returns false'. Refute it at one input. -/
def fnExactPassersOfWrong : ChangeSpec := { name := "fnExactPassersOf", fn := fun _ => fun
  | [d] => { results := [.lit (.bool false)], args := [d] }
  | _ => none }
def FnExactPassersOfWrongFalsely : Prop := fnExactPassersOfRow.holds Try.pinned (OpenSpec.ofChange fnExactPassersOfWrong)

/-- 'laws.FnExactIsLegalOrder': WHATEVER THE INPUT: true; the input reads as it did. -/
def fnExactIsLegalOrderSpec : ChangeSpec := { name := "fnExactIsLegalOrder", fn := fun _ => fun
  | [d1, d2] => { results := [.lit (.bool true)], args := [d1, d2] }
  | _ => none }
def fnExactIsLegalOrderRow : OpenClaim := { program := "ytgmpehccklifdab", sum := "0e9b83675e60abbcef1cae191c92df9f1e23dec1fde130742a414286822d4c8a", func := "loop.example/g00986/laws.FnExactIsLegalOrder", spec := "fnExactIsLegalOrder", unfollowed := true, recurses := true, apart := false }
def FnExactIsLegalOrderSaid : Prop := fnExactIsLegalOrderRow.holds Try.pinned (OpenSpec.ofChange fnExactIsLegalOrderSpec)

/-- ITS FALSE NEIGHBOUR: 'it returns false'. Refute it at one input. -/
def fnExactIsLegalOrderWrong : ChangeSpec := { name := "fnExactIsLegalOrder", fn := fun _ => fun
  | [d1, d2] => { results := [.lit (.bool false)], args := [d1, d2] }
  | _ => none }
def FnExactIsLegalOrderWrongFalsely : Prop := fnExactIsLegalOrderRow.holds Try.pinned (OpenSpec.ofChange fnExactIsLegalOrderWrong)

/- THE SECOND FORM. 'bulk': how many values and letters a reading holds, each counted each time it is reached (what is shared counts as often as it is met; a slice's spare places count too). A statement '..UptoSaid' is the law's where the arguments, and the package variables that the reading takes, are together of bulk at most 1048576: NARROWER than '..Said'. Prove '..Said' where nothing that the law and all that it calls make is longer than what came in: it says more and counts as full. Else prove '..UptoSaid'. A law counts once. -/
mutual
def uptoBulk {H : Type} : DataW H → Nat
  | .lit (.string bytes) => bytes.length + 1
  | .lit _ => 1
  | .nil => 1
  | .ptr d => uptoBulk d + 1
  | .slice elems spare => uptoBulkAll elems + uptoBulkAll spare + 1
  | .agg parts => uptoBulkAll parts + 1
  | .iface _ d => uptoBulk d + 1
  | .map entries => uptoBulkEntries entries + 1
  | .held _ => 1
def uptoBulkAll {H : Type} : List (DataW H) → Nat
  | [] => 0
  | d :: r => uptoBulk d + uptoBulkAll r
def uptoBulkEntries {H : Type} : List (Lit × DataW H) → Nat
  | [] => 0
  | x :: r => uptoBulkEntry x + uptoBulkEntries r
def uptoBulkEntry {H : Type} : Lit × DataW H → Nat
  | (.string bytes, d) => bytes.length + uptoBulk d + 1
  | (_, d) => uptoBulk d + 1
 end
def uptoSmall : (H : Type) → List (DataW H) → Bool := fun _ ds => decide (uptoBulkAll ds ≤ 1048576)
def OpenSpec.upto (s : _root_.Go.ChangeSpec) : _root_.Go.OpenSpec := { _root_.Go.OpenSpec.ofChange s with cond := some uptoSmall }

/-- 'laws.FnExactMayPass', WHERE WHAT IT READS IS OF BULK AT MOST 1048576: true; the input reads as it did. -/
def fnExactMayPassUptoRow : OpenClaim := { program := "ytgmpehccklifdab", sum := "0e9b83675e60abbcef1cae191c92df9f1e23dec1fde130742a414286822d4c8a", func := "loop.example/g00986/laws.FnExactMayPass", spec := "fnExactMayPass", unfollowed := true, recurses := true, apart := false, narrowed := true }
def FnExactMayPassUptoSaid : Prop := fnExactMayPassUptoRow.holds Try.pinned (OpenSpec.upto fnExactMayPassSpec)

/-- 'laws.FnExactMustPass', WHERE WHAT IT READS IS OF BULK AT MOST 1048576: true; the input reads as it did. -/
def fnExactMustPassUptoRow : OpenClaim := { program := "ytgmpehccklifdab", sum := "0e9b83675e60abbcef1cae191c92df9f1e23dec1fde130742a414286822d4c8a", func := "loop.example/g00986/laws.FnExactMustPass", spec := "fnExactMustPass", unfollowed := true, recurses := true, apart := false, narrowed := true }
def FnExactMustPassUptoSaid : Prop := fnExactMustPassUptoRow.holds Try.pinned (OpenSpec.upto fnExactMustPassSpec)

/-- 'laws.FnOrders', WHERE WHAT IT READS IS OF BULK AT MOST 1048576: true; the input reads as it did. -/
def fnOrdersUptoRow : OpenClaim := { program := "ytgmpehccklifdab", sum := "0e9b83675e60abbcef1cae191c92df9f1e23dec1fde130742a414286822d4c8a", func := "loop.example/g00986/laws.FnOrders", spec := "fnOrders", unfollowed := true, recurses := true, apart := false, narrowed := true }
def FnOrdersUptoSaid : Prop := fnOrdersUptoRow.holds Try.pinned (OpenSpec.upto fnOrdersSpec)

/-- 'laws.FnExactCreditsOk', WHERE WHAT IT READS IS OF BULK AT MOST 1048576: true; the input reads as it did. -/
def fnExactCreditsOkUptoRow : OpenClaim := { program := "ytgmpehccklifdab", sum := "0e9b83675e60abbcef1cae191c92df9f1e23dec1fde130742a414286822d4c8a", func := "loop.example/g00986/laws.FnExactCreditsOk", spec := "fnExactCreditsOk", apart := false, narrowed := true }
def FnExactCreditsOkUptoSaid : Prop := fnExactCreditsOkUptoRow.holds Try.pinned (OpenSpec.upto fnExactCreditsOkSpec)

/-- 'laws.FnExactCanSend', WHERE WHAT IT READS IS OF BULK AT MOST 1048576: true; the input reads as it did. -/
def fnExactCanSendUptoRow : OpenClaim := { program := "ytgmpehccklifdab", sum := "0e9b83675e60abbcef1cae191c92df9f1e23dec1fde130742a414286822d4c8a", func := "loop.example/g00986/laws.FnExactCanSend", spec := "fnExactCanSend", unfollowed := true, recurses := true, apart := false, narrowed := true }
def FnExactCanSendUptoSaid : Prop := fnExactCanSendUptoRow.holds Try.pinned (OpenSpec.upto fnExactCanSendSpec)

/-- 'laws.FnExactSameCredits', WHERE WHAT IT READS IS OF BULK AT MOST 1048576: true; the input reads as it did. -/
def fnExactSameCreditsUptoRow : OpenClaim := { program := "ytgmpehccklifdab", sum := "0e9b83675e60abbcef1cae191c92df9f1e23dec1fde130742a414286822d4c8a", func := "loop.example/g00986/laws.FnExactSameCredits", spec := "fnExactSameCredits", apart := false, narrowed := true }
def FnExactSameCreditsUptoSaid : Prop := fnExactSameCreditsUptoRow.holds Try.pinned (OpenSpec.upto fnExactSameCreditsSpec)

/-- 'laws.FnExactSpendCredits', WHERE WHAT IT READS IS OF BULK AT MOST 1048576: true; the input reads as it did. -/
def fnExactSpendCreditsUptoRow : OpenClaim := { program := "ytgmpehccklifdab", sum := "0e9b83675e60abbcef1cae191c92df9f1e23dec1fde130742a414286822d4c8a", func := "loop.example/g00986/laws.FnExactSpendCredits", spec := "fnExactSpendCredits", unfollowed := true, recurses := true, apart := false, narrowed := true }
def FnExactSpendCreditsUptoSaid : Prop := fnExactSpendCreditsUptoRow.holds Try.pinned (OpenSpec.upto fnExactSpendCreditsSpec)

/-- 'laws.FnExactReturnCredits', WHERE WHAT IT READS IS OF BULK AT MOST 1048576: true; the input reads as it did. -/
def fnExactReturnCreditsUptoRow : OpenClaim := { program := "ytgmpehccklifdab", sum := "0e9b83675e60abbcef1cae191c92df9f1e23dec1fde130742a414286822d4c8a", func := "loop.example/g00986/laws.FnExactReturnCredits", spec := "fnExactReturnCredits", unfollowed := true, recurses := true, apart := false, narrowed := true }
def FnExactReturnCreditsUptoSaid : Prop := fnExactReturnCreditsUptoRow.holds Try.pinned (OpenSpec.upto fnExactReturnCreditsSpec)

/-- 'laws.FnCredits', WHERE WHAT IT READS IS OF BULK AT MOST 1048576: true; the input reads as it did. -/
def fnCreditsUptoRow : OpenClaim := { program := "ytgmpehccklifdab", sum := "0e9b83675e60abbcef1cae191c92df9f1e23dec1fde130742a414286822d4c8a", func := "loop.example/g00986/laws.FnCredits", spec := "fnCredits", unfollowed := true, recurses := true, apart := false, narrowed := true }
def FnCreditsUptoSaid : Prop := fnCreditsUptoRow.holds Try.pinned (OpenSpec.upto fnCreditsSpec)

/-- 'laws.FnExactHeldOf', WHERE WHAT IT READS IS OF BULK AT MOST 1048576: true; the input reads as it did. -/
def fnExactHeldOfUptoRow : OpenClaim := { program := "ytgmpehccklifdab", sum := "0e9b83675e60abbcef1cae191c92df9f1e23dec1fde130742a414286822d4c8a", func := "loop.example/g00986/laws.FnExactHeldOf", spec := "fnExactHeldOf", unfollowed := true, recurses := true, apart := false, narrowed := true }
def FnExactHeldOfUptoSaid : Prop := fnExactHeldOfUptoRow.holds Try.pinned (OpenSpec.upto fnExactHeldOfSpec)

/-- 'laws.FnExactPassersOf', WHERE WHAT IT READS IS OF BULK AT MOST 1048576: true; the input reads as it did. -/
def fnExactPassersOfUptoRow : OpenClaim := { program := "ytgmpehccklifdab", sum := "0e9b83675e60abbcef1cae191c92df9f1e23dec1fde130742a414286822d4c8a", func := "loop.example/g00986/laws.FnExactPassersOf", spec := "fnExactPassersOf", unfollowed := true, recurses := true, apart := false, narrowed := true }
def FnExactPassersOfUptoSaid : Prop := fnExactPassersOfUptoRow.holds Try.pinned (OpenSpec.upto fnExactPassersOfSpec)

/-- 'laws.FnExactIsLegalOrder', WHERE WHAT IT READS IS OF BULK AT MOST 1048576: true; the input reads as it did. -/
def fnExactIsLegalOrderUptoRow : OpenClaim := { program := "ytgmpehccklifdab", sum := "0e9b83675e60abbcef1cae191c92df9f1e23dec1fde130742a414286822d4c8a", func := "loop.example/g00986/laws.FnExactIsLegalOrder", spec := "fnExactIsLegalOrder", unfollowed := true, recurses := true, apart := false, narrowed := true }
def FnExactIsLegalOrderUptoSaid : Prop := fnExactIsLegalOrderUptoRow.holds Try.pinned (OpenSpec.upto fnExactIsLegalOrderSpec)

end Rows
end Go.Proofs.Ytgmpehccklifdab
