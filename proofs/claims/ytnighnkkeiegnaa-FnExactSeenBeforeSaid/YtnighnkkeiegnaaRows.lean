/-
  No cell of these rows narrows 'for every input' (looked for: loops, veiled, ifaces, maps, wideKeys, modest, calm, conditions, laid).
  DERIVED. THE GIVEN ROWS OF THIS SEAT. 11 by the template 'for every input the law returns true; each argument reads behind the call as it read before'; 0 by the template 'total and deterministic' (their statements: YtnighnkkeiegnaaTotals.lean).
  GIVEN WITH THE SEED: the statements are not yours to turn. If you find one false, say at which input.
  Laid BY PROGRAM, IN A SANDBOX (cutbox-rows.mjs): the forced cells as the released guide's own fill.sh prints them over the translation f36b351127c076fb… (all of the seat's roots in one cut). By AI agents, Wed Nov 11 2026. No macro, syntax, notation, axiom, sorry.
-/
import Derived.Test.YtnighnkkeiegnaaChecked
import GoSem.Claim
import GoSem.ClaimJoined
import GoSem.ClaimMapViews
import Derived.JoinedTies
import Derived.KernelRfl
namespace Go.Proofs.Ytnighnkkeiegnaa
/- THE CELL 'sum', in the pinned program and in every row, IS THE sha256 OF THE DUMP (.gsa) THAT YtnighnkkeiegnaaProg.lean LOADS. Nothing in Lean hashes anything: it is a label: what it is worth is what the hold of that sum in a sandbox is worth. -/
noncomputable def Try.pinned : Pinned := { name := "ytnighnkkeiegnaa", sum := "f36b351127c076fbe7efcc5698df7f343fac4487c85659d632c34205708eee62", checked := Try.checked }
namespace Rows
def none {H : Type} : Left H := { results := [], args := [] }

/-- 'laws.FnExactNextOut': WHATEVER THE INPUT: true; the input reads as it did. -/
def fnExactNextOutSpec : ChangeSpec := { name := "fnExactNextOut", fn := fun _ => fun
  | [d] => { results := [.lit (.bool true)], args := [d] }
  | _ => none }
def fnExactNextOutRow : OpenClaim := { program := "ytnighnkkeiegnaa", sum := "f36b351127c076fbe7efcc5698df7f343fac4487c85659d632c34205708eee62", func := "loop.example/g00986/laws.FnExactNextOut", spec := "fnExactNextOut", unfollowed := true, recurses := true, apart := false }
def FnExactNextOutSaid : Prop := fnExactNextOutRow.holds Try.pinned (OpenSpec.ofChange fnExactNextOutSpec)

/-- ITS FALSE NEIGHBOUR: 'it returns false'. Refute it at one input. -/
def fnExactNextOutWrong : ChangeSpec := { name := "fnExactNextOut", fn := fun _ => fun
  | [d] => { results := [.lit (.bool false)], args := [d] }
  | _ => none }
def FnExactNextOutWrongFalsely : Prop := fnExactNextOutRow.holds Try.pinned (OpenSpec.ofChange fnExactNextOutWrong)

/-- 'laws.FnExactBlockedBy': WHATEVER THE INPUT: true; the input reads as it did. -/
def fnExactBlockedBySpec : ChangeSpec := { name := "fnExactBlockedBy", fn := fun _ => fun
  | [d] => { results := [.lit (.bool true)], args := [d] }
  | _ => none }
def fnExactBlockedByRow : OpenClaim := { program := "ytnighnkkeiegnaa", sum := "f36b351127c076fbe7efcc5698df7f343fac4487c85659d632c34205708eee62", func := "loop.example/g00986/laws.FnExactBlockedBy", spec := "fnExactBlockedBy", unfollowed := true, recurses := true, apart := false }
def FnExactBlockedBySaid : Prop := fnExactBlockedByRow.holds Try.pinned (OpenSpec.ofChange fnExactBlockedBySpec)

/-- ITS FALSE NEIGHBOUR: 'it returns false'. Refute it at one input. -/
def fnExactBlockedByWrong : ChangeSpec := { name := "fnExactBlockedBy", fn := fun _ => fun
  | [d] => { results := [.lit (.bool false)], args := [d] }
  | _ => none }
def FnExactBlockedByWrongFalsely : Prop := fnExactBlockedByRow.holds Try.pinned (OpenSpec.ofChange fnExactBlockedByWrong)

/-- 'laws.FnExactIsLegalOrder': WHATEVER THE INPUT: true; the input reads as it did. -/
def fnExactIsLegalOrderSpec : ChangeSpec := { name := "fnExactIsLegalOrder", fn := fun _ => fun
  | [d1, d2] => { results := [.lit (.bool true)], args := [d1, d2] }
  | _ => none }
def fnExactIsLegalOrderRow : OpenClaim := { program := "ytnighnkkeiegnaa", sum := "f36b351127c076fbe7efcc5698df7f343fac4487c85659d632c34205708eee62", func := "loop.example/g00986/laws.FnExactIsLegalOrder", spec := "fnExactIsLegalOrder", unfollowed := true, recurses := true, apart := false }
def FnExactIsLegalOrderSaid : Prop := fnExactIsLegalOrderRow.holds Try.pinned (OpenSpec.ofChange fnExactIsLegalOrderSpec)

/-- ITS FALSE NEIGHBOUR: 'it returns false'. Refute it at one input. -/
def fnExactIsLegalOrderWrong : ChangeSpec := { name := "fnExactIsLegalOrder", fn := fun _ => fun
  | [d1, d2] => { results := [.lit (.bool false)], args := [d1, d2] }
  | _ => none }
def FnExactIsLegalOrderWrongFalsely : Prop := fnExactIsLegalOrderRow.holds Try.pinned (OpenSpec.ofChange fnExactIsLegalOrderWrong)

/-- 'laws.FnExactChannelOk': WHATEVER THE INPUT: true; the input reads as it did. -/
def fnExactChannelOkSpec : ChangeSpec := { name := "fnExactChannelOk", fn := fun _ => fun
  | [d] => { results := [.lit (.bool true)], args := [d] }
  | _ => none }
def fnExactChannelOkRow : OpenClaim := { program := "ytnighnkkeiegnaa", sum := "f36b351127c076fbe7efcc5698df7f343fac4487c85659d632c34205708eee62", func := "loop.example/g00986/laws.FnExactChannelOk", spec := "fnExactChannelOk", unfollowed := true, recurses := true, apart := false }
def FnExactChannelOkSaid : Prop := fnExactChannelOkRow.holds Try.pinned (OpenSpec.ofChange fnExactChannelOkSpec)

/-- ITS FALSE NEIGHBOUR: 'it returns false'. Refute it at one input. -/
def fnExactChannelOkWrong : ChangeSpec := { name := "fnExactChannelOk", fn := fun _ => fun
  | [d] => { results := [.lit (.bool false)], args := [d] }
  | _ => none }
def FnExactChannelOkWrongFalsely : Prop := fnExactChannelOkRow.holds Try.pinned (OpenSpec.ofChange fnExactChannelOkWrong)

/-- 'laws.FnExactTellCredits': WHATEVER THE INPUT: true; the input reads as it did. -/
def fnExactTellCreditsSpec : ChangeSpec := { name := "fnExactTellCredits", fn := fun _ => fun
  | [d] => { results := [.lit (.bool true)], args := [d] }
  | _ => none }
def fnExactTellCreditsRow : OpenClaim := { program := "ytnighnkkeiegnaa", sum := "f36b351127c076fbe7efcc5698df7f343fac4487c85659d632c34205708eee62", func := "loop.example/g00986/laws.FnExactTellCredits", spec := "fnExactTellCredits", unfollowed := true, recurses := true, apart := false }
def FnExactTellCreditsSaid : Prop := fnExactTellCreditsRow.holds Try.pinned (OpenSpec.ofChange fnExactTellCreditsSpec)

/-- ITS FALSE NEIGHBOUR: 'it returns false'. Refute it at one input. -/
def fnExactTellCreditsWrong : ChangeSpec := { name := "fnExactTellCredits", fn := fun _ => fun
  | [d] => { results := [.lit (.bool false)], args := [d] }
  | _ => none }
def FnExactTellCreditsWrongFalsely : Prop := fnExactTellCreditsRow.holds Try.pinned (OpenSpec.ofChange fnExactTellCreditsWrong)

/-- 'laws.FnExactPutPacket': WHATEVER THE INPUT: true; the input reads as it did. -/
def fnExactPutPacketSpec : ChangeSpec := { name := "fnExactPutPacket", fn := fun _ => fun
  | [d1, d2] => { results := [.lit (.bool true)], args := [d1, d2] }
  | _ => none }
def fnExactPutPacketRow : OpenClaim := { program := "ytnighnkkeiegnaa", sum := "f36b351127c076fbe7efcc5698df7f343fac4487c85659d632c34205708eee62", func := "loop.example/g00986/laws.FnExactPutPacket", spec := "fnExactPutPacket", unfollowed := true, recurses := true, apart := false }
def FnExactPutPacketSaid : Prop := fnExactPutPacketRow.holds Try.pinned (OpenSpec.ofChange fnExactPutPacketSpec)

/-- ITS FALSE NEIGHBOUR: 'it returns false'. Refute it at one input. -/
def fnExactPutPacketWrong : ChangeSpec := { name := "fnExactPutPacket", fn := fun _ => fun
  | [d1, d2] => { results := [.lit (.bool false)], args := [d1, d2] }
  | _ => none }
def FnExactPutPacketWrongFalsely : Prop := fnExactPutPacketRow.holds Try.pinned (OpenSpec.ofChange fnExactPutPacketWrong)

/-- 'laws.FnExactFreePacket': WHATEVER THE INPUT: true; the input reads as it did. -/
def fnExactFreePacketSpec : ChangeSpec := { name := "fnExactFreePacket", fn := fun _ => fun
  | [d1, d2] => { results := [.lit (.bool true)], args := [d1, d2] }
  | _ => none }
def fnExactFreePacketRow : OpenClaim := { program := "ytnighnkkeiegnaa", sum := "f36b351127c076fbe7efcc5698df7f343fac4487c85659d632c34205708eee62", func := "loop.example/g00986/laws.FnExactFreePacket", spec := "fnExactFreePacket", unfollowed := true, recurses := true, apart := false }
def FnExactFreePacketSaid : Prop := fnExactFreePacketRow.holds Try.pinned (OpenSpec.ofChange fnExactFreePacketSpec)

/-- ITS FALSE NEIGHBOUR: 'it returns false'. Refute it at one input. -/
def fnExactFreePacketWrong : ChangeSpec := { name := "fnExactFreePacket", fn := fun _ => fun
  | [d1, d2] => { results := [.lit (.bool false)], args := [d1, d2] }
  | _ => none }
def FnExactFreePacketWrongFalsely : Prop := fnExactFreePacketRow.holds Try.pinned (OpenSpec.ofChange fnExactFreePacketWrong)

/-- 'laws.FnExactEnterQueue': WHATEVER THE INPUT: true; the input reads as it did. -/
def fnExactEnterQueueSpec : ChangeSpec := { name := "fnExactEnterQueue", fn := fun _ => fun
  | [d1, d2] => { results := [.lit (.bool true)], args := [d1, d2] }
  | _ => none }
def fnExactEnterQueueRow : OpenClaim := { program := "ytnighnkkeiegnaa", sum := "f36b351127c076fbe7efcc5698df7f343fac4487c85659d632c34205708eee62", func := "loop.example/g00986/laws.FnExactEnterQueue", spec := "fnExactEnterQueue", unfollowed := true, recurses := true, apart := false }
def FnExactEnterQueueSaid : Prop := fnExactEnterQueueRow.holds Try.pinned (OpenSpec.ofChange fnExactEnterQueueSpec)

/-- ITS FALSE NEIGHBOUR: 'it returns false'. Refute it at one input. -/
def fnExactEnterQueueWrong : ChangeSpec := { name := "fnExactEnterQueue", fn := fun _ => fun
  | [d1, d2] => { results := [.lit (.bool false)], args := [d1, d2] }
  | _ => none }
def FnExactEnterQueueWrongFalsely : Prop := fnExactEnterQueueRow.holds Try.pinned (OpenSpec.ofChange fnExactEnterQueueWrong)

/-- 'laws.FnExactForwardNext': WHATEVER THE INPUT: true; the input reads as it did. -/
def fnExactForwardNextSpec : ChangeSpec := { name := "fnExactForwardNext", fn := fun _ => fun
  | [d] => { results := [.lit (.bool true)], args := [d] }
  | _ => none }
def fnExactForwardNextRow : OpenClaim := { program := "ytnighnkkeiegnaa", sum := "f36b351127c076fbe7efcc5698df7f343fac4487c85659d632c34205708eee62", func := "loop.example/g00986/laws.FnExactForwardNext", spec := "fnExactForwardNext", unfollowed := true, recurses := true, apart := false }
def FnExactForwardNextSaid : Prop := fnExactForwardNextRow.holds Try.pinned (OpenSpec.ofChange fnExactForwardNextSpec)

/-- ITS FALSE NEIGHBOUR: 'it returns false'. Refute it at one input. -/
def fnExactForwardNextWrong : ChangeSpec := { name := "fnExactForwardNext", fn := fun _ => fun
  | [d] => { results := [.lit (.bool false)], args := [d] }
  | _ => none }
def FnExactForwardNextWrongFalsely : Prop := fnExactForwardNextRow.holds Try.pinned (OpenSpec.ofChange fnExactForwardNextWrong)

/-- 'laws.FnExactForwardAll': WHATEVER THE INPUT: true; the input reads as it did. -/
def fnExactForwardAllSpec : ChangeSpec := { name := "fnExactForwardAll", fn := fun _ => fun
  | [d] => { results := [.lit (.bool true)], args := [d] }
  | _ => none }
def fnExactForwardAllRow : OpenClaim := { program := "ytnighnkkeiegnaa", sum := "f36b351127c076fbe7efcc5698df7f343fac4487c85659d632c34205708eee62", func := "loop.example/g00986/laws.FnExactForwardAll", spec := "fnExactForwardAll", unfollowed := true, recurses := true, apart := false }
def FnExactForwardAllSaid : Prop := fnExactForwardAllRow.holds Try.pinned (OpenSpec.ofChange fnExactForwardAllSpec)

/-- ITS FALSE NEIGHBOUR: 'it returns false'. Refute it at one input. -/
def fnExactForwardAllWrong : ChangeSpec := { name := "fnExactForwardAll", fn := fun _ => fun
  | [d] => { results := [.lit (.bool false)], args := [d] }
  | _ => none }
def FnExactForwardAllWrongFalsely : Prop := fnExactForwardAllRow.holds Try.pinned (OpenSpec.ofChange fnExactForwardAllWrong)

/-- 'laws.FnExactSeenBefore': WHATEVER THE INPUT: true; the input reads as it did. -/
def fnExactSeenBeforeSpec : ChangeSpec := { name := "fnExactSeenBefore", fn := fun _ => fun
  | [d1, d2] => { results := [.lit (.bool true)], args := [d1, d2] }
  | _ => none }
def fnExactSeenBeforeRow : OpenClaim := { program := "ytnighnkkeiegnaa", sum := "f36b351127c076fbe7efcc5698df7f343fac4487c85659d632c34205708eee62", func := "loop.example/g00986/laws.FnExactSeenBefore", spec := "fnExactSeenBefore", unfollowed := true, recurses := true, apart := false }
def FnExactSeenBeforeSaid : Prop := fnExactSeenBeforeRow.holds Try.pinned (OpenSpec.ofChange fnExactSeenBeforeSpec)

/-- ITS FALSE NEIGHBOUR: 'it returns false'. Refute it at one input. -/
def fnExactSeenBeforeWrong : ChangeSpec := { name := "fnExactSeenBefore", fn := fun _ => fun
  | [d1, d2] => { results := [.lit (.bool false)], args := [d1, d2] }
  | _ => none }
def FnExactSeenBeforeWrongFalsely : Prop := fnExactSeenBeforeRow.holds Try.pinned (OpenSpec.ofChange fnExactSeenBeforeWrong)

/- THE SECOND FORM. 'bulk': how many values and letters a reading holds, each counted each time it is reached (what is shared counts as often as it is met; a slice's spare places count too). A statement '..UptoSaid' is the law's where the arguments, and the package variables that the reading takes, are together of bulk at most 1048576: NARROWER than '..Said'. Prove '..Said' where nothing that the law and all that it calls make is longer than what came in: it says more and counts as full. Else prove '..UptoSaid'. A law counts once. -/
mutual
def uptoBulk {H : Type} : DataW H → Nat
  | .lit (.string bytes) => bytes.length + 1
  | .lit _ => 1
  | .nil => 1
  | .ptr d => uptoBulk d + 1
  | .slice elems spare => uptoBulkAll elems + uptoBulkAll spare + 1
  | .agg parts => uptoBulkAll parts + 1
  | .iface _ d => uptoBulk d + 1
  | .map entries => uptoBulkEntries entries + 1
  | .held _ => 1
def uptoBulkAll {H : Type} : List (DataW H) → Nat
  | [] => 0
  | d :: r => uptoBulk d + uptoBulkAll r
def uptoBulkEntries {H : Type} : List (Lit × DataW H) → Nat
  | [] => 0
  | x :: r => uptoBulkEntry x + uptoBulkEntries r
def uptoBulkEntry {H : Type} : Lit × DataW H → Nat
  | (.string bytes, d) => bytes.length + uptoBulk d + 1
  | (_, d) => uptoBulk d + 1
 end
def uptoSmall : (H : Type) → List (DataW H) → Bool := fun _ ds => decide (uptoBulkAll ds ≤ 1048576)
def OpenSpec.upto (s : _root_.Go.ChangeSpec) : _root_.Go.OpenSpec := { _root_.Go.OpenSpec.ofChange s with cond := some uptoSmall }

/-- 'laws.FnExactNextOut', WHERE WHAT IT READS IS OF BULK AT MOST 1048576: true; the input reads as it did. -/
def fnExactNextOutUptoRow : OpenClaim := { program := "ytnighnkkeiegnaa", sum := "f36b351127c076fbe7efcc5698df7f343fac4487c85659d632c34205708eee62", func := "loop.example/g00986/laws.FnExactNextOut", spec := "fnExactNextOut", unfollowed := true, recurses := true, apart := false, narrowed := true }
def FnExactNextOutUptoSaid : Prop := fnExactNextOutUptoRow.holds Try.pinned (OpenSpec.upto fnExactNextOutSpec)

/-- 'laws.FnExactBlockedBy', WHERE WHAT IT READS IS OF BULK AT MOST 1048576: true; the input reads as it did. -/
def fnExactBlockedByUptoRow : OpenClaim := { program := "ytnighnkkeiegnaa", sum := "f36b351127c076fbe7efcc5698df7f343fac4487c85659d632c34205708eee62", func := "loop.example/g00986/laws.FnExactBlockedBy", spec := "fnExactBlockedBy", unfollowed := true, recurses := true, apart := false, narrowed := true }
def FnExactBlockedByUptoSaid : Prop := fnExactBlockedByUptoRow.holds Try.pinned (OpenSpec.upto fnExactBlockedBySpec)

/-- 'laws.FnExactIsLegalOrder', WHERE WHAT IT READS IS OF BULK AT MOST 1048576: true; the input reads as it did. -/
def fnExactIsLegalOrderUptoRow : OpenClaim := { program := "ytnighnkkeiegnaa", sum := "f36b351127c076fbe7efcc5698df7f343fac4487c85659d632c34205708eee62", func := "loop.example/g00986/laws.FnExactIsLegalOrder", spec := "fnExactIsLegalOrder", unfollowed := true, recurses := true, apart := false, narrowed := true }
def FnExactIsLegalOrderUptoSaid : Prop := fnExactIsLegalOrderUptoRow.holds Try.pinned (OpenSpec.upto fnExactIsLegalOrderSpec)

/-- 'laws.FnExactChannelOk', WHERE WHAT IT READS IS OF BULK AT MOST 1048576: true; the input reads as it did. -/
def fnExactChannelOkUptoRow : OpenClaim := { program := "ytnighnkkeiegnaa", sum := "f36b351127c076fbe7efcc5698df7f343fac4487c85659d632c34205708eee62", func := "loop.example/g00986/laws.FnExactChannelOk", spec := "fnExactChannelOk", unfollowed := true, recurses := true, apart := false, narrowed := true }
def FnExactChannelOkUptoSaid : Prop := fnExactChannelOkUptoRow.holds Try.pinned (OpenSpec.upto fnExactChannelOkSpec)

/-- 'laws.FnExactTellCredits', WHERE WHAT IT READS IS OF BULK AT MOST 1048576: true; the input reads as it did. -/
def fnExactTellCreditsUptoRow : OpenClaim := { program := "ytnighnkkeiegnaa", sum := "f36b351127c076fbe7efcc5698df7f343fac4487c85659d632c34205708eee62", func := "loop.example/g00986/laws.FnExactTellCredits", spec := "fnExactTellCredits", unfollowed := true, recurses := true, apart := false, narrowed := true }
def FnExactTellCreditsUptoSaid : Prop := fnExactTellCreditsUptoRow.holds Try.pinned (OpenSpec.upto fnExactTellCreditsSpec)

/-- 'laws.FnExactPutPacket', WHERE WHAT IT READS IS OF BULK AT MOST 1048576: true; the input reads as it did. -/
def fnExactPutPacketUptoRow : OpenClaim := { program := "ytnighnkkeiegnaa", sum := "f36b351127c076fbe7efcc5698df7f343fac4487c85659d632c34205708eee62", func := "loop.example/g00986/laws.FnExactPutPacket", spec := "fnExactPutPacket", unfollowed := true, recurses := true, apart := false, narrowed := true }
def FnExactPutPacketUptoSaid : Prop := fnExactPutPacketUptoRow.holds Try.pinned (OpenSpec.upto fnExactPutPacketSpec)

/-- 'laws.FnExactFreePacket', WHERE WHAT IT READS IS OF BULK AT MOST 1048576: true; the input reads as it did. -/
def fnExactFreePacketUptoRow : OpenClaim := { program := "ytnighnkkeiegnaa", sum := "f36b351127c076fbe7efcc5698df7f343fac4487c85659d632c34205708eee62", func := "loop.example/g00986/laws.FnExactFreePacket", spec := "fnExactFreePacket", unfollowed := true, recurses := true, apart := false, narrowed := true }
def FnExactFreePacketUptoSaid : Prop := fnExactFreePacketUptoRow.holds Try.pinned (OpenSpec.upto fnExactFreePacketSpec)

/-- 'laws.FnExactEnterQueue', WHERE WHAT IT READS IS OF BULK AT MOST 1048576: true; the input reads as it did. -/
def fnExactEnterQueueUptoRow : OpenClaim := { program := "ytnighnkkeiegnaa", sum := "f36b351127c076fbe7efcc5698df7f343fac4487c85659d632c34205708eee62", func := "loop.example/g00986/laws.FnExactEnterQueue", spec := "fnExactEnterQueue", unfollowed := true, recurses := true, apart := false, narrowed := true }
def FnExactEnterQueueUptoSaid : Prop := fnExactEnterQueueUptoRow.holds Try.pinned (OpenSpec.upto fnExactEnterQueueSpec)

/-- 'laws.FnExactForwardNext', WHERE WHAT IT READS IS OF BULK AT MOST 1048576: true; the input reads as it did. -/
def fnExactForwardNextUptoRow : OpenClaim := { program := "ytnighnkkeiegnaa", sum := "f36b351127c076fbe7efcc5698df7f343fac4487c85659d632c34205708eee62", func := "loop.example/g00986/laws.FnExactForwardNext", spec := "fnExactForwardNext", unfollowed := true, recurses := true, apart := false, narrowed := true }
def FnExactForwardNextUptoSaid : Prop := fnExactForwardNextUptoRow.holds Try.pinned (OpenSpec.upto fnExactForwardNextSpec)

/-- 'laws.FnExactForwardAll', WHERE WHAT IT READS IS OF BULK AT MOST 1048576: true; the input reads as it did. -/
def fnExactForwardAllUptoRow : OpenClaim := { program := "ytnighnkkeiegnaa", sum := "f36b351127c076fbe7efcc5698df7f343fac4487c85659d632c34205708eee62", func := "loop.example/g00986/laws.FnExactForwardAll", spec := "fnExactForwardAll", unfollowed := true, recurses := true, apart := false, narrowed := true }
def FnExactForwardAllUptoSaid : Prop := fnExactForwardAllUptoRow.holds Try.pinned (OpenSpec.upto fnExactForwardAllSpec)

/-- 'laws.FnExactSeenBefore', WHERE WHAT IT READS IS OF BULK AT MOST 1048576: true; the input reads as it did. -/
def fnExactSeenBeforeUptoRow : OpenClaim := { program := "ytnighnkkeiegnaa", sum := "f36b351127c076fbe7efcc5698df7f343fac4487c85659d632c34205708eee62", func := "loop.example/g00986/laws.FnExactSeenBefore", spec := "fnExactSeenBefore", unfollowed := true, recurses := true, apart := false, narrowed := true }
def FnExactSeenBeforeUptoSaid : Prop := fnExactSeenBeforeUptoRow.holds Try.pinned (OpenSpec.upto fnExactSeenBeforeSpec)

end Rows
end Go.Proofs.Ytnighnkkeiegnaa
