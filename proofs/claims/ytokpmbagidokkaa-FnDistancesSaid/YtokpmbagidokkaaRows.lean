/-
  No cell of these rows narrows 'for every input' (looked for: loops, veiled, ifaces, maps, wideKeys, modest, calm, conditions, laid).
  DERIVED. THE GIVEN ROWS OF THIS SEAT. 12 by the template 'for every input the law returns true; each argument reads behind the call as it read before'; 0 by the template 'total and deterministic' (their statements: YtokpmbagidokkaaTotals.lean).
  GIVEN WITH THE SEED: the statements are not yours to turn. If you find one false, say at which input.
  Laid BY PROGRAM, IN A SANDBOX (cutbox-rows.mjs): the forced cells as the released guide's own fill.sh prints them over the translation b26cdffff1f4fd28… (all of the seat's roots in one cut). By AI agents, Wed Nov 11 2026. No macro, syntax, notation, axiom, sorry.
-/
import Derived.Test.YtokpmbagidokkaaChecked
import GoSem.Claim
import GoSem.ClaimJoined
import GoSem.ClaimMapViews
import Derived.JoinedTies
import Derived.KernelRfl
namespace Go.Proofs.Ytokpmbagidokkaa
/- THE CELL 'sum', in the pinned program and in every row, IS THE sha256 OF THE DUMP (.gsa) THAT YtokpmbagidokkaaProg.lean LOADS. Nothing in Lean hashes anything: it is a label: what it is worth is what the hold of that sum in a sandbox is worth. -/
noncomputable def Try.pinned : Pinned := { name := "ytokpmbagidokkaa", sum := "b26cdffff1f4fd28389df1733dcc1f6f423e14ccd85239ef6a612446b50afbbb", checked := Try.checked }
namespace Rows
def none {H : Type} : Left H := { results := [], args := [] }

/-- 'laws.FnWire': WHATEVER THE INPUT: true; the input reads as it did. -/
def fnWireSpec : ChangeSpec := { name := "fnWire", fn := fun _ => fun
  | [d] => { results := [.lit (.bool true)], args := [d] }
  | _ => none }
def fnWireRow : OpenClaim := { program := "ytokpmbagidokkaa", sum := "b26cdffff1f4fd28389df1733dcc1f6f423e14ccd85239ef6a612446b50afbbb", func := "loop.example/g00986/laws.FnWire", spec := "fnWire", unfollowed := true, recurses := true, apart := false }
def FnWireSaid : Prop := fnWireRow.holds Try.pinned (OpenSpec.ofChange fnWireSpec)

/-- ITS FALSE NEIGHBOUR: 'it returns false'. Refute it at one input. -/
def fnWireWrong : ChangeSpec := { name := "fnWire", fn := fun _ => fun
  | [d] => { results := [.lit (.bool false)], args := [d] }
  | _ => none }
def FnWireWrongFalsely : Prop := fnWireRow.holds Try.pinned (OpenSpec.ofChange fnWireWrong)

/-- 'laws.FnExactEncodePacket': WHATEVER THE INPUT: true; the input reads as it did. -/
def fnExactEncodePacketSpec : ChangeSpec := { name := "fnExactEncodePacket", fn := fun _ => fun
  | [d] => { results := [.lit (.bool true)], args := [d] }
  | _ => none }
def fnExactEncodePacketRow : OpenClaim := { program := "ytokpmbagidokkaa", sum := "b26cdffff1f4fd28389df1733dcc1f6f423e14ccd85239ef6a612446b50afbbb", func := "loop.example/g00986/laws.FnExactEncodePacket", spec := "fnExactEncodePacket", unfollowed := true, recurses := true, apart := false }
def FnExactEncodePacketSaid : Prop := fnExactEncodePacketRow.holds Try.pinned (OpenSpec.ofChange fnExactEncodePacketSpec)

/-- ITS FALSE NEIGHBOUR: 'it returns false'. Refute it at one input. -/
def fnExactEncodePacketWrong : ChangeSpec := { name := "fnExactEncodePacket", fn := fun _ => fun
  | [d] => { results := [.lit (.bool false)], args := [d] }
  | _ => none }
def FnExactEncodePacketWrongFalsely : Prop := fnExactEncodePacketRow.holds Try.pinned (OpenSpec.ofChange fnExactEncodePacketWrong)

/-- 'laws.FnExactDecodePacket': WHATEVER THE INPUT: true; the input reads as it did. -/
def fnExactDecodePacketSpec : ChangeSpec := { name := "fnExactDecodePacket", fn := fun _ => fun
  | [d] => { results := [.lit (.bool true)], args := [d] }
  | _ => none }
def fnExactDecodePacketRow : OpenClaim := { program := "ytokpmbagidokkaa", sum := "b26cdffff1f4fd28389df1733dcc1f6f423e14ccd85239ef6a612446b50afbbb", func := "loop.example/g00986/laws.FnExactDecodePacket", spec := "fnExactDecodePacket", unfollowed := true, recurses := true, apart := false }
def FnExactDecodePacketSaid : Prop := fnExactDecodePacketRow.holds Try.pinned (OpenSpec.ofChange fnExactDecodePacketSpec)

/-- ITS FALSE NEIGHBOUR: 'it returns false'. Refute it at one input. -/
def fnExactDecodePacketWrong : ChangeSpec := { name := "fnExactDecodePacket", fn := fun _ => fun
  | [d] => { results := [.lit (.bool false)], args := [d] }
  | _ => none }
def FnExactDecodePacketWrongFalsely : Prop := fnExactDecodePacketRow.holds Try.pinned (OpenSpec.ofChange fnExactDecodePacketWrong)

/-- 'laws.FnExactAreBytes': WHATEVER THE INPUT: true; the input reads as it did. -/
def fnExactAreBytesSpec : ChangeSpec := { name := "fnExactAreBytes", fn := fun _ => fun
  | [d] => { results := [.lit (.bool true)], args := [d] }
  | _ => none }
def fnExactAreBytesRow : OpenClaim := { program := "ytokpmbagidokkaa", sum := "b26cdffff1f4fd28389df1733dcc1f6f423e14ccd85239ef6a612446b50afbbb", func := "loop.example/g00986/laws.FnExactAreBytes", spec := "fnExactAreBytes", apart := false }
def FnExactAreBytesSaid : Prop := fnExactAreBytesRow.holds Try.pinned (OpenSpec.ofChange fnExactAreBytesSpec)

/-- ITS FALSE NEIGHBOUR: 'it returns false'. Refute it at one input. -/
def fnExactAreBytesWrong : ChangeSpec := { name := "fnExactAreBytes", fn := fun _ => fun
  | [d] => { results := [.lit (.bool false)], args := [d] }
  | _ => none }
def FnExactAreBytesWrongFalsely : Prop := fnExactAreBytesRow.holds Try.pinned (OpenSpec.ofChange fnExactAreBytesWrong)

/-- 'laws.FnExactSplitWord': WHATEVER THE INPUT: true; the input reads as it did. -/
def fnExactSplitWordSpec : ChangeSpec := { name := "fnExactSplitWord", fn := fun _ => fun
  | [d] => { results := [.lit (.bool true)], args := [d] }
  | _ => none }
def fnExactSplitWordRow : OpenClaim := { program := "ytokpmbagidokkaa", sum := "b26cdffff1f4fd28389df1733dcc1f6f423e14ccd85239ef6a612446b50afbbb", func := "loop.example/g00986/laws.FnExactSplitWord", spec := "fnExactSplitWord", apart := false }
def FnExactSplitWordSaid : Prop := fnExactSplitWordRow.holds Try.pinned (OpenSpec.ofChange fnExactSplitWordSpec)

/-- ITS FALSE NEIGHBOUR: 'it returns false'. Refute it at one input. -/
def fnExactSplitWordWrong : ChangeSpec := { name := "fnExactSplitWord", fn := fun _ => fun
  | [d] => { results := [.lit (.bool false)], args := [d] }
  | _ => none }
def FnExactSplitWordWrongFalsely : Prop := fnExactSplitWordRow.holds Try.pinned (OpenSpec.ofChange fnExactSplitWordWrong)

/-- 'laws.FnChecks': WHATEVER THE INPUT: true; the input reads as it did. -/
def fnChecksSpec : ChangeSpec := { name := "fnChecks", fn := fun _ => fun
  | [d] => { results := [.lit (.bool true)], args := [d] }
  | _ => none }
def fnChecksRow : OpenClaim := { program := "ytokpmbagidokkaa", sum := "b26cdffff1f4fd28389df1733dcc1f6f423e14ccd85239ef6a612446b50afbbb", func := "loop.example/g00986/laws.FnChecks", spec := "fnChecks", unfollowed := true, recurses := true, apart := false }
def FnChecksSaid : Prop := fnChecksRow.holds Try.pinned (OpenSpec.ofChange fnChecksSpec)

/-- ITS FALSE NEIGHBOUR: 'it returns false'. Refute it at one input. -/
def fnChecksWrong : ChangeSpec := { name := "fnChecks", fn := fun _ => fun
  | [d] => { results := [.lit (.bool false)], args := [d] }
  | _ => none }
def FnChecksWrongFalsely : Prop := fnChecksRow.holds Try.pinned (OpenSpec.ofChange fnChecksWrong)

/-- 'laws.FnDistances': WHATEVER THE INPUT: true; the input reads as it did. -/
def fnDistancesSpec : ChangeSpec := { name := "fnDistances", fn := fun _ => fun
  | [d] => { results := [.lit (.bool true)], args := [d] }
  | _ => none }
def fnDistancesRow : OpenClaim := { program := "ytokpmbagidokkaa", sum := "b26cdffff1f4fd28389df1733dcc1f6f423e14ccd85239ef6a612446b50afbbb", func := "loop.example/g00986/laws.FnDistances", spec := "fnDistances", apart := false }
def FnDistancesSaid : Prop := fnDistancesRow.holds Try.pinned (OpenSpec.ofChange fnDistancesSpec)

/-- ITS FALSE NEIGHBOUR: 'it returns false'. Refute it at one input. -/
def fnDistancesWrong : ChangeSpec := { name := "fnDistances", fn := fun _ => fun
  | [d] => { results := [.lit (.bool false)], args := [d] }
  | _ => none }
def FnDistancesWrongFalsely : Prop := fnDistancesRow.holds Try.pinned (OpenSpec.ofChange fnDistancesWrong)

/-- 'laws.FnExactCheckOf': WHATEVER THE INPUT: true; the input reads as it did. -/
def fnExactCheckOfSpec : ChangeSpec := { name := "fnExactCheckOf", fn := fun _ => fun
  | [d] => { results := [.lit (.bool true)], args := [d] }
  | _ => none }
def fnExactCheckOfRow : OpenClaim := { program := "ytokpmbagidokkaa", sum := "b26cdffff1f4fd28389df1733dcc1f6f423e14ccd85239ef6a612446b50afbbb", func := "loop.example/g00986/laws.FnExactCheckOf", spec := "fnExactCheckOf", apart := false }
def FnExactCheckOfSaid : Prop := fnExactCheckOfRow.holds Try.pinned (OpenSpec.ofChange fnExactCheckOfSpec)

/-- ITS FALSE NEIGHBOUR: 'it returns false'. Refute it at one input. -/
def fnExactCheckOfWrong : ChangeSpec := { name := "fnExactCheckOf", fn := fun _ => fun
  | [d] => { results := [.lit (.bool false)], args := [d] }
  | _ => none }
def FnExactCheckOfWrongFalsely : Prop := fnExactCheckOfRow.holds Try.pinned (OpenSpec.ofChange fnExactCheckOfWrong)

/-- 'laws.FnExactAddCheck': WHATEVER THE INPUT: true; the input reads as it did. -/
def fnExactAddCheckSpec : ChangeSpec := { name := "fnExactAddCheck", fn := fun _ => fun
  | [d] => { results := [.lit (.bool true)], args := [d] }
  | _ => none }
def fnExactAddCheckRow : OpenClaim := { program := "ytokpmbagidokkaa", sum := "b26cdffff1f4fd28389df1733dcc1f6f423e14ccd85239ef6a612446b50afbbb", func := "loop.example/g00986/laws.FnExactAddCheck", spec := "fnExactAddCheck", apart := false }
def FnExactAddCheckSaid : Prop := fnExactAddCheckRow.holds Try.pinned (OpenSpec.ofChange fnExactAddCheckSpec)

/-- ITS FALSE NEIGHBOUR: 'it returns false'. Refute it at one input. -/
def fnExactAddCheckWrong : ChangeSpec := { name := "fnExactAddCheck", fn := fun _ => fun
  | [d] => { results := [.lit (.bool false)], args := [d] }
  | _ => none }
def FnExactAddCheckWrongFalsely : Prop := fnExactAddCheckRow.holds Try.pinned (OpenSpec.ofChange fnExactAddCheckWrong)

/-- 'laws.FnExactTakeCheck': WHATEVER THE INPUT: true; the input reads as it did. -/
def fnExactTakeCheckSpec : ChangeSpec := { name := "fnExactTakeCheck", fn := fun _ => fun
  | [d] => { results := [.lit (.bool true)], args := [d] }
  | _ => none }
def fnExactTakeCheckRow : OpenClaim := { program := "ytokpmbagidokkaa", sum := "b26cdffff1f4fd28389df1733dcc1f6f423e14ccd85239ef6a612446b50afbbb", func := "loop.example/g00986/laws.FnExactTakeCheck", spec := "fnExactTakeCheck", apart := false }
def FnExactTakeCheckSaid : Prop := fnExactTakeCheckRow.holds Try.pinned (OpenSpec.ofChange fnExactTakeCheckSpec)

/-- ITS FALSE NEIGHBOUR: 'it returns false'. Refute it at one input. -/
def fnExactTakeCheckWrong : ChangeSpec := { name := "fnExactTakeCheck", fn := fun _ => fun
  | [d] => { results := [.lit (.bool false)], args := [d] }
  | _ => none }
def FnExactTakeCheckWrongFalsely : Prop := fnExactTakeCheckRow.holds Try.pinned (OpenSpec.ofChange fnExactTakeCheckWrong)

/-- 'laws.FnExactFlipBit': WHATEVER THE INPUT: true; the input reads as it did. -/
def fnExactFlipBitSpec : ChangeSpec := { name := "fnExactFlipBit", fn := fun _ => fun
  | [d1, d2] => { results := [.lit (.bool true)], args := [d1, d2] }
  | _ => none }
def fnExactFlipBitRow : OpenClaim := { program := "ytokpmbagidokkaa", sum := "b26cdffff1f4fd28389df1733dcc1f6f423e14ccd85239ef6a612446b50afbbb", func := "loop.example/g00986/laws.FnExactFlipBit", spec := "fnExactFlipBit", apart := false }
def FnExactFlipBitSaid : Prop := fnExactFlipBitRow.holds Try.pinned (OpenSpec.ofChange fnExactFlipBitSpec)

/-- ITS FALSE NEIGHBOUR: 'it returns false'. Refute it at one input. -/
def fnExactFlipBitWrong : ChangeSpec := { name := "fnExactFlipBit", fn := fun _ => fun
  | [d1, d2] => { results := [.lit (.bool false)], args := [d1, d2] }
  | _ => none }
def FnExactFlipBitWrongFalsely : Prop := fnExactFlipBitRow.holds Try.pinned (OpenSpec.ofChange fnExactFlipBitWrong)

/-- 'laws.FnExactDistanceOf': WHATEVER THE INPUT: true; the input reads as it did. -/
def fnExactDistanceOfSpec : ChangeSpec := { name := "fnExactDistanceOf", fn := fun _ => fun
  | [d1, d2] => { results := [.lit (.bool true)], args := [d1, d2] }
  | _ => none }
def fnExactDistanceOfRow : OpenClaim := { program := "ytokpmbagidokkaa", sum := "b26cdffff1f4fd28389df1733dcc1f6f423e14ccd85239ef6a612446b50afbbb", func := "loop.example/g00986/laws.FnExactDistanceOf", spec := "fnExactDistanceOf", apart := false }
def FnExactDistanceOfSaid : Prop := fnExactDistanceOfRow.holds Try.pinned (OpenSpec.ofChange fnExactDistanceOfSpec)

/-- ITS FALSE NEIGHBOUR: 'it returns false'. Refute it at one input. -/
def fnExactDistanceOfWrong : ChangeSpec := { name := "fnExactDistanceOf", fn := fun _ => fun
  | [d1, d2] => { results := [.lit (.bool false)], args := [d1, d2] }
  | _ => none }
def FnExactDistanceOfWrongFalsely : Prop := fnExactDistanceOfRow.holds Try.pinned (OpenSpec.ofChange fnExactDistanceOfWrong)

/- THE SECOND FORM. 'bulk': how many values and letters a reading holds, each counted each time it is reached (what is shared counts as often as it is met; a slice's spare places count too). A statement '..UptoSaid' is the law's where the arguments, and the package variables that the reading takes, are together of bulk at most 1048576: NARROWER than '..Said'. Prove '..Said' where nothing that the law and all that it calls make is longer than what came in: it says more and counts as full. Else prove '..UptoSaid'. A law counts once. -/
mutual
def uptoBulk {H : Type} : DataW H → Nat
  | .lit (.string bytes) => bytes.length + 1
  | .lit _ => 1
  | .nil => 1
  | .ptr d => uptoBulk d + 1
  | .slice elems spare => uptoBulkAll elems + uptoBulkAll spare + 1
  | .agg parts => uptoBulkAll parts + 1
  | .iface _ d => uptoBulk d + 1
  | .map entries => uptoBulkEntries entries + 1
  | .held _ => 1
def uptoBulkAll {H : Type} : List (DataW H) → Nat
  | [] => 0
  | d :: r => uptoBulk d + uptoBulkAll r
def uptoBulkEntries {H : Type} : List (Lit × DataW H) → Nat
  | [] => 0
  | x :: r => uptoBulkEntry x + uptoBulkEntries r
def uptoBulkEntry {H : Type} : Lit × DataW H → Nat
  | (.string bytes, d) => bytes.length + uptoBulk d + 1
  | (_, d) => uptoBulk d + 1
 end
def uptoSmall : (H : Type) → List (DataW H) → Bool := fun _ ds => decide (uptoBulkAll ds ≤ 1048576)
def OpenSpec.upto (s : _root_.Go.ChangeSpec) : _root_.Go.OpenSpec := { _root_.Go.OpenSpec.ofChange s with cond := some uptoSmall }

/-- 'laws.FnWire', WHERE WHAT IT READS IS OF BULK AT MOST 1048576: true; the input reads as it did. -/
def fnWireUptoRow : OpenClaim := { program := "ytokpmbagidokkaa", sum := "b26cdffff1f4fd28389df1733dcc1f6f423e14ccd85239ef6a612446b50afbbb", func := "loop.example/g00986/laws.FnWire", spec := "fnWire", unfollowed := true, recurses := true, apart := false, narrowed := true }
def FnWireUptoSaid : Prop := fnWireUptoRow.holds Try.pinned (OpenSpec.upto fnWireSpec)

/-- 'laws.FnExactEncodePacket', WHERE WHAT IT READS IS OF BULK AT MOST 1048576: true; the input reads as it did. -/
def fnExactEncodePacketUptoRow : OpenClaim := { program := "ytokpmbagidokkaa", sum := "b26cdffff1f4fd28389df1733dcc1f6f423e14ccd85239ef6a612446b50afbbb", func := "loop.example/g00986/laws.FnExactEncodePacket", spec := "fnExactEncodePacket", unfollowed := true, recurses := true, apart := false, narrowed := true }
def FnExactEncodePacketUptoSaid : Prop := fnExactEncodePacketUptoRow.holds Try.pinned (OpenSpec.upto fnExactEncodePacketSpec)

/-- 'laws.FnExactDecodePacket', WHERE WHAT IT READS IS OF BULK AT MOST 1048576: true; the input reads as it did. -/
def fnExactDecodePacketUptoRow : OpenClaim := { program := "ytokpmbagidokkaa", sum := "b26cdffff1f4fd28389df1733dcc1f6f423e14ccd85239ef6a612446b50afbbb", func := "loop.example/g00986/laws.FnExactDecodePacket", spec := "fnExactDecodePacket", unfollowed := true, recurses := true, apart := false, narrowed := true }
def FnExactDecodePacketUptoSaid : Prop := fnExactDecodePacketUptoRow.holds Try.pinned (OpenSpec.upto fnExactDecodePacketSpec)

/-- 'laws.FnExactAreBytes', WHERE WHAT IT READS IS OF BULK AT MOST 1048576: true; the input reads as it did. -/
def fnExactAreBytesUptoRow : OpenClaim := { program := "ytokpmbagidokkaa", sum := "b26cdffff1f4fd28389df1733dcc1f6f423e14ccd85239ef6a612446b50afbbb", func := "loop.example/g00986/laws.FnExactAreBytes", spec := "fnExactAreBytes", apart := false, narrowed := true }
def FnExactAreBytesUptoSaid : Prop := fnExactAreBytesUptoRow.holds Try.pinned (OpenSpec.upto fnExactAreBytesSpec)

/-- 'laws.FnExactSplitWord', WHERE WHAT IT READS IS OF BULK AT MOST 1048576: true; the input reads as it did. -/
def fnExactSplitWordUptoRow : OpenClaim := { program := "ytokpmbagidokkaa", sum := "b26cdffff1f4fd28389df1733dcc1f6f423e14ccd85239ef6a612446b50afbbb", func := "loop.example/g00986/laws.FnExactSplitWord", spec := "fnExactSplitWord", apart := false, narrowed := true }
def FnExactSplitWordUptoSaid : Prop := fnExactSplitWordUptoRow.holds Try.pinned (OpenSpec.upto fnExactSplitWordSpec)

/-- 'laws.FnChecks', WHERE WHAT IT READS IS OF BULK AT MOST 1048576: true; the input reads as it did. -/
def fnChecksUptoRow : OpenClaim := { program := "ytokpmbagidokkaa", sum := "b26cdffff1f4fd28389df1733dcc1f6f423e14ccd85239ef6a612446b50afbbb", func := "loop.example/g00986/laws.FnChecks", spec := "fnChecks", unfollowed := true, recurses := true, apart := false, narrowed := true }
def FnChecksUptoSaid : Prop := fnChecksUptoRow.holds Try.pinned (OpenSpec.upto fnChecksSpec)

/-- 'laws.FnDistances', WHERE WHAT IT READS IS OF BULK AT MOST 1048576: true; the input reads as it did. -/
def fnDistancesUptoRow : OpenClaim := { program := "ytokpmbagidokkaa", sum := "b26cdffff1f4fd28389df1733dcc1f6f423e14ccd85239ef6a612446b50afbbb", func := "loop.example/g00986/laws.FnDistances", spec := "fnDistances", apart := false, narrowed := true }
def FnDistancesUptoSaid : Prop := fnDistancesUptoRow.holds Try.pinned (OpenSpec.upto fnDistancesSpec)

/-- 'laws.FnExactCheckOf', WHERE WHAT IT READS IS OF BULK AT MOST 1048576: true; the input reads as it did. -/
def fnExactCheckOfUptoRow : OpenClaim := { program := "ytokpmbagidokkaa", sum := "b26cdffff1f4fd28389df1733dcc1f6f423e14ccd85239ef6a612446b50afbbb", func := "loop.example/g00986/laws.FnExactCheckOf", spec := "fnExactCheckOf", apart := false, narrowed := true }
def FnExactCheckOfUptoSaid : Prop := fnExactCheckOfUptoRow.holds Try.pinned (OpenSpec.upto fnExactCheckOfSpec)

/-- 'laws.FnExactAddCheck', WHERE WHAT IT READS IS OF BULK AT MOST 1048576: true; the input reads as it did. -/
def fnExactAddCheckUptoRow : OpenClaim := { program := "ytokpmbagidokkaa", sum := "b26cdffff1f4fd28389df1733dcc1f6f423e14ccd85239ef6a612446b50afbbb", func := "loop.example/g00986/laws.FnExactAddCheck", spec := "fnExactAddCheck", apart := false, narrowed := true }
def FnExactAddCheckUptoSaid : Prop := fnExactAddCheckUptoRow.holds Try.pinned (OpenSpec.upto fnExactAddCheckSpec)

/-- 'laws.FnExactTakeCheck', WHERE WHAT IT READS IS OF BULK AT MOST 1048576: true; the input reads as it did. -/
def fnExactTakeCheckUptoRow : OpenClaim := { program := "ytokpmbagidokkaa", sum := "b26cdffff1f4fd28389df1733dcc1f6f423e14ccd85239ef6a612446b50afbbb", func := "loop.example/g00986/laws.FnExactTakeCheck", spec := "fnExactTakeCheck", apart := false, narrowed := true }
def FnExactTakeCheckUptoSaid : Prop := fnExactTakeCheckUptoRow.holds Try.pinned (OpenSpec.upto fnExactTakeCheckSpec)

/-- 'laws.FnExactFlipBit', WHERE WHAT IT READS IS OF BULK AT MOST 1048576: true; the input reads as it did. -/
def fnExactFlipBitUptoRow : OpenClaim := { program := "ytokpmbagidokkaa", sum := "b26cdffff1f4fd28389df1733dcc1f6f423e14ccd85239ef6a612446b50afbbb", func := "loop.example/g00986/laws.FnExactFlipBit", spec := "fnExactFlipBit", apart := false, narrowed := true }
def FnExactFlipBitUptoSaid : Prop := fnExactFlipBitUptoRow.holds Try.pinned (OpenSpec.upto fnExactFlipBitSpec)

/-- 'laws.FnExactDistanceOf', WHERE WHAT IT READS IS OF BULK AT MOST 1048576: true; the input reads as it did. -/
def fnExactDistanceOfUptoRow : OpenClaim := { program := "ytokpmbagidokkaa", sum := "b26cdffff1f4fd28389df1733dcc1f6f423e14ccd85239ef6a612446b50afbbb", func := "loop.example/g00986/laws.FnExactDistanceOf", spec := "fnExactDistanceOf", apart := false, narrowed := true }
def FnExactDistanceOfUptoSaid : Prop := fnExactDistanceOfUptoRow.holds Try.pinned (OpenSpec.upto fnExactDistanceOfSpec)

end Rows
end Go.Proofs.Ytokpmbagidokkaa
