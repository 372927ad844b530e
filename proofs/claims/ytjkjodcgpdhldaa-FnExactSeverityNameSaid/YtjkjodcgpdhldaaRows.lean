/-
  No cell of these rows narrows 'for every input' (looked for: loops, veiled, ifaces, maps, wideKeys, modest, calm, conditions, laid).
  DERIVED. THE GIVEN ROWS OF THIS SEAT. 12 by the template 'for every input the law returns true; each argument reads behind the call as it read before'; 0 by the template 'total and deterministic' (their statements: YtjkjodcgpdhldaaTotals.lean).
  GIVEN WITH THE SEED: the statements are not yours to turn. If you find one false, say at which input.
  Laid BY PROGRAM, IN A SANDBOX (cutbox-rows.mjs): the forced cells as the released guide's own fill.sh prints them over the translation 9547c76678782ae4… (all of the seat's roots in one cut). By AI agents, Wed Nov 11 2026. No macro, syntax, notation, axiom, sorry.
-/
import Derived.Test.YtjkjodcgpdhldaaChecked
import GoSem.Claim
import GoSem.ClaimJoined
import GoSem.ClaimMapViews
import Derived.JoinedTies
import Derived.KernelRfl
namespace Go.Proofs.Ytjkjodcgpdhldaa
/- THE CELL 'sum', in the pinned program and in every row, IS THE sha256 OF THE DUMP (.gsa) THAT YtjkjodcgpdhldaaProg.lean LOADS. Nothing in Lean hashes anything: it is a label: what it is worth is what the hold of that sum in a sandbox is worth. -/
noncomputable def Try.pinned : Pinned := { name := "ytjkjodcgpdhldaa", sum := "9547c76678782ae4fb0978e47b1817f68e1eab0b56f896ae4d4e1ce70612f310", checked := Try.checked }
namespace Rows
def none {H : Type} : Left H := { results := [], args := [] }

/-- 'laws.FnExactVirtualOk': WHATEVER THE INPUT: true; the input reads as it did. -/
def fnExactVirtualOkSpec : ChangeSpec := { name := "fnExactVirtualOk", fn := fun _ => fun
  | [d] => { results := [.lit (.bool true)], args := [d] }
  | _ => none }
def fnExactVirtualOkRow : OpenClaim := { program := "ytjkjodcgpdhldaa", sum := "9547c76678782ae4fb0978e47b1817f68e1eab0b56f896ae4d4e1ce70612f310", func := "loop.example/g00986/laws.FnExactVirtualOk", spec := "fnExactVirtualOk", apart := false }
def FnExactVirtualOkSaid : Prop := fnExactVirtualOkRow.holds Try.pinned (OpenSpec.ofChange fnExactVirtualOkSpec)

/-- ITS FALSE NEIGHBOUR: 'it returns false'. Refute it at one input. -/
def fnExactVirtualOkWrong : ChangeSpec := { name := "fnExactVirtualOk", fn := fun _ => fun
  | [d] => { results := [.lit (.bool false)], args := [d] }
  | _ => none }
def FnExactVirtualOkWrongFalsely : Prop := fnExactVirtualOkRow.holds Try.pinned (OpenSpec.ofChange fnExactVirtualOkWrong)

/-- 'laws.FnExactVirtualId': WHATEVER THE INPUT: true; the input reads as it did. -/
def fnExactVirtualIdSpec : ChangeSpec := { name := "fnExactVirtualId", fn := fun _ => fun
  | [d1, d2, d3] => { results := [.lit (.bool true)], args := [d1, d2, d3] }
  | _ => none }
def fnExactVirtualIdRow : OpenClaim := { program := "ytjkjodcgpdhldaa", sum := "9547c76678782ae4fb0978e47b1817f68e1eab0b56f896ae4d4e1ce70612f310", func := "loop.example/g00986/laws.FnExactVirtualId", spec := "fnExactVirtualId", unfollowed := true, recurses := true, apart := false }
def FnExactVirtualIdSaid : Prop := fnExactVirtualIdRow.holds Try.pinned (OpenSpec.ofChange fnExactVirtualIdSpec)

/-- ITS FALSE NEIGHBOUR: 'it returns false'. Refute it at one input. -/
def fnExactVirtualIdWrong : ChangeSpec := { name := "fnExactVirtualId", fn := fun _ => fun
  | [d1, d2, d3] => { results := [.lit (.bool false)], args := [d1, d2, d3] }
  | _ => none }
def FnExactVirtualIdWrongFalsely : Prop := fnExactVirtualIdRow.holds Try.pinned (OpenSpec.ofChange fnExactVirtualIdWrong)

/-- 'laws.FnExactVirtualIds': WHATEVER THE INPUT: true; the input reads as it did. -/
def fnExactVirtualIdsSpec : ChangeSpec := { name := "fnExactVirtualIds", fn := fun _ => fun
  | [d1, d2] => { results := [.lit (.bool true)], args := [d1, d2] }
  | _ => none }
def fnExactVirtualIdsRow : OpenClaim := { program := "ytjkjodcgpdhldaa", sum := "9547c76678782ae4fb0978e47b1817f68e1eab0b56f896ae4d4e1ce70612f310", func := "loop.example/g00986/laws.FnExactVirtualIds", spec := "fnExactVirtualIds", unfollowed := true, recurses := true, apart := false }
def FnExactVirtualIdsSaid : Prop := fnExactVirtualIdsRow.holds Try.pinned (OpenSpec.ofChange fnExactVirtualIdsSpec)

/-- ITS FALSE NEIGHBOUR: 'it returns false'. Refute it at one input. -/
def fnExactVirtualIdsWrong : ChangeSpec := { name := "fnExactVirtualIds", fn := fun _ => fun
  | [d1, d2] => { results := [.lit (.bool false)], args := [d1, d2] }
  | _ => none }
def FnExactVirtualIdsWrongFalsely : Prop := fnExactVirtualIdsRow.holds Try.pinned (OpenSpec.ofChange fnExactVirtualIdsWrong)

/-- 'laws.FnExactVirtualOwner': WHATEVER THE INPUT: true; the input reads as it did. -/
def fnExactVirtualOwnerSpec : ChangeSpec := { name := "fnExactVirtualOwner", fn := fun _ => fun
  | [d1, d2, d3] => { results := [.lit (.bool true)], args := [d1, d2, d3] }
  | _ => none }
def fnExactVirtualOwnerRow : OpenClaim := { program := "ytjkjodcgpdhldaa", sum := "9547c76678782ae4fb0978e47b1817f68e1eab0b56f896ae4d4e1ce70612f310", func := "loop.example/g00986/laws.FnExactVirtualOwner", spec := "fnExactVirtualOwner", unfollowed := true, recurses := true, apart := false }
def FnExactVirtualOwnerSaid : Prop := fnExactVirtualOwnerRow.holds Try.pinned (OpenSpec.ofChange fnExactVirtualOwnerSpec)

/-- ITS FALSE NEIGHBOUR: 'it returns false'. Refute it at one input. -/
def fnExactVirtualOwnerWrong : ChangeSpec := { name := "fnExactVirtualOwner", fn := fun _ => fun
  | [d1, d2, d3] => { results := [.lit (.bool false)], args := [d1, d2, d3] }
  | _ => none }
def FnExactVirtualOwnerWrongFalsely : Prop := fnExactVirtualOwnerRow.holds Try.pinned (OpenSpec.ofChange fnExactVirtualOwnerWrong)

/-- 'laws.FnExactVirtualRoom': WHATEVER THE INPUT: true; the input reads as it did. -/
def fnExactVirtualRoomSpec : ChangeSpec := { name := "fnExactVirtualRoom", fn := fun _ => fun
  | [d1, d2, d3] => { results := [.lit (.bool true)], args := [d1, d2, d3] }
  | _ => none }
def fnExactVirtualRoomRow : OpenClaim := { program := "ytjkjodcgpdhldaa", sum := "9547c76678782ae4fb0978e47b1817f68e1eab0b56f896ae4d4e1ce70612f310", func := "loop.example/g00986/laws.FnExactVirtualRoom", spec := "fnExactVirtualRoom", unfollowed := true, recurses := true, apart := false }
def FnExactVirtualRoomSaid : Prop := fnExactVirtualRoomRow.holds Try.pinned (OpenSpec.ofChange fnExactVirtualRoomSpec)

/-- ITS FALSE NEIGHBOUR: 'it returns false'. Refute it at one input. -/
def fnExactVirtualRoomWrong : ChangeSpec := { name := "fnExactVirtualRoom", fn := fun _ => fun
  | [d1, d2, d3] => { results := [.lit (.bool false)], args := [d1, d2, d3] }
  | _ => none }
def FnExactVirtualRoomWrongFalsely : Prop := fnExactVirtualRoomRow.holds Try.pinned (OpenSpec.ofChange fnExactVirtualRoomWrong)

/-- 'laws.FnVirtuals': WHATEVER THE INPUT: true; the input reads as it did. -/
def fnVirtualsSpec : ChangeSpec := { name := "fnVirtuals", fn := fun _ => fun
  | [d] => { results := [.lit (.bool true)], args := [d] }
  | _ => none }
def fnVirtualsRow : OpenClaim := { program := "ytjkjodcgpdhldaa", sum := "9547c76678782ae4fb0978e47b1817f68e1eab0b56f896ae4d4e1ce70612f310", func := "loop.example/g00986/laws.FnVirtuals", spec := "fnVirtuals", unfollowed := true, recurses := true, apart := false }
def FnVirtualsSaid : Prop := fnVirtualsRow.holds Try.pinned (OpenSpec.ofChange fnVirtualsSpec)

/-- ITS FALSE NEIGHBOUR: 'it returns false'. Refute it at one input. -/
def fnVirtualsWrong : ChangeSpec := { name := "fnVirtuals", fn := fun _ => fun
  | [d] => { results := [.lit (.bool false)], args := [d] }
  | _ => none }
def FnVirtualsWrongFalsely : Prop := fnVirtualsRow.holds Try.pinned (OpenSpec.ofChange fnVirtualsWrong)

/-- 'laws.FnExactActOk': WHATEVER THE INPUT: true; the input reads as it did. -/
def fnExactActOkSpec : ChangeSpec := { name := "fnExactActOk", fn := fun _ => fun
  | [d] => { results := [.lit (.bool true)], args := [d] }
  | _ => none }
def fnExactActOkRow : OpenClaim := { program := "ytjkjodcgpdhldaa", sum := "9547c76678782ae4fb0978e47b1817f68e1eab0b56f896ae4d4e1ce70612f310", func := "loop.example/g00986/laws.FnExactActOk", spec := "fnExactActOk", apart := false }
def FnExactActOkSaid : Prop := fnExactActOkRow.holds Try.pinned (OpenSpec.ofChange fnExactActOkSpec)

/-- ITS FALSE NEIGHBOUR: 'it returns false'. Refute it at one input. -/
def fnExactActOkWrong : ChangeSpec := { name := "fnExactActOk", fn := fun _ => fun
  | [d] => { results := [.lit (.bool false)], args := [d] }
  | _ => none }
def FnExactActOkWrongFalsely : Prop := fnExactActOkRow.holds Try.pinned (OpenSpec.ofChange fnExactActOkWrong)

/-- 'laws.FnExactSeverityName': WHATEVER THE INPUT: true; the input reads as it did. -/
def fnExactSeverityNameSpec : ChangeSpec := { name := "fnExactSeverityName", fn := fun _ => fun
  | [d] => { results := [.lit (.bool true)], args := [d] }
  | _ => none }
def fnExactSeverityNameRow : OpenClaim := { program := "ytjkjodcgpdhldaa", sum := "9547c76678782ae4fb0978e47b1817f68e1eab0b56f896ae4d4e1ce70612f310", func := "loop.example/g00986/laws.FnExactSeverityName", spec := "fnExactSeverityName", apart := false }
def FnExactSeverityNameSaid : Prop := fnExactSeverityNameRow.holds Try.pinned (OpenSpec.ofChange fnExactSeverityNameSpec)

/-- ITS FALSE NEIGHBOUR: 'it returns false'. Refute it at one input. -/
def fnExactSeverityNameWrong : ChangeSpec := { name := "fnExactSeverityName", fn := fun _ => fun
  | [d] => { results := [.lit (.bool false)], args := [d] }
  | _ => none }
def FnExactSeverityNameWrongFalsely : Prop := fnExactSeverityNameRow.holds Try.pinned (OpenSpec.ofChange fnExactSeverityNameWrong)

/-- 'laws.FnExactLogOk': WHATEVER THE INPUT: true; the input reads as it did. -/
def fnExactLogOkSpec : ChangeSpec := { name := "fnExactLogOk", fn := fun _ => fun
  | [d] => { results := [.lit (.bool true)], args := [d] }
  | _ => none }
def fnExactLogOkRow : OpenClaim := { program := "ytjkjodcgpdhldaa", sum := "9547c76678782ae4fb0978e47b1817f68e1eab0b56f896ae4d4e1ce70612f310", func := "loop.example/g00986/laws.FnExactLogOk", spec := "fnExactLogOk", apart := false }
def FnExactLogOkSaid : Prop := fnExactLogOkRow.holds Try.pinned (OpenSpec.ofChange fnExactLogOkSpec)

/-- ITS FALSE NEIGHBOUR: 'it returns false'. Refute it at one input. -/
def fnExactLogOkWrong : ChangeSpec := { name := "fnExactLogOk", fn := fun _ => fun
  | [d] => { results := [.lit (.bool false)], args := [d] }
  | _ => none }
def FnExactLogOkWrongFalsely : Prop := fnExactLogOkRow.holds Try.pinned (OpenSpec.ofChange fnExactLogOkWrong)

/-- 'laws.FnExactWorstOf': WHATEVER THE INPUT: true; the input reads as it did. -/
def fnExactWorstOfSpec : ChangeSpec := { name := "fnExactWorstOf", fn := fun _ => fun
  | [d] => { results := [.lit (.bool true)], args := [d] }
  | _ => none }
def fnExactWorstOfRow : OpenClaim := { program := "ytjkjodcgpdhldaa", sum := "9547c76678782ae4fb0978e47b1817f68e1eab0b56f896ae4d4e1ce70612f310", func := "loop.example/g00986/laws.FnExactWorstOf", spec := "fnExactWorstOf", apart := false }
def FnExactWorstOfSaid : Prop := fnExactWorstOfRow.holds Try.pinned (OpenSpec.ofChange fnExactWorstOfSpec)

/-- ITS FALSE NEIGHBOUR: 'it returns false'. Refute it at one input. -/
def fnExactWorstOfWrong : ChangeSpec := { name := "fnExactWorstOf", fn := fun _ => fun
  | [d] => { results := [.lit (.bool false)], args := [d] }
  | _ => none }
def FnExactWorstOfWrongFalsely : Prop := fnExactWorstOfRow.holds Try.pinned (OpenSpec.ofChange fnExactWorstOfWrong)

/-- 'laws.FnExactReportError': WHATEVER THE INPUT: true; the input reads as it did. -/
def fnExactReportErrorSpec : ChangeSpec := { name := "fnExactReportError", fn := fun _ => fun
  | [d1, d2] => { results := [.lit (.bool true)], args := [d1, d2] }
  | _ => none }
def fnExactReportErrorRow : OpenClaim := { program := "ytjkjodcgpdhldaa", sum := "9547c76678782ae4fb0978e47b1817f68e1eab0b56f896ae4d4e1ce70612f310", func := "loop.example/g00986/laws.FnExactReportError", spec := "fnExactReportError", apart := false }
def FnExactReportErrorSaid : Prop := fnExactReportErrorRow.holds Try.pinned (OpenSpec.ofChange fnExactReportErrorSpec)

/-- ITS FALSE NEIGHBOUR: 'it returns false'. Refute it at one input. -/
def fnExactReportErrorWrong : ChangeSpec := { name := "fnExactReportError", fn := fun _ => fun
  | [d1, d2] => { results := [.lit (.bool false)], args := [d1, d2] }
  | _ => none }
def FnExactReportErrorWrongFalsely : Prop := fnExactReportErrorRow.holds Try.pinned (OpenSpec.ofChange fnExactReportErrorWrong)

/-- 'laws.FnExactClearErrors': WHATEVER THE INPUT: true; the input reads as it did. -/
def fnExactClearErrorsSpec : ChangeSpec := { name := "fnExactClearErrors", fn := fun _ => fun
  | [d1, d2] => { results := [.lit (.bool true)], args := [d1, d2] }
  | _ => none }
def fnExactClearErrorsRow : OpenClaim := { program := "ytjkjodcgpdhldaa", sum := "9547c76678782ae4fb0978e47b1817f68e1eab0b56f896ae4d4e1ce70612f310", func := "loop.example/g00986/laws.FnExactClearErrors", spec := "fnExactClearErrors", apart := false }
def FnExactClearErrorsSaid : Prop := fnExactClearErrorsRow.holds Try.pinned (OpenSpec.ofChange fnExactClearErrorsSpec)

/-- ITS FALSE NEIGHBOUR: 'it returns false'. Refute it at one input. -/
def fnExactClearErrorsWrong : ChangeSpec := { name := "fnExactClearErrors", fn := fun _ => fun
  | [d1, d2] => { results := [.lit (.bool false)], args := [d1, d2] }
  | _ => none }
def FnExactClearErrorsWrongFalsely : Prop := fnExactClearErrorsRow.holds Try.pinned (OpenSpec.ofChange fnExactClearErrorsWrong)

/- THE SECOND FORM. 'bulk': how many values and letters a reading holds, each counted each time it is reached (what is shared counts as often as it is met; a slice's spare places count too). A statement '..UptoSaid' is the law's where the arguments, and the package variables that the reading takes, are together of bulk at most 1048576: NARROWER than '..Said'. Prove '..Said' where nothing that the law and all that it calls make is longer than what came in: it says more and counts as full. Else prove '..UptoSaid'. A law counts once. -/
mutual
def uptoBulk {H : Type} : DataW H → Nat
  | .lit (.string bytes) => bytes.length + 1
  | .lit _ => 1
  | .nil => 1
  | .ptr d => uptoBulk d + 1
  | .slice elems spare => uptoBulkAll elems + uptoBulkAll spare + 1
  | .agg parts => uptoBulkAll parts + 1
  | .iface _ d => uptoBulk d + 1
  | .map entries => uptoBulkEntries entries + 1
  | .held _ => 1
def uptoBulkAll {H : Type} : List (DataW H) → Nat
  | [] => 0
  | d :: r => uptoBulk d + uptoBulkAll r
def uptoBulkEntries {H : Type} : List (Lit × DataW H) → Nat
  | [] => 0
  | x :: r => uptoBulkEntry x + uptoBulkEntries r
def uptoBulkEntry {H : Type} : Lit × DataW H → Nat
  | (.string bytes, d) => bytes.length + uptoBulk d + 1
  | (_, d) => uptoBulk d + 1
 end
def uptoSmall : (H : Type) → List (DataW H) → Bool := fun _ ds => decide (uptoBulkAll ds ≤ 1048576)
def OpenSpec.upto (s : _root_.Go.ChangeSpec) : _root_.Go.OpenSpec := { _root_.Go.OpenSpec.ofChange s with cond := some uptoSmall }

/-- 'laws.FnExactVirtualOk', WHERE WHAT IT READS IS OF BULK AT MOST 1048576: true; the input reads as it did. -/
def fnExactVirtualOkUptoRow : OpenClaim := { program := "ytjkjodcgpdhldaa", sum := "9547c76678782ae4fb0978e47b1817f68e1eab0b56f896ae4d4e1ce70612f310", func := "loop.example/g00986/laws.FnExactVirtualOk", spec := "fnExactVirtualOk", apart := false, narrowed := true }
def FnExactVirtualOkUptoSaid : Prop := fnExactVirtualOkUptoRow.holds Try.pinned (OpenSpec.upto fnExactVirtualOkSpec)

/-- 'laws.FnExactVirtualId', WHERE WHAT IT READS IS OF BULK AT MOST 1048576: true; the input reads as it did. -/
def fnExactVirtualIdUptoRow : OpenClaim := { program := "ytjkjodcgpdhldaa", sum := "9547c76678782ae4fb0978e47b1817f68e1eab0b56f896ae4d4e1ce70612f310", func := "loop.example/g00986/laws.FnExactVirtualId", spec := "fnExactVirtualId", unfollowed := true, recurses := true, apart := false, narrowed := true }
def FnExactVirtualIdUptoSaid : Prop := fnExactVirtualIdUptoRow.holds Try.pinned (OpenSpec.upto fnExactVirtualIdSpec)

/-- 'laws.FnExactVirtualIds', WHERE WHAT IT READS IS OF BULK AT MOST 1048576: true; the input reads as it did. -/
def fnExactVirtualIdsUptoRow : OpenClaim := { program := "ytjkjodcgpdhldaa", sum := "9547c76678782ae4fb0978e47b1817f68e1eab0b56f896ae4d4e1ce70612f310", func := "loop.example/g00986/laws.FnExactVirtualIds", spec := "fnExactVirtualIds", unfollowed := true, recurses := true, apart := false, narrowed := true }
def FnExactVirtualIdsUptoSaid : Prop := fnExactVirtualIdsUptoRow.holds Try.pinned (OpenSpec.upto fnExactVirtualIdsSpec)

/-- 'laws.FnExactVirtualOwner', WHERE WHAT IT READS IS OF BULK AT MOST 1048576: true; the input reads as it did. -/
def fnExactVirtualOwnerUptoRow : OpenClaim := { program := "ytjkjodcgpdhldaa", sum := "9547c76678782ae4fb0978e47b1817f68e1eab0b56f896ae4d4e1ce70612f310", func := "loop.example/g00986/laws.FnExactVirtualOwner", spec := "fnExactVirtualOwner", unfollowed := true, recurses := true, apart := false, narrowed := true }
def FnExactVirtualOwnerUptoSaid : Prop := fnExactVirtualOwnerUptoRow.holds Try.pinned (OpenSpec.upto fnExactVirtualOwnerSpec)

/-- 'laws.FnExactVirtualRoom', WHERE WHAT IT READS IS OF BULK AT MOST 1048576: true; the input reads as it did. -/
def fnExactVirtualRoomUptoRow : OpenClaim := { program := "ytjkjodcgpdhldaa", sum := "9547c76678782ae4fb0978e47b1817f68e1eab0b56f896ae4d4e1ce70612f310", func := "loop.example/g00986/laws.FnExactVirtualRoom", spec := "fnExactVirtualRoom", unfollowed := true, recurses := true, apart := false, narrowed := true }
def FnExactVirtualRoomUptoSaid : Prop := fnExactVirtualRoomUptoRow.holds Try.pinned (OpenSpec.upto fnExactVirtualRoomSpec)

/-- 'laws.FnVirtuals', WHERE WHAT IT READS IS OF BULK AT MOST 1048576: true; the input reads as it did. -/
def fnVirtualsUptoRow : OpenClaim := { program := "ytjkjodcgpdhldaa", sum := "9547c76678782ae4fb0978e47b1817f68e1eab0b56f896ae4d4e1ce70612f310", func := "loop.example/g00986/laws.FnVirtuals", spec := "fnVirtuals", unfollowed := true, recurses := true, apart := false, narrowed := true }
def FnVirtualsUptoSaid : Prop := fnVirtualsUptoRow.holds Try.pinned (OpenSpec.upto fnVirtualsSpec)

/-- 'laws.FnExactActOk', WHERE WHAT IT READS IS OF BULK AT MOST 1048576: true; the input reads as it did. -/
def fnExactActOkUptoRow : OpenClaim := { program := "ytjkjodcgpdhldaa", sum := "9547c76678782ae4fb0978e47b1817f68e1eab0b56f896ae4d4e1ce70612f310", func := "loop.example/g00986/laws.FnExactActOk", spec := "fnExactActOk", apart := false, narrowed := true }
def FnExactActOkUptoSaid : Prop := fnExactActOkUptoRow.holds Try.pinned (OpenSpec.upto fnExactActOkSpec)

/-- 'laws.FnExactSeverityName', WHERE WHAT IT READS IS OF BULK AT MOST 1048576: true; the input reads as it did. -/
def fnExactSeverityNameUptoRow : OpenClaim := { program := "ytjkjodcgpdhldaa", sum := "9547c76678782ae4fb0978e47b1817f68e1eab0b56f896ae4d4e1ce70612f310", func := "loop.example/g00986/laws.FnExactSeverityName", spec := "fnExactSeverityName", apart := false, narrowed := true }
def FnExactSeverityNameUptoSaid : Prop := fnExactSeverityNameUptoRow.holds Try.pinned (OpenSpec.upto fnExactSeverityNameSpec)

/-- 'laws.FnExactLogOk', WHERE WHAT IT READS IS OF BULK AT MOST 1048576: true; the input reads as it did. -/
def fnExactLogOkUptoRow : OpenClaim := { program := "ytjkjodcgpdhldaa", sum := "9547c76678782ae4fb0978e47b1817f68e1eab0b56f896ae4d4e1ce70612f310", func := "loop.example/g00986/laws.FnExactLogOk", spec := "fnExactLogOk", apart := false, narrowed := true }
def FnExactLogOkUptoSaid : Prop := fnExactLogOkUptoRow.holds Try.pinned (OpenSpec.upto fnExactLogOkSpec)

/-- 'laws.FnExactWorstOf', WHERE WHAT IT READS IS OF BULK AT MOST 1048576: true; the input reads as it did. -/
def fnExactWorstOfUptoRow : OpenClaim := { program := "ytjkjodcgpdhldaa", sum := "9547c76678782ae4fb0978e47b1817f68e1eab0b56f896ae4d4e1ce70612f310", func := "loop.example/g00986/laws.FnExactWorstOf", spec := "fnExactWorstOf", apart := false, narrowed := true }
def FnExactWorstOfUptoSaid : Prop := fnExactWorstOfUptoRow.holds Try.pinned (OpenSpec.upto fnExactWorstOfSpec)

/-- 'laws.FnExactReportError', WHERE WHAT IT READS IS OF BULK AT MOST 1048576: true; the input reads as it did. -/
def fnExactReportErrorUptoRow : OpenClaim := { program := "ytjkjodcgpdhldaa", sum := "9547c76678782ae4fb0978e47b1817f68e1eab0b56f896ae4d4e1ce70612f310", func := "loop.example/g00986/laws.FnExactReportError", spec := "fnExactReportError", apart := false, narrowed := true }
def FnExactReportErrorUptoSaid : Prop := fnExactReportErrorUptoRow.holds Try.pinned (OpenSpec.upto fnExactReportErrorSpec)

/-- 'laws.FnExactClearErrors', WHERE WHAT IT READS IS OF BULK AT MOST 1048576: true; the input reads as it did. -/
def fnExactClearErrorsUptoRow : OpenClaim := { program := "ytjkjodcgpdhldaa", sum := "9547c76678782ae4fb0978e47b1817f68e1eab0b56f896ae4d4e1ce70612f310", func := "loop.example/g00986/laws.FnExactClearErrors", spec := "fnExactClearErrors", apart := false, narrowed := true }
def FnExactClearErrorsUptoSaid : Prop := fnExactClearErrorsUptoRow.holds Try.pinned (OpenSpec.upto fnExactClearErrorsSpec)

end Rows
end Go.Proofs.Ytjkjodcgpdhldaa
