/-
  No cell of these rows narrows 'for every input' (looked for: loops, veiled, ifaces, maps, wideKeys, modest, calm, conditions, laid).
  DERIVED. THE GIVEN ROWS OF THIS SEAT. 8 by the template 'for every input the law returns true; each argument reads behind the call as it read before'; 0 by the template 'total and deterministic' (their statements: YtgagbhkidponnadTotals.lean).
  GIVEN WITH THE SEED: the statements are not yours to turn. If you find one false, say at which input.
  Laid BY PROGRAM, IN A SANDBOX (cutbox-rows.mjs): the forced cells as the released guide's own fill.sh prints them over the translation 2233ff496571bce0… (all of the seat's roots in one cut). By AI agents, Wed Nov 11 2026. No macro, syntax, notation, axiom, sorry.
-/
import Derived.Test.YtgagbhkidponnadChecked
import GoSem.Claim
import GoSem.ClaimJoined
import GoSem.ClaimMapViews
import Derived.JoinedTies
import Derived.KernelRfl
namespace Go.Proofs.Ytgagbhkidponnad
/- THE CELL 'sum', in the pinned program and in every row, IS THE sha256 OF THE DUMP (.gsa) THAT YtgagbhkidponnadProg.lean LOADS. Nothing in Lean hashes anything: it is a label: what it is worth is what the hold of that sum in a sandbox is worth. -/
noncomputable def Try.pinned : Pinned := { name := "ytgagbhkidponnad", sum := "2233ff496571bce0c97c333f08fc6e9a8c3efc978c37681f538f43c53ab91669", checked := Try.checked }
namespace Rows
def none {H : Type} : Left H := { results := [], args := [] }

/-- 'laws.FnExactReportError': WHATEVER THE INPUT: true; the input reads as it did. -/
def fnExactReportErrorSpec : ChangeSpec := { name := "fnExactReportError", fn := fun _ => fun
  | [d1, d2] => { results := [.lit (.bool true)], args := [d1, d2] }
  | _ => none }
def fnExactReportErrorRow : OpenClaim := { program := "ytgagbhkidponnad", sum := "2233ff496571bce0c97c333f08fc6e9a8c3efc978c37681f538f43c53ab91669", func := "loop.example/g00986/laws.FnExactReportError", spec := "fnExactReportError", apart := false }
def FnExactReportErrorSaid : Prop := fnExactReportErrorRow.holds Try.pinned (OpenSpec.ofChange fnExactReportErrorSpec)

/-- ITS FALSE NEIGHBOUR: 'it returns false'. Refute it at one input. -/
def fnExactReportErrorWrong : ChangeSpec := { name := "fnExactReportError", fn := fun _ => fun
  | [d1, d2] => { results := [.lit (.bool false)], args := [d1, d2] }
  | _ => none }
def FnExactReportErrorWrongFalsely : Prop := fnExactReportErrorRow.holds Try.pinned (OpenSpec.ofChange fnExactReportErrorWrong)

/-- 'laws.FnExactClearErrors': WHATEVER THE INPUT: true; the input reads as it did. -/
def fnExactClearErrorsSpec : ChangeSpec := { name := "fnExactClearErrors", fn := fun _ => fun
  | [d1, d2] => { results := [.lit (.bool true)], args := [d1, d2] }
  | _ => none }
def fnExactClearErrorsRow : OpenClaim := { program := "ytgagbhkidponnad", sum := "2233ff496571bce0c97c333f08fc6e9a8c3efc978c37681f538f43c53ab91669", func := "loop.example/g00986/laws.FnExactClearErrors", spec := "fnExactClearErrors", apart := false }
def FnExactClearErrorsSaid : Prop := fnExactClearErrorsRow.holds Try.pinned (OpenSpec.ofChange fnExactClearErrorsSpec)

/-- ITS FALSE NEIGHBOUR: 'it returns false'. Refute it at one input. -/
def fnExactClearErrorsWrong : ChangeSpec := { name := "fnExactClearErrors", fn := fun _ => fun
  | [d1, d2] => { results := [.lit (.bool false)], args := [d1, d2] }
  | _ => none }
def FnExactClearErrorsWrongFalsely : Prop := fnExactClearErrorsRow.holds Try.pinned (OpenSpec.ofChange fnExactClearErrorsWrong)

/-- 'laws.FnLogs': WHATEVER THE INPUT: true; the input reads as it did. -/
def fnLogsSpec : ChangeSpec := { name := "fnLogs", fn := fun _ => fun
  | [d] => { results := [.lit (.bool true)], args := [d] }
  | _ => none }
def fnLogsRow : OpenClaim := { program := "ytgagbhkidponnad", sum := "2233ff496571bce0c97c333f08fc6e9a8c3efc978c37681f538f43c53ab91669", func := "loop.example/g00986/laws.FnLogs", spec := "fnLogs", apart := false }
def FnLogsSaid : Prop := fnLogsRow.holds Try.pinned (OpenSpec.ofChange fnLogsSpec)

/-- ITS FALSE NEIGHBOUR: 'it returns false'. Refute it at one input. -/
def fnLogsWrong : ChangeSpec := { name := "fnLogs", fn := fun _ => fun
  | [d] => { results := [.lit (.bool false)], args := [d] }
  | _ => none }
def FnLogsWrongFalsely : Prop := fnLogsRow.holds Try.pinned (OpenSpec.ofChange fnLogsWrong)

/-- 'laws.FnClears': WHATEVER THE INPUT: true; the input reads as it did. -/
def fnClearsSpec : ChangeSpec := { name := "fnClears", fn := fun _ => fun
  | [d] => { results := [.lit (.bool true)], args := [d] }
  | _ => none }
def fnClearsRow : OpenClaim := { program := "ytgagbhkidponnad", sum := "2233ff496571bce0c97c333f08fc6e9a8c3efc978c37681f538f43c53ab91669", func := "loop.example/g00986/laws.FnClears", spec := "fnClears", apart := false }
def FnClearsSaid : Prop := fnClearsRow.holds Try.pinned (OpenSpec.ofChange fnClearsSpec)

/-- ITS FALSE NEIGHBOUR: 'it returns false'. Refute it at one input. -/
def fnClearsWrong : ChangeSpec := { name := "fnClears", fn := fun _ => fun
  | [d] => { results := [.lit (.bool false)], args := [d] }
  | _ => none }
def FnClearsWrongFalsely : Prop := fnClearsRow.holds Try.pinned (OpenSpec.ofChange fnClearsWrong)

/-- 'laws.FnExactGrant': WHATEVER THE INPUT: true; the input reads as it did. -/
def fnExactGrantSpec : ChangeSpec := { name := "fnExactGrant", fn := fun _ => fun
  | [d1, d2] => { results := [.lit (.bool true)], args := [d1, d2] }
  | _ => none }
def fnExactGrantRow : OpenClaim := { program := "ytgagbhkidponnad", sum := "2233ff496571bce0c97c333f08fc6e9a8c3efc978c37681f538f43c53ab91669", func := "loop.example/g00986/laws.FnExactGrant", spec := "fnExactGrant", apart := false }
def FnExactGrantSaid : Prop := fnExactGrantRow.holds Try.pinned (OpenSpec.ofChange fnExactGrantSpec)

/-- ITS FALSE NEIGHBOUR: 'it returns false'. Refute it at one input. -/
def fnExactGrantWrong : ChangeSpec := { name := "fnExactGrant", fn := fun _ => fun
  | [d1, d2] => { results := [.lit (.bool false)], args := [d1, d2] }
  | _ => none }
def FnExactGrantWrongFalsely : Prop := fnExactGrantRow.holds Try.pinned (OpenSpec.ofChange fnExactGrantWrong)

/-- 'laws.FnExactRunGrants': WHATEVER THE INPUT: true; the input reads as it did. -/
def fnExactRunGrantsSpec : ChangeSpec := { name := "fnExactRunGrants", fn := fun _ => fun
  | [d1, d2, d3] => { results := [.lit (.bool true)], args := [d1, d2, d3] }
  | _ => none }
def fnExactRunGrantsRow : OpenClaim := { program := "ytgagbhkidponnad", sum := "2233ff496571bce0c97c333f08fc6e9a8c3efc978c37681f538f43c53ab91669", func := "loop.example/g00986/laws.FnExactRunGrants", spec := "fnExactRunGrants", apart := false }
def FnExactRunGrantsSaid : Prop := fnExactRunGrantsRow.holds Try.pinned (OpenSpec.ofChange fnExactRunGrantsSpec)

/-- ITS FALSE NEIGHBOUR: 'it returns false'. Refute it at one input. -/
def fnExactRunGrantsWrong : ChangeSpec := { name := "fnExactRunGrants", fn := fun _ => fun
  | [d1, d2, d3] => { results := [.lit (.bool false)], args := [d1, d2, d3] }
  | _ => none }
def FnExactRunGrantsWrongFalsely : Prop := fnExactRunGrantsRow.holds Try.pinned (OpenSpec.ofChange fnExactRunGrantsWrong)

/-- 'laws.FnGrants': WHATEVER THE INPUT: true; the input reads as it did. -/
def fnGrantsSpec : ChangeSpec := { name := "fnGrants", fn := fun _ => fun
  | [d] => { results := [.lit (.bool true)], args := [d] }
  | _ => none }
def fnGrantsRow : OpenClaim := { program := "ytgagbhkidponnad", sum := "2233ff496571bce0c97c333f08fc6e9a8c3efc978c37681f538f43c53ab91669", func := "loop.example/g00986/laws.FnGrants", spec := "fnGrants", apart := false }
def FnGrantsSaid : Prop := fnGrantsRow.holds Try.pinned (OpenSpec.ofChange fnGrantsSpec)

/-- ITS FALSE NEIGHBOUR: 'it returns false'. Refute it at one input. -/
def fnGrantsWrong : ChangeSpec := { name := "fnGrants", fn := fun _ => fun
  | [d] => { results := [.lit (.bool false)], args := [d] }
  | _ => none }
def FnGrantsWrongFalsely : Prop := fnGrantsRow.holds Try.pinned (OpenSpec.ofChange fnGrantsWrong)

/-- 'laws.FnShares': WHATEVER THE INPUT: true; the input reads as it did. -/
def fnSharesSpec : ChangeSpec := { name := "fnShares", fn := fun _ => fun
  | [d] => { results := [.lit (.bool true)], args := [d] }
  | _ => none }
def fnSharesRow : OpenClaim := { program := "ytgagbhkidponnad", sum := "2233ff496571bce0c97c333f08fc6e9a8c3efc978c37681f538f43c53ab91669", func := "loop.example/g00986/laws.FnShares", spec := "fnShares", apart := false }
def FnSharesSaid : Prop := fnSharesRow.holds Try.pinned (OpenSpec.ofChange fnSharesSpec)

/-- ITS FALSE NEIGHBOUR: 'it returns false'. Refute it at one input. -/
def fnSharesWrong : ChangeSpec := { name := "fnShares", fn := fun _ => fun
  | [d] => { results := [.lit (.bool false)], args := [d] }
  | _ => none }
def FnSharesWrongFalsely : Prop := fnSharesRow.holds Try.pinned (OpenSpec.ofChange fnSharesWrong)

/- THE SECOND FORM. 'bulk': how many values and letters a reading holds, each counted each time it is reached (what is shared counts as often as it is met; a slice's spare places count too). A statement '..UptoSaid' is the law's where the arguments, and the package variables that the reading takes, are together of bulk at most 1048576: NARROWER than '..Said'. Prove '..Said' where nothing that the law and all that it calls make is longer than what came in: it says more and counts as full. Else prove '..UptoSaid'. A law counts once. -/
mutual
def uptoBulk {H : Type} : DataW H → Nat
  | .lit (.string bytes) => bytes.length + 1
  | .lit _ => 1
  | .nil => 1
  | .ptr d => uptoBulk d + 1
  | .slice elems spare => uptoBulkAll elems + uptoBulkAll spare + 1
  | .agg parts => uptoBulkAll parts + 1
  | .iface _ d => uptoBulk d + 1
  | .map entries => uptoBulkEntries entries + 1
  | .held _ => 1
def uptoBulkAll {H : Type} : List (DataW H) → Nat
  | [] => 0
  | d :: r => uptoBulk d + uptoBulkAll r
def uptoBulkEntries {H : Type} : List (Lit × DataW H) → Nat
  | [] => 0
  | x :: r => uptoBulkEntry x + uptoBulkEntries r
def uptoBulkEntry {H : Type} : Lit × DataW H → Nat
  | (.string bytes, d) => bytes.length + uptoBulk d + 1
  | (_, d) => uptoBulk d + 1
 end
def uptoSmall : (H : Type) → List (DataW H) → Bool := fun _ ds => decide (uptoBulkAll ds ≤ 1048576)
def OpenSpec.upto (s : _root_.Go.ChangeSpec) : _root_.Go.OpenSpec := { _root_.Go.OpenSpec.ofChange s with cond := some uptoSmall }

/-- 'laws.FnExactReportError', WHERE WHAT IT READS IS OF BULK AT MOST 1048576: true; the input reads as it did. -/
def fnExactReportErrorUptoRow : OpenClaim := { program := "ytgagbhkidponnad", sum := "2233ff496571bce0c97c333f08fc6e9a8c3efc978c37681f538f43c53ab91669", func := "loop.example/g00986/laws.FnExactReportError", spec := "fnExactReportError", apart := false, narrowed := true }
def FnExactReportErrorUptoSaid : Prop := fnExactReportErrorUptoRow.holds Try.pinned (OpenSpec.upto fnExactReportErrorSpec)

/-- 'laws.FnExactClearErrors', WHERE WHAT IT READS IS OF BULK AT MOST 1048576: true; the input reads as it did. -/
def fnExactClearErrorsUptoRow : OpenClaim := { program := "ytgagbhkidponnad", sum := "2233ff496571bce0c97c333f08fc6e9a8c3efc978c37681f538f43c53ab91669", func := "loop.example/g00986/laws.FnExactClearErrors", spec := "fnExactClearErrors", apart := false, narrowed := true }
def FnExactClearErrorsUptoSaid : Prop := fnExactClearErrorsUptoRow.holds Try.pinned (OpenSpec.upto fnExactClearErrorsSpec)

/-- 'laws.FnLogs', WHERE WHAT IT READS IS OF BULK AT MOST 1048576: true; the input reads as it did. -/
def fnLogsUptoRow : OpenClaim := { program := "ytgagbhkidponnad", sum := "2233ff496571bce0c97c333f08fc6e9a8c3efc978c37681f538f43c53ab91669", func := "loop.example/g00986/laws.FnLogs", spec := "fnLogs", apart := false, narrowed := true }
def FnLogsUptoSaid : Prop := fnLogsUptoRow.holds Try.pinned (OpenSpec.upto fnLogsSpec)

/-- 'laws.FnClears', WHERE WHAT IT READS IS OF BULK AT MOST 1048576: true; the input reads as it did. -/
def fnClearsUptoRow : OpenClaim := { program := "ytgagbhkidponnad", sum := "2233ff496571bce0c97c333f08fc6e9a8c3efc978c37681f538f43c53ab91669", func := "loop.example/g00986/laws.FnClears", spec := "fnClears", apart := false, narrowed := true }
def FnClearsUptoSaid : Prop := fnClearsUptoRow.holds Try.pinned (OpenSpec.upto fnClearsSpec)

/-- 'laws.FnExactGrant', WHERE WHAT IT READS IS OF BULK AT MOST 1048576: true; the input reads as it did. -/
def fnExactGrantUptoRow : OpenClaim := { program := "ytgagbhkidponnad", sum := "2233ff496571bce0c97c333f08fc6e9a8c3efc978c37681f538f43c53ab91669", func := "loop.example/g00986/laws.FnExactGrant", spec := "fnExactGrant", apart := false, narrowed := true }
def FnExactGrantUptoSaid : Prop := fnExactGrantUptoRow.holds Try.pinned (OpenSpec.upto fnExactGrantSpec)

/-- 'laws.FnExactRunGrants', WHERE WHAT IT READS IS OF BULK AT MOST 1048576: true; the input reads as it did. -/
def fnExactRunGrantsUptoRow : OpenClaim := { program := "ytgagbhkidponnad", sum := "2233ff496571bce0c97c333f08fc6e9a8c3efc978c37681f538f43c53ab91669", func := "loop.example/g00986/laws.FnExactRunGrants", spec := "fnExactRunGrants", apart := false, narrowed := true }
def FnExactRunGrantsUptoSaid : Prop := fnExactRunGrantsUptoRow.holds Try.pinned (OpenSpec.upto fnExactRunGrantsSpec)

/-- 'laws.FnGrants', WHERE WHAT IT READS IS OF BULK AT MOST 1048576: true; the input reads as it did. -/
def fnGrantsUptoRow : OpenClaim := { program := "ytgagbhkidponnad", sum := "2233ff496571bce0c97c333f08fc6e9a8c3efc978c37681f538f43c53ab91669", func := "loop.example/g00986/laws.FnGrants", spec := "fnGrants", apart := false, narrowed := true }
def FnGrantsUptoSaid : Prop := fnGrantsUptoRow.holds Try.pinned (OpenSpec.upto fnGrantsSpec)

/-- 'laws.FnShares', WHERE WHAT IT READS IS OF BULK AT MOST 1048576: true; the input reads as it did. -/
def fnSharesUptoRow : OpenClaim := { program := "ytgagbhkidponnad", sum := "2233ff496571bce0c97c333f08fc6e9a8c3efc978c37681f538f43c53ab91669", func := "loop.example/g00986/laws.FnShares", spec := "fnShares", apart := false, narrowed := true }
def FnSharesUptoSaid : Prop := fnSharesUptoRow.holds Try.pinned (OpenSpec.upto fnSharesSpec)

end Rows
end Go.Proofs.Ytgagbhkidponnad
