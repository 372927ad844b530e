/-
  No cell of these rows narrows 'for every input' (looked for: loops, veiled, ifaces, maps, wideKeys, modest, calm, conditions, laid).
  DERIVED. THE GIVEN ROWS OF THIS SEAT. 12 by the template 'for every input the law returns true; each argument reads behind the call as it read before'; 0 by the template 'total and deterministic' (their statements: YtjkjodcgpdhldabTotals.lean).
  GIVEN WITH THE SEED: the statements are not yours to turn. If you find one false, say at which input.
  Laid BY PROGRAM, IN A SANDBOX (cutbox-rows.mjs): the forced cells as the released guide's own fill.sh prints them over the translation 928bc16e00288635… (all of the seat's roots in one cut). By AI agents, Wed Nov 11 2026. No macro, syntax, notation, axiom, sorry.
-/
import Derived.Test.YtjkjodcgpdhldabChecked
import GoSem.Claim
import GoSem.ClaimJoined
import GoSem.ClaimMapViews
import Derived.JoinedTies
import Derived.KernelRfl
namespace Go.Proofs.Ytjkjodcgpdhldab
/- THE CELL 'sum', in the pinned program and in every row, IS THE sha256 OF THE DUMP (.gsa) THAT YtjkjodcgpdhldabProg.lean LOADS. Nothing in Lean hashes anything: it is a label: what it is worth is what the hold of that sum in a sandbox is worth. -/
noncomputable def Try.pinned : Pinned := { name := "ytjkjodcgpdhldab", sum := "928bc16e00288635f4e18be2c65429f394c52c2dba2439187347d733e080e746", checked := Try.checked }
namespace Rows
def none {H : Type} : Left H := { results := [], args := [] }

/-- 'laws.FnExactIsDelivered': WHATEVER THE INPUT: true; the input reads as it did. -/
def fnExactIsDeliveredSpec : ChangeSpec := { name := "fnExactIsDelivered", fn := fun _ => fun
  | [d1, d2, d3] => { results := [.lit (.bool true)], args := [d1, d2, d3] }
  | _ => none }
def fnExactIsDeliveredRow : OpenClaim := { program := "ytjkjodcgpdhldab", sum := "928bc16e00288635f4e18be2c65429f394c52c2dba2439187347d733e080e746", func := "loop.example/g00986/laws.FnExactIsDelivered", spec := "fnExactIsDelivered", plainKeys := false, apart := false }
def FnExactIsDeliveredSaid : Prop := fnExactIsDeliveredRow.holds Try.pinned (OpenSpec.ofChange fnExactIsDeliveredSpec)

/-- ITS FALSE NEIGHBOUR: 'it returns false'. Refute it at one input. -/
def fnExactIsDeliveredWrong : ChangeSpec := { name := "fnExactIsDelivered", fn := fun _ => fun
  | [d1, d2, d3] => { results := [.lit (.bool false)], args := [d1, d2, d3] }
  | _ => none }
def FnExactIsDeliveredWrongFalsely : Prop := fnExactIsDeliveredRow.holds Try.pinned (OpenSpec.ofChange fnExactIsDeliveredWrong)

/-- 'laws.FnExactCountBridges': WHATEVER THE INPUT: true; the input reads as it did. -/
def fnExactCountBridgesSpec : ChangeSpec := { name := "fnExactCountBridges", fn := fun _ => fun
  | [d] => { results := [.lit (.bool true)], args := [d] }
  | _ => none }
def fnExactCountBridgesRow : OpenClaim := { program := "ytjkjodcgpdhldab", sum := "928bc16e00288635f4e18be2c65429f394c52c2dba2439187347d733e080e746", func := "loop.example/g00986/laws.FnExactCountBridges", spec := "fnExactCountBridges", plainKeys := false, apart := false }
def FnExactCountBridgesSaid : Prop := fnExactCountBridgesRow.holds Try.pinned (OpenSpec.ofChange fnExactCountBridgesSpec)

/-- ITS FALSE NEIGHBOUR: 'it returns false'. Refute it at one input. -/
def fnExactCountBridgesWrong : ChangeSpec := { name := "fnExactCountBridges", fn := fun _ => fun
  | [d] => { results := [.lit (.bool false)], args := [d] }
  | _ => none }
def FnExactCountBridgesWrongFalsely : Prop := fnExactCountBridgesRow.holds Try.pinned (OpenSpec.ofChange fnExactCountBridgesWrong)

/-- 'laws.FnExactSameTree': WHATEVER THE INPUT: true; the input reads as it did. -/
def fnExactSameTreeSpec : ChangeSpec := { name := "fnExactSameTree", fn := fun _ => fun
  | [d1, d2] => { results := [.lit (.bool true)], args := [d1, d2] }
  | _ => none }
def fnExactSameTreeRow : OpenClaim := { program := "ytjkjodcgpdhldab", sum := "928bc16e00288635f4e18be2c65429f394c52c2dba2439187347d733e080e746", func := "loop.example/g00986/laws.FnExactSameTree", spec := "fnExactSameTree", plainKeys := false, apart := false }
def FnExactSameTreeSaid : Prop := fnExactSameTreeRow.holds Try.pinned (OpenSpec.ofChange fnExactSameTreeSpec)

/-- ITS FALSE NEIGHBOUR: 'it returns false'. Refute it at one input. -/
def fnExactSameTreeWrong : ChangeSpec := { name := "fnExactSameTree", fn := fun _ => fun
  | [d1, d2] => { results := [.lit (.bool false)], args := [d1, d2] }
  | _ => none }
def FnExactSameTreeWrongFalsely : Prop := fnExactSameTreeRow.holds Try.pinned (OpenSpec.ofChange fnExactSameTreeWrong)

/-- 'laws.FnExactGrantsOk': WHATEVER THE INPUT: true; the input reads as it did. -/
def fnExactGrantsOkSpec : ChangeSpec := { name := "fnExactGrantsOk", fn := fun _ => fun
  | [d] => { results := [.lit (.bool true)], args := [d] }
  | _ => none }
def fnExactGrantsOkRow : OpenClaim := { program := "ytjkjodcgpdhldab", sum := "928bc16e00288635f4e18be2c65429f394c52c2dba2439187347d733e080e746", func := "loop.example/g00986/laws.FnExactGrantsOk", spec := "fnExactGrantsOk", plainKeys := false, apart := false }
def FnExactGrantsOkSaid : Prop := fnExactGrantsOkRow.holds Try.pinned (OpenSpec.ofChange fnExactGrantsOkSpec)

/-- ITS FALSE NEIGHBOUR: 'it returns false'. Refute it at one input. -/
def fnExactGrantsOkWrong : ChangeSpec := { name := "fnExactGrantsOk", fn := fun _ => fun
  | [d] => { results := [.lit (.bool false)], args := [d] }
  | _ => none }
def FnExactGrantsOkWrongFalsely : Prop := fnExactGrantsOkRow.holds Try.pinned (OpenSpec.ofChange fnExactGrantsOkWrong)

/-- 'laws.FnExactRevokePage': WHATEVER THE INPUT: true; the input reads as it did. -/
def fnExactRevokePageSpec : ChangeSpec := { name := "fnExactRevokePage", fn := fun _ => fun
  | [d1, d2] => { results := [.lit (.bool true)], args := [d1, d2] }
  | _ => none }
def fnExactRevokePageRow : OpenClaim := { program := "ytjkjodcgpdhldab", sum := "928bc16e00288635f4e18be2c65429f394c52c2dba2439187347d733e080e746", func := "loop.example/g00986/laws.FnExactRevokePage", spec := "fnExactRevokePage", plainKeys := false, apart := false }
def FnExactRevokePageSaid : Prop := fnExactRevokePageRow.holds Try.pinned (OpenSpec.ofChange fnExactRevokePageSpec)

/-- ITS FALSE NEIGHBOUR: 'it returns false'. Refute it at one input. -/
def fnExactRevokePageWrong : ChangeSpec := { name := "fnExactRevokePage", fn := fun _ => fun
  | [d1, d2] => { results := [.lit (.bool false)], args := [d1, d2] }
  | _ => none }
def FnExactRevokePageWrongFalsely : Prop := fnExactRevokePageRow.holds Try.pinned (OpenSpec.ofChange fnExactRevokePageWrong)

/-- 'laws.FnExactIsIsolated': WHATEVER THE INPUT: true; the input reads as it did. -/
def fnExactIsIsolatedSpec : ChangeSpec := { name := "fnExactIsIsolated", fn := fun _ => fun
  | [d1, d2, d3] => { results := [.lit (.bool true)], args := [d1, d2, d3] }
  | _ => none }
def fnExactIsIsolatedRow : OpenClaim := { program := "ytjkjodcgpdhldab", sum := "928bc16e00288635f4e18be2c65429f394c52c2dba2439187347d733e080e746", func := "loop.example/g00986/laws.FnExactIsIsolated", spec := "fnExactIsIsolated", plainKeys := false, apart := false }
def FnExactIsIsolatedSaid : Prop := fnExactIsIsolatedRow.holds Try.pinned (OpenSpec.ofChange fnExactIsIsolatedSpec)

/-- ITS FALSE NEIGHBOUR: 'it returns false'. Refute it at one input. -/
def fnExactIsIsolatedWrong : ChangeSpec := { name := "fnExactIsIsolated", fn := fun _ => fun
  | [d1, d2, d3] => { results := [.lit (.bool false)], args := [d1, d2, d3] }
  | _ => none }
def FnExactIsIsolatedWrongFalsely : Prop := fnExactIsIsolatedRow.holds Try.pinned (OpenSpec.ofChange fnExactIsIsolatedWrong)

/-- 'laws.FnExactTranslate': WHATEVER THE INPUT: true; the input reads as it did. -/
def fnExactTranslateSpec : ChangeSpec := { name := "fnExactTranslate", fn := fun _ => fun
  | [d1, d2, d3, d4] => { results := [.lit (.bool true)], args := [d1, d2, d3, d4] }
  | _ => none }
def fnExactTranslateRow : OpenClaim := { program := "ytjkjodcgpdhldab", sum := "928bc16e00288635f4e18be2c65429f394c52c2dba2439187347d733e080e746", func := "loop.example/g00986/laws.FnExactTranslate", spec := "fnExactTranslate", plainKeys := false, apart := false }
def FnExactTranslateSaid : Prop := fnExactTranslateRow.holds Try.pinned (OpenSpec.ofChange fnExactTranslateSpec)

/-- ITS FALSE NEIGHBOUR: 'it returns false'. Refute it at one input. -/
def fnExactTranslateWrong : ChangeSpec := { name := "fnExactTranslate", fn := fun _ => fun
  | [d1, d2, d3, d4] => { results := [.lit (.bool false)], args := [d1, d2, d3, d4] }
  | _ => none }
def FnExactTranslateWrongFalsely : Prop := fnExactTranslateRow.holds Try.pinned (OpenSpec.ofChange fnExactTranslateWrong)

/-- 'laws.FnExactTranslateRange': WHATEVER THE INPUT: true; the input reads as it did. -/
def fnExactTranslateRangeSpec : ChangeSpec := { name := "fnExactTranslateRange", fn := fun _ => fun
  | [d1, d2, d3, d4, d5] => { results := [.lit (.bool true)], args := [d1, d2, d3, d4, d5] }
  | _ => none }
def fnExactTranslateRangeRow : OpenClaim := { program := "ytjkjodcgpdhldab", sum := "928bc16e00288635f4e18be2c65429f394c52c2dba2439187347d733e080e746", func := "loop.example/g00986/laws.FnExactTranslateRange", spec := "fnExactTranslateRange", plainKeys := false, apart := false }
def FnExactTranslateRangeSaid : Prop := fnExactTranslateRangeRow.holds Try.pinned (OpenSpec.ofChange fnExactTranslateRangeSpec)

/-- ITS FALSE NEIGHBOUR: 'it returns false'. Refute it at one input. -/
def fnExactTranslateRangeWrong : ChangeSpec := { name := "fnExactTranslateRange", fn := fun _ => fun
  | [d1, d2, d3, d4, d5] => { results := [.lit (.bool false)], args := [d1, d2, d3, d4, d5] }
  | _ => none }
def FnExactTranslateRangeWrongFalsely : Prop := fnExactTranslateRangeRow.holds Try.pinned (OpenSpec.ofChange fnExactTranslateRangeWrong)

/-- 'laws.FnLogs': WHATEVER THE INPUT: true; the input reads as it did. -/
def fnLogsSpec : ChangeSpec := { name := "fnLogs", fn := fun _ => fun
  | [d] => { results := [.lit (.bool true)], args := [d] }
  | _ => none }
def fnLogsRow : OpenClaim := { program := "ytjkjodcgpdhldab", sum := "928bc16e00288635f4e18be2c65429f394c52c2dba2439187347d733e080e746", func := "loop.example/g00986/laws.FnLogs", spec := "fnLogs", plainKeys := false, apart := false }
def FnLogsSaid : Prop := fnLogsRow.holds Try.pinned (OpenSpec.ofChange fnLogsSpec)

/-- ITS FALSE NEIGHBOUR: 'it returns false'. Refute it at one input. -/
def fnLogsWrong : ChangeSpec := { name := "fnLogs", fn := fun _ => fun
  | [d] => { results := [.lit (.bool false)], args := [d] }
  | _ => none }
def FnLogsWrongFalsely : Prop := fnLogsRow.holds Try.pinned (OpenSpec.ofChange fnLogsWrong)

/-- 'laws.FnClears': WHATEVER THE INPUT: true; the input reads as it did. -/
def fnClearsSpec : ChangeSpec := { name := "fnClears", fn := fun _ => fun
  | [d] => { results := [.lit (.bool true)], args := [d] }
  | _ => none }
def fnClearsRow : OpenClaim := { program := "ytjkjodcgpdhldab", sum := "928bc16e00288635f4e18be2c65429f394c52c2dba2439187347d733e080e746", func := "loop.example/g00986/laws.FnClears", spec := "fnClears", plainKeys := false, apart := false }
def FnClearsSaid : Prop := fnClearsRow.holds Try.pinned (OpenSpec.ofChange fnClearsSpec)

/-- ITS FALSE NEIGHBOUR: 'it returns false'. Refute it at one input. -/
def fnClearsWrong : ChangeSpec := { name := "fnClears", fn := fun _ => fun
  | [d] => { results := [.lit (.bool false)], args := [d] }
  | _ => none }
def FnClearsWrongFalsely : Prop := fnClearsRow.holds Try.pinned (OpenSpec.ofChange fnClearsWrong)

/-- 'laws.FnTranslations': WHATEVER THE INPUT: true; the input reads as it did. -/
def fnTranslationsSpec : ChangeSpec := { name := "fnTranslations", fn := fun _ => fun
  | [d] => { results := [.lit (.bool true)], args := [d] }
  | _ => none }
def fnTranslationsRow : OpenClaim := { program := "ytjkjodcgpdhldab", sum := "928bc16e00288635f4e18be2c65429f394c52c2dba2439187347d733e080e746", func := "loop.example/g00986/laws.FnTranslations", spec := "fnTranslations", plainKeys := false, apart := false }
def FnTranslationsSaid : Prop := fnTranslationsRow.holds Try.pinned (OpenSpec.ofChange fnTranslationsSpec)

/-- ITS FALSE NEIGHBOUR: 'it returns false'. Refute it at one input. -/
def fnTranslationsWrong : ChangeSpec := { name := "fnTranslations", fn := fun _ => fun
  | [d] => { results := [.lit (.bool false)], args := [d] }
  | _ => none }
def FnTranslationsWrongFalsely : Prop := fnTranslationsRow.holds Try.pinned (OpenSpec.ofChange fnTranslationsWrong)

/-- 'laws.FnRanges': WHATEVER THE INPUT: true; the input reads as it did. -/
def fnRangesSpec : ChangeSpec := { name := "fnRanges", fn := fun _ => fun
  | [d] => { results := [.lit (.bool true)], args := [d] }
  | _ => none }
def fnRangesRow : OpenClaim := { program := "ytjkjodcgpdhldab", sum := "928bc16e00288635f4e18be2c65429f394c52c2dba2439187347d733e080e746", func := "loop.example/g00986/laws.FnRanges", spec := "fnRanges", plainKeys := false, apart := false }
def FnRangesSaid : Prop := fnRangesRow.holds Try.pinned (OpenSpec.ofChange fnRangesSpec)

/-- ITS FALSE NEIGHBOUR: 'it returns false'. Refute it at one input. -/
def fnRangesWrong : ChangeSpec := { name := "fnRanges", fn := fun _ => fun
  | [d] => { results := [.lit (.bool false)], args := [d] }
  | _ => none }
def FnRangesWrongFalsely : Prop := fnRangesRow.holds Try.pinned (OpenSpec.ofChange fnRangesWrong)

/- THE SECOND FORM. 'bulk': how many values and letters a reading holds, each counted each time it is reached (what is shared counts as often as it is met; a slice's spare places count too). A statement '..UptoSaid' is the law's where the arguments, and the package variables that the reading takes, are together of bulk at most 1048576: NARROWER than '..Said'. Prove '..Said' where nothing that the law and all that it calls make is longer than what came in: it says more and counts as full. Else prove '..UptoSaid'. A law counts once. -/
mutual
def uptoBulk {H : Type} : DataW H → Nat
  | .lit (.string bytes) => bytes.length + 1
  | .lit _ => 1
  | .nil => 1
  | .ptr d => uptoBulk d + 1
  | .slice elems spare => uptoBulkAll elems + uptoBulkAll spare + 1
  | .agg parts => uptoBulkAll parts + 1
  | .iface _ d => uptoBulk d + 1
  | .map entries => uptoBulkEntries entries + 1
  | .held _ => 1
def uptoBulkAll {H : Type} : List (DataW H) → Nat
  | [] => 0
  | d :: r => uptoBulk d + uptoBulkAll r
def uptoBulkEntries {H : Type} : List (Lit × DataW H) → Nat
  | [] => 0
  | x :: r => uptoBulkEntry x + uptoBulkEntries r
def uptoBulkEntry {H : Type} : Lit × DataW H → Nat
  | (.string bytes, d) => bytes.length + uptoBulk d + 1
  | (_, d) => uptoBulk d + 1
 end
def uptoSmall : (H : Type) → List (DataW H) → Bool := fun _ ds => decide (uptoBulkAll ds ≤ 1048576)
def OpenSpec.upto (s : _root_.Go.ChangeSpec) : _root_.Go.OpenSpec := { _root_.Go.OpenSpec.ofChange s with cond := some uptoSmall }

/-- 'laws.FnExactIsDelivered', WHERE WHAT IT READS IS OF BULK AT MOST 1048576: true; the input reads as it did. -/
def fnExactIsDeliveredUptoRow : OpenClaim := { program := "ytjkjodcgpdhldab", sum := "928bc16e00288635f4e18be2c65429f394c52c2dba2439187347d733e080e746", func := "loop.example/g00986/laws.FnExactIsDelivered", spec := "fnExactIsDelivered", plainKeys := false, apart := false, narrowed := true }
def FnExactIsDeliveredUptoSaid : Prop := fnExactIsDeliveredUptoRow.holds Try.pinned (OpenSpec.upto fnExactIsDeliveredSpec)

/-- 'laws.FnExactCountBridges', WHERE WHAT IT READS IS OF BULK AT MOST 1048576: true; the input reads as it did. -/
def fnExactCountBridgesUptoRow : OpenClaim := { program := "ytjkjodcgpdhldab", sum := "928bc16e00288635f4e18be2c65429f394c52c2dba2439187347d733e080e746", func := "loop.example/g00986/laws.FnExactCountBridges", spec := "fnExactCountBridges", plainKeys := false, apart := false, narrowed := true }
def FnExactCountBridgesUptoSaid : Prop := fnExactCountBridgesUptoRow.holds Try.pinned (OpenSpec.upto fnExactCountBridgesSpec)

/-- 'laws.FnExactSameTree', WHERE WHAT IT READS IS OF BULK AT MOST 1048576: true; the input reads as it did. -/
def fnExactSameTreeUptoRow : OpenClaim := { program := "ytjkjodcgpdhldab", sum := "928bc16e00288635f4e18be2c65429f394c52c2dba2439187347d733e080e746", func := "loop.example/g00986/laws.FnExactSameTree", spec := "fnExactSameTree", plainKeys := false, apart := false, narrowed := true }
def FnExactSameTreeUptoSaid : Prop := fnExactSameTreeUptoRow.holds Try.pinned (OpenSpec.upto fnExactSameTreeSpec)

/-- 'laws.FnExactGrantsOk', WHERE WHAT IT READS IS OF BULK AT MOST 1048576: true; the input reads as it did. -/
def fnExactGrantsOkUptoRow : OpenClaim := { program := "ytjkjodcgpdhldab", sum := "928bc16e00288635f4e18be2c65429f394c52c2dba2439187347d733e080e746", func := "loop.example/g00986/laws.FnExactGrantsOk", spec := "fnExactGrantsOk", plainKeys := false, apart := false, narrowed := true }
def FnExactGrantsOkUptoSaid : Prop := fnExactGrantsOkUptoRow.holds Try.pinned (OpenSpec.upto fnExactGrantsOkSpec)

/-- 'laws.FnExactRevokePage', WHERE WHAT IT READS IS OF BULK AT MOST 1048576: true; the input reads as it did. -/
def fnExactRevokePageUptoRow : OpenClaim := { program := "ytjkjodcgpdhldab", sum := "928bc16e00288635f4e18be2c65429f394c52c2dba2439187347d733e080e746", func := "loop.example/g00986/laws.FnExactRevokePage", spec := "fnExactRevokePage", plainKeys := false, apart := false, narrowed := true }
def FnExactRevokePageUptoSaid : Prop := fnExactRevokePageUptoRow.holds Try.pinned (OpenSpec.upto fnExactRevokePageSpec)

/-- 'laws.FnExactIsIsolated', WHERE WHAT IT READS IS OF BULK AT MOST 1048576: true; the input reads as it did. -/
def fnExactIsIsolatedUptoRow : OpenClaim := { program := "ytjkjodcgpdhldab", sum := "928bc16e00288635f4e18be2c65429f394c52c2dba2439187347d733e080e746", func := "loop.example/g00986/laws.FnExactIsIsolated", spec := "fnExactIsIsolated", plainKeys := false, apart := false, narrowed := true }
def FnExactIsIsolatedUptoSaid : Prop := fnExactIsIsolatedUptoRow.holds Try.pinned (OpenSpec.upto fnExactIsIsolatedSpec)

/-- 'laws.FnExactTranslate', WHERE WHAT IT READS IS OF BULK AT MOST 1048576: true; the input reads as it did. -/
def fnExactTranslateUptoRow : OpenClaim := { program := "ytjkjodcgpdhldab", sum := "928bc16e00288635f4e18be2c65429f394c52c2dba2439187347d733e080e746", func := "loop.example/g00986/laws.FnExactTranslate", spec := "fnExactTranslate", plainKeys := false, apart := false, narrowed := true }
def FnExactTranslateUptoSaid : Prop := fnExactTranslateUptoRow.holds Try.pinned (OpenSpec.upto fnExactTranslateSpec)

/-- 'laws.FnExactTranslateRange', WHERE WHAT IT READS IS OF BULK AT MOST 1048576: true; the input reads as it did. -/
def fnExactTranslateRangeUptoRow : OpenClaim := { program := "ytjkjodcgpdhldab", sum := "928bc16e00288635f4e18be2c65429f394c52c2dba2439187347d733e080e746", func := "loop.example/g00986/laws.FnExactTranslateRange", spec := "fnExactTranslateRange", plainKeys := false, apart := false, narrowed := true }
def FnExactTranslateRangeUptoSaid : Prop := fnExactTranslateRangeUptoRow.holds Try.pinned (OpenSpec.upto fnExactTranslateRangeSpec)

/-- 'laws.FnLogs', WHERE WHAT IT READS IS OF BULK AT MOST 1048576: true; the input reads as it did. -/
def fnLogsUptoRow : OpenClaim := { program := "ytjkjodcgpdhldab", sum := "928bc16e00288635f4e18be2c65429f394c52c2dba2439187347d733e080e746", func := "loop.example/g00986/laws.FnLogs", spec := "fnLogs", plainKeys := false, apart := false, narrowed := true }
def FnLogsUptoSaid : Prop := fnLogsUptoRow.holds Try.pinned (OpenSpec.upto fnLogsSpec)

/-- 'laws.FnClears', WHERE WHAT IT READS IS OF BULK AT MOST 1048576: true; the input reads as it did. -/
def fnClearsUptoRow : OpenClaim := { program := "ytjkjodcgpdhldab", sum := "928bc16e00288635f4e18be2c65429f394c52c2dba2439187347d733e080e746", func := "loop.example/g00986/laws.FnClears", spec := "fnClears", plainKeys := false, apart := false, narrowed := true }
def FnClearsUptoSaid : Prop := fnClearsUptoRow.holds Try.pinned (OpenSpec.upto fnClearsSpec)

/-- 'laws.FnTranslations', WHERE WHAT IT READS IS OF BULK AT MOST 1048576: true; the input reads as it did. -/
def fnTranslationsUptoRow : OpenClaim := { program := "ytjkjodcgpdhldab", sum := "928bc16e00288635f4e18be2c65429f394c52c2dba2439187347d733e080e746", func := "loop.example/g00986/laws.FnTranslations", spec := "fnTranslations", plainKeys := false, apart := false, narrowed := true }
def FnTranslationsUptoSaid : Prop := fnTranslationsUptoRow.holds Try.pinned (OpenSpec.upto fnTranslationsSpec)

/-- 'laws.FnRanges', WHERE WHAT IT READS IS OF BULK AT MOST 1048576: true; the input reads as it did. -/
def fnRangesUptoRow : OpenClaim := { program := "ytjkjodcgpdhldab", sum := "928bc16e00288635f4e18be2c65429f394c52c2dba2439187347d733e080e746", func := "loop.example/g00986/laws.FnRanges", spec := "fnRanges", plainKeys := false, apart := false, narrowed := true }
def FnRangesUptoSaid : Prop := fnRangesUptoRow.holds Try.pinned (OpenSpec.upto fnRangesSpec)

end Rows
end Go.Proofs.Ytjkjodcgpdhldab
