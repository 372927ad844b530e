/-
  No cell of these rows narrows 'for every input' (looked for: loops, veiled, ifaces, maps, wideKeys, modest, calm, conditions, laid).
  DERIVED. THE GIVEN ROWS OF THIS SEAT. 8 by the template 'for every input the law returns true; each argument reads behind the call as it read before'; 0 by the template 'total and deterministic' (their statements: YtgagbhkidponnabTotals.lean).
  GIVEN WITH THE SEED: the statements are not yours to turn. If you find one false, say at which input.
  Laid BY PROGRAM, IN A SANDBOX (cutbox-rows.mjs): the forced cells as the released guide's own fill.sh prints them over the translation d57337165dc440fd… (all of the seat's roots in one cut). By AI agents, Wed Nov 11 2026. No macro, syntax, notation, axiom, sorry.
-/
import Derived.Test.YtgagbhkidponnabChecked
import GoSem.Claim
import GoSem.ClaimJoined
import GoSem.ClaimMapViews
import Derived.JoinedTies
import Derived.KernelRfl
namespace Go.Proofs.Ytgagbhkidponnab
/- THE CELL 'sum', in the pinned program and in every row, IS THE sha256 OF THE DUMP (.gsa) THAT YtgagbhkidponnabProg.lean LOADS. Nothing in Lean hashes anything: it is a label: what it is worth is what the hold of that sum in a sandbox is worth. -/
noncomputable def Try.pinned : Pinned := { name := "ytgagbhkidponnab", sum := "d57337165dc440fd10edca67871b795fd0aa4285ac211643802a71d3f30c51e7", checked := Try.checked }
namespace Rows
def none {H : Type} : Left H := { results := [], args := [] }

/-- 'laws.FnExactGrantsOk': WHATEVER THE INPUT: true; the input reads as it did. -/
def fnExactGrantsOkSpec : ChangeSpec := { name := "fnExactGrantsOk", fn := fun _ => fun
  | [d] => { results := [.lit (.bool true)], args := [d] }
  | _ => none }
def fnExactGrantsOkRow : OpenClaim := { program := "ytgagbhkidponnab", sum := "d57337165dc440fd10edca67871b795fd0aa4285ac211643802a71d3f30c51e7", func := "loop.example/g00986/laws.FnExactGrantsOk", spec := "fnExactGrantsOk", plainKeys := false, apart := false }
def FnExactGrantsOkSaid : Prop := fnExactGrantsOkRow.holds Try.pinned (OpenSpec.ofChange fnExactGrantsOkSpec)

/-- ITS FALSE NEIGHBOUR: 'it returns false'. Refute it at one input. -/
def fnExactGrantsOkWrong : ChangeSpec := { name := "fnExactGrantsOk", fn := fun _ => fun
  | [d] => { results := [.lit (.bool false)], args := [d] }
  | _ => none }
def FnExactGrantsOkWrongFalsely : Prop := fnExactGrantsOkRow.holds Try.pinned (OpenSpec.ofChange fnExactGrantsOkWrong)

/-- 'laws.FnExactIsIsolated': WHATEVER THE INPUT: true; the input reads as it did. -/
def fnExactIsIsolatedSpec : ChangeSpec := { name := "fnExactIsIsolated", fn := fun _ => fun
  | [d1, d2, d3] => { results := [.lit (.bool true)], args := [d1, d2, d3] }
  | _ => none }
def fnExactIsIsolatedRow : OpenClaim := { program := "ytgagbhkidponnab", sum := "d57337165dc440fd10edca67871b795fd0aa4285ac211643802a71d3f30c51e7", func := "loop.example/g00986/laws.FnExactIsIsolated", spec := "fnExactIsIsolated", plainKeys := false, apart := false }
def FnExactIsIsolatedSaid : Prop := fnExactIsIsolatedRow.holds Try.pinned (OpenSpec.ofChange fnExactIsIsolatedSpec)

/-- ITS FALSE NEIGHBOUR: 'it returns false'. Refute it at one input. -/
def fnExactIsIsolatedWrong : ChangeSpec := { name := "fnExactIsIsolated", fn := fun _ => fun
  | [d1, d2, d3] => { results := [.lit (.bool false)], args := [d1, d2, d3] }
  | _ => none }
def FnExactIsIsolatedWrongFalsely : Prop := fnExactIsIsolatedRow.holds Try.pinned (OpenSpec.ofChange fnExactIsIsolatedWrong)

/-- 'laws.FnExactTranslate': WHATEVER THE INPUT: true; the input reads as it did. -/
def fnExactTranslateSpec : ChangeSpec := { name := "fnExactTranslate", fn := fun _ => fun
  | [d1, d2, d3, d4] => { results := [.lit (.bool true)], args := [d1, d2, d3, d4] }
  | _ => none }
def fnExactTranslateRow : OpenClaim := { program := "ytgagbhkidponnab", sum := "d57337165dc440fd10edca67871b795fd0aa4285ac211643802a71d3f30c51e7", func := "loop.example/g00986/laws.FnExactTranslate", spec := "fnExactTranslate", plainKeys := false, apart := false }
def FnExactTranslateSaid : Prop := fnExactTranslateRow.holds Try.pinned (OpenSpec.ofChange fnExactTranslateSpec)

/-- ITS FALSE NEIGHBOUR: 'it returns false'. Refute it at one input. -/
def fnExactTranslateWrong : ChangeSpec := { name := "fnExactTranslate", fn := fun _ => fun
  | [d1, d2, d3, d4] => { results := [.lit (.bool false)], args := [d1, d2, d3, d4] }
  | _ => none }
def FnExactTranslateWrongFalsely : Prop := fnExactTranslateRow.holds Try.pinned (OpenSpec.ofChange fnExactTranslateWrong)

/-- 'laws.FnExactTranslateRange': WHATEVER THE INPUT: true; the input reads as it did. -/
def fnExactTranslateRangeSpec : ChangeSpec := { name := "fnExactTranslateRange", fn := fun _ => fun
  | [d1, d2, d3, d4, d5] => { results := [.lit (.bool true)], args := [d1, d2, d3, d4, d5] }
  | _ => none }
def fnExactTranslateRangeRow : OpenClaim := { program := "ytgagbhkidponnab", sum := "d57337165dc440fd10edca67871b795fd0aa4285ac211643802a71d3f30c51e7", func := "loop.example/g00986/laws.FnExactTranslateRange", spec := "fnExactTranslateRange", plainKeys := false, apart := false }
def FnExactTranslateRangeSaid : Prop := fnExactTranslateRangeRow.holds Try.pinned (OpenSpec.ofChange fnExactTranslateRangeSpec)

/-- ITS FALSE NEIGHBOUR: 'it returns false'. Refute it at one input. -/
def fnExactTranslateRangeWrong : ChangeSpec := { name := "fnExactTranslateRange", fn := fun _ => fun
  | [d1, d2, d3, d4, d5] => { results := [.lit (.bool false)], args := [d1, d2, d3, d4, d5] }
  | _ => none }
def FnExactTranslateRangeWrongFalsely : Prop := fnExactTranslateRangeRow.holds Try.pinned (OpenSpec.ofChange fnExactTranslateRangeWrong)

/-- 'laws.FnRanges': WHATEVER THE INPUT: true; the input reads as it did. -/
def fnRangesSpec : ChangeSpec := { name := "fnRanges", fn := fun _ => fun
  | [d] => { results := [.lit (.bool true)], args := [d] }
  | _ => none }
def fnRangesRow : OpenClaim := { program := "ytgagbhkidponnab", sum := "d57337165dc440fd10edca67871b795fd0aa4285ac211643802a71d3f30c51e7", func := "loop.example/g00986/laws.FnRanges", spec := "fnRanges", plainKeys := false, apart := false }
def FnRangesSaid : Prop := fnRangesRow.holds Try.pinned (OpenSpec.ofChange fnRangesSpec)

/-- ITS FALSE NEIGHBOUR: 'it returns false'. Refute it at one input. -/
def fnRangesWrong : ChangeSpec := { name := "fnRanges", fn := fun _ => fun
  | [d] => { results := [.lit (.bool false)], args := [d] }
  | _ => none }
def FnRangesWrongFalsely : Prop := fnRangesRow.holds Try.pinned (OpenSpec.ofChange fnRangesWrong)

/-- 'laws.FnTranslations': WHATEVER THE INPUT: true; the input reads as it did. -/
def fnTranslationsSpec : ChangeSpec := { name := "fnTranslations", fn := fun _ => fun
  | [d] => { results := [.lit (.bool true)], args := [d] }
  | _ => none }
def fnTranslationsRow : OpenClaim := { program := "ytgagbhkidponnab", sum := "d57337165dc440fd10edca67871b795fd0aa4285ac211643802a71d3f30c51e7", func := "loop.example/g00986/laws.FnTranslations", spec := "fnTranslations", plainKeys := false, apart := false }
def FnTranslationsSaid : Prop := fnTranslationsRow.holds Try.pinned (OpenSpec.ofChange fnTranslationsSpec)

/-- ITS FALSE NEIGHBOUR: 'it returns false'. Refute it at one input. -/
def fnTranslationsWrong : ChangeSpec := { name := "fnTranslations", fn := fun _ => fun
  | [d] => { results := [.lit (.bool false)], args := [d] }
  | _ => none }
def FnTranslationsWrongFalsely : Prop := fnTranslationsRow.holds Try.pinned (OpenSpec.ofChange fnTranslationsWrong)

/-- 'laws.FnExactPortStep': WHATEVER THE INPUT: true; the input reads as it did. -/
def fnExactPortStepSpec : ChangeSpec := { name := "fnExactPortStep", fn := fun _ => fun
  | [d1, d2, d3] => { results := [.lit (.bool true)], args := [d1, d2, d3] }
  | _ => none }
def fnExactPortStepRow : OpenClaim := { program := "ytgagbhkidponnab", sum := "d57337165dc440fd10edca67871b795fd0aa4285ac211643802a71d3f30c51e7", func := "loop.example/g00986/laws.FnExactPortStep", spec := "fnExactPortStep", plainKeys := false, apart := false }
def FnExactPortStepSaid : Prop := fnExactPortStepRow.holds Try.pinned (OpenSpec.ofChange fnExactPortStepSpec)

/-- ITS FALSE NEIGHBOUR: 'it returns false'. Refute it at one input. -/
def fnExactPortStepWrong : ChangeSpec := { name := "fnExactPortStep", fn := fun _ => fun
  | [d1, d2, d3] => { results := [.lit (.bool false)], args := [d1, d2, d3] }
  | _ => none }
def FnExactPortStepWrongFalsely : Prop := fnExactPortStepRow.holds Try.pinned (OpenSpec.ofChange fnExactPortStepWrong)

/-- 'laws.FnExactPortRun': WHATEVER THE INPUT: true; the input reads as it did. -/
def fnExactPortRunSpec : ChangeSpec := { name := "fnExactPortRun", fn := fun _ => fun
  | [d1, d2, d3] => { results := [.lit (.bool true)], args := [d1, d2, d3] }
  | _ => none }
def fnExactPortRunRow : OpenClaim := { program := "ytgagbhkidponnab", sum := "d57337165dc440fd10edca67871b795fd0aa4285ac211643802a71d3f30c51e7", func := "loop.example/g00986/laws.FnExactPortRun", spec := "fnExactPortRun", plainKeys := false, apart := false }
def FnExactPortRunSaid : Prop := fnExactPortRunRow.holds Try.pinned (OpenSpec.ofChange fnExactPortRunSpec)

/-- ITS FALSE NEIGHBOUR: 'it returns false'. Refute it at one input. -/
def fnExactPortRunWrong : ChangeSpec := { name := "fnExactPortRun", fn := fun _ => fun
  | [d1, d2, d3] => { results := [.lit (.bool false)], args := [d1, d2, d3] }
  | _ => none }
def FnExactPortRunWrongFalsely : Prop := fnExactPortRunRow.holds Try.pinned (OpenSpec.ofChange fnExactPortRunWrong)

/- THE SECOND FORM. 'bulk': how many values and letters a reading holds, each counted each time it is reached (what is shared counts as often as it is met; a slice's spare places count too). A statement '..UptoSaid' is the law's where the arguments, and the package variables that the reading takes, are together of bulk at most 1048576: NARROWER than '..Said'. Prove '..Said' where nothing that the law and all that it calls make is longer than what came in: it says more and counts as full. Else prove '..UptoSaid'. A law counts once. -/
mutual
def uptoBulk {H : Type} : DataW H → Nat
  | .lit (.string bytes) => bytes.length + 1
  | .lit _ => 1
  | .nil => 1
  | .ptr d => uptoBulk d + 1
  | .slice elems spare => uptoBulkAll elems + uptoBulkAll spare + 1
  | .agg parts => uptoBulkAll parts + 1
  | .iface _ d => uptoBulk d + 1
  | .map entries => uptoBulkEntries entries + 1
  | .held _ => 1
def uptoBulkAll {H : Type} : List (DataW H) → Nat
  | [] => 0
  | d :: r => uptoBulk d + uptoBulkAll r
def uptoBulkEntries {H : Type} : List (Lit × DataW H) → Nat
  | [] => 0
  | x :: r => uptoBulkEntry x + uptoBulkEntries r
def uptoBulkEntry {H : Type} : Lit × DataW H → Nat
  | (.string bytes, d) => bytes.length + uptoBulk d + 1
  | (_, d) => uptoBulk d + 1
 end
def uptoSmall : (H : Type) → List (DataW H) → Bool := fun _ ds => decide (uptoBulkAll ds ≤ 1048576)
def OpenSpec.upto (s : _root_.Go.ChangeSpec) : _root_.Go.OpenSpec := { _root_.Go.OpenSpec.ofChange s with cond := some uptoSmall }

/-- 'laws.FnExactGrantsOk', WHERE WHAT IT READS IS OF BULK AT MOST 1048576: true; the input reads as it did. -/
def fnExactGrantsOkUptoRow : OpenClaim := { program := "ytgagbhkidponnab", sum := "d57337165dc440fd10edca67871b795fd0aa4285ac211643802a71d3f30c51e7", func := "loop.example/g00986/laws.FnExactGrantsOk", spec := "fnExactGrantsOk", plainKeys := false, apart := false, narrowed := true }
def FnExactGrantsOkUptoSaid : Prop := fnExactGrantsOkUptoRow.holds Try.pinned (OpenSpec.upto fnExactGrantsOkSpec)

/-- 'laws.FnExactIsIsolated', WHERE WHAT IT READS IS OF BULK AT MOST 1048576: true; the input reads as it did. -/
def fnExactIsIsolatedUptoRow : OpenClaim := { program := "ytgagbhkidponnab", sum := "d57337165dc440fd10edca67871b795fd0aa4285ac211643802a71d3f30c51e7", func := "loop.example/g00986/laws.FnExactIsIsolated", spec := "fnExactIsIsolated", plainKeys := false, apart := false, narrowed := true }
def FnExactIsIsolatedUptoSaid : Prop := fnExactIsIsolatedUptoRow.holds Try.pinned (OpenSpec.upto fnExactIsIsolatedSpec)

/-- 'laws.FnExactTranslate', WHERE WHAT IT READS IS OF BULK AT MOST 1048576: true; the input reads as it did. -/
def fnExactTranslateUptoRow : OpenClaim := { program := "ytgagbhkidponnab", sum := "d57337165dc440fd10edca67871b795fd0aa4285ac211643802a71d3f30c51e7", func := "loop.example/g00986/laws.FnExactTranslate", spec := "fnExactTranslate", plainKeys := false, apart := false, narrowed := true }
def FnExactTranslateUptoSaid : Prop := fnExactTranslateUptoRow.holds Try.pinned (OpenSpec.upto fnExactTranslateSpec)

/-- 'laws.FnExactTranslateRange', WHERE WHAT IT READS IS OF BULK AT MOST 1048576: true; the input reads as it did. -/
def fnExactTranslateRangeUptoRow : OpenClaim := { program := "ytgagbhkidponnab", sum := "d57337165dc440fd10edca67871b795fd0aa4285ac211643802a71d3f30c51e7", func := "loop.example/g00986/laws.FnExactTranslateRange", spec := "fnExactTranslateRange", plainKeys := false, apart := false, narrowed := true }
def FnExactTranslateRangeUptoSaid : Prop := fnExactTranslateRangeUptoRow.holds Try.pinned (OpenSpec.upto fnExactTranslateRangeSpec)

/-- 'laws.FnRanges', WHERE WHAT IT READS IS OF BULK AT MOST 1048576: true; the input reads as it did. -/
def fnRangesUptoRow : OpenClaim := { program := "ytgagbhkidponnab", sum := "d57337165dc440fd10edca67871b795fd0aa4285ac211643802a71d3f30c51e7", func := "loop.example/g00986/laws.FnRanges", spec := "fnRanges", plainKeys := false, apart := false, narrowed := true }
def FnRangesUptoSaid : Prop := fnRangesUptoRow.holds Try.pinned (OpenSpec.upto fnRangesSpec)

/-- 'laws.FnTranslations', WHERE WHAT IT READS IS OF BULK AT MOST 1048576: true; the input reads as it did. -/
def fnTranslationsUptoRow : OpenClaim := { program := "ytgagbhkidponnab", sum := "d57337165dc440fd10edca67871b795fd0aa4285ac211643802a71d3f30c51e7", func := "loop.example/g00986/laws.FnTranslations", spec := "fnTranslations", plainKeys := false, apart := false, narrowed := true }
def FnTranslationsUptoSaid : Prop := fnTranslationsUptoRow.holds Try.pinned (OpenSpec.upto fnTranslationsSpec)

/-- 'laws.FnExactPortStep', WHERE WHAT IT READS IS OF BULK AT MOST 1048576: true; the input reads as it did. -/
def fnExactPortStepUptoRow : OpenClaim := { program := "ytgagbhkidponnab", sum := "d57337165dc440fd10edca67871b795fd0aa4285ac211643802a71d3f30c51e7", func := "loop.example/g00986/laws.FnExactPortStep", spec := "fnExactPortStep", plainKeys := false, apart := false, narrowed := true }
def FnExactPortStepUptoSaid : Prop := fnExactPortStepUptoRow.holds Try.pinned (OpenSpec.upto fnExactPortStepSpec)

/-- 'laws.FnExactPortRun', WHERE WHAT IT READS IS OF BULK AT MOST 1048576: true; the input reads as it did. -/
def fnExactPortRunUptoRow : OpenClaim := { program := "ytgagbhkidponnab", sum := "d57337165dc440fd10edca67871b795fd0aa4285ac211643802a71d3f30c51e7", func := "loop.example/g00986/laws.FnExactPortRun", spec := "fnExactPortRun", plainKeys := false, apart := false, narrowed := true }
def FnExactPortRunUptoSaid : Prop := fnExactPortRunUptoRow.holds Try.pinned (OpenSpec.upto fnExactPortRunSpec)

end Rows
end Go.Proofs.Ytgagbhkidponnab
