/-
  No cell of these rows narrows 'for every input' (looked for: loops, veiled, ifaces, maps, wideKeys, modest, calm, conditions, laid).
  DERIVED. THE GIVEN ROWS OF THIS SEAT. 8 by the template 'for every input the law returns true; each argument reads behind the call as it read before'; 0 by the template 'total and deterministic' (their statements: YtomiicegkdogkaaTotals.lean).
  GIVEN WITH THE SEED: the statements are not yours to turn. If you find one false, say at which input.
  Laid BY PROGRAM, IN A SANDBOX (cutbox-rows.mjs): the forced cells as the released guide's own fill.sh prints them over the translation 601ff094722bbb71… (all of the seat's roots in one cut). By AI agents, Wed Nov 11 2026. No macro, syntax, notation, axiom, sorry.
-/
import Derived.Test.YtomiicegkdogkaaChecked
import GoSem.Claim
import GoSem.ClaimJoined
import GoSem.ClaimMapViews
import Derived.JoinedTies
import Derived.KernelRfl
namespace Go.Proofs.Ytomiicegkdogkaa
/- THE CELL 'sum', in the pinned program and in every row, IS THE sha256 OF THE DUMP (.gsa) THAT YtomiicegkdogkaaProg.lean LOADS. Nothing in Lean hashes anything: it is a label: what it is worth is what the hold of that sum in a sandbox is worth. -/
noncomputable def Try.pinned : Pinned := { name := "ytomiicegkdogkaa", sum := "601ff094722bbb71d21f68db70dc746dcf5b238f7cb44ff295d0a7b0d2c00175", checked := Try.checked }
namespace Rows
def none {H : Type} : Left H := { results := [], args := [] }

/-- 'laws.FnExactRaiseVector': WHATEVER THE INPUT: true; the input reads as it did. -/
def fnExactRaiseVectorSpec : ChangeSpec := { name := "fnExactRaiseVector", fn := fun _ => fun
  | [d1, d2, d3] => { results := [.lit (.bool true)], args := [d1, d2, d3] }
  | _ => none }
def fnExactRaiseVectorRow : OpenClaim := { program := "ytomiicegkdogkaa", sum := "601ff094722bbb71d21f68db70dc746dcf5b238f7cb44ff295d0a7b0d2c00175", func := "loop.example/g00986/laws.FnExactRaiseVector", spec := "fnExactRaiseVector", inPlace := ["(*internal/sync.Mutex).Lock", "internal/race.Disable", "sync/atomic.CompareAndSwapInt32", "internal/race.Enable", "internal/race.Acquire", "(*internal/sync.Mutex).lockSlow", "internal/sync.runtime_canSpin", "internal/sync.runtime_doSpin", "internal/sync.throw", "internal/sync.runtime_nanotime", "internal/sync.runtime_SemacquireMutex", "sync/atomic.AddInt32", "(*internal/sync.Mutex).Unlock", "internal/race.ReleaseMerge", "(*internal/sync.Mutex).unlockSlow", "internal/sync.fatal", "internal/sync.runtime_Semrelease"], apart := false }
def FnExactRaiseVectorSaid : Prop := fnExactRaiseVectorRow.holds Try.pinned (OpenSpec.ofChange fnExactRaiseVectorSpec)

/-- ITS FALSE NEIGHBOUR: 'it returns false'. Refute it at one input. -/
def fnExactRaiseVectorWrong : ChangeSpec := { name := "fnExactRaiseVector", fn := fun _ => fun
  | [d1, d2, d3] => { results := [.lit (.bool false)], args := [d1, d2, d3] }
  | _ => none }
def FnExactRaiseVectorWrongFalsely : Prop := fnExactRaiseVectorRow.holds Try.pinned (OpenSpec.ofChange fnExactRaiseVectorWrong)

/-- 'laws.FnExactSetMask': WHATEVER THE INPUT: true; the input reads as it did. -/
def fnExactSetMaskSpec : ChangeSpec := { name := "fnExactSetMask", fn := fun _ => fun
  | [d1, d2, d3, d4] => { results := [.lit (.bool true)], args := [d1, d2, d3, d4] }
  | _ => none }
def fnExactSetMaskRow : OpenClaim := { program := "ytomiicegkdogkaa", sum := "601ff094722bbb71d21f68db70dc746dcf5b238f7cb44ff295d0a7b0d2c00175", func := "loop.example/g00986/laws.FnExactSetMask", spec := "fnExactSetMask", inPlace := ["(*internal/sync.Mutex).Lock", "internal/race.Disable", "sync/atomic.CompareAndSwapInt32", "internal/race.Enable", "internal/race.Acquire", "(*internal/sync.Mutex).lockSlow", "internal/sync.runtime_canSpin", "internal/sync.runtime_doSpin", "internal/sync.throw", "internal/sync.runtime_nanotime", "internal/sync.runtime_SemacquireMutex", "sync/atomic.AddInt32", "(*internal/sync.Mutex).Unlock", "internal/race.ReleaseMerge", "(*internal/sync.Mutex).unlockSlow", "internal/sync.fatal", "internal/sync.runtime_Semrelease"], apart := false }
def FnExactSetMaskSaid : Prop := fnExactSetMaskRow.holds Try.pinned (OpenSpec.ofChange fnExactSetMaskSpec)

/-- ITS FALSE NEIGHBOUR: 'it returns false'. Refute it at one input. -/
def fnExactSetMaskWrong : ChangeSpec := { name := "fnExactSetMask", fn := fun _ => fun
  | [d1, d2, d3, d4] => { results := [.lit (.bool false)], args := [d1, d2, d3, d4] }
  | _ => none }
def FnExactSetMaskWrongFalsely : Prop := fnExactSetMaskRow.holds Try.pinned (OpenSpec.ofChange fnExactSetMaskWrong)

/-- 'laws.FnVectors': WHATEVER THE INPUT: true; the input reads as it did. -/
def fnVectorsSpec : ChangeSpec := { name := "fnVectors", fn := fun _ => fun
  | [d] => { results := [.lit (.bool true)], args := [d] }
  | _ => none }
def fnVectorsRow : OpenClaim := { program := "ytomiicegkdogkaa", sum := "601ff094722bbb71d21f68db70dc746dcf5b238f7cb44ff295d0a7b0d2c00175", func := "loop.example/g00986/laws.FnVectors", spec := "fnVectors", inPlace := ["(*internal/sync.Mutex).Lock", "internal/race.Disable", "sync/atomic.CompareAndSwapInt32", "internal/race.Enable", "internal/race.Acquire", "(*internal/sync.Mutex).lockSlow", "internal/sync.runtime_canSpin", "internal/sync.runtime_doSpin", "internal/sync.throw", "internal/sync.runtime_nanotime", "internal/sync.runtime_SemacquireMutex", "sync/atomic.AddInt32", "(*internal/sync.Mutex).Unlock", "internal/race.ReleaseMerge", "(*internal/sync.Mutex).unlockSlow", "internal/sync.fatal", "internal/sync.runtime_Semrelease"], unfollowed := true, recurses := true, apart := false }
def FnVectorsSaid : Prop := fnVectorsRow.holds Try.pinned (OpenSpec.ofChange fnVectorsSpec)

/-- ITS FALSE NEIGHBOUR: 'it returns false'. Refute it at one input. -/
def fnVectorsWrong : ChangeSpec := { name := "fnVectors", fn := fun _ => fun
  | [d] => { results := [.lit (.bool false)], args := [d] }
  | _ => none }
def FnVectorsWrongFalsely : Prop := fnVectorsRow.holds Try.pinned (OpenSpec.ofChange fnVectorsWrong)

/-- 'laws.FnExactSpendCredits': WHATEVER THE INPUT: true; the input reads as it did. -/
def fnExactSpendCreditsSpec : ChangeSpec := { name := "fnExactSpendCredits", fn := fun _ => fun
  | [d1, d2] => { results := [.lit (.bool true)], args := [d1, d2] }
  | _ => none }
def fnExactSpendCreditsRow : OpenClaim := { program := "ytomiicegkdogkaa", sum := "601ff094722bbb71d21f68db70dc746dcf5b238f7cb44ff295d0a7b0d2c00175", func := "loop.example/g00986/laws.FnExactSpendCredits", spec := "fnExactSpendCredits", unfollowed := true, recurses := true, apart := false }
def FnExactSpendCreditsSaid : Prop := fnExactSpendCreditsRow.holds Try.pinned (OpenSpec.ofChange fnExactSpendCreditsSpec)

/-- ITS FALSE NEIGHBOUR: 'it returns false'. Refute it at one input. -/
def fnExactSpendCreditsWrong : ChangeSpec := { name := "fnExactSpendCredits", fn := fun _ => fun
  | [d1, d2] => { results := [.lit (.bool false)], args := [d1, d2] }
  | _ => none }
def FnExactSpendCreditsWrongFalsely : Prop := fnExactSpendCreditsRow.holds Try.pinned (OpenSpec.ofChange fnExactSpendCreditsWrong)

/-- 'laws.FnExactReturnCredits': WHATEVER THE INPUT: true; the input reads as it did. -/
def fnExactReturnCreditsSpec : ChangeSpec := { name := "fnExactReturnCredits", fn := fun _ => fun
  | [d1, d2] => { results := [.lit (.bool true)], args := [d1, d2] }
  | _ => none }
def fnExactReturnCreditsRow : OpenClaim := { program := "ytomiicegkdogkaa", sum := "601ff094722bbb71d21f68db70dc746dcf5b238f7cb44ff295d0a7b0d2c00175", func := "loop.example/g00986/laws.FnExactReturnCredits", spec := "fnExactReturnCredits", unfollowed := true, recurses := true, apart := false }
def FnExactReturnCreditsSaid : Prop := fnExactReturnCreditsRow.holds Try.pinned (OpenSpec.ofChange fnExactReturnCreditsSpec)

/-- ITS FALSE NEIGHBOUR: 'it returns false'. Refute it at one input. -/
def fnExactReturnCreditsWrong : ChangeSpec := { name := "fnExactReturnCredits", fn := fun _ => fun
  | [d1, d2] => { results := [.lit (.bool false)], args := [d1, d2] }
  | _ => none }
def FnExactReturnCreditsWrongFalsely : Prop := fnExactReturnCreditsRow.holds Try.pinned (OpenSpec.ofChange fnExactReturnCreditsWrong)

/-- 'laws.FnCredits': WHATEVER THE INPUT: true; the input reads as it did. -/
def fnCreditsSpec : ChangeSpec := { name := "fnCredits", fn := fun _ => fun
  | [d] => { results := [.lit (.bool true)], args := [d] }
  | _ => none }
def fnCreditsRow : OpenClaim := { program := "ytomiicegkdogkaa", sum := "601ff094722bbb71d21f68db70dc746dcf5b238f7cb44ff295d0a7b0d2c00175", func := "loop.example/g00986/laws.FnCredits", spec := "fnCredits", unfollowed := true, recurses := true, apart := false }
def FnCreditsSaid : Prop := fnCreditsRow.holds Try.pinned (OpenSpec.ofChange fnCreditsSpec)

/-- ITS FALSE NEIGHBOUR: 'it returns false'. Refute it at one input. -/
def fnCreditsWrong : ChangeSpec := { name := "fnCredits", fn := fun _ => fun
  | [d] => { results := [.lit (.bool false)], args := [d] }
  | _ => none }
def FnCreditsWrongFalsely : Prop := fnCreditsRow.holds Try.pinned (OpenSpec.ofChange fnCreditsWrong)

/-- 'laws.FnScrambles': WHATEVER THE INPUT: true; the input reads as it did. -/
def fnScramblesSpec : ChangeSpec := { name := "fnScrambles", fn := fun _ => fun
  | [d] => { results := [.lit (.bool true)], args := [d] }
  | _ => none }
def fnScramblesRow : OpenClaim := { program := "ytomiicegkdogkaa", sum := "601ff094722bbb71d21f68db70dc746dcf5b238f7cb44ff295d0a7b0d2c00175", func := "loop.example/g00986/laws.FnScrambles", spec := "fnScrambles", unfollowed := true, recurses := true, apart := false }
def FnScramblesSaid : Prop := fnScramblesRow.holds Try.pinned (OpenSpec.ofChange fnScramblesSpec)

/-- ITS FALSE NEIGHBOUR: 'it returns false'. Refute it at one input. -/
def fnScramblesWrong : ChangeSpec := { name := "fnScrambles", fn := fun _ => fun
  | [d] => { results := [.lit (.bool false)], args := [d] }
  | _ => none }
def FnScramblesWrongFalsely : Prop := fnScramblesRow.holds Try.pinned (OpenSpec.ofChange fnScramblesWrong)

/-- 'laws.FnExactNewChannel': WHATEVER THE INPUT: true; the input reads as it did. -/
def fnExactNewChannelSpec : ChangeSpec := { name := "fnExactNewChannel", fn := fun _ => fun
  | [d] => { results := [.lit (.bool true)], args := [d] }
  | _ => none }
def fnExactNewChannelRow : OpenClaim := { program := "ytomiicegkdogkaa", sum := "601ff094722bbb71d21f68db70dc746dcf5b238f7cb44ff295d0a7b0d2c00175", func := "loop.example/g00986/laws.FnExactNewChannel", spec := "fnExactNewChannel", apart := false }
def FnExactNewChannelSaid : Prop := fnExactNewChannelRow.holds Try.pinned (OpenSpec.ofChange fnExactNewChannelSpec)

/-- ITS FALSE NEIGHBOUR: 'it returns false'. Refute it at one input. -/
def fnExactNewChannelWrong : ChangeSpec := { name := "fnExactNewChannel", fn := fun _ => fun
  | [d] => { results := [.lit (.bool false)], args := [d] }
  | _ => none }
def FnExactNewChannelWrongFalsely : Prop := fnExactNewChannelRow.holds Try.pinned (OpenSpec.ofChange fnExactNewChannelWrong)

/- THE SECOND FORM. 'bulk': how many values and letters a reading holds, each counted each time it is reached (what is shared counts as often as it is met; a slice's spare places count too). A statement '..UptoSaid' is the law's where the arguments, and the package variables that the reading takes, are together of bulk at most 1048576: NARROWER than '..Said'. Prove '..Said' where nothing that the law and all that it calls make is longer than what came in: it says more and counts as full. Else prove '..UptoSaid'. A law counts once. -/
mutual
def uptoBulk {H : Type} : DataW H → Nat
  | .lit (.string bytes) => bytes.length + 1
  | .lit _ => 1
  | .nil => 1
  | .ptr d => uptoBulk d + 1
  | .slice elems spare => uptoBulkAll elems + uptoBulkAll spare + 1
  | .agg parts => uptoBulkAll parts + 1
  | .iface _ d => uptoBulk d + 1
  | .map entries => uptoBulkEntries entries + 1
  | .held _ => 1
def uptoBulkAll {H : Type} : List (DataW H) → Nat
  | [] => 0
  | d :: r => uptoBulk d + uptoBulkAll r
def uptoBulkEntries {H : Type} : List (Lit × DataW H) → Nat
  | [] => 0
  | x :: r => uptoBulkEntry x + uptoBulkEntries r
def uptoBulkEntry {H : Type} : Lit × DataW H → Nat
  | (.string bytes, d) => bytes.length + uptoBulk d + 1
  | (_, d) => uptoBulk d + 1
 end
def uptoSmall : (H : Type) → List (DataW H) → Bool := fun _ ds => decide (uptoBulkAll ds ≤ 1048576)
def OpenSpec.upto (s : _root_.Go.ChangeSpec) : _root_.Go.OpenSpec := { _root_.Go.OpenSpec.ofChange s with cond := some uptoSmall }

/-- 'laws.FnExactRaiseVector', WHERE WHAT IT READS IS OF BULK AT MOST 1048576: true; the input reads as it did. -/
def fnExactRaiseVectorUptoRow : OpenClaim := { program := "ytomiicegkdogkaa", sum := "601ff094722bbb71d21f68db70dc746dcf5b238f7cb44ff295d0a7b0d2c00175", func := "loop.example/g00986/laws.FnExactRaiseVector", spec := "fnExactRaiseVector", inPlace := ["(*internal/sync.Mutex).Lock", "internal/race.Disable", "sync/atomic.CompareAndSwapInt32", "internal/race.Enable", "internal/race.Acquire", "(*internal/sync.Mutex).lockSlow", "internal/sync.runtime_canSpin", "internal/sync.runtime_doSpin", "internal/sync.throw", "internal/sync.runtime_nanotime", "internal/sync.runtime_SemacquireMutex", "sync/atomic.AddInt32", "(*internal/sync.Mutex).Unlock", "internal/race.ReleaseMerge", "(*internal/sync.Mutex).unlockSlow", "internal/sync.fatal", "internal/sync.runtime_Semrelease"], apart := false, narrowed := true }
def FnExactRaiseVectorUptoSaid : Prop := fnExactRaiseVectorUptoRow.holds Try.pinned (OpenSpec.upto fnExactRaiseVectorSpec)

/-- 'laws.FnExactSetMask', WHERE WHAT IT READS IS OF BULK AT MOST 1048576: true; the input reads as it did. -/
def fnExactSetMaskUptoRow : OpenClaim := { program := "ytomiicegkdogkaa", sum := "601ff094722bbb71d21f68db70dc746dcf5b238f7cb44ff295d0a7b0d2c00175", func := "loop.example/g00986/laws.FnExactSetMask", spec := "fnExactSetMask", inPlace := ["(*internal/sync.Mutex).Lock", "internal/race.Disable", "sync/atomic.CompareAndSwapInt32", "internal/race.Enable", "internal/race.Acquire", "(*internal/sync.Mutex).lockSlow", "internal/sync.runtime_canSpin", "internal/sync.runtime_doSpin", "internal/sync.throw", "internal/sync.runtime_nanotime", "internal/sync.runtime_SemacquireMutex", "sync/atomic.AddInt32", "(*internal/sync.Mutex).Unlock", "internal/race.ReleaseMerge", "(*internal/sync.Mutex).unlockSlow", "internal/sync.fatal", "internal/sync.runtime_Semrelease"], apart := false, narrowed := true }
def FnExactSetMaskUptoSaid : Prop := fnExactSetMaskUptoRow.holds Try.pinned (OpenSpec.upto fnExactSetMaskSpec)

/-- 'laws.FnVectors', WHERE WHAT IT READS IS OF BULK AT MOST 1048576: true; the input reads as it did. -/
def fnVectorsUptoRow : OpenClaim := { program := "ytomiicegkdogkaa", sum := "601ff094722bbb71d21f68db70dc746dcf5b238f7cb44ff295d0a7b0d2c00175", func := "loop.example/g00986/laws.FnVectors", spec := "fnVectors", inPlace := ["(*internal/sync.Mutex).Lock", "internal/race.Disable", "sync/atomic.CompareAndSwapInt32", "internal/race.Enable", "internal/race.Acquire", "(*internal/sync.Mutex).lockSlow", "internal/sync.runtime_canSpin", "internal/sync.runtime_doSpin", "internal/sync.throw", "internal/sync.runtime_nanotime", "internal/sync.runtime_SemacquireMutex", "sync/atomic.AddInt32", "(*internal/sync.Mutex).Unlock", "internal/race.ReleaseMerge", "(*internal/sync.Mutex).unlockSlow", "internal/sync.fatal", "internal/sync.runtime_Semrelease"], unfollowed := true, recurses := true, apart := false, narrowed := true }
def FnVectorsUptoSaid : Prop := fnVectorsUptoRow.holds Try.pinned (OpenSpec.upto fnVectorsSpec)

/-- 'laws.FnExactSpendCredits', WHERE WHAT IT READS IS OF BULK AT MOST 1048576: true; the input reads as it did. -/
def fnExactSpendCreditsUptoRow : OpenClaim := { program := "ytomiicegkdogkaa", sum := "601ff094722bbb71d21f68db70dc746dcf5b238f7cb44ff295d0a7b0d2c00175", func := "loop.example/g00986/laws.FnExactSpendCredits", spec := "fnExactSpendCredits", unfollowed := true, recurses := true, apart := false, narrowed := true }
def FnExactSpendCreditsUptoSaid : Prop := fnExactSpendCreditsUptoRow.holds Try.pinned (OpenSpec.upto fnExactSpendCreditsSpec)

/-- 'laws.FnExactReturnCredits', WHERE WHAT IT READS IS OF BULK AT MOST 1048576: true; the input reads as it did. -/
def fnExactReturnCreditsUptoRow : OpenClaim := { program := "ytomiicegkdogkaa", sum := "601ff094722bbb71d21f68db70dc746dcf5b238f7cb44ff295d0a7b0d2c00175", func := "loop.example/g00986/laws.FnExactReturnCredits", spec := "fnExactReturnCredits", unfollowed := true, recurses := true, apart := false, narrowed := true }
def FnExactReturnCreditsUptoSaid : Prop := fnExactReturnCreditsUptoRow.holds Try.pinned (OpenSpec.upto fnExactReturnCreditsSpec)

/-- 'laws.FnCredits', WHERE WHAT IT READS IS OF BULK AT MOST 1048576: true; the input reads as it did. -/
def fnCreditsUptoRow : OpenClaim := { program := "ytomiicegkdogkaa", sum := "601ff094722bbb71d21f68db70dc746dcf5b238f7cb44ff295d0a7b0d2c00175", func := "loop.example/g00986/laws.FnCredits", spec := "fnCredits", unfollowed := true, recurses := true, apart := false, narrowed := true }
def FnCreditsUptoSaid : Prop := fnCreditsUptoRow.holds Try.pinned (OpenSpec.upto fnCreditsSpec)

/-- 'laws.FnScrambles', WHERE WHAT IT READS IS OF BULK AT MOST 1048576: true; the input reads as it did. -/
def fnScramblesUptoRow : OpenClaim := { program := "ytomiicegkdogkaa", sum := "601ff094722bbb71d21f68db70dc746dcf5b238f7cb44ff295d0a7b0d2c00175", func := "loop.example/g00986/laws.FnScrambles", spec := "fnScrambles", unfollowed := true, recurses := true, apart := false, narrowed := true }
def FnScramblesUptoSaid : Prop := fnScramblesUptoRow.holds Try.pinned (OpenSpec.upto fnScramblesSpec)

/-- 'laws.FnExactNewChannel', WHERE WHAT IT READS IS OF BULK AT MOST 1048576: true; the input reads as it did. -/
def fnExactNewChannelUptoRow : OpenClaim := { program := "ytomiicegkdogkaa", sum := "601ff094722bbb71d21f68db70dc746dcf5b238f7cb44ff295d0a7b0d2c00175", func := "loop.example/g00986/laws.FnExactNewChannel", spec := "fnExactNewChannel", apart := false, narrowed := true }
def FnExactNewChannelUptoSaid : Prop := fnExactNewChannelUptoRow.holds Try.pinned (OpenSpec.upto fnExactNewChannelSpec)

end Rows
end Go.Proofs.Ytomiicegkdogkaa
