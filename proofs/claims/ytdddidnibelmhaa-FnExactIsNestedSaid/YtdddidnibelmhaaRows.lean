/-
  No cell of these rows narrows 'for every input' (looked for: loops, veiled, ifaces, maps, wideKeys, modest, calm, conditions, laid).
  DERIVED. THE GIVEN ROWS OF THIS SEAT. 4 by the template 'for every input the law returns true; each argument reads behind the call as it read before'; 0 by the template 'total and deterministic' (their statements: YtdddidnibelmhaaTotals.lean).
  GIVEN WITH THE SEED: the statements are not yours to turn. If you find one false, say at which input.
  Laid BY PROGRAM, IN A SANDBOX (cutbox-rows.mjs): the forced cells as the released guide's own fill.sh prints them over the translation c22df3622c086b53… (all of the seat's roots in one cut). By AI agents, Wed Nov 11 2026. No macro, syntax, notation, axiom, sorry.
-/
import Derived.Test.YtdddidnibelmhaaChecked
import GoSem.Claim
import GoSem.ClaimJoined
import GoSem.ClaimMapViews
import Derived.JoinedTies
import Derived.KernelRfl
namespace Go.Proofs.Ytdddidnibelmhaa
/- THE CELL 'sum', in the pinned program and in every row, IS THE sha256 OF THE DUMP (.gsa) THAT YtdddidnibelmhaaProg.lean LOADS. Nothing in Lean hashes anything: it is a label: what it is worth is what the hold of that sum in a sandbox is worth. -/
noncomputable def Try.pinned : Pinned := { name := "ytdddidnibelmhaa", sum := "c22df3622c086b53bf2be1faf5a5399edb209c239eb3963cb8f0b87168eafc88", checked := Try.checked }
namespace Rows
def none {H : Type} : Left H := { results := [], args := [] }

/-- 'laws.FnExactIsNested': WHATEVER THE INPUT: true; the input reads as it did. -/
def fnExactIsNestedSpec : ChangeSpec := { name := "fnExactIsNested", fn := fun _ => fun
  | [d1, d2] => { results := [.lit (.bool true)], args := [d1, d2] }
  | _ => none }
def fnExactIsNestedRow : OpenClaim := { program := "ytdddidnibelmhaa", sum := "c22df3622c086b53bf2be1faf5a5399edb209c239eb3963cb8f0b87168eafc88", func := "loop.example/g00986/laws.FnExactIsNested", spec := "fnExactIsNested", unfollowed := true, recurses := true, apart := false }
def FnExactIsNestedSaid : Prop := fnExactIsNestedRow.holds Try.pinned (OpenSpec.ofChange fnExactIsNestedSpec)

/-- ITS FALSE NEIGHBOUR: 'it returns false'. Refute it at one input. -/
def fnExactIsNestedWrong : ChangeSpec := { name := "fnExactIsNested", fn := fun _ => fun
  | [d1, d2] => { results := [.lit (.bool false)], args := [d1, d2] }
  | _ => none }
def FnExactIsNestedWrongFalsely : Prop := fnExactIsNestedRow.holds Try.pinned (OpenSpec.ofChange fnExactIsNestedWrong)

/-- 'laws.FnExactOwnerOfAddress': WHATEVER THE INPUT: true; the input reads as it did. -/
def fnExactOwnerOfAddressSpec : ChangeSpec := { name := "fnExactOwnerOfAddress", fn := fun _ => fun
  | [d1, d2, d3] => { results := [.lit (.bool true)], args := [d1, d2, d3] }
  | _ => none }
def fnExactOwnerOfAddressRow : OpenClaim := { program := "ytdddidnibelmhaa", sum := "c22df3622c086b53bf2be1faf5a5399edb209c239eb3963cb8f0b87168eafc88", func := "loop.example/g00986/laws.FnExactOwnerOfAddress", spec := "fnExactOwnerOfAddress", unfollowed := true, recurses := true, apart := false }
def FnExactOwnerOfAddressSaid : Prop := fnExactOwnerOfAddressRow.holds Try.pinned (OpenSpec.ofChange fnExactOwnerOfAddressSpec)

/-- ITS FALSE NEIGHBOUR: 'it returns false'. Refute it at one input. -/
def fnExactOwnerOfAddressWrong : ChangeSpec := { name := "fnExactOwnerOfAddress", fn := fun _ => fun
  | [d1, d2, d3] => { results := [.lit (.bool false)], args := [d1, d2, d3] }
  | _ => none }
def FnExactOwnerOfAddressWrongFalsely : Prop := fnExactOwnerOfAddressRow.holds Try.pinned (OpenSpec.ofChange fnExactOwnerOfAddressWrong)

/-- 'laws.FnExactDownToAddress': WHATEVER THE INPUT: true; the input reads as it did. -/
def fnExactDownToAddressSpec : ChangeSpec := { name := "fnExactDownToAddress", fn := fun _ => fun
  | [d1, d2, d3] => { results := [.lit (.bool true)], args := [d1, d2, d3] }
  | _ => none }
def fnExactDownToAddressRow : OpenClaim := { program := "ytdddidnibelmhaa", sum := "c22df3622c086b53bf2be1faf5a5399edb209c239eb3963cb8f0b87168eafc88", func := "loop.example/g00986/laws.FnExactDownToAddress", spec := "fnExactDownToAddress", unfollowed := true, recurses := true, apart := false }
def FnExactDownToAddressSaid : Prop := fnExactDownToAddressRow.holds Try.pinned (OpenSpec.ofChange fnExactDownToAddressSpec)

/-- ITS FALSE NEIGHBOUR: 'it returns false'. Refute it at one input. -/
def fnExactDownToAddressWrong : ChangeSpec := { name := "fnExactDownToAddress", fn := fun _ => fun
  | [d1, d2, d3] => { results := [.lit (.bool false)], args := [d1, d2, d3] }
  | _ => none }
def FnExactDownToAddressWrongFalsely : Prop := fnExactDownToAddressRow.holds Try.pinned (OpenSpec.ofChange fnExactDownToAddressWrong)

/-- 'laws.FnExactRouteToAddress': WHATEVER THE INPUT: true; the input reads as it did. -/
def fnExactRouteToAddressSpec : ChangeSpec := { name := "fnExactRouteToAddress", fn := fun _ => fun
  | [d1, d2, d3, d4] => { results := [.lit (.bool true)], args := [d1, d2, d3, d4] }
  | _ => none }
def fnExactRouteToAddressRow : OpenClaim := { program := "ytdddidnibelmhaa", sum := "c22df3622c086b53bf2be1faf5a5399edb209c239eb3963cb8f0b87168eafc88", func := "loop.example/g00986/laws.FnExactRouteToAddress", spec := "fnExactRouteToAddress", unfollowed := true, recurses := true, apart := false }
def FnExactRouteToAddressSaid : Prop := fnExactRouteToAddressRow.holds Try.pinned (OpenSpec.ofChange fnExactRouteToAddressSpec)

/-- ITS FALSE NEIGHBOUR: 'it returns false'. Refute it at one input. -/
def fnExactRouteToAddressWrong : ChangeSpec := { name := "fnExactRouteToAddress", fn := fun _ => fun
  | [d1, d2, d3, d4] => { results := [.lit (.bool false)], args := [d1, d2, d3, d4] }
  | _ => none }
def FnExactRouteToAddressWrongFalsely : Prop := fnExactRouteToAddressRow.holds Try.pinned (OpenSpec.ofChange fnExactRouteToAddressWrong)

/- THE SECOND FORM. 'bulk': how many values and letters a reading holds, each counted each time it is reached (what is shared counts as often as it is met; a slice's spare places count too). A statement '..UptoSaid' is the law's where the arguments, and the package variables that the reading takes, are together of bulk at most 1048576: NARROWER than '..Said'. Prove '..Said' where nothing that the law and all that it calls make is longer than what came in: it says more and counts as full. Else prove '..UptoSaid'. A law counts once. -/
mutual
def uptoBulk {H : Type} : DataW H → Nat
  | .lit (.string bytes) => bytes.length + 1
  | .lit _ => 1
  | .nil => 1
  | .ptr d => uptoBulk d + 1
  | .slice elems spare => uptoBulkAll elems + uptoBulkAll spare + 1
  | .agg parts => uptoBulkAll parts + 1
  | .iface _ d => uptoBulk d + 1
  | .map entries => uptoBulkEntries entries + 1
  | .held _ => 1
def uptoBulkAll {H : Type} : List (DataW H) → Nat
  | [] => 0
  | d :: r => uptoBulk d + uptoBulkAll r
def uptoBulkEntries {H : Type} : List (Lit × DataW H) → Nat
  | [] => 0
  | x :: r => uptoBulkEntry x + uptoBulkEntries r
def uptoBulkEntry {H : Type} : Lit × DataW H → Nat
  | (.string bytes, d) => bytes.length + uptoBulk d + 1
  | (_, d) => uptoBulk d + 1
 end
def uptoSmall : (H : Type) → List (DataW H) → Bool := fun _ ds => decide (uptoBulkAll ds ≤ 1048576)
def OpenSpec.upto (s : _root_.Go.ChangeSpec) : _root_.Go.OpenSpec := { _root_.Go.OpenSpec.ofChange s with cond := some uptoSmall }

/-- 'laws.FnExactIsNested', WHERE WHAT IT READS IS OF BULK AT MOST 1048576: true; the input reads as it did. -/
def fnExactIsNestedUptoRow : OpenClaim := { program := "ytdddidnibelmhaa", sum := "c22df3622c086b53bf2be1faf5a5399edb209c239eb3963cb8f0b87168eafc88", func := "loop.example/g00986/laws.FnExactIsNested", spec := "fnExactIsNested", unfollowed := true, recurses := true, apart := false, narrowed := true }
def FnExactIsNestedUptoSaid : Prop := fnExactIsNestedUptoRow.holds Try.pinned (OpenSpec.upto fnExactIsNestedSpec)

/-- 'laws.FnExactOwnerOfAddress', WHERE WHAT IT READS IS OF BULK AT MOST 1048576: true; the input reads as it did. -/
def fnExactOwnerOfAddressUptoRow : OpenClaim := { program := "ytdddidnibelmhaa", sum := "c22df3622c086b53bf2be1faf5a5399edb209c239eb3963cb8f0b87168eafc88", func := "loop.example/g00986/laws.FnExactOwnerOfAddress", spec := "fnExactOwnerOfAddress", unfollowed := true, recurses := true, apart := false, narrowed := true }
def FnExactOwnerOfAddressUptoSaid : Prop := fnExactOwnerOfAddressUptoRow.holds Try.pinned (OpenSpec.upto fnExactOwnerOfAddressSpec)

/-- 'laws.FnExactDownToAddress', WHERE WHAT IT READS IS OF BULK AT MOST 1048576: true; the input reads as it did. -/
def fnExactDownToAddressUptoRow : OpenClaim := { program := "ytdddidnibelmhaa", sum := "c22df3622c086b53bf2be1faf5a5399edb209c239eb3963cb8f0b87168eafc88", func := "loop.example/g00986/laws.FnExactDownToAddress", spec := "fnExactDownToAddress", unfollowed := true, recurses := true, apart := false, narrowed := true }
def FnExactDownToAddressUptoSaid : Prop := fnExactDownToAddressUptoRow.holds Try.pinned (OpenSpec.upto fnExactDownToAddressSpec)

/-- 'laws.FnExactRouteToAddress', WHERE WHAT IT READS IS OF BULK AT MOST 1048576: true; the input reads as it did. -/
def fnExactRouteToAddressUptoRow : OpenClaim := { program := "ytdddidnibelmhaa", sum := "c22df3622c086b53bf2be1faf5a5399edb209c239eb3963cb8f0b87168eafc88", func := "loop.example/g00986/laws.FnExactRouteToAddress", spec := "fnExactRouteToAddress", unfollowed := true, recurses := true, apart := false, narrowed := true }
def FnExactRouteToAddressUptoSaid : Prop := fnExactRouteToAddressUptoRow.holds Try.pinned (OpenSpec.upto fnExactRouteToAddressSpec)

end Rows
end Go.Proofs.Ytdddidnibelmhaa
