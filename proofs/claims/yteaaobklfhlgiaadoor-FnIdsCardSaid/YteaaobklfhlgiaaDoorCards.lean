/-
  DERIVED. GIVEN WITH THE SEED: THE CARDS: each row of YteaaobklfhlgiaaDoorRows.lean that lists a variable, with what it lists TIED to the program's text (the seventh form; the later family's looks); each row that meets fmt, with fmt's text TOLD by the authors' own Lean function (tested against real Go, not proved from fmt's source: count such statements apart). THE CARD IS WHAT COUNTS. Prove the row's statement (the work); the ties are given (YteaaobklfhlgiaaDoorTie.lean); close each card by the builder's one call (the guide's Derived/Test/ToyasCard.lean, 'card_holds'). Laid BY PROGRAM, IN A SANDBOX (cutbox-door.mjs). By AI agents, Wed Nov 11 2026. No macro, syntax, notation, axiom, sorry.
-/
import Derived.Test.YteaaobklfhlgiaaDoorRows
import GoSem.ClaimSeven
namespace Go.Proofs.YteaaobklfhlgiaaDoor
namespace Rows

/-- THE TIED CARD OF 'laws.FnIds'. -/
def fnIdsCard : Claim7 := { stood := { row := fnIdsRow, standIns := [], harness := (true, "6558f5c46db0df647ccaba32e39a82ae0899e49416c90cbd34a457fe2b8c3285"), looks := true }, kinds := [], alts := [], laidByText := true, laidKinds := [.data, .data, .data, .sentinel, .sentinel], laidTests := true, laidLooks := .later }
def FnIdsCardSaid : Prop := Claim7.holds Tryd.pinned (.plain (OpenSpec.ofChange fnIdsSpec)) fnIdsCard

/-- THE TIED CARD OF 'laws.FnExactFormatId'. -/
def fnExactFormatIdCard : Claim7 := { stood := { row := fnExactFormatIdRow, standIns := [], harness := (true, "6558f5c46db0df647ccaba32e39a82ae0899e49416c90cbd34a457fe2b8c3285"), looks := true }, kinds := [], alts := [], laidByText := true, laidKinds := [.data, .data, .data], laidTests := true, laidLooks := .later }
def FnExactFormatIdCardSaid : Prop := Claim7.holds Tryd.pinned (.plain (OpenSpec.ofChange fnExactFormatIdSpec)) fnExactFormatIdCard

/-- THE TIED CARD OF 'laws.FnExactParseId'. -/
def fnExactParseIdCard : Claim7 := { stood := { row := fnExactParseIdRow, standIns := [], harness := (true, "6558f5c46db0df647ccaba32e39a82ae0899e49416c90cbd34a457fe2b8c3285"), looks := true }, kinds := [], alts := [], laidByText := true, laidKinds := [.data, .data, .data, .sentinel, .sentinel], laidTests := true, laidLooks := .later }
def FnExactParseIdCardSaid : Prop := Claim7.holds Tryd.pinned (.plain (OpenSpec.ofChange fnExactParseIdSpec)) fnExactParseIdCard

/-- THE SECOND FORM's CARD OF 'laws.FnIds'. -/
def fnIdsUptoCard : Claim7 := { stood := { row := fnIdsUptoRow, standIns := [], harness := (true, "6558f5c46db0df647ccaba32e39a82ae0899e49416c90cbd34a457fe2b8c3285"), looks := true }, kinds := [], alts := [], laidByText := true, laidKinds := [.data, .data, .data, .sentinel, .sentinel], laidTests := true, laidLooks := .later }
def FnIdsUptoCardSaid : Prop := Claim7.holds Tryd.pinned (.plain (OpenSpec.upto fnIdsSpec)) fnIdsUptoCard

/-- THE SECOND FORM's CARD OF 'laws.FnExactFormatId'. -/
def fnExactFormatIdUptoCard : Claim7 := { stood := { row := fnExactFormatIdUptoRow, standIns := [], harness := (true, "6558f5c46db0df647ccaba32e39a82ae0899e49416c90cbd34a457fe2b8c3285"), looks := true }, kinds := [], alts := [], laidByText := true, laidKinds := [.data, .data, .data], laidTests := true, laidLooks := .later }
def FnExactFormatIdUptoCardSaid : Prop := Claim7.holds Tryd.pinned (.plain (OpenSpec.upto fnExactFormatIdSpec)) fnExactFormatIdUptoCard

/-- THE SECOND FORM's CARD OF 'laws.FnExactParseId'. -/
def fnExactParseIdUptoCard : Claim7 := { stood := { row := fnExactParseIdUptoRow, standIns := [], harness := (true, "6558f5c46db0df647ccaba32e39a82ae0899e49416c90cbd34a457fe2b8c3285"), looks := true }, kinds := [], alts := [], laidByText := true, laidKinds := [.data, .data, .data, .sentinel, .sentinel], laidTests := true, laidLooks := .later }
def FnExactParseIdUptoCardSaid : Prop := Claim7.holds Tryd.pinned (.plain (OpenSpec.upto fnExactParseIdSpec)) fnExactParseIdUptoCard
end Rows
end Go.Proofs.YteaaobklfhlgiaaDoor
