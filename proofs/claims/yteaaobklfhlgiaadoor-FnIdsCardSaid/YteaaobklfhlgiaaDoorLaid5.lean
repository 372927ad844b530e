/-
  What the list of five variables gives a walk: the table of powers of ten and the library's two sentinel errors.
-/
import Derived.Test.YteaaobklfhlgiaaDoorLaid
import Derived.Test.YteaaobklfhlgiaaDoorParseImpl
namespace Go.Proofs.YteaaobklfhlgiaaDoor
open Go Go.RowKit

theorem gSyn : Tryd.prog.globalNamed "strconv.ErrSyntax" = some 1 := by kernel_rfl
theorem gRan : Tryd.prog.globalNamed "strconv.ErrRange" = some 2 := by kernel_rfl
theorem gSynT : (Tryd.prog.globals[1]?).map (·.type) = some 46 := by kernel_rfl
theorem gRanT : (Tryd.prog.globals[2]?).map (·.type) = some 46 := by kernel_rfl
theorem cErr : Tryd.prog.cellsOf 77 = 1 := by kernel_rfl
theorem cStr : Tryd.prog.cellsOf 9 = 1 := by kernel_rfl
theorem starErr : "*" ++ "errors.errorString" = "*errors.errorString" := by decide
theorem rowErr : ∀ u, Tryd.prog.typeName? 3 u = some "*errors.errorString" → u = 75 := fun u h =>
  typeName_ptr_named (nm := "errors.errorString") (by rw [starErr]; kernel_rfl) (by kernel_rfl) (by decide) u (by rw [starErr]; exact h)

def laid5 : List (String × DataW Unit) := [("math/bits.deBruijn32tab", Rows.laid_math_bits_deBruijn32tab), ("math/bits.deBruijn64tab", Rows.laid_math_bits_deBruijn64tab), ("internal/strconv.uint64pow10", Rows.laid_internal_strconv_uint64pow10), ("strconv.ErrRange", Rows.laid_strconv_ErrRange), ("strconv.ErrSyntax", Rows.laid_strconv_ErrSyntax)]

/-- the table and the two errors -/
def PowErrs (w : World) : Prop := PowTab w ∧ ErrVars w

theorem five {W : World} (h : laidMetH Tryd.prog laid5 W) : PowErrs W := by
  rw [MakeChecks.laidMetH_plain _ _ _ (by kernel_rfl)] at h
  refine ⟨tab_of_laid h, ?_, ?_⟩
  · obtain ⟨a, s, hv, -, -, -⟩ := laid_sentinel h.tail.tail.tail.tail gSyn gSynT Tryd.underlying46 rowErr Tryd.underlying75 Tryd.underlying77 rfl rfl Tryd.underlying9 cErr cStr
    exact ⟨_, _, hv⟩
  · obtain ⟨a, s, hv, -, -, -⟩ := laid_sentinel h.tail.tail.tail gRan gRanT Tryd.underlying46 rowErr Tryd.underlying75 Tryd.underlying77 rfl rfl Tryd.underlying9 cErr cStr
    exact ⟨_, _, hv⟩

theorem door_met5 (os : Os) (args : Array Value) : laidMetH Tryd.prog laid5 ((World.doorLaid Tryd.prog 4000 os).forCall (fun _ _ => 0) ⟨#[], args, []⟩).memory := by
  rw [MakeChecks.laidMetH_plain _ _ _ (by kernel_rfl)]
  exact laidMet_of_run' 80 (by kernel_rfl) (by kernel_rfl)

end Go.Proofs.YteaaobklfhlgiaaDoor
