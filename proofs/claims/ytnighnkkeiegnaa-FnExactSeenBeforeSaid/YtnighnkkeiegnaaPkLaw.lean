/-
  The walk of FnExactIsPacket.
-/
import Derived.Test.YtnighnkkeiegnaaPkImpl
import Derived.Test.YtnighnkkeiegnaaPkSpec
import Derived.Test.YtnighnkkeiegnaaPkEq
import Derived.Deep.RegionHeld3
namespace Go.Proofs.Ytnighnkkeiegnaa
open Go Go.RowKit

/-- both answer the same -/
theorem isPacket_same (k f t a l g s : Int) (xs : List Int) (hl : xs.length ≤ 1048576) : ∃ b : Bool, (∀ (W : World) (d : Option Addr) (len cap : Nat), ISl W d len xs → Calls Try.prog 98 #[pkV k f t a l g s d len cap] W (AnsG (.bool b) W)) ∧
    ∀ (W : World) (d : Option Addr) (len cap : Nat), ISl W d len xs → Calls Try.prog 107 #[pkV k f t a l g s d len cap] W (AnsG (.bool b) W) := by
  by_cases h : PkOk k f t a l g s xs
  · exact ⟨true, fun W d len cap H => specPk_true W k f t a l g s d len cap xs H (by have := H.1; omega) h, fun W d len cap H => implPk_true W k f t a l g s d len cap xs H (by have := H.1; omega) h⟩
  · exact ⟨false, fun W d len cap H => specPk_false W k f t a l g s d len cap xs H (by have := H.1; omega) h, fun W d len cap H => implPk_false W k f t a l g s d len cap xs H (by have := H.1; omega) h⟩

/-- a packet's eight cells -/
theorem pk_cells {w : World} {b : Nat} {k f t a l g s : Int} {d : Option Addr} {len cap : Nat} {ty : TypeId} (h : w.heap[b]? = some (.cells #[.int .i64 k, .int .i64 f, .int .i64 t, .int .i64 a, .int .i64 l, .int .i64 g, .int .i64 s, .slice d len cap] ty (0, 0))) :
    w.cell? ⟨b, 0, none⟩ = some (.int .i64 k) ∧ w.cell? ⟨b, 1, none⟩ = some (.int .i64 f) ∧ w.cell? ⟨b, 2, none⟩ = some (.int .i64 t) ∧ w.cell? ⟨b, 3, none⟩ = some (.int .i64 a) ∧ w.cell? ⟨b, 4, none⟩ = some (.int .i64 l) ∧ w.cell? ⟨b, 5, none⟩ = some (.int .i64 g) ∧ w.cell? ⟨b, 6, none⟩ = some (.int .i64 s) ∧ w.cell? ⟨b, 7, none⟩ = some (.slice d len cap) :=
  ⟨cell_of_row w b 0 _ _ _ h, cell_of_row w b 1 _ _ _ h, cell_of_row w b 2 _ _ _ h, cell_of_row w b 3 _ _ _ h, cell_of_row w b 4 _ _ _ h, cell_of_row w b 5 _ _ _ h, cell_of_row w b 6 _ _ _ h, cell_of_row w b 7 _ _ _ h⟩



end Go.Proofs.Ytnighnkkeiegnaa
