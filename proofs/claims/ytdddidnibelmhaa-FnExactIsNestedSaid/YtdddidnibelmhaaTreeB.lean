/-
  Trees on both sides.
-/
import Derived.Test.YtdddidnibelmhaaTreeS
import Derived.Test.YtdddidnibelmhaaTreeI
namespace Go.Proofs.Ytdddidnibelmhaa
open Go Go.RowKit

theorem specTree_yes (W : World) (v : Value) (xs : List DNode) (H : RdL shNode W v xs) (hl : szL shNode xs ≤ 1048576) (h : TOk xs) : Calls Try.prog 26 #[v] W (AnsN (.bool true) W) :=
  (specTree W v xs H hl).mono (by rintro e w ⟨r, rfl, hr, g⟩; rw [hr.2 h]; exact ⟨rfl, g⟩)
theorem specTree_no (W : World) (v : Value) (xs : List DNode) (H : RdL shNode W v xs) (hl : szL shNode xs ≤ 1048576) (h : ¬ TOk xs) : Calls Try.prog 26 #[v] W (AnsN (.bool false) W) :=
  (specTree W v xs H hl).mono (by
    rintro e w ⟨r, rfl, hr, g⟩
    cases r with
    | false => exact ⟨rfl, g⟩
    | true => exact absurd (hr.1 rfl) h)

theorem implTree_yes (W : World) (v : Value) (xs : List DNode) (H : RdL shNode W v xs) (hl : szL shNode xs ≤ 1048576) (h : TOk xs) : Calls Try.prog 43 #[v] W (AnsN (.bool true) W) :=
  (implTree W v xs H hl).mono (by rintro e w ⟨r, rfl, hr, g⟩; rw [hr.2 h]; exact ⟨rfl, g⟩)
theorem implTree_no (W : World) (v : Value) (xs : List DNode) (H : RdL shNode W v xs) (hl : szL shNode xs ≤ 1048576) (h : ¬ TOk xs) : Calls Try.prog 43 #[v] W (AnsN (.bool false) W) :=
  (implTree W v xs H hl).mono (by
    rintro e w ⟨r, rfl, hr, g⟩
    cases r with
    | false => exact ⟨rfl, g⟩
    | true => exact absurd (hr.1 rfl) h)

theorem treeOk_both (xs0 : List DNode) (h0 : szL shNode xs0 ≤ 1048576) : ∃ br0 : Bool, (∀ (W : World), ∀ u0, RdL shNode W u0 xs0 → Calls Try.prog 26 #[u0] W (ResSTreeOk br0 W)) ∧ ∀ (W : World), ∀ u0, RdL shNode W u0 xs0 → Calls Try.prog 43 #[u0] W (ResITreeOk br0 W) := by
  by_cases h : TOk xs0
  · exact ⟨true, fun W u H => specTree_yes W u _ H h0 h, fun W u H => implTree_yes W u _ H h0 h⟩
  · exact ⟨false, fun W u H => specTree_no W u _ H h0 h, fun W u H => implTree_no W u _ H h0 h⟩

end Go.Proofs.Ytdddidnibelmhaa
