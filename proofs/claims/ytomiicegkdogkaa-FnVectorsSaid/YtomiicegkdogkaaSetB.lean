/-
  One truth value of a slice of the call's own: read, written.
-/
import Derived.Test.YtomiicegkdogkaaQSBool
namespace Go.Proofs.Ytomiicegkdogkaa
open Go Go.RowKit
set_option linter.unusedVariables false

/-- what can be done at one place of a slice in new memory -/
def SetB (w : World) (lo hi : Nat) (v : Value) (xs : List Bool) (b k off : Nat) : Prop :=
  lo ≤ b ∧ b < hi ∧ w.cell? ⟨b, off + k, none⟩ = some (.bool (xs.getD k false)) ∧ w.frozen? ⟨b, off + k, none⟩ = false ∧ ∀ x, OwL shB (w.setCell ⟨b, off + k, none⟩ (.bool x)) lo hi v (xs.set k x) ∧ Chg w (w.setCell ⟨b, off + k, none⟩ (.bool x)) lo hi

theorem owB_at {w : World} {lo hi : Nat} {v : Value} {xs : List Bool} (h : OwL shB w lo hi v xs) (k : Nat) (hk : k < xs.length) :
    ∃ b off c, v = .slice (some ⟨b, off, none⟩) xs.length c ∧ SetB w lo hi v xs b k off := by
  have hmx := h.rd.max
  obtain ⟨a, cap, rfl, hc, hp, h1⟩ := owB_in h
  obtain ⟨b, off, C, t, rfl, hb, hC⟩ := h1.resolve_left (by omega)
  have hpb := hp _ rfl
  refine ⟨b, off, cap, rfl, hpb.1, hpb.2, ?_, frozen_of_row w b (off + k) C t hb, fun x => ⟨?_, chg_setp (chg_gby (gby_refl _ _) _ _) ⟨b, off + k, none⟩ hpb.1 hpb.2 _⟩⟩
  · rw [cell_of_row w b (off + k) C t _ hb]; exact hC k hk
  · refine owB_out (by rw [List.length_set]) (by rw [List.length_set]; exact hmx) (by rw [List.length_set]; exact hc) hp (.inr ⟨b, off, C.setIfInBounds (off + k) (.bool x), t, rfl, heap_setCell_same w b (off + k) C t _ hb, fun j hj => ?_⟩)
    rw [List.length_set] at hj
    have hsz : off + k < C.size := (Array.getElem?_eq_some_iff.1 (hC k hk)).1
    rw [Array.getElem?_setIfInBounds, List.getD_eq_getElem?_getD, List.getElem?_set]
    by_cases e : k = j
    · subst e
      rw [if_pos rfl, if_pos hsz, if_pos rfl, if_pos hk]; rfl
    · rw [if_neg (by omega), if_neg e, ← List.getD_eq_getElem?_getD]
      exact hC j hj

end Go.Proofs.Ytomiicegkdogkaa
