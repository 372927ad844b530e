/-
  Contract of the model's l04Data: a drawn list of words.
-/
import Derived.Test.YtgagbhkidponnadDrawNumber
import Derived.Test.YtgagbhkidponnadInts
namespace Go.Proofs.Ytgagbhkidponnad
open Go Go.RowKit

theorem own_kept {w w' : World} {base c n size : Nat} {e : TypeId} {v : Value} {xs : List Value} (h : w.ownsRow base e size v n xs) (g : w.grownBy w' (some c)) (hc : c < base) : w'.ownsRow base e size v n xs :=
  h.kept g (by
    rcases hv : v.ownBlock with _ | b
    · exact .inl rfl
    · right; intro q; have := own_from h b hv; have := Option.some.inj q; omega)

def IsW (x : Int) : Prop := 0 ≤ x ∧ x ≤ 65535

theorem data_cells (w : World) (x y : Int) (hx : IsW x) (hy : IsW y) : ∀ k, k < 5 → ∃ n, (w.alloc (.cells #[.int .i64 0, .int .i64 1, .int .i64 65535, .int .i64 x, .int .i64 y] 3)).cell? ⟨w.heap.size, k, none⟩ = some (.int .i64 n) ∧ IsW n := by
  intro k hk
  rw [cell_of_row _ _ _ _ _ _ (heap_alloc_new w _)]
  match k, hk with
  | 0, _ => exact ⟨_, rfl, by unfold IsW; omega⟩
  | 1, _ => exact ⟨_, rfl, by unfold IsW; omega⟩
  | 2, _ => exact ⟨_, rfl, by unfold IsW; omega⟩
  | 3, _ => exact ⟨_, rfl, hx⟩
  | 4, _ => exact ⟨_, rfl, hy⟩
  | n + 5, h => omega

/-- a drawn list of n words -/
def DrawnData (n : Nat) (w : World) (c : Nat) (e : Ending) (w' : World) : Prop := ∃ a cap xs, e = .returned (.slice a n cap) ∧ AreW xs ∧ ISl w' a n xs ∧ (∀ p, a = some p → w.heap.size ≤ p.block) ∧ Cur w' c ∧ w.grownBy w' (some c)

theorem isl_own {w : World} {base n : Nat} {v : Value} {xs : List Int} (h : w.ownsRow base 3 1 v n (i64s xs)) (hn : xs.length = n) : ∃ a cap, v = .slice a n cap ∧ ISl w a n xs ∧ ∀ p, a = some p → base ≤ p.block := by
  rcases h.2 with ⟨hv, h0⟩ | ⟨g, cp, cur, hv, hg, _⟩
  · subst hv
    subst h0
    exact ⟨none, 0, rfl, ⟨hn.symm, .inl rfl⟩, fun p hp => by cases hp⟩
  · subst hv
    refine ⟨_, cp, rfl, ⟨hn.symm, .inr ⟨g, 0, rfl, fun j hj => ?_⟩⟩, fun p hp => by obtain rfl := Option.some.inj hp; exact hg⟩
    have := h.cellAt j (by omega)
    rw [i64s, List.getElem?_map, List.getElem?_eq_getElem (by omega)] at this
    rw [List.getD_eq_getElem?_getD, List.getElem?_eq_getElem (by omega)]
    simpa using this

end Go.Proofs.Ytgagbhkidponnad
