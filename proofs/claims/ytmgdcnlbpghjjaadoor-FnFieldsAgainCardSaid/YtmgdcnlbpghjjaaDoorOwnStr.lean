/-
  Plain lemmas on rows of texts that a call owns.
-/
import Derived.Test.YtmgdcnlbpghjjaaDoorFieldsSpec
namespace Go.Proofs.YtmgdcnlbpghjjaaDoor
open Go Go.RowKit

theorem own_pos {w : World} {base e size n : Nat} {v : Value} {xs : List Value} (h : w.ownsRow base e size v n xs) (hn : 0 < n) : ∃ g cap, v = .slice (some ⟨g, 0, none⟩) n cap ∧ base ≤ g ∧ g < w.heap.size := by
  rcases h.2 with ⟨_, h0⟩ | ⟨g, cap, cur, rfl, hb, hg, _⟩
  · omega
  · exact ⟨g, cap, rfl, hb, lt_of_block hg⟩

theorem own_gby {w w' : World} {base e size n : Nat} {v : Value} {xs : List Value} (h : w.ownsRow base e size v n xs) (hg : w.grownBy w' none) : w'.ownsRow base e size v n xs :=
  h.kept hg (by
    rcases hv : v.ownBlock with _ | g
    · exact .inl rfl
    · exact .inr (by simp))

theorem strs_at (xs : List ByteArray) (k : Nat) (hk : k < xs.length) : (strs xs)[k]? = some (.string xs[k]) := by
  rw [strs, List.getElem?_map, List.getElem?_eq_getElem hk]; rfl

/-- a row of an earlier call stays while a block behind it is written -/
theorem own_far {w w' : World} {base e size n B : Nat} {v : Value} {xs : List Value} {r : Option Nat} (h : w.ownsRow base e size v n xs) (hg : w.grownBy w' r) (hlt : ∀ g, v.ownBlock = some g → g < B) (hr : ∀ i, r = some i → B ≤ i) : w'.ownsRow base e size v n xs :=
  h.kept hg (by
    rcases hv : v.ownBlock with _ | g
    · exact .inl rfl
    · right; intro e; have h1 := hlt g hv; have h2 := hr g e.symm; omega)

end Go.Proofs.YtmgdcnlbpghjjaaDoor
