/-
  slices.Reverse at numbers of the call's own.
-/
import Derived.Test.YtgagbhkidponnaaShelfRev
import Derived.Test.YtgagbhkidponnaaIntInfo
import Derived.Test.YtgagbhkidponnaaPlain
import Derived.Lib.OwnBridge
namespace Go.Proofs.Ytgagbhkidponnaa
open Go Go.RowKit Go.Shelf Go.Sort
set_option linter.unusedVariables false

theorem grownBy_put {w : World} {g n : Nat} (d : Array Int) : w.grownBy (putRow (Value.int .i64) (Sort.ahead w n) g 0 d) (some g) :=
  ⟨rfl, rfl, rfl, by simp [putRow, mapBlock, Sort.ahead], fun k hk hne => by
    have : g ≠ k := fun e => hne (by rw [e])
    simp [putRow, mapBlock, Sort.ahead, Array.getElem?_modify, this]⟩

def RevPost (base : Nat) (v : Value) (zs : List Int) (W : World) (e : Ending) (w' : World) : Prop := e = .returned (.tuple #[]) ∧ w'.ownsRow base 3 1 v zs.length (i64s zs.reverse) ∧ W.grownBy w' v.ownBlock
theorem rev_any (W : World) (base : Nat) (v : Value) (zs : List Int) (h : W.ownsRow base 3 1 v zs.length (i64s zs)) (hm : zs.length ≤ 1000000) : Calls Try.prog 91 #[v] W (RevPost base v zs W) := by
  by_cases hv : v = .slice none 0 0
  · subst hv
    have h0 : zs = [] := by
      rcases h.2 with ⟨_, h0⟩ | ⟨_, _, _, e, _⟩
      · exact List.eq_nil_of_length_eq_zero h0
      · cases e
    subst h0
    exact (Try.slices_Reverse_int_empty none 0 W).mono (by rintro e w' ⟨rfl, rfl⟩; exact ⟨rfl, h, gby_refl _ _⟩)
  · obtain ⟨g, cap, rfl, hb, hg, hn, hc, hl, hH⟩ := Lib.holds_of_ownsRow (enc := Value.int .i64) h hv
    refine (Try.slices_Reverse_int g 0 cap zs W hH (by omega)).mono ?_
    rintro e w' ⟨rfl, q, rfl⟩
    have h1 := Lib.ownsRow_putRow (enc := Value.int .i64) (q := q) (ys := zs.reverse) h (by simp) (Nat.le_refl _)
    rw [List.take_of_length_le (by simp)] at h1
    exact ⟨rfl, h1, grownBy_put _⟩

end Go.Proofs.Ytgagbhkidponnaa
