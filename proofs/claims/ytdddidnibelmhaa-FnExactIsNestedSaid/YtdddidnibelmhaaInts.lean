/-
  Slices of numbers that are read and copied.
-/
import Derived.Test.YtdddidnibelmhaaBits2Impl
import Derived.Test.YtdddidnibelmhaaHexMath
import Derived.LoopTactic
import Derived.Deep.AppendLies
import Derived.WalkSpells
import Derived.OwnWalk
import Derived.KernelRfl
import Derived.Test.YtdddidnibelmhaaIntInfo
namespace Go.Proofs.Ytdddidnibelmhaa
open Go Go.RowKit

/-- a slice of the numbers xs -/
def ISl (w : World) (a : Option Addr) (len : Nat) (xs : List Int) : Prop :=
  len = xs.length ∧ (len = 0 ∨ ∃ b off, a = some ⟨b, off, none⟩ ∧ ∀ k, k < len → w.cell? ⟨b, off + k, none⟩ = some (.int .i64 (xs.getD k 0)))

theorem ISl.kept {w w' : World} {a : Option Addr} {len : Nat} {xs : List Int} (h : ISl w a len xs) (g : w.grownBy w' none) : ISl w' a len xs := by
  obtain ⟨h1, h2⟩ := h
  refine ⟨h1, ?_⟩
  rcases h2 with h0 | ⟨b, off, ha, hc⟩
  · exact .inl h0
  · exact .inr ⟨b, off, ha, fun k hk => g.cell (hc k hk) (by simp)⟩

/-- the numbers are words -/
def AreW (xs : List Int) : Prop := ∀ x ∈ xs, 0 ≤ x ∧ x ≤ 65535
instance (xs : List Int) : Decidable (AreW xs) := inferInstanceAs (Decidable (∀ x ∈ xs, _))

theorem ret_dec {p q : Prop} [Decidable p] [Decidable q] (h : p ↔ q) : Ending.returned (.bool (decide p)) = .returned (.bool (decide q)) := by rw [decide_eq_decide.2 h]

theorem areW_bad {xs : List Int} {k : Nat} (hk : k < xs.length) (h : xs.getD k 0 < 0 ∨ 65535 < xs.getD k 0) : ¬ AreW xs := by
  intro ha
  rw [List.getD_eq_getElem?_getD, List.getElem?_eq_getElem hk] at h
  have := ha _ (List.getElem_mem hk)
  simp at h; omega

theorem areW_all {xs : List Int} (h : ∀ k, k < xs.length → 0 ≤ xs.getD k 0 ∧ xs.getD k 0 ≤ 65535) : AreW xs := by
  intro x hx
  obtain ⟨k, hk, rfl⟩ := List.mem_iff_getElem.1 hx
  have := h k hk
  rw [List.getD_eq_getElem?_getD, List.getElem?_eq_getElem hk] at this
  simpa using this

end Go.Proofs.Ytdddidnibelmhaa
