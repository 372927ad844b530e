/-
  Small lemmas for walks over the model's cursor.
-/
import Derived.Test.YtgagbhkidponnacDrawNumber
import Derived.Test.YtgagbhkidponnacShpI
import Derived.Test.YtgagbhkidponnacOwS
namespace Go.Proofs.Ytgagbhkidponnac
open Go Go.RowKit
set_option linter.unusedVariables false

theorem gby_some {w a : World} (g : w.grownBy a none) (r : Option Nat) : w.grownBy a r := ⟨g.os, g.tape, g.output, g.size, fun k hk _ => g.block k hk (by simp)⟩
theorem chg_cur {w w' : World} {c : Nat} (g : w.grownBy w' (some c)) : Chg w w' c (c + 1) := chg_row g (fun i h => by obtain rfl := Option.some.inj h; omega)
theorem bytes_grow {w w' : World} {a : Option Addr} {len : Nat} {zs : List Int} (h : Bytes w a len zs) (g : w.grownBy w' none) : Bytes w' a len zs := by
  rcases h with h0 | ⟨b, off, ha, hk⟩
  · exact .inl h0
  · exact .inr ⟨b, off, ha, fun k hlt => ⟨g.cell (hk k hlt).1 (by simp), (hk k hlt).2⟩⟩
/-- the drawn numbers, one by one -/
theorem OwI.twelve {w : World} {lo hi : Nat} {v : Value} {xs : List Int} (h : OwI w lo hi v xs) (hl : xs.length = 12) : ∃ b off cap, v = .slice (some ⟨b, off, none⟩) 12 cap ∧ ∀ k, k < 12 → w.cell? ⟨b, off + k, none⟩ = some (.int .i64 (xs.getD k 0)) := by
  obtain ⟨a, cap, rfl, h, _⟩ := h
  obtain ⟨b, off, rfl, hc⟩ := h.isl.2.resolve_left (by omega)
  exact ⟨b, off, cap, by rw [hl], fun k hk => hc k (by omega)⟩

end Go.Proofs.Ytgagbhkidponnac
