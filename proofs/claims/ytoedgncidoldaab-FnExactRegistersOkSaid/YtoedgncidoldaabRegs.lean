/-
  Registers of capabilities: valid or not, on both sides.
-/
import Derived.Test.YtoedgncidoldaabShpI
import Derived.Test.YtoedgncidoldaabRRegistersOk
import Derived.Test.YtoedgncidoldaabInts
namespace Go.Proofs.Ytoedgncidoldaab
open Go Go.RowKit
set_option linter.unusedVariables false

/-- valid registers -/
def RegsOk (xs : List Int) : Prop := xs.length = 64 ∧ AreW xs
instance (xs : List Int) : Decidable (RegsOk xs) := by unfold RegsOk; infer_instance

theorem specRegs (W : World) (v : Value) (xs : List Int) (H : RdL shI W v xs) (hl : szL shI xs ≤ 1048576) : Calls Try.prog 11 #[v] W (Ans (.bool (decide (RegsOk xs))) W) := by
  rw [szL_I] at hl
  obtain ⟨a, cap, rfl, hi, _⟩ := rdI_in H
  have hb : (decide (RegsOk xs)) = (decide (xs.length = 64) && decide (AreW xs)) := (decide_eq_decide.2 (Iff.rfl : RegsOk xs ↔ (xs.length = 64 ∧ AreW xs))).trans (Bool.decide_and _ _)
  rw [hb]
  have HI := Lib.hid hi
  obtain ⟨r, hr⟩ : ∃ r, r = decide (AreW xs) := ⟨_, rfl⟩
  have HC := Lib.hid (hr ▸ fun W h => words_any W a xs.length cap xs h hl)
  rw [← hr]
  clear hr hi H hb
  generalize xs.length = n at HI HC hl
  by_cases h64 : n = 64
  · subst h64
    go_enter Try.func11, Try.ntmps11
    go_wp2_with fail
    go_at_call 40
    refine (HC.out _ HI.out).mono ?_
    rintro e w1 ⟨rfl, rfl⟩
    go_wp2
    go_ret
    exact ⟨rfl, Drew.refl _⟩
  · rw [show decide (n = 64) = false from decide_eq_false h64]
    have hne : ((n : Int) == 64) = false := beq_eq_false_iff_ne.2 (by omega)
    go_enter Try.func11, Try.ntmps11
    go_wp2
    go_ret
    exact ⟨rfl, Drew.refl _⟩

theorem implRegs (W : World) (v : Value) (xs : List Int) (H : RdL shI W v xs) (hl : szL shI xs ≤ 1048576) : Calls Try.prog 13 #[v] W (Ans (.bool (decide (RegsOk xs))) W) := by
  rw [szL_I] at hl
  obtain ⟨a, cap, rfl, hi, _⟩ := rdI_in H
  have hb : (decide (RegsOk xs)) = (decide (xs.length = 64) && decide (AreW xs)) := (decide_eq_decide.2 (Iff.rfl : RegsOk xs ↔ (xs.length = 64 ∧ AreW xs))).trans (Bool.decide_and _ _)
  rw [hb]
  have HI := Lib.hid hi
  obtain ⟨r, hr⟩ : ∃ r, r = decide (AreW xs) := ⟨_, rfl⟩
  have HC := Lib.hid (hr ▸ fun W h => areWords_any W a xs.length cap xs h hl)
  rw [← hr]
  clear hr hi H hb
  generalize xs.length = n at HI HC hl
  by_cases h64 : n = 64
  · subst h64
    go_enter Try.func13, Try.ntmps13
    go_wp2_with fail
    go_at_call 41
    refine (HC.out _ HI.out).mono ?_
    rintro e w1 ⟨rfl, rfl⟩
    go_wp2
    go_ret
    exact ⟨rfl, Drew.refl _⟩
  · rw [show decide (n = 64) = false from decide_eq_false h64]
    have hne : ((n : Int) == 64) = false := beq_eq_false_iff_ne.2 (by omega)
    go_enter Try.func13, Try.ntmps13
    go_wp2
    go_ret
    exact ⟨rfl, Drew.refl _⟩

theorem registersOk_both (xs0 : List Int) (h0 : szL shI xs0 ≤ 1048576) : ∃ br0 : Bool, (∀ (W : World), ∀ u0, RdL shI W u0 xs0 → Calls Try.prog 11 #[u0] W (ResSRegistersOk br0 W)) ∧ ∀ (W : World), ∀ u0, RdL shI W u0 xs0 → Calls Try.prog 13 #[u0] W (ResIRegistersOk br0 W) :=
  ⟨decide (RegsOk xs0), fun W u H => (specRegs W u xs0 H h0).mono (fun _ _ h => ⟨h.1, h.2.gby none⟩), fun W u H => (implRegs W u xs0 H h0).mono (fun _ _ h => ⟨h.1, h.2.gby none⟩)⟩

end Go.Proofs.Ytoedgncidoldaab
