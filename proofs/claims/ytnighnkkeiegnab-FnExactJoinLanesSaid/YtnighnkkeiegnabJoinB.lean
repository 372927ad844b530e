/-
  JoinLanes, on both sides.
-/
import Derived.Test.YtnighnkkeiegnabJoinS
import Derived.Test.YtnighnkkeiegnabJoinI
namespace Go.Proofs.Ytnighnkkeiegnab
open Go Go.RowKit
set_option linter.unusedVariables false

theorem jPost_of {L : List (List Int)} {ys : List Int} {c : Bool} (h : JRes L ys c) {W : World} (e : Ending) (w' : World) (q : JPost L W e w') : ResIJoinLanes ys c W e w' := by
  obtain ⟨v, xs, b, he, o, g, r⟩ := q
  have e1 : xs = ys ∧ b = c := by
    rcases r with ⟨r1, r2, r3⟩ | ⟨r1, r2, r3⟩ <;> rcases h with ⟨h1, h2, h3⟩ | ⟨h1, h2, h3⟩
    · exact ⟨r2.trans h2.symm, r3.trans h3.symm⟩
    · exact absurd r1 h1
    · exact absurd h1 r1
    · exact ⟨r2.trans h2.symm, r3.trans h3.symm⟩
  obtain ⟨rfl, rfl⟩ := e1
  exact ⟨v, he, o, g⟩
theorem jRes_ex {L : List (List Int)} (h : szL (shL shI) L ≤ 1048576) : ∃ xs b, szL shI xs ≤ 1048576 ∧ JRes L xs b := by
  by_cases g : GoodJ L
  · exact ⟨_, true, by rw [szL_I, joinL_len]; exact tot_max h, .inl ⟨g, rfl, rfl⟩⟩
  · exact ⟨[], false, by rw [szL_I]; simp, .inr ⟨g, rfl, rfl⟩⟩
theorem joinLanes_both (xs0 : List (List Int)) (h0 : szL (shL shI) xs0 ≤ 1048576) : ∃ (xsr0 : List Int) (br1 : Bool), szL shI xsr0 ≤ 1048576 ∧ (∀ (W : World), ∀ u0, RdL (shL shI) W u0 xs0 → Calls Try.prog 21 #[u0] W (ResSJoinLanes xsr0 br1 W)) ∧ ∀ (W : World), ∀ u0, RdL (shL shI) W u0 xs0 → Calls Try.prog 23 #[u0] W (ResIJoinLanes xsr0 br1 W) := by
  obtain ⟨xs, b, h1, hr⟩ := jRes_ex h0
  exact ⟨xs, b, h1, fun W u H => (specJoin W u xs0 H h0).mono (fun e w q => resS_ofJoinLanes e w (jPost_of hr e w q)), fun W u H => (implJoin W u xs0 H h0).mono (jPost_of hr)⟩

end Go.Proofs.Ytnighnkkeiegnab
