/-
  SeenBefore, on both sides.
-/
import Derived.Test.YtnighnkkeiegnaaSeenS
import Derived.Test.YtnighnkkeiegnaaSeenI
namespace Go.Proofs.Ytnighnkkeiegnaa
open Go Go.RowKit
set_option linter.unusedVariables false

theorem seenBefore_both (xs0 : List DPacket) (i1_0 i1_1 i1_2 i1_3 i1_4 i1_5 i1_6 : Int) (xs1_7 : List Int) (h0 : szL shPacket xs0 ≤ 1048576) (h1 : szL shI xs1_7 ≤ 1048576) : ∃ (xsr0 : List DPacket), szL shPacket xsr0 ≤ 1048576 ∧ (∀ (W : World), ∀ u0 u1_7, RdL shPacket W u0 xs0 → RdL shI W u1_7 xs1_7 → Calls Try.prog 54 #[u0, .agg #[.int .i64 i1_0, .int .i64 i1_1, .int .i64 i1_2, .int .i64 i1_3, .int .i64 i1_4, .int .i64 i1_5, .int .i64 i1_6, u1_7]] W (ResSSeenBefore xsr0 W)) ∧ ∀ (W : World), ∀ u0 u1_7, RdL shPacket W u0 xs0 → RdL shI W u1_7 xs1_7 → Calls Try.prog 55 #[u0, .agg #[.int .i64 i1_0, .int .i64 i1_1, .int .i64 i1_2, .int .i64 i1_3, .int .i64 i1_4, .int .i64 i1_5, .int .i64 i1_6, u1_7]] W (ResISeenBefore xsr0 W) := by
  obtain ⟨q, hq⟩ := seen_ex xs0 ⟨i1_0, i1_1, i1_2, i1_3, i1_4, i1_5, i1_6, xs1_7⟩
  refine ⟨xs0.take q, Nat.le_trans (szL_take_le _ _ _) h0, fun W u0 u1 H0 H1 => ?_, fun W u0 u1 H0 H1 => ?_⟩
  · refine (specSeen W u0 u1 xs0 ⟨i1_0, i1_1, i1_2, i1_3, i1_4, i1_5, i1_6, xs1_7⟩ H0 H1 h0 h1 q hq).mono ?_
    rintro e w ⟨v, rfl, o, g⟩
    exact ⟨v, rfl, o.rd (by rw [List.length_take]; have := szL_len shPacket xs0; omega), g⟩
  · refine (implSeen W u0 u1 xs0 ⟨i1_0, i1_1, i1_2, i1_3, i1_4, i1_5, i1_6, xs1_7⟩ H0 H1 h0 h1 q hq).mono ?_
    rintro e w ⟨v, rfl, o, g⟩
    exact ⟨v, rfl, OwU.one o, g⟩

end Go.Proofs.Ytnighnkkeiegnaa
