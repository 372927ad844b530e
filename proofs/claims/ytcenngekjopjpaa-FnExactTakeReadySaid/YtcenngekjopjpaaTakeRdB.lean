/-
  TakeReady, on both sides.
-/
import Derived.Test.YtcenngekjopjpaaTakeRdS
import Derived.Test.YtcenngekjopjpaaTakeRdI
namespace Go.Proofs.Ytcenngekjopjpaa
open Go Go.RowKit
set_option linter.unusedVariables false

theorem takeReady_both (i0_0 : Int) (xs0_1 : List DFrame) (i0_2 : Int) (h1 : szL shFrame xs0_1 ≤ 1048576) : ∃ (ir0_0 : Int) (xsr0_1 : List DFrame) (ir0_2 : Int) (ir1_0 : Int) (xsr1_1 : List Int) (br2 : Bool), szL shFrame xsr0_1 ≤ 1048576 ∧ szL shI xsr1_1 ≤ 1048576 ∧ (∀ (W : World), ∀ u0_1, RdL shFrame W u0_1 xs0_1 → Calls Try.prog 17 #[.agg #[.int .i64 i0_0, u0_1, .int .i64 i0_2]] W (ResSTakeReady ir0_0 xsr0_1 ir0_2 ir1_0 xsr1_1 br2 W)) ∧ ∀ (W : World), ∀ u0_1, RdL shFrame W u0_1 xs0_1 → Calls Try.prog 18 #[.agg #[.int .i64 i0_0, u0_1, .int .i64 i0_2]] W (ResITakeReady ir0_0 xsr0_1 ir0_2 ir1_0 xsr1_1 br2 W) := by
  have hz : szL shI ([] : List Int) ≤ 1048576 := by rw [szL_I]; simp
  by_cases h : SndP i0_0 i0_2 xs0_1
  · by_cases hr : i0_2 = (xs0_1.length : Int)
    · exact ⟨_, _, _, _, _, _, h1, hz, fun W u H => (specRd_none W _ _ u _ H h1 h hr).mono (fun e w q => resS_ofTakeReady e w q), fun W u H => implRd_none W _ _ u _ H h1 h hr⟩
    · obtain ⟨k, hk⟩ : ∃ k : Nat, i0_2 = (k : Int) := ⟨i0_2.toNat, by have := h.2.2.1; omega⟩
      have hkx : k < xs0_1.length := by have := h.2.2.1; omega
      exact ⟨_, _, _, _, _, _, h1, Nat.le_trans (szL_at shFrame xs0_1 k hkx) h1, fun W u H => (specRd_yes W _ _ u _ H h1 h k hk hkx).mono (fun e w q => resS_ofTakeReady e w q), fun W u H => implRd_yes W _ _ u _ H h1 h k hk hkx⟩
  · exact ⟨_, _, _, _, _, _, h1, hz, fun W u H => (specRd_bad W _ _ u _ H h1 h).mono (fun e w q => resS_ofTakeReady e w q), fun W u H => implRd_bad W _ _ u _ H h1 h⟩

end Go.Proofs.Ytcenngekjopjpaa
