/-
  QueueFrame, on both sides.
-/
import Derived.Test.YtcenngekjopjpaaQuFrS
import Derived.Test.YtcenngekjopjpaaQuFrI
namespace Go.Proofs.Ytcenngekjopjpaa
open Go Go.RowKit
set_option linter.unusedVariables false

theorem szF_le : ∀ (xs : List DFrame), (∀ k, k < xs.length → ((fr xs k).f1).length ≤ 40) → (xs.map shFrame.size).sum ≤ xs.length * 40
  | [], _ => by simp
  | x :: r, h => by
    have h0 : x.f1.length ≤ 40 := h 0 (by simp)
    have ih := szF_le r (fun k hk => h (k + 1) (by simpa using hk))
    have e : shFrame.size x = x.f1.length := szL_I x.f1
    rw [List.map_cons, List.sum_cons, List.length_cons, e]
    omega
theorem queueFrame_both (i0_0 : Int) (xs0_1 : List DFrame) (i0_2 : Int) (xs1 : List Int) (h1 : szL shFrame xs0_1 ≤ 1048576) (h2 : szL shI xs1 ≤ 1048576) : ∃ (ir0_0 : Int) (xsr0_1 : List DFrame) (ir0_2 : Int) (br1 : Bool), szL shFrame xsr0_1 ≤ 1048576 ∧ (∀ (W : World), ∀ u0_1 u1, RdL shFrame W u0_1 xs0_1 → RdL shI W u1 xs1 → Calls Try.prog 24 #[.agg #[.int .i64 i0_0, u0_1, .int .i64 i0_2], u1] W (ResSQueueFrame ir0_0 xsr0_1 ir0_2 br1 W)) ∧ ∀ (W : World), ∀ u0_1 u1, RdL shFrame W u0_1 xs0_1 → RdL shI W u1 xs1 → Calls Try.prog 26 #[.agg #[.int .i64 i0_0, u0_1, .int .i64 i0_2], u1] W (ResIQueueFrame ir0_0 xsr0_1 ir0_2 br1 W) := by
  by_cases hv : SndP i0_0 i0_2 xs0_1
  · by_cases hb : AreB xs1
    · by_cases h7 : xs0_1.length = 7
      · exact ⟨_, _, _, _, h1, fun W u u1 H H1 => (specQu_full W _ _ u _ H h1 u1 _ H1 h2 hv hb h7).mono (fun e w q => resS_ofQueueFrame e w q), fun W u u1 H H1 => implQu_full W _ _ u _ H h1 u1 _ H1 h2 hv hb h7⟩
      · have h8 : xs0_1.length < 7 := by have := hv.2.1; omega
        refine ⟨_, _, _, _, ?_, fun W u u1 H H1 => (specQu_yes W _ _ u _ H h1 u1 _ H1 h2 hv hb h8).mono (fun e w q => resS_ofQueueFrame e w q), fun W u u1 H H1 => implQu_yes W _ _ u _ H h1 u1 _ H1 h2 hv hb h8⟩
        have q1 := szF_le xs0_1 (fun k hk => (hv.2.2.2 k hk).2.2)
        have q2 : xs1.length ≤ 40 := hb.2
        show (xs0_1 ++ [(⟨i0_0, xs1⟩ : DFrame)]).length + ((xs0_1 ++ [(⟨i0_0, xs1⟩ : DFrame)]).map shFrame.size).sum ≤ 1048576
        rw [List.map_append, List.sum_append, List.length_append]
        have e : shFrame.size (⟨i0_0, xs1⟩ : DFrame) = xs1.length := szL_I xs1
        simp only [List.map_cons, List.map_nil, List.sum_cons, List.sum_nil, List.length_cons, List.length_nil, e]
        omega
    · exact ⟨_, _, _, _, h1, fun W u u1 H H1 => (specQu_nob W _ _ u _ H h1 u1 _ H1 h2 hv hb).mono (fun e w q => resS_ofQueueFrame e w q), fun W u u1 H H1 => implQu_nob W _ _ u _ H h1 u1 _ H1 h2 hv hb⟩
  · exact ⟨_, _, _, _, h1, fun W u u1 H H1 => (specQu_bad W _ _ u _ H h1 u1 _ H1 h2 hv).mono (fun e w q => resS_ofQueueFrame e w q), fun W u u1 H H1 => implQu_bad W _ _ u _ H h1 u1 _ H1 h2 hv⟩

end Go.Proofs.Ytcenngekjopjpaa
