/-
  RaiseVector and SetMask: both sides answer alike.
-/
import Derived.Test.YtgagbhkidponnacSetMS
namespace Go.Proofs.Ytgagbhkidponnac
open Go Go.RowKit
set_option linter.unusedVariables false

theorem raiseVector_both (i0_0 : Int) (xs0_1 : List Bool) (xs0_2 : List Bool) (i1 : Int) (i2 : Int) (h1 : szL shB xs0_1 ≤ 1048576) (h2 : szL shB xs0_2 ≤ 1048576) : ∃ (ir0_0 : Int) (xsr0_1 : List Bool) (xsr0_2 : List Bool) (ir1_0 : Int) (ir1_1 : Int) (ir1_2 : Int) (ir1_3 : Int) (ir1_4 : Int) (ir1_5 : Int) (ir1_6 : Int) (xsr1_7 : List Int) (br2 : Bool), szL shB xsr0_1 ≤ 1048576 ∧ szL shB xsr0_2 ≤ 1048576 ∧ szL shI xsr1_7 ≤ 1048576 ∧ (∀ (W : World), ∀ u0_1 u0_2, RdL shB W u0_1 xs0_1 → RdL shB W u0_2 xs0_2 → Calls Try.prog 12 #[.agg #[.int .i64 i0_0, u0_1, u0_2], .int .i64 i1, .int .i64 i2] W (ResSRaiseVector ir0_0 xsr0_1 xsr0_2 ir1_0 ir1_1 ir1_2 ir1_3 ir1_4 ir1_5 ir1_6 xsr1_7 br2 W)) ∧ ∀ (W : World), ∀ u0_1 u0_2, RdL shB W u0_1 xs0_1 → RdL shB W u0_2 xs0_2 → Calls Try.prog 14 #[.agg #[.int .i64 i0_0, u0_1, u0_2], .int .i64 i1, .int .i64 i2] W (ResIRaiseVector ir0_0 xsr0_1 xsr0_2 ir1_0 ir1_1 ir1_2 ir1_3 ir1_4 ir1_5 ir1_6 xsr1_7 br2 W) := by
  by_cases hb : VCall i0_0 xs0_1 xs0_2 i1 i2
  · cases hm : xs0_1.getD i2.toNat false with
    | true =>
      exact ⟨i0_0, xs0_1, xs0_2.set i2.toNat true, 0, 0, 0, 0, 0, 0, 0, [], true, h1, (by rw [szL_B, List.length_set, ← szL_B]; exact h2), by rw [szL_I]; simp, fun W u1 u2 H1 H2 => (specRaise_yes W i0_0 u1 u2 xs0_1 xs0_2 H1 H2 h1 h2 i1 i2 hb hm).mono (fun e w q => resS_ofRaiseVector e w q), fun W u1 u2 H1 H2 => implRaise_yes W i0_0 u1 u2 xs0_1 xs0_2 H1 H2 h1 h2 i1 i2 hb hm⟩
    | false =>
      exact ⟨i0_0, xs0_1, xs0_2, 1, i1, 0, i0_0, 0, 0, 0, [i2], true, h1, h2, by rw [szL_I]; simp, fun W u1 u2 H1 H2 => (specRaise_no W i0_0 u1 u2 xs0_1 xs0_2 H1 H2 h1 h2 i1 i2 hb hm).mono (fun e w q => resS_ofRaiseVector e w q), fun W u1 u2 H1 H2 => implRaise_no W i0_0 u1 u2 xs0_1 xs0_2 H1 H2 h1 h2 i1 i2 hb hm⟩
  · exact ⟨i0_0, xs0_1, xs0_2, 0, 0, 0, 0, 0, 0, 0, [], false, h1, h2, by rw [szL_I]; simp, fun W u1 u2 H1 H2 => (specRaise_bad W i0_0 u1 u2 xs0_1 xs0_2 H1 H2 h1 h2 i1 i2 hb).mono (fun e w q => resS_ofRaiseVector e w q), fun W u1 u2 H1 H2 => implRaise_bad W i0_0 u1 u2 xs0_1 xs0_2 H1 H2 h1 h2 i1 i2 hb⟩

theorem setMask_both (i0_0 : Int) (xs0_1 : List Bool) (xs0_2 : List Bool) (i1 : Int) (i2 : Int) (b3 : Bool) (h1 : szL shB xs0_1 ≤ 1048576) (h2 : szL shB xs0_2 ≤ 1048576) : ∃ (ir0_0 : Int) (xsr0_1 : List Bool) (xsr0_2 : List Bool) (ir1_0 : Int) (ir1_1 : Int) (ir1_2 : Int) (ir1_3 : Int) (ir1_4 : Int) (ir1_5 : Int) (ir1_6 : Int) (xsr1_7 : List Int) (br2 : Bool), szL shB xsr0_1 ≤ 1048576 ∧ szL shB xsr0_2 ≤ 1048576 ∧ szL shI xsr1_7 ≤ 1048576 ∧ (∀ (W : World), ∀ u0_1 u0_2, RdL shB W u0_1 xs0_1 → RdL shB W u0_2 xs0_2 → Calls Try.prog 21 #[.agg #[.int .i64 i0_0, u0_1, u0_2], .int .i64 i1, .int .i64 i2, .bool b3] W (ResSSetMask ir0_0 xsr0_1 xsr0_2 ir1_0 ir1_1 ir1_2 ir1_3 ir1_4 ir1_5 ir1_6 xsr1_7 br2 W)) ∧ ∀ (W : World), ∀ u0_1 u0_2, RdL shB W u0_1 xs0_1 → RdL shB W u0_2 xs0_2 → Calls Try.prog 22 #[.agg #[.int .i64 i0_0, u0_1, u0_2], .int .i64 i1, .int .i64 i2, .bool b3] W (ResISetMask ir0_0 xsr0_1 xsr0_2 ir1_0 ir1_1 ir1_2 ir1_3 ir1_4 ir1_5 ir1_6 xsr1_7 br2 W) := by
  by_cases hb : VCall i0_0 xs0_1 xs0_2 i1 i2
  · cases b3 with
    | true =>
      exact ⟨i0_0, xs0_1.set i2.toNat true, xs0_2, 0, 0, 0, 0, 0, 0, 0, [], true, (by rw [szL_B, List.length_set, ← szL_B]; exact h1), h2, by rw [szL_I]; simp, fun W u1 u2 H1 H2 => (specSetM_set W i0_0 u1 u2 xs0_1 xs0_2 H1 H2 h1 h2 i1 i2 hb).mono (fun e w q => resS_ofSetMask e w q), fun W u1 u2 H1 H2 => implSetM_set W i0_0 u1 u2 xs0_1 xs0_2 H1 H2 h1 h2 i1 i2 hb⟩
    | false =>
      cases hm : xs0_2.getD i2.toNat false with
      | true =>
        exact ⟨i0_0, xs0_1.set i2.toNat false, xs0_2.set i2.toNat false, 1, i1, 0, i0_0, 0, 0, 0, [i2], true, (by rw [szL_B, List.length_set, ← szL_B]; exact h1), (by rw [szL_B, List.length_set, ← szL_B]; exact h2), by rw [szL_I]; simp, fun W u1 u2 H1 H2 => (specSetM_call W i0_0 u1 u2 xs0_1 xs0_2 H1 H2 h1 h2 i1 i2 hb hm).mono (fun e w q => resS_ofSetMask e w q), fun W u1 u2 H1 H2 => implSetM_call W i0_0 u1 u2 xs0_1 xs0_2 H1 H2 h1 h2 i1 i2 hb hm⟩
      | false =>
        exact ⟨i0_0, xs0_1.set i2.toNat false, xs0_2, 0, 0, 0, 0, 0, 0, 0, [], true, (by rw [szL_B, List.length_set, ← szL_B]; exact h1), h2, by rw [szL_I]; simp, fun W u1 u2 H1 H2 => (specSetM_quiet W i0_0 u1 u2 xs0_1 xs0_2 H1 H2 h1 h2 i1 i2 hb hm).mono (fun e w q => resS_ofSetMask e w q), fun W u1 u2 H1 H2 => implSetM_quiet W i0_0 u1 u2 xs0_1 xs0_2 H1 H2 h1 h2 i1 i2 hb hm⟩
  · exact ⟨i0_0, xs0_1, xs0_2, 0, 0, 0, 0, 0, 0, 0, [], false, h1, h2, by rw [szL_I]; simp, fun W u1 u2 H1 H2 => (specSetM_bad W i0_0 u1 u2 xs0_1 xs0_2 H1 H2 h1 h2 i1 i2 b3 hb).mono (fun e w q => resS_ofSetMask e w q), fun W u1 u2 H1 H2 => implSetM_bad W i0_0 u1 u2 xs0_1 xs0_2 H1 H2 h1 h2 i1 i2 b3 hb⟩

end Go.Proofs.Ytgagbhkidponnac
