/-
  The walks of FnExactMakeId, FnExactIsId, FnExactBusOf, FnExactDeviceOf, FnExactFunctionOf.
-/
import Derived.Test.YteaaobklfhlgiaaDoorIdNum
namespace Go.Proofs.YteaaobklfhlgiaaDoor
open Go Go.RowKit

def FitsI (b d f : Int) : Prop := 0 ≤ b ∧ b ≤ 15 ∧ 0 ≤ d ∧ d ≤ 3 ∧ 0 ≤ f ∧ f ≤ 3

theorem implMake_in (b d f : Int) (W : World) (h : FitsI b d f) : Calls Tryd.prog 11 #[.int .i64 b, .int .i64 d, .int .i64 f] W (Ans (.int .i64 (b * 16 + d * 4 + f)) W) := by
  obtain ⟨h1, h2, h3, h4, h5, h6⟩ := h
  go_enter Tryd.func11, Tryd.ntmps11
  go_wp2
  go_ret
  exact ⟨rfl, Drew.refl _⟩

theorem implMake_out (b d f : Int) (W : World) (h : ¬ FitsI b d f) : Calls Tryd.prog 11 #[.int .i64 b, .int .i64 d, .int .i64 f] W (Ans (.int .i64 (-1)) W) := by
  by_cases h1 : 0 ≤ b
  case' pos =>
    by_cases h2 : b ≤ 15
    case' pos =>
      by_cases h3 : 0 ≤ d
      case' pos =>
        by_cases h4 : d ≤ 3
        case' pos =>
          by_cases h5 : 0 ≤ f
          case' pos => have h6 : 3 < f := by unfold FitsI at h; omega
  all_goals
    clear h
    go_enter Tryd.func11, Tryd.ntmps11
    go_wp2_with (go_at_call 23; (first | refine (rng_yes _ _ _ _ (by omega) (by omega)).mono ?_ | refine (rng_no _ _ _ _ (by omega)).mono ?_); rintro e w' ⟨rfl, rfl⟩)
    go_ret
    exact ⟨rfl, Drew.refl _⟩

theorem sameIsId (x : Int) : ∃ r : Bool, (∀ W : World, Calls Tryd.prog 27 #[.int .i64 x] W (Ans (.bool r) W)) ∧ ∀ W : World, Calls Tryd.prog 10 #[.int .i64 x] W (Ans (.bool r) W) := by
  exact ⟨_, fun W => isId_any x W, fun W => implIsId_any x W⟩

theorem getBusOf (a : Nat) (_h : a ≤ 255) : (getF a 4 4 : Int) = (a : Int) / 16 := by
  unfold getF
  have : a / 2 ^ 4 % 2 ^ 4 = a / 16 := by
    show a / 16 % 16 = _
    omega
  omega

theorem mBusOf_in (a : Nat) (W : World) (h : a ≤ 255) : Calls Tryd.prog 24 #[.int .i64 (a : Int)] W (Ans (.int .i64 ((a : Int) / 16)) W) := by
  have HP := Lib.hid (fun W : World => show Calls Tryd.prog 33 #[.int .i64 (a : Int), .int .i64 4, .int .i64 4] W (Ans (.int .i64 ((a : Int) / 16)) W) from by rw [← getBusOf a h]; exact part_in a 4 4 W h (by omega) (by omega) (by omega))
  go_enter Tryd.func24, Tryd.ntmps24
  go_wp2_with (go_at_call 33; refine (HP.out _).mono ?_; rintro e w1 ⟨rfl, d1⟩; have D1 := Lib.hid d1; clear d1)
  go_ret
  exact ⟨rfl, D1.out⟩

theorem mBusOf_out (x : Int) (W : World) (h : x < 0 ∨ 255 < x) : Calls Tryd.prog 24 #[.int .i64 x] W (Ans (.int .i64 (-1)) W) := by
  have H := Lib.hid h
  clear h
  go_enter Tryd.func24, Tryd.ntmps24
  go_wp2_with (go_at_call 33; refine (part_out _ _ _ _ H.out).mono ?_; rintro e w1 ⟨rfl, d1⟩; have D1 := Lib.hid d1; clear d1)
  go_ret
  exact ⟨rfl, D1.out⟩

theorem implBusOf_in (a : Nat) (W : World) (h : a ≤ 255) : Calls Tryd.prog 12 #[.int .i64 (a : Int)] W (Ans (.int .i64 ((a : Int) / 16)) W) := by
  go_enter Tryd.func12, Tryd.ntmps12
  go_wp2_with (go_at_call 24; refine (mBusOf_in _ _ h).mono ?_; rintro e w1 ⟨rfl, d1⟩; have D1 := Lib.hid d1; clear d1)
  go_ret
  exact ⟨rfl, D1.out⟩

theorem implBusOf_out (x : Int) (W : World) (h : x < 0 ∨ 255 < x) : Calls Tryd.prog 12 #[.int .i64 x] W (Ans (.int .i64 (-1)) W) := by
  have H := Lib.hid h
  clear h
  go_enter Tryd.func12, Tryd.ntmps12
  go_wp2_with (go_at_call 24; refine (mBusOf_out _ _ H.out).mono ?_; rintro e w1 ⟨rfl, d1⟩; have D1 := Lib.hid d1; clear d1)
  go_ret
  exact ⟨rfl, D1.out⟩

theorem getDeviceOf (a : Nat) (_h : a ≤ 255) : (getF a 2 2 : Int) = (a : Int) / 4 % 4 := by
  unfold getF
  have : a / 2 ^ 2 % 2 ^ 2 = a / 4 % 4 := by
    show a / 4 % 4 = _
    omega
  omega

theorem mDeviceOf_in (a : Nat) (W : World) (h : a ≤ 255) : Calls Tryd.prog 25 #[.int .i64 (a : Int)] W (Ans (.int .i64 ((a : Int) / 4 % 4)) W) := by
  have HP := Lib.hid (fun W : World => show Calls Tryd.prog 33 #[.int .i64 (a : Int), .int .i64 2, .int .i64 2] W (Ans (.int .i64 ((a : Int) / 4 % 4)) W) from by rw [← getDeviceOf a h]; exact part_in a 2 2 W h (by omega) (by omega) (by omega))
  go_enter Tryd.func25, Tryd.ntmps25
  go_wp2_with (go_at_call 33; refine (HP.out _).mono ?_; rintro e w1 ⟨rfl, d1⟩; have D1 := Lib.hid d1; clear d1)
  go_ret
  exact ⟨rfl, D1.out⟩

theorem mDeviceOf_out (x : Int) (W : World) (h : x < 0 ∨ 255 < x) : Calls Tryd.prog 25 #[.int .i64 x] W (Ans (.int .i64 (-1)) W) := by
  have H := Lib.hid h
  clear h
  go_enter Tryd.func25, Tryd.ntmps25
  go_wp2_with (go_at_call 33; refine (part_out _ _ _ _ H.out).mono ?_; rintro e w1 ⟨rfl, d1⟩; have D1 := Lib.hid d1; clear d1)
  go_ret
  exact ⟨rfl, D1.out⟩

theorem implDeviceOf_in (a : Nat) (W : World) (h : a ≤ 255) : Calls Tryd.prog 13 #[.int .i64 (a : Int)] W (Ans (.int .i64 ((a : Int) / 4 % 4)) W) := by
  go_enter Tryd.func13, Tryd.ntmps13
  go_wp2_with (go_at_call 25; refine (mDeviceOf_in _ _ h).mono ?_; rintro e w1 ⟨rfl, d1⟩; have D1 := Lib.hid d1; clear d1)
  go_ret
  exact ⟨rfl, D1.out⟩

theorem implDeviceOf_out (x : Int) (W : World) (h : x < 0 ∨ 255 < x) : Calls Tryd.prog 13 #[.int .i64 x] W (Ans (.int .i64 (-1)) W) := by
  have H := Lib.hid h
  clear h
  go_enter Tryd.func13, Tryd.ntmps13
  go_wp2_with (go_at_call 25; refine (mDeviceOf_out _ _ H.out).mono ?_; rintro e w1 ⟨rfl, d1⟩; have D1 := Lib.hid d1; clear d1)
  go_ret
  exact ⟨rfl, D1.out⟩

theorem getFunctionOf (a : Nat) (_h : a ≤ 255) : (getF a 0 2 : Int) = (a : Int) % 4 := by
  unfold getF
  have : a / 2 ^ 0 % 2 ^ 2 = a % 4 := by
    show a / 1 % 4 = _
    omega
  omega

theorem mFunctionOf_in (a : Nat) (W : World) (h : a ≤ 255) : Calls Tryd.prog 26 #[.int .i64 (a : Int)] W (Ans (.int .i64 ((a : Int) % 4)) W) := by
  have HP := Lib.hid (fun W : World => show Calls Tryd.prog 33 #[.int .i64 (a : Int), .int .i64 0, .int .i64 2] W (Ans (.int .i64 ((a : Int) % 4)) W) from by rw [← getFunctionOf a h]; exact part_in a 0 2 W h (by omega) (by omega) (by omega))
  go_enter Tryd.func26, Tryd.ntmps26
  go_wp2_with (go_at_call 33; refine (HP.out _).mono ?_; rintro e w1 ⟨rfl, d1⟩; have D1 := Lib.hid d1; clear d1)
  go_ret
  exact ⟨rfl, D1.out⟩

theorem mFunctionOf_out (x : Int) (W : World) (h : x < 0 ∨ 255 < x) : Calls Tryd.prog 26 #[.int .i64 x] W (Ans (.int .i64 (-1)) W) := by
  have H := Lib.hid h
  clear h
  go_enter Tryd.func26, Tryd.ntmps26
  go_wp2_with (go_at_call 33; refine (part_out _ _ _ _ H.out).mono ?_; rintro e w1 ⟨rfl, d1⟩; have D1 := Lib.hid d1; clear d1)
  go_ret
  exact ⟨rfl, D1.out⟩

theorem implFunctionOf_in (a : Nat) (W : World) (h : a ≤ 255) : Calls Tryd.prog 14 #[.int .i64 (a : Int)] W (Ans (.int .i64 ((a : Int) % 4)) W) := by
  go_enter Tryd.func14, Tryd.ntmps14
  go_wp2_with (go_at_call 26; refine (mFunctionOf_in _ _ h).mono ?_; rintro e w1 ⟨rfl, d1⟩; have D1 := Lib.hid d1; clear d1)
  go_ret
  exact ⟨rfl, D1.out⟩

theorem implFunctionOf_out (x : Int) (W : World) (h : x < 0 ∨ 255 < x) : Calls Tryd.prog 14 #[.int .i64 x] W (Ans (.int .i64 (-1)) W) := by
  have H := Lib.hid h
  clear h
  go_enter Tryd.func14, Tryd.ntmps14
  go_wp2_with (go_at_call 26; refine (mFunctionOf_out _ _ H.out).mono ?_; rintro e w1 ⟨rfl, d1⟩; have D1 := Lib.hid d1; clear d1)
  go_ret
  exact ⟨rfl, D1.out⟩

end Go.Proofs.YteaaobklfhlgiaaDoor
