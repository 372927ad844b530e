/-
  The walks of FnExactMakeId, FnExactIsId, FnExactBusOf, FnExactDeviceOf, FnExactFunctionOf.
-/
import Derived.Test.YteaaobklfhlgiaaIdNum
namespace Go.Proofs.Yteaaobklfhlgiaa
open Go Go.RowKit

def FitsI (b d f : Int) : Prop := 0 ≤ b ∧ b ≤ 15 ∧ 0 ≤ d ∧ d ≤ 3 ∧ 0 ≤ f ∧ f ≤ 3

theorem specMake_in (b d f : Int) (W : World) (h : FitsI b d f) : Calls Try.prog 27 #[.int .i64 b, .int .i64 d, .int .i64 f] W (Ans (.int .i64 (b * 16 + d * 4 + f)) W) := by
  obtain ⟨h1, h2, h3, h4, h5, h6⟩ := h
  go_enter Try.func27, Try.ntmps27
  go_wp2
  go_ret
  exact ⟨rfl, Drew.refl _⟩

theorem specMake_out (b d f : Int) (W : World) (h : ¬ FitsI b d f) : Calls Try.prog 27 #[.int .i64 b, .int .i64 d, .int .i64 f] W (Ans (.int .i64 (-1)) W) := by
  by_cases h1 : 0 ≤ b
  case' pos =>
    by_cases h2 : b ≤ 15
    case' pos =>
      by_cases h3 : 0 ≤ d
      case' pos =>
        by_cases h4 : d ≤ 3
        case' pos =>
          by_cases h5 : 0 ≤ f
          case' pos => have h6 : 3 < f := by unfold FitsI at h; omega
  all_goals
    clear h
    go_enter Try.func27, Try.ntmps27
    go_wp2_with (go_at_call 45; (first | refine (in_yes _ _ _ _ (by omega) (by omega)).mono ?_ | refine (in_no _ _ _ _ (by omega)).mono ?_); rintro e w' ⟨rfl, rfl⟩)
    go_ret
    exact ⟨rfl, Drew.refl _⟩

theorem implMake_in (b d f : Int) (W : World) (h : FitsI b d f) : Calls Try.prog 28 #[.int .i64 b, .int .i64 d, .int .i64 f] W (Ans (.int .i64 (b * 16 + d * 4 + f)) W) := by
  obtain ⟨h1, h2, h3, h4, h5, h6⟩ := h
  go_enter Try.func28, Try.ntmps28
  go_wp2
  go_ret
  exact ⟨rfl, Drew.refl _⟩

theorem implMake_out (b d f : Int) (W : World) (h : ¬ FitsI b d f) : Calls Try.prog 28 #[.int .i64 b, .int .i64 d, .int .i64 f] W (Ans (.int .i64 (-1)) W) := by
  by_cases h1 : 0 ≤ b
  case' pos =>
    by_cases h2 : b ≤ 15
    case' pos =>
      by_cases h3 : 0 ≤ d
      case' pos =>
        by_cases h4 : d ≤ 3
        case' pos =>
          by_cases h5 : 0 ≤ f
          case' pos => have h6 : 3 < f := by unfold FitsI at h; omega
  all_goals
    clear h
    go_enter Try.func28, Try.ntmps28
    go_wp2_with (go_at_call 42; (first | refine (rng_yes _ _ _ _ (by omega) (by omega)).mono ?_ | refine (rng_no _ _ _ _ (by omega)).mono ?_); rintro e w' ⟨rfl, rfl⟩)
    go_ret
    exact ⟨rfl, Drew.refl _⟩

theorem sameMakeId (b d f : Int) : ∃ r : Int, (∀ W : World, Calls Try.prog 27 #[.int .i64 b, .int .i64 d, .int .i64 f] W (Ans (.int .i64 r) W)) ∧ ∀ W : World, Calls Try.prog 28 #[.int .i64 b, .int .i64 d, .int .i64 f] W (Ans (.int .i64 r) W) := by
  by_cases h : FitsI b d f
  · exact ⟨_, fun W => specMake_in b d f W h, fun W => implMake_in b d f W h⟩
  · exact ⟨_, fun W => specMake_out b d f W h, fun W => implMake_out b d f W h⟩

theorem walk_exactMakeId (b d f : Int) (W : World) :
    Calls Try.prog 9 #[.int .i64 b, .int .i64 d, .int .i64 f] W fun e w' => e = .returned (.bool true) ∧ Below W.heap.size W w' := by
  obtain ⟨r, h1, h2⟩ := sameMakeId b d f
  have H1 := Lib.hid h1
  have H2 := Lib.hid h2
  clear h1 h2
  go_enter Try.func9, Try.ntmps9
  go_wp2_with fail
  go_at_call 27
  refine (H1.out _).mono ?_
  rintro e w1 ⟨rfl, d1⟩
  have D1 := Lib.hid d1
  clear d1
  go_wp2_with fail
  go_at_call 28
  refine (H2.out _).mono ?_
  rintro e w2 ⟨rfl, d2⟩
  have D2 := Lib.hid d2
  clear d2
  go_wp2
  go_ret
  exact ⟨rfl, gby_below ((D1.out.trans D2.out).gby none)⟩

theorem sameIsId (x : Int) : ∃ r : Bool, (∀ W : World, Calls Try.prog 29 #[.int .i64 x] W (Ans (.bool r) W)) ∧ ∀ W : World, Calls Try.prog 30 #[.int .i64 x] W (Ans (.bool r) W) := by
  exact ⟨_, fun W => isId_any x W, fun W => implIsId_any x W⟩

theorem walk_exactIsId (x : Int) (W : World) :
    Calls Try.prog 10 #[.int .i64 x] W fun e w' => e = .returned (.bool true) ∧ Below W.heap.size W w' := by
  obtain ⟨r, h1, h2⟩ := sameIsId x
  cases r
  all_goals
    have H1 := Lib.hid h1
    have H2 := Lib.hid h2
    clear h1 h2
    go_enter Try.func10, Try.ntmps10
    go_wp2_with fail
    go_at_call 29
    refine (H1.out _).mono ?_
    rintro e w1 ⟨rfl, d1⟩
    have D1 := Lib.hid d1
    clear d1
    go_wp2_with fail
    go_at_call 30
    refine (H2.out _).mono ?_
    rintro e w2 ⟨rfl, d2⟩
    have D2 := Lib.hid d2
    clear d2
    go_wp2
    go_ret
    exact ⟨rfl, gby_below ((D1.out.trans D2.out).gby none)⟩

theorem specBusOf_in (a : Nat) (W : World) (h : a ≤ 255) : Calls Try.prog 31 #[.int .i64 (a : Int)] W (Ans (.int .i64 ((a : Int) / 16)) W) := by
  go_enter Try.func31, Try.ntmps31
  go_wp2_with (go_at_call 29; refine (isId_yes _ _ (by omega) (by omega)).mono ?_; rintro e w1 ⟨rfl, d1⟩; have D1 := Lib.hid d1; clear d1)
  go_ret
  exact ⟨rfl, D1.out⟩

theorem specBusOf_out (x : Int) (W : World) (h : x < 0 ∨ 255 < x) : Calls Try.prog 31 #[.int .i64 x] W (Ans (.int .i64 (-1)) W) := by
  have H := Lib.hid h
  clear h
  go_enter Try.func31, Try.ntmps31
  go_wp2_with (go_at_call 29; refine (isId_no _ _ H.out).mono ?_; rintro e w1 ⟨rfl, d1⟩; have D1 := Lib.hid d1; clear d1)
  go_ret
  exact ⟨rfl, D1.out⟩

theorem getBusOf (a : Nat) (_h : a ≤ 255) : (getF a 4 4 : Int) = (a : Int) / 16 := by
  unfold getF
  have : a / 2 ^ 4 % 2 ^ 4 = a / 16 := by
    show a / 16 % 16 = _
    omega
  omega

theorem mBusOf_in (a : Nat) (W : World) (h : a ≤ 255) : Calls Try.prog 47 #[.int .i64 (a : Int)] W (Ans (.int .i64 ((a : Int) / 16)) W) := by
  have HP := Lib.hid (fun W : World => show Calls Try.prog 53 #[.int .i64 (a : Int), .int .i64 4, .int .i64 4] W (Ans (.int .i64 ((a : Int) / 16)) W) from by rw [← getBusOf a h]; exact part_in a 4 4 W h (by omega) (by omega) (by omega))
  go_enter Try.func47, Try.ntmps47
  go_wp2_with (go_at_call 53; refine (HP.out _).mono ?_; rintro e w1 ⟨rfl, d1⟩; have D1 := Lib.hid d1; clear d1)
  go_ret
  exact ⟨rfl, D1.out⟩

theorem mBusOf_out (x : Int) (W : World) (h : x < 0 ∨ 255 < x) : Calls Try.prog 47 #[.int .i64 x] W (Ans (.int .i64 (-1)) W) := by
  have H := Lib.hid h
  clear h
  go_enter Try.func47, Try.ntmps47
  go_wp2_with (go_at_call 53; refine (part_out _ _ _ _ H.out).mono ?_; rintro e w1 ⟨rfl, d1⟩; have D1 := Lib.hid d1; clear d1)
  go_ret
  exact ⟨rfl, D1.out⟩

theorem implBusOf_in (a : Nat) (W : World) (h : a ≤ 255) : Calls Try.prog 32 #[.int .i64 (a : Int)] W (Ans (.int .i64 ((a : Int) / 16)) W) := by
  go_enter Try.func32, Try.ntmps32
  go_wp2_with (go_at_call 47; refine (mBusOf_in _ _ h).mono ?_; rintro e w1 ⟨rfl, d1⟩; have D1 := Lib.hid d1; clear d1)
  go_ret
  exact ⟨rfl, D1.out⟩

theorem implBusOf_out (x : Int) (W : World) (h : x < 0 ∨ 255 < x) : Calls Try.prog 32 #[.int .i64 x] W (Ans (.int .i64 (-1)) W) := by
  have H := Lib.hid h
  clear h
  go_enter Try.func32, Try.ntmps32
  go_wp2_with (go_at_call 47; refine (mBusOf_out _ _ H.out).mono ?_; rintro e w1 ⟨rfl, d1⟩; have D1 := Lib.hid d1; clear d1)
  go_ret
  exact ⟨rfl, D1.out⟩

theorem sameBusOf (x : Int) : ∃ r : Int, (∀ W : World, Calls Try.prog 31 #[.int .i64 x] W (Ans (.int .i64 r) W)) ∧ ∀ W : World, Calls Try.prog 32 #[.int .i64 x] W (Ans (.int .i64 r) W) := by
  by_cases h : 0 ≤ x ∧ x ≤ 255
  · obtain ⟨n, rfl⟩ : ∃ n : Nat, x = n := ⟨x.toNat, by omega⟩
    exact ⟨_, fun W => specBusOf_in n W (by omega), fun W => implBusOf_in n W (by omega)⟩
  · exact ⟨_, fun W => specBusOf_out x W (by omega), fun W => implBusOf_out x W (by omega)⟩

theorem walk_exactBusOf (x : Int) (W : World) :
    Calls Try.prog 11 #[.int .i64 x] W fun e w' => e = .returned (.bool true) ∧ Below W.heap.size W w' := by
  obtain ⟨r, h1, h2⟩ := sameBusOf x
  have H1 := Lib.hid h1
  have H2 := Lib.hid h2
  clear h1 h2
  go_enter Try.func11, Try.ntmps11
  go_wp2_with fail
  go_at_call 31
  refine (H1.out _).mono ?_
  rintro e w1 ⟨rfl, d1⟩
  have D1 := Lib.hid d1
  clear d1
  go_wp2_with fail
  go_at_call 32
  refine (H2.out _).mono ?_
  rintro e w2 ⟨rfl, d2⟩
  have D2 := Lib.hid d2
  clear d2
  go_wp2
  go_ret
  exact ⟨rfl, gby_below ((D1.out.trans D2.out).gby none)⟩

theorem specDeviceOf_in (a : Nat) (W : World) (h : a ≤ 255) : Calls Try.prog 33 #[.int .i64 (a : Int)] W (Ans (.int .i64 ((a : Int) / 4 % 4)) W) := by
  go_enter Try.func33, Try.ntmps33
  go_wp2_with (go_at_call 29; refine (isId_yes _ _ (by omega) (by omega)).mono ?_; rintro e w1 ⟨rfl, d1⟩; have D1 := Lib.hid d1; clear d1)
  go_ret
  exact ⟨rfl, D1.out⟩

theorem specDeviceOf_out (x : Int) (W : World) (h : x < 0 ∨ 255 < x) : Calls Try.prog 33 #[.int .i64 x] W (Ans (.int .i64 (-1)) W) := by
  have H := Lib.hid h
  clear h
  go_enter Try.func33, Try.ntmps33
  go_wp2_with (go_at_call 29; refine (isId_no _ _ H.out).mono ?_; rintro e w1 ⟨rfl, d1⟩; have D1 := Lib.hid d1; clear d1)
  go_ret
  exact ⟨rfl, D1.out⟩

theorem getDeviceOf (a : Nat) (_h : a ≤ 255) : (getF a 2 2 : Int) = (a : Int) / 4 % 4 := by
  unfold getF
  have : a / 2 ^ 2 % 2 ^ 2 = a / 4 % 4 := by
    show a / 4 % 4 = _
    omega
  omega

theorem mDeviceOf_in (a : Nat) (W : World) (h : a ≤ 255) : Calls Try.prog 48 #[.int .i64 (a : Int)] W (Ans (.int .i64 ((a : Int) / 4 % 4)) W) := by
  have HP := Lib.hid (fun W : World => show Calls Try.prog 53 #[.int .i64 (a : Int), .int .i64 2, .int .i64 2] W (Ans (.int .i64 ((a : Int) / 4 % 4)) W) from by rw [← getDeviceOf a h]; exact part_in a 2 2 W h (by omega) (by omega) (by omega))
  go_enter Try.func48, Try.ntmps48
  go_wp2_with (go_at_call 53; refine (HP.out _).mono ?_; rintro e w1 ⟨rfl, d1⟩; have D1 := Lib.hid d1; clear d1)
  go_ret
  exact ⟨rfl, D1.out⟩

theorem mDeviceOf_out (x : Int) (W : World) (h : x < 0 ∨ 255 < x) : Calls Try.prog 48 #[.int .i64 x] W (Ans (.int .i64 (-1)) W) := by
  have H := Lib.hid h
  clear h
  go_enter Try.func48, Try.ntmps48
  go_wp2_with (go_at_call 53; refine (part_out _ _ _ _ H.out).mono ?_; rintro e w1 ⟨rfl, d1⟩; have D1 := Lib.hid d1; clear d1)
  go_ret
  exact ⟨rfl, D1.out⟩

theorem implDeviceOf_in (a : Nat) (W : World) (h : a ≤ 255) : Calls Try.prog 34 #[.int .i64 (a : Int)] W (Ans (.int .i64 ((a : Int) / 4 % 4)) W) := by
  go_enter Try.func34, Try.ntmps34
  go_wp2_with (go_at_call 48; refine (mDeviceOf_in _ _ h).mono ?_; rintro e w1 ⟨rfl, d1⟩; have D1 := Lib.hid d1; clear d1)
  go_ret
  exact ⟨rfl, D1.out⟩

theorem implDeviceOf_out (x : Int) (W : World) (h : x < 0 ∨ 255 < x) : Calls Try.prog 34 #[.int .i64 x] W (Ans (.int .i64 (-1)) W) := by
  have H := Lib.hid h
  clear h
  go_enter Try.func34, Try.ntmps34
  go_wp2_with (go_at_call 48; refine (mDeviceOf_out _ _ H.out).mono ?_; rintro e w1 ⟨rfl, d1⟩; have D1 := Lib.hid d1; clear d1)
  go_ret
  exact ⟨rfl, D1.out⟩

theorem sameDeviceOf (x : Int) : ∃ r : Int, (∀ W : World, Calls Try.prog 33 #[.int .i64 x] W (Ans (.int .i64 r) W)) ∧ ∀ W : World, Calls Try.prog 34 #[.int .i64 x] W (Ans (.int .i64 r) W) := by
  by_cases h : 0 ≤ x ∧ x ≤ 255
  · obtain ⟨n, rfl⟩ : ∃ n : Nat, x = n := ⟨x.toNat, by omega⟩
    exact ⟨_, fun W => specDeviceOf_in n W (by omega), fun W => implDeviceOf_in n W (by omega)⟩
  · exact ⟨_, fun W => specDeviceOf_out x W (by omega), fun W => implDeviceOf_out x W (by omega)⟩

theorem walk_exactDeviceOf (x : Int) (W : World) :
    Calls Try.prog 12 #[.int .i64 x] W fun e w' => e = .returned (.bool true) ∧ Below W.heap.size W w' := by
  obtain ⟨r, h1, h2⟩ := sameDeviceOf x
  have H1 := Lib.hid h1
  have H2 := Lib.hid h2
  clear h1 h2
  go_enter Try.func12, Try.ntmps12
  go_wp2_with fail
  go_at_call 33
  refine (H1.out _).mono ?_
  rintro e w1 ⟨rfl, d1⟩
  have D1 := Lib.hid d1
  clear d1
  go_wp2_with fail
  go_at_call 34
  refine (H2.out _).mono ?_
  rintro e w2 ⟨rfl, d2⟩
  have D2 := Lib.hid d2
  clear d2
  go_wp2
  go_ret
  exact ⟨rfl, gby_below ((D1.out.trans D2.out).gby none)⟩

theorem specFunctionOf_in (a : Nat) (W : World) (h : a ≤ 255) : Calls Try.prog 35 #[.int .i64 (a : Int)] W (Ans (.int .i64 ((a : Int) % 4)) W) := by
  go_enter Try.func35, Try.ntmps35
  go_wp2_with (go_at_call 29; refine (isId_yes _ _ (by omega) (by omega)).mono ?_; rintro e w1 ⟨rfl, d1⟩; have D1 := Lib.hid d1; clear d1)
  go_ret
  exact ⟨rfl, D1.out⟩

theorem specFunctionOf_out (x : Int) (W : World) (h : x < 0 ∨ 255 < x) : Calls Try.prog 35 #[.int .i64 x] W (Ans (.int .i64 (-1)) W) := by
  have H := Lib.hid h
  clear h
  go_enter Try.func35, Try.ntmps35
  go_wp2_with (go_at_call 29; refine (isId_no _ _ H.out).mono ?_; rintro e w1 ⟨rfl, d1⟩; have D1 := Lib.hid d1; clear d1)
  go_ret
  exact ⟨rfl, D1.out⟩

theorem getFunctionOf (a : Nat) (_h : a ≤ 255) : (getF a 0 2 : Int) = (a : Int) % 4 := by
  unfold getF
  have : a / 2 ^ 0 % 2 ^ 2 = a % 4 := by
    show a / 1 % 4 = _
    omega
  omega

theorem mFunctionOf_in (a : Nat) (W : World) (h : a ≤ 255) : Calls Try.prog 49 #[.int .i64 (a : Int)] W (Ans (.int .i64 ((a : Int) % 4)) W) := by
  have HP := Lib.hid (fun W : World => show Calls Try.prog 53 #[.int .i64 (a : Int), .int .i64 0, .int .i64 2] W (Ans (.int .i64 ((a : Int) % 4)) W) from by rw [← getFunctionOf a h]; exact part_in a 0 2 W h (by omega) (by omega) (by omega))
  go_enter Try.func49, Try.ntmps49
  go_wp2_with (go_at_call 53; refine (HP.out _).mono ?_; rintro e w1 ⟨rfl, d1⟩; have D1 := Lib.hid d1; clear d1)
  go_ret
  exact ⟨rfl, D1.out⟩

theorem mFunctionOf_out (x : Int) (W : World) (h : x < 0 ∨ 255 < x) : Calls Try.prog 49 #[.int .i64 x] W (Ans (.int .i64 (-1)) W) := by
  have H := Lib.hid h
  clear h
  go_enter Try.func49, Try.ntmps49
  go_wp2_with (go_at_call 53; refine (part_out _ _ _ _ H.out).mono ?_; rintro e w1 ⟨rfl, d1⟩; have D1 := Lib.hid d1; clear d1)
  go_ret
  exact ⟨rfl, D1.out⟩

theorem implFunctionOf_in (a : Nat) (W : World) (h : a ≤ 255) : Calls Try.prog 36 #[.int .i64 (a : Int)] W (Ans (.int .i64 ((a : Int) % 4)) W) := by
  go_enter Try.func36, Try.ntmps36
  go_wp2_with (go_at_call 49; refine (mFunctionOf_in _ _ h).mono ?_; rintro e w1 ⟨rfl, d1⟩; have D1 := Lib.hid d1; clear d1)
  go_ret
  exact ⟨rfl, D1.out⟩

theorem implFunctionOf_out (x : Int) (W : World) (h : x < 0 ∨ 255 < x) : Calls Try.prog 36 #[.int .i64 x] W (Ans (.int .i64 (-1)) W) := by
  have H := Lib.hid h
  clear h
  go_enter Try.func36, Try.ntmps36
  go_wp2_with (go_at_call 49; refine (mFunctionOf_out _ _ H.out).mono ?_; rintro e w1 ⟨rfl, d1⟩; have D1 := Lib.hid d1; clear d1)
  go_ret
  exact ⟨rfl, D1.out⟩

theorem sameFunctionOf (x : Int) : ∃ r : Int, (∀ W : World, Calls Try.prog 35 #[.int .i64 x] W (Ans (.int .i64 r) W)) ∧ ∀ W : World, Calls Try.prog 36 #[.int .i64 x] W (Ans (.int .i64 r) W) := by
  by_cases h : 0 ≤ x ∧ x ≤ 255
  · obtain ⟨n, rfl⟩ : ∃ n : Nat, x = n := ⟨x.toNat, by omega⟩
    exact ⟨_, fun W => specFunctionOf_in n W (by omega), fun W => implFunctionOf_in n W (by omega)⟩
  · exact ⟨_, fun W => specFunctionOf_out x W (by omega), fun W => implFunctionOf_out x W (by omega)⟩

theorem walk_exactFunctionOf (x : Int) (W : World) :
    Calls Try.prog 13 #[.int .i64 x] W fun e w' => e = .returned (.bool true) ∧ Below W.heap.size W w' := by
  obtain ⟨r, h1, h2⟩ := sameFunctionOf x
  have H1 := Lib.hid h1
  have H2 := Lib.hid h2
  clear h1 h2
  go_enter Try.func13, Try.ntmps13
  go_wp2_with fail
  go_at_call 35
  refine (H1.out _).mono ?_
  rintro e w1 ⟨rfl, d1⟩
  have D1 := Lib.hid d1
  clear d1
  go_wp2_with fail
  go_at_call 36
  refine (H2.out _).mono ?_
  rintro e w2 ⟨rfl, d2⟩
  have D2 := Lib.hid d2
  clear d2
  go_wp2
  go_ret
  exact ⟨rfl, gby_below ((D1.out.trans D2.out).gby none)⟩

end Go.Proofs.Yteaaobklfhlgiaa
