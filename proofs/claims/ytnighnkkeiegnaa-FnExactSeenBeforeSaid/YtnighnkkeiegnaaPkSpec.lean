/-
  Contracts of the model's IsPacket.
-/
import Derived.Test.YtnighnkkeiegnaaPkChk2
namespace Go.Proofs.Ytnighnkkeiegnaa
open Go Go.RowKit

set_option maxRecDepth 8000 in
set_option maxHeartbeats 1000000 in
theorem specPk_noF (k : Int) (W : World) (f t a l g s : Int) (d : Option Addr) (len cap : Nat) (xs : List Int) (_H : ISl W d len xs) (_hl : len ≤ 1048576) (hf : f < 0 ∨ 255 < f) :
    Calls Try.prog 98 #[pkV k f t a l g s d len cap] W (AnsG (.bool false) W) := by
  have HF := Lib.hid hf
  clear hf
  unfold pkV
  go_enter Try.func98, Try.ntmps98
  go_wp2_with (go_at_call 124; refine (sid_no _ _ HF.out).mono ?_; rintro e w' ⟨rfl, rfl⟩)
  go_ret
  first
    | exact ⟨rfl, by repeat (first | with_reducible exact gby_refl _ _ | with_reducible refine gby_alloc ?_ _)⟩
    | exact ⟨ret_bool (by simp; omega), by repeat (first | with_reducible exact gby_refl _ _ | with_reducible refine gby_alloc ?_ _)⟩

set_option maxRecDepth 8000 in
set_option maxHeartbeats 1000000 in
theorem specPk_noX (k : Int) (W : World) (f t a l g s : Int) (d : Option Addr) (len cap : Nat) (xs : List Int) (H : ISl W d len xs) (hl : len ≤ 1048576) (hf : 0 ≤ f ∧ f ≤ 255) (hx : ¬ AreW xs) :
    Calls Try.prog 98 #[pkV k f t a l g s d len cap] W (AnsG (.bool false) W) := by
  have HI := Lib.hid H
  obtain ⟨f0, f1⟩ := hf
  have hd : decide (AreW xs) = false := decide_eq_false hx
  clear H
  unfold pkV
  go_enter Try.func98, Try.ntmps98
  go_wp2_with (first | (go_at_call 69; (first | refine (in_yes _ _ _ _ (by omega) (by omega)).mono ?_ | refine (in_no _ _ _ _ (by omega)).mono ?_); rintro e w' ⟨rfl, rfl⟩) | (go_at_call 124; (first | refine (sid_yes _ _ (by omega) (by omega)).mono ?_ | refine (sid_no _ _ (by omega)).mono ?_); rintro e w' ⟨rfl, rfl⟩) | (go_at_call 125; refine (words_any _ _ _ _ _ (HI.out.kept (gby_alloc (gby_refl _ _) _)) hl).mono ?_; rintro e w' ⟨rfl, rfl⟩; rw [hd]) | go_in)
  go_ret
  first
    | exact ⟨rfl, by repeat (first | with_reducible exact gby_refl _ _ | with_reducible refine gby_alloc ?_ _)⟩
    | exact ⟨ret_bool (by simp; omega), by repeat (first | with_reducible exact gby_refl _ _ | with_reducible refine gby_alloc ?_ _)⟩

set_option maxRecDepth 8000 in
set_option maxHeartbeats 1000000 in
theorem specPk_noK (k : Int) (W : World) (f t a l g s : Int) (d : Option Addr) (len cap : Nat) (xs : List Int) (H : ISl W d len xs) (hl : len ≤ 1048576) (hf : 0 ≤ f ∧ f ≤ 255) (hx : AreW xs) (hk : k < 1 ∨ 6 < k) :
    Calls Try.prog 98 #[pkV k f t a l g s d len cap] W (AnsG (.bool false) W) := by
  have HI := Lib.hid H
  obtain ⟨f0, f1⟩ := hf
  have hd : decide (AreW xs) = true := decide_eq_true hx
  have k1 : (k == 1) = false := by simp; omega
  have k2 : (k == 2) = false := by simp; omega
  have k3 : (k == 3) = false := by simp; omega
  have k4 : (k == 4) = false := by simp; omega
  have k5 : (k == 5) = false := by simp; omega
  have k6 : (k == 6) = false := by simp; omega
  clear H
  unfold pkV
  go_enter Try.func98, Try.ntmps98
  go_wp2_with (first | (go_at_call 69; (first | refine (in_yes _ _ _ _ (by omega) (by omega)).mono ?_ | refine (in_no _ _ _ _ (by omega)).mono ?_); rintro e w' ⟨rfl, rfl⟩) | (go_at_call 124; (first | refine (sid_yes _ _ (by omega) (by omega)).mono ?_ | refine (sid_no _ _ (by omega)).mono ?_); rintro e w' ⟨rfl, rfl⟩) | (go_at_call 125; refine (words_any _ _ _ _ _ (HI.out.kept (gby_alloc (gby_refl _ _) _)) hl).mono ?_; rintro e w' ⟨rfl, rfl⟩; rw [hd]) | go_in)
  go_ret
  first
    | exact ⟨rfl, by repeat (first | with_reducible exact gby_refl _ _ | with_reducible refine gby_alloc ?_ _)⟩
    | exact ⟨ret_bool (by simp; omega), by repeat (first | with_reducible exact gby_refl _ _ | with_reducible refine gby_alloc ?_ _)⟩

set_option maxRecDepth 8000 in
set_option maxHeartbeats 1000000 in
theorem specPk1_yes (W : World) (f t a l g s : Int) (d : Option Addr) (len cap : Nat) (xs : List Int) (H : ISl W d len xs) (hl : len ≤ 1048576) (hf : 0 ≤ f ∧ f ≤ 255) (hx : AreW xs) (h : W1 t a l g s len) :
    Calls Try.prog 98 #[pkV 1 f t a l g s d len cap] W (AnsG (.bool true) W) := by
  have HI := Lib.hid H
  obtain ⟨f0, f1⟩ := hf
  have hd : decide (AreW xs) = true := decide_eq_true hx
  clear H
  obtain ⟨c0, d0, c1, d1, rfl, rfl, rfl, rfl⟩ := h
  unfold pkV
  go_enter Try.func98, Try.ntmps98
  go_wp2_with (first | (go_at_call 69; (first | refine (in_yes _ _ _ _ (by omega) (by omega)).mono ?_ | refine (in_no _ _ _ _ (by omega)).mono ?_); rintro e w' ⟨rfl, rfl⟩) | (go_at_call 124; (first | refine (sid_yes _ _ (by omega) (by omega)).mono ?_ | refine (sid_no _ _ (by omega)).mono ?_); rintro e w' ⟨rfl, rfl⟩) | (go_at_call 125; refine (words_any _ _ _ _ _ (HI.out.kept (gby_alloc (gby_refl _ _) _)) hl).mono ?_; rintro e w' ⟨rfl, rfl⟩; rw [hd]) | go_in)
  go_ret
  first
    | exact ⟨rfl, by repeat (first | with_reducible exact gby_refl _ _ | with_reducible refine gby_alloc ?_ _)⟩
    | exact ⟨ret_bool (by simp; omega), by repeat (first | with_reducible exact gby_refl _ _ | with_reducible refine gby_alloc ?_ _)⟩

set_option maxRecDepth 8000 in
set_option maxHeartbeats 4000000 in
theorem specPk1_no (W : World) (f t a l g s : Int) (d : Option Addr) (len cap : Nat) (xs : List Int) (H : ISl W d len xs) (hl : len ≤ 1048576) (hf : 0 ≤ f ∧ f ≤ 255) (hx : AreW xs) (h : ¬ W1 t a l g s len) :
    Calls Try.prog 98 #[pkV 1 f t a l g s d len cap] W (AnsG (.bool false) W) := by
  have HI := Lib.hid H
  obtain ⟨f0, f1⟩ := hf
  have hd : decide (AreW xs) = true := decide_eq_true hx
  clear H
  unfold pkV
  have HH := Lib.hid h
  clear h
  by_cases c0 : 1 ≤ (len : Int) ∧ (len : Int) ≤ 8
  case' pos =>
    obtain ⟨c0, d0⟩ := c0
    by_cases c1 : 0 ≤ a ∧ a ≤ 65536 - (len : Int)
    case' pos =>
      obtain ⟨c1, d1⟩ := c1
      by_cases c2 : s = 0
      case' neg => have b2 : (s == 0) = false := by simpa using c2
      case' pos =>
        subst c2
        by_cases c3 : t = 0
        case' neg => have b3 : (t == 0) = false := by simpa using c3
        case' pos =>
          subst c3
          by_cases c4 : l = 0
          case' neg => have b4 : (l == 0) = false := by simpa using c4
          case' pos =>
            subst c4
            by_cases c5 : g = 0
            case' neg => have b5 : (g == 0) = false := by simpa using c5
            case' pos =>
              subst c5
              exact absurd (show W1 0 a 0 0 0 len from ⟨c0, d0, c1, by omega, rfl, rfl, rfl, rfl⟩) HH.out
  all_goals
    go_enter Try.func98, Try.ntmps98
    go_wp2_with (first | (go_at_call 69; (first | refine (in_yes _ _ _ _ (by omega) (by omega)).mono ?_ | refine (in_no _ _ _ _ (by omega)).mono ?_); rintro e w' ⟨rfl, rfl⟩) | (go_at_call 124; (first | refine (sid_yes _ _ (by omega) (by omega)).mono ?_ | refine (sid_no _ _ (by omega)).mono ?_); rintro e w' ⟨rfl, rfl⟩) | (go_at_call 125; refine (words_any _ _ _ _ _ (HI.out.kept (gby_alloc (gby_refl _ _) _)) hl).mono ?_; rintro e w' ⟨rfl, rfl⟩; rw [hd]) | go_in)
    go_ret
    first
      | exact ⟨rfl, by repeat (first | with_reducible exact gby_refl _ _ | with_reducible refine gby_alloc ?_ _)⟩
      | exact ⟨ret_bool (by simp; omega), by repeat (first | with_reducible exact gby_refl _ _ | with_reducible refine gby_alloc ?_ _)⟩

set_option maxRecDepth 8000 in
set_option maxHeartbeats 1000000 in
theorem specPk2_yes (W : World) (f t a l g s : Int) (d : Option Addr) (len cap : Nat) (xs : List Int) (H : ISl W d len xs) (hl : len ≤ 1048576) (hf : 0 ≤ f ∧ f ≤ 255) (hx : AreW xs) (h : W2 t a l g s len) :
    Calls Try.prog 98 #[pkV 2 f t a l g s d len cap] W (AnsG (.bool true) W) := by
  have HI := Lib.hid H
  obtain ⟨f0, f1⟩ := hf
  have hd : decide (AreW xs) = true := decide_eq_true hx
  clear H
  obtain ⟨c0, d0, rfl, rfl, rfl, rfl, rfl⟩ := h
  unfold pkV
  go_enter Try.func98, Try.ntmps98
  go_wp2_with (first | (go_at_call 69; (first | refine (in_yes _ _ _ _ (by omega) (by omega)).mono ?_ | refine (in_no _ _ _ _ (by omega)).mono ?_); rintro e w' ⟨rfl, rfl⟩) | (go_at_call 124; (first | refine (sid_yes _ _ (by omega) (by omega)).mono ?_ | refine (sid_no _ _ (by omega)).mono ?_); rintro e w' ⟨rfl, rfl⟩) | (go_at_call 125; refine (words_any _ _ _ _ _ (HI.out.kept (gby_alloc (gby_refl _ _) _)) hl).mono ?_; rintro e w' ⟨rfl, rfl⟩; rw [hd]) | go_in)
  go_ret
  first
    | exact ⟨rfl, by repeat (first | with_reducible exact gby_refl _ _ | with_reducible refine gby_alloc ?_ _)⟩
    | exact ⟨ret_bool (by simp; omega), by repeat (first | with_reducible exact gby_refl _ _ | with_reducible refine gby_alloc ?_ _)⟩

set_option maxRecDepth 8000 in
set_option maxHeartbeats 4000000 in
theorem specPk2_no (W : World) (f t a l g s : Int) (d : Option Addr) (len cap : Nat) (xs : List Int) (H : ISl W d len xs) (hl : len ≤ 1048576) (hf : 0 ≤ f ∧ f ≤ 255) (hx : AreW xs) (h : ¬ W2 t a l g s len) :
    Calls Try.prog 98 #[pkV 2 f t a l g s d len cap] W (AnsG (.bool false) W) := by
  have HI := Lib.hid H
  obtain ⟨f0, f1⟩ := hf
  have hd : decide (AreW xs) = true := decide_eq_true hx
  clear H
  unfold pkV
  have HH := Lib.hid h
  clear h
  by_cases c0 : 1 ≤ (len : Int) ∧ (len : Int) ≤ 8
  case' pos =>
    obtain ⟨c0, d0⟩ := c0
    by_cases c1 : a = 0
    case' neg => have b1 : (a == 0) = false := by simpa using c1
    case' pos =>
      subst c1
      by_cases c2 : s = 0
      case' neg => have b2 : (s == 0) = false := by simpa using c2
      case' pos =>
        subst c2
        by_cases c3 : t = 0
        case' neg => have b3 : (t == 0) = false := by simpa using c3
        case' pos =>
          subst c3
          by_cases c4 : l = 0
          case' neg => have b4 : (l == 0) = false := by simpa using c4
          case' pos =>
            subst c4
            by_cases c5 : g = 0
            case' neg => have b5 : (g == 0) = false := by simpa using c5
            case' pos =>
              subst c5
              exact absurd (show W2 0 0 0 0 0 len from ⟨c0, d0, rfl, rfl, rfl, rfl, rfl⟩) HH.out
  all_goals
    go_enter Try.func98, Try.ntmps98
    go_wp2_with (first | (go_at_call 69; (first | refine (in_yes _ _ _ _ (by omega) (by omega)).mono ?_ | refine (in_no _ _ _ _ (by omega)).mono ?_); rintro e w' ⟨rfl, rfl⟩) | (go_at_call 124; (first | refine (sid_yes _ _ (by omega) (by omega)).mono ?_ | refine (sid_no _ _ (by omega)).mono ?_); rintro e w' ⟨rfl, rfl⟩) | (go_at_call 125; refine (words_any _ _ _ _ _ (HI.out.kept (gby_alloc (gby_refl _ _) _)) hl).mono ?_; rintro e w' ⟨rfl, rfl⟩; rw [hd]) | go_in)
    go_ret
    first
      | exact ⟨rfl, by repeat (first | with_reducible exact gby_refl _ _ | with_reducible refine gby_alloc ?_ _)⟩
      | exact ⟨ret_bool (by simp; omega), by repeat (first | with_reducible exact gby_refl _ _ | with_reducible refine gby_alloc ?_ _)⟩

set_option maxRecDepth 8000 in
set_option maxHeartbeats 1000000 in
theorem specPk3_yes (W : World) (f t a l g s : Int) (d : Option Addr) (len cap : Nat) (xs : List Int) (H : ISl W d len xs) (hl : len ≤ 1048576) (hf : 0 ≤ f ∧ f ≤ 255) (hx : AreW xs) (h : W3 t a l g s len) :
    Calls Try.prog 98 #[pkV 3 f t a l g s d len cap] W (AnsG (.bool true) W) := by
  have HI := Lib.hid H
  obtain ⟨f0, f1⟩ := hf
  have hd : decide (AreW xs) = true := decide_eq_true hx
  clear H
  obtain ⟨c0, d0, c1, d1, c2, d2, rfl, rfl, c5⟩ := h
  obtain rfl : len = 0 := by omega
  unfold pkV
  go_enter Try.func98, Try.ntmps98
  go_wp2_with (first | (go_at_call 69; (first | refine (in_yes _ _ _ _ (by omega) (by omega)).mono ?_ | refine (in_no _ _ _ _ (by omega)).mono ?_); rintro e w' ⟨rfl, rfl⟩) | (go_at_call 124; (first | refine (sid_yes _ _ (by omega) (by omega)).mono ?_ | refine (sid_no _ _ (by omega)).mono ?_); rintro e w' ⟨rfl, rfl⟩) | (go_at_call 125; refine (words_any _ _ _ _ _ (HI.out.kept (gby_alloc (gby_refl _ _) _)) hl).mono ?_; rintro e w' ⟨rfl, rfl⟩; rw [hd]) | go_in)
  go_ret
  first
    | exact ⟨rfl, by repeat (first | with_reducible exact gby_refl _ _ | with_reducible refine gby_alloc ?_ _)⟩
    | exact ⟨ret_bool (by simp; omega), by repeat (first | with_reducible exact gby_refl _ _ | with_reducible refine gby_alloc ?_ _)⟩

set_option maxRecDepth 8000 in
set_option maxHeartbeats 4000000 in
theorem specPk3_no (W : World) (f t a l g s : Int) (d : Option Addr) (len cap : Nat) (xs : List Int) (H : ISl W d len xs) (hl : len ≤ 1048576) (hf : 0 ≤ f ∧ f ≤ 255) (hx : AreW xs) (h : ¬ W3 t a l g s len) :
    Calls Try.prog 98 #[pkV 3 f t a l g s d len cap] W (AnsG (.bool false) W) := by
  have HI := Lib.hid H
  obtain ⟨f0, f1⟩ := hf
  have hd : decide (AreW xs) = true := decide_eq_true hx
  clear H
  unfold pkV
  have HH := Lib.hid h
  clear h
  by_cases c0 : len = 0
  case' neg => have b0 : ((len : Int) == 0) = false := by simp; omega
  case' pos =>
    subst c0
    by_cases c1 : 1 ≤ l ∧ l ≤ 64
    case' pos =>
      obtain ⟨c1, d1⟩ := c1
      by_cases c2 : 0 ≤ a ∧ a ≤ 65536 - l
      case' pos =>
        obtain ⟨c2, d2⟩ := c2
        by_cases c3 : 0 ≤ g ∧ g ≤ 7
        case' pos =>
          obtain ⟨c3, d3⟩ := c3
          by_cases c4 : s = 0
          case' neg => have b4 : (s == 0) = false := by simpa using c4
          case' pos =>
            subst c4
            by_cases c5 : t = 0
            case' neg => have b5 : (t == 0) = false := by simpa using c5
            case' pos =>
              subst c5
              exact absurd (show W3 0 a l g 0 (0 : Nat) from ⟨c1, d1, c2, by omega, c3, d3, rfl, rfl, rfl⟩) HH.out
  all_goals
    go_enter Try.func98, Try.ntmps98
    go_wp2_with (first | (go_at_call 69; (first | refine (in_yes _ _ _ _ (by omega) (by omega)).mono ?_ | refine (in_no _ _ _ _ (by omega)).mono ?_); rintro e w' ⟨rfl, rfl⟩) | (go_at_call 124; (first | refine (sid_yes _ _ (by omega) (by omega)).mono ?_ | refine (sid_no _ _ (by omega)).mono ?_); rintro e w' ⟨rfl, rfl⟩) | (go_at_call 125; refine (words_any _ _ _ _ _ (HI.out.kept (gby_alloc (gby_refl _ _) _)) hl).mono ?_; rintro e w' ⟨rfl, rfl⟩; rw [hd]) | go_in)
    go_ret
    first
      | exact ⟨rfl, by repeat (first | with_reducible exact gby_refl _ _ | with_reducible refine gby_alloc ?_ _)⟩
      | exact ⟨ret_bool (by simp; omega), by repeat (first | with_reducible exact gby_refl _ _ | with_reducible refine gby_alloc ?_ _)⟩

set_option maxRecDepth 8000 in
set_option maxHeartbeats 1000000 in
theorem specPk4_yes (W : World) (f t a l g s : Int) (d : Option Addr) (len cap : Nat) (xs : List Int) (H : ISl W d len xs) (hl : len ≤ 1048576) (hf : 0 ≤ f ∧ f ≤ 255) (hx : AreW xs) (h : W4 t a l g s len) :
    Calls Try.prog 98 #[pkV 4 f t a l g s d len cap] W (AnsG (.bool true) W) := by
  have HI := Lib.hid H
  obtain ⟨f0, f1⟩ := hf
  have hd : decide (AreW xs) = true := decide_eq_true hx
  clear H
  obtain ⟨⟨c0, d0, c1, d1, c2, d2, rfl, rfl⟩, c5⟩ := h
  obtain rfl : len = 0 := by omega
  unfold pkV
  go_enter Try.func98, Try.ntmps98
  go_wp2_with (first | (go_at_call 69; (first | refine (in_yes _ _ _ _ (by omega) (by omega)).mono ?_ | refine (in_no _ _ _ _ (by omega)).mono ?_); rintro e w' ⟨rfl, rfl⟩) | (go_at_call 124; (first | refine (sid_yes _ _ (by omega) (by omega)).mono ?_ | refine (sid_no _ _ (by omega)).mono ?_); rintro e w' ⟨rfl, rfl⟩) | (go_at_call 125; refine (words_any _ _ _ _ _ (HI.out.kept (gby_alloc (gby_refl _ _) _)) hl).mono ?_; rintro e w' ⟨rfl, rfl⟩; rw [hd]) | go_in)
  go_ret
  first
    | exact ⟨rfl, by repeat (first | with_reducible exact gby_refl _ _ | with_reducible refine gby_alloc ?_ _)⟩
    | exact ⟨ret_bool (by simp; omega), by repeat (first | with_reducible exact gby_refl _ _ | with_reducible refine gby_alloc ?_ _)⟩

set_option maxRecDepth 8000 in
set_option maxHeartbeats 4000000 in
theorem specPk4_no (W : World) (f t a l g s : Int) (d : Option Addr) (len cap : Nat) (xs : List Int) (H : ISl W d len xs) (hl : len ≤ 1048576) (hf : 0 ≤ f ∧ f ≤ 255) (hx : AreW xs) (h : ¬ W4 t a l g s len) :
    Calls Try.prog 98 #[pkV 4 f t a l g s d len cap] W (AnsG (.bool false) W) := by
  have HI := Lib.hid H
  obtain ⟨f0, f1⟩ := hf
  have hd : decide (AreW xs) = true := decide_eq_true hx
  clear H
  unfold pkV
  have HH := Lib.hid h
  clear h
  by_cases c0 : len = 0
  case' neg => have b0 : ((len : Int) == 0) = false := by simp; omega
  case' pos =>
    subst c0
    by_cases c1 : 0 ≤ a ∧ a ≤ 63
    case' pos =>
      obtain ⟨c1, d1⟩ := c1
      by_cases c2 : 0 ≤ t ∧ t ≤ 255
      case' pos =>
        obtain ⟨c2, d2⟩ := c2
        by_cases c3 : 0 ≤ g ∧ g ≤ 7
        case' pos =>
          obtain ⟨c3, d3⟩ := c3
          by_cases c4 : s = 0
          case' neg => have b4 : (s == 0) = false := by simpa using c4
          case' pos =>
            subst c4
            by_cases c5 : l = 0
            case' neg => have b5 : (l == 0) = false := by simpa using c5
            case' pos =>
              subst c5
              exact absurd (show W4 t a 0 g 0 (0 : Nat) from ⟨⟨c2, d2, c1, d1, c3, d3, rfl, rfl⟩, rfl⟩) HH.out
  all_goals
    go_enter Try.func98, Try.ntmps98
    go_wp2_with (first | (go_at_call 69; (first | refine (in_yes _ _ _ _ (by omega) (by omega)).mono ?_ | refine (in_no _ _ _ _ (by omega)).mono ?_); rintro e w' ⟨rfl, rfl⟩) | (go_at_call 124; (first | refine (sid_yes _ _ (by omega) (by omega)).mono ?_ | refine (sid_no _ _ (by omega)).mono ?_); rintro e w' ⟨rfl, rfl⟩) | (go_at_call 125; refine (words_any _ _ _ _ _ (HI.out.kept (gby_alloc (gby_refl _ _) _)) hl).mono ?_; rintro e w' ⟨rfl, rfl⟩; rw [hd]) | go_in)
    go_ret
    first
      | exact ⟨rfl, by repeat (first | with_reducible exact gby_refl _ _ | with_reducible refine gby_alloc ?_ _)⟩
      | exact ⟨ret_bool (by simp; omega), by repeat (first | with_reducible exact gby_refl _ _ | with_reducible refine gby_alloc ?_ _)⟩

set_option maxRecDepth 8000 in
set_option maxHeartbeats 1000000 in
theorem specPk5_yes (W : World) (f t a l g s : Int) (d : Option Addr) (len cap : Nat) (xs : List Int) (H : ISl W d len xs) (hl : len ≤ 1048576) (hf : 0 ≤ f ∧ f ≤ 255) (hx : AreW xs) (h : W5 t a l g s len) :
    Calls Try.prog 98 #[pkV 5 f t a l g s d len cap] W (AnsG (.bool true) W) := by
  have HI := Lib.hid H
  obtain ⟨f0, f1⟩ := hf
  have hd : decide (AreW xs) = true := decide_eq_true hx
  clear H
  obtain ⟨⟨c0, d0, c1, d1, c2, d2, rfl, rfl⟩, c5⟩ := h
  obtain rfl : len = 1 := by omega
  unfold pkV
  go_enter Try.func98, Try.ntmps98
  go_wp2_with (first | (go_at_call 69; (first | refine (in_yes _ _ _ _ (by omega) (by omega)).mono ?_ | refine (in_no _ _ _ _ (by omega)).mono ?_); rintro e w' ⟨rfl, rfl⟩) | (go_at_call 124; (first | refine (sid_yes _ _ (by omega) (by omega)).mono ?_ | refine (sid_no _ _ (by omega)).mono ?_); rintro e w' ⟨rfl, rfl⟩) | (go_at_call 125; refine (words_any _ _ _ _ _ (HI.out.kept (gby_alloc (gby_refl _ _) _)) hl).mono ?_; rintro e w' ⟨rfl, rfl⟩; rw [hd]) | go_in)
  go_ret
  first
    | exact ⟨rfl, by repeat (first | with_reducible exact gby_refl _ _ | with_reducible refine gby_alloc ?_ _)⟩
    | exact ⟨ret_bool (by simp; omega), by repeat (first | with_reducible exact gby_refl _ _ | with_reducible refine gby_alloc ?_ _)⟩

set_option maxRecDepth 8000 in
set_option maxHeartbeats 4000000 in
theorem specPk5_no (W : World) (f t a l g s : Int) (d : Option Addr) (len cap : Nat) (xs : List Int) (H : ISl W d len xs) (hl : len ≤ 1048576) (hf : 0 ≤ f ∧ f ≤ 255) (hx : AreW xs) (h : ¬ W5 t a l g s len) :
    Calls Try.prog 98 #[pkV 5 f t a l g s d len cap] W (AnsG (.bool false) W) := by
  have HI := Lib.hid H
  obtain ⟨f0, f1⟩ := hf
  have hd : decide (AreW xs) = true := decide_eq_true hx
  clear H
  unfold pkV
  have HH := Lib.hid h
  clear h
  by_cases c0 : len = 1
  case' neg => have b0 : ((len : Int) == 1) = false := by simp; omega
  case' pos =>
    subst c0
    by_cases c1 : 0 ≤ a ∧ a ≤ 63
    case' pos =>
      obtain ⟨c1, d1⟩ := c1
      by_cases c2 : 0 ≤ t ∧ t ≤ 255
      case' pos =>
        obtain ⟨c2, d2⟩ := c2
        by_cases c3 : 0 ≤ g ∧ g ≤ 7
        case' pos =>
          obtain ⟨c3, d3⟩ := c3
          by_cases c4 : s = 0
          case' neg => have b4 : (s == 0) = false := by simpa using c4
          case' pos =>
            subst c4
            by_cases c5 : l = 0
            case' neg => have b5 : (l == 0) = false := by simpa using c5
            case' pos =>
              subst c5
              exact absurd (show W5 t a 0 g 0 (1 : Nat) from ⟨⟨c2, d2, c1, d1, c3, d3, rfl, rfl⟩, rfl⟩) HH.out
  all_goals
    go_enter Try.func98, Try.ntmps98
    go_wp2_with (first | (go_at_call 69; (first | refine (in_yes _ _ _ _ (by omega) (by omega)).mono ?_ | refine (in_no _ _ _ _ (by omega)).mono ?_); rintro e w' ⟨rfl, rfl⟩) | (go_at_call 124; (first | refine (sid_yes _ _ (by omega) (by omega)).mono ?_ | refine (sid_no _ _ (by omega)).mono ?_); rintro e w' ⟨rfl, rfl⟩) | (go_at_call 125; refine (words_any _ _ _ _ _ (HI.out.kept (gby_alloc (gby_refl _ _) _)) hl).mono ?_; rintro e w' ⟨rfl, rfl⟩; rw [hd]) | go_in)
    go_ret
    first
      | exact ⟨rfl, by repeat (first | with_reducible exact gby_refl _ _ | with_reducible refine gby_alloc ?_ _)⟩
      | exact ⟨ret_bool (by simp; omega), by repeat (first | with_reducible exact gby_refl _ _ | with_reducible refine gby_alloc ?_ _)⟩

set_option maxRecDepth 8000 in
set_option maxHeartbeats 2000000 in
theorem specPk6_yes (W : World) (f t a l g s : Int) (d : Option Addr) (len cap : Nat) (xs : List Int) (H : ISl W d len xs) (hl : len ≤ 1048576) (hf : 0 ≤ f ∧ f ≤ 255) (hx : AreW xs) (h : W6 t a l g s len) :
    Calls Try.prog 98 #[pkV 6 f t a l g s d len cap] W (AnsG (.bool true) W) := by
  have HI := Lib.hid H
  obtain ⟨f0, f1⟩ := hf
  have hd : decide (AreW xs) = true := decide_eq_true hx
  clear H
  obtain ⟨c0, d0, c1, d1, c2, d2, c3, d3, rfl, c4⟩ := h
  unfold pkV
  by_cases h0 : len = 0
  case' pos => subst h0
  case' neg =>
    have bn : ((len : Int) == 0) = false := by simp; omega
    obtain ⟨hs, h8, hm⟩ : s = 0 ∧ (len : Int) ≤ 8 ∧ (len : Int) ≤ l := by omega
    subst hs
    by_cases hq : l < 8
  all_goals
    clear c4
    go_enter Try.func98, Try.ntmps98
    go_wp2_with (first | (go_at_call 69; (first | refine (in_yes _ _ _ _ (by omega) (by omega)).mono ?_ | refine (in_no _ _ _ _ (by omega)).mono ?_); rintro e w' ⟨rfl, rfl⟩) | (go_at_call 124; (first | refine (sid_yes _ _ (by omega) (by omega)).mono ?_ | refine (sid_no _ _ (by omega)).mono ?_); rintro e w' ⟨rfl, rfl⟩) | (go_at_call 125; refine (words_any _ _ _ _ _ (HI.out.kept (gby_alloc (gby_refl _ _) _)) hl).mono ?_; rintro e w' ⟨rfl, rfl⟩; rw [hd]) | go_in)
    go_ret
    first
      | exact ⟨rfl, by repeat (first | with_reducible exact gby_refl _ _ | with_reducible refine gby_alloc ?_ _)⟩
      | exact ⟨ret_bool (by simp; omega), by repeat (first | with_reducible exact gby_refl _ _ | with_reducible refine gby_alloc ?_ _)⟩

set_option maxRecDepth 8000 in
set_option maxHeartbeats 4000000 in
theorem specPk6_no (W : World) (f t a l g s : Int) (d : Option Addr) (len cap : Nat) (xs : List Int) (H : ISl W d len xs) (hl : len ≤ 1048576) (hf : 0 ≤ f ∧ f ≤ 255) (hx : AreW xs) (h : ¬ W6 t a l g s len) :
    Calls Try.prog 98 #[pkV 6 f t a l g s d len cap] W (AnsG (.bool false) W) := by
  have HI := Lib.hid H
  obtain ⟨f0, f1⟩ := hf
  have hd : decide (AreW xs) = true := decide_eq_true hx
  clear H
  unfold pkV
  have HH := Lib.hid h
  clear h
  by_cases c0 : a = 0
  case' neg => have b0 : (a != 0) = true := by simpa using c0
  case' pos =>
    subst c0
    by_cases c1 : 0 ≤ t ∧ t ≤ 255
    case' pos =>
      obtain ⟨c1, d1⟩ := c1
      by_cases c2 : 0 ≤ g ∧ g ≤ 7
      case' pos =>
        obtain ⟨c2, d2⟩ := c2
        by_cases c3 : 0 ≤ s ∧ s ≤ 2
        case' pos =>
          obtain ⟨c3, d3⟩ := c3
          by_cases c4 : 0 ≤ l ∧ l ≤ 64
          case' pos =>
            obtain ⟨c4, d4⟩ := c4
            have hn := HH.out
            unfold W6 at hn
            have h0 : len ≠ 0 := by omega
            have bn : ((len : Int) == 0) = false := by simp; omega
            by_cases hs : s = 0
            case' neg => have bs : (s == 0) = false := by simpa using hs
            case' pos =>
              subst hs
              by_cases hm : l < 8
              case' pos => have hq : l < (len : Int) := by omega
              case' neg => have hq : 8 < (len : Int) := by omega
            all_goals clear hn
  all_goals
    go_enter Try.func98, Try.ntmps98
    go_wp2_with (first | (go_at_call 69; (first | refine (in_yes _ _ _ _ (by omega) (by omega)).mono ?_ | refine (in_no _ _ _ _ (by omega)).mono ?_); rintro e w' ⟨rfl, rfl⟩) | (go_at_call 124; (first | refine (sid_yes _ _ (by omega) (by omega)).mono ?_ | refine (sid_no _ _ (by omega)).mono ?_); rintro e w' ⟨rfl, rfl⟩) | (go_at_call 125; refine (words_any _ _ _ _ _ (HI.out.kept (gby_alloc (gby_refl _ _) _)) hl).mono ?_; rintro e w' ⟨rfl, rfl⟩; rw [hd]) | go_in)
    go_ret
    first
      | exact ⟨rfl, by repeat (first | with_reducible exact gby_refl _ _ | with_reducible refine gby_alloc ?_ _)⟩
      | exact ⟨ret_bool (by simp; omega), by repeat (first | with_reducible exact gby_refl _ _ | with_reducible refine gby_alloc ?_ _)⟩

theorem specPk_true (W : World) (k f t a l g s : Int) (d : Option Addr) (len cap : Nat) (xs : List Int) (H : ISl W d len xs) (hl : len ≤ 1048576) (h : PkOk k f t a l g s xs) :
    Calls Try.prog 98 #[pkV k f t a l g s d len cap] W (AnsG (.bool true) W) := by
  have e := H.1
  obtain ⟨hf, hx, hk⟩ := h
  rw [← e] at hk
  rcases hk with ⟨rfl, hw⟩ | ⟨rfl, hw⟩ | ⟨rfl, hw⟩ | ⟨rfl, hw⟩ | ⟨rfl, hw⟩ | ⟨rfl, hw⟩
  · exact specPk1_yes W f t a l g s d len cap xs H hl hf hx hw
  · exact specPk2_yes W f t a l g s d len cap xs H hl hf hx hw
  · exact specPk3_yes W f t a l g s d len cap xs H hl hf hx hw
  · exact specPk4_yes W f t a l g s d len cap xs H hl hf hx hw
  · exact specPk5_yes W f t a l g s d len cap xs H hl hf hx hw
  · exact specPk6_yes W f t a l g s d len cap xs H hl hf hx hw

theorem specPk_false (W : World) (k f t a l g s : Int) (d : Option Addr) (len cap : Nat) (xs : List Int) (H : ISl W d len xs) (hl : len ≤ 1048576) (h : ¬ PkOk k f t a l g s xs) :
    Calls Try.prog 98 #[pkV k f t a l g s d len cap] W (AnsG (.bool false) W) := by
  have e := H.1
  by_cases hf : 0 ≤ f ∧ f ≤ 255
  · by_cases hx : AreW xs
    · by_cases hk : k < 1 ∨ 6 < k
      · exact specPk_noK k W f t a l g s d len cap xs H hl hf hx hk
      · rcases (show k = 1 ∨ k = 2 ∨ k = 3 ∨ k = 4 ∨ k = 5 ∨ k = 6 by omega) with rfl | rfl | rfl | rfl | rfl | rfl
        · refine specPk1_no W f t a l g s d len cap xs H hl hf hx (fun hw => h ⟨hf, hx, ?_⟩)
          rw [← e]
          exact .inl ⟨rfl, hw⟩
        · refine specPk2_no W f t a l g s d len cap xs H hl hf hx (fun hw => h ⟨hf, hx, ?_⟩)
          rw [← e]
          exact .inr (.inl ⟨rfl, hw⟩)
        · refine specPk3_no W f t a l g s d len cap xs H hl hf hx (fun hw => h ⟨hf, hx, ?_⟩)
          rw [← e]
          exact .inr (.inr (.inl ⟨rfl, hw⟩))
        · refine specPk4_no W f t a l g s d len cap xs H hl hf hx (fun hw => h ⟨hf, hx, ?_⟩)
          rw [← e]
          exact .inr (.inr (.inr (.inl ⟨rfl, hw⟩)))
        · refine specPk5_no W f t a l g s d len cap xs H hl hf hx (fun hw => h ⟨hf, hx, ?_⟩)
          rw [← e]
          exact .inr (.inr (.inr (.inr (.inl ⟨rfl, hw⟩))))
        · refine specPk6_no W f t a l g s d len cap xs H hl hf hx (fun hw => h ⟨hf, hx, ?_⟩)
          rw [← e]
          exact .inr (.inr (.inr (.inr (.inr (⟨rfl, hw⟩)))))
    · exact specPk_noX k W f t a l g s d len cap xs H hl hf hx
  · exact specPk_noF k W f t a l g s d len cap xs H hl (by omega)

end Go.Proofs.Ytnighnkkeiegnaa
