/-
  Contracts of the checks of packets: configuration and completions.
-/
import Derived.Test.YtnighnkkeiegnaaPkChk
namespace Go.Proofs.Ytnighnkkeiegnaa
open Go Go.RowKit

set_option maxHeartbeats 1000000 in
theorem checkConfigRead_yes (W : World) (f t a l g s : Int) (d : Option Addr) (len cap : Nat) (h : W4 t a l g s len) :
    Calls Try.prog 134 #[pkV 4 f t a l g s d len cap] W (AnsG (.bool true) W) := by
  obtain ⟨h, hn⟩ := h
  obtain rfl : len = 0 := by omega
  have H := Lib.hid h
  clear h
  unfold pkV
  go_enter Try.func134, Try.ntmps134
  go_wp2_with fail
  go_at_call 142
  refine (checkConfig_yes 4 _ f t a l g s d 0 cap H.out).mono ?_
  rintro e w1 ⟨rfl, g1⟩
  have hr := row_later g1 (heap_alloc_new _ _)
  have r7 := cell_of_row w1 _ 7 _ _ _ hr
  have G1 := Lib.hid (gby_trans (gby_alloc (gby_refl W none) _) g1)
  clear hr g1
  go_wp2
  go_ret
  exact ⟨rfl, G1.out⟩

set_option maxHeartbeats 1000000 in
theorem checkConfigRead_no (W : World) (f t a l g s : Int) (d : Option Addr) (len cap : Nat) (hl : len ≤ 1048576) (h : ¬ W4 t a l g s len) :
    Calls Try.prog 134 #[pkV 4 f t a l g s d len cap] W (AnsG (.bool false) W) := by
  have H := Lib.hid h
  clear h
  unfold pkV
  by_cases hc : WC t a l g s
  · have hn : ((len : Int) == 0) = false := by
      have : ¬ (len : Int) = 0 := fun e => H.out ⟨hc, e⟩
      simpa using this
    have HC := Lib.hid hc
    clear hc
    go_enter Try.func134, Try.ntmps134
    go_wp2_with fail
    go_at_call 142
    refine (checkConfig_yes 4 _ f t a l g s d len cap HC.out).mono ?_
    rintro e w1 ⟨rfl, g1⟩
    have hr := row_later g1 (heap_alloc_new _ _)
    have r7 := cell_of_row w1 _ 7 _ _ _ hr
    have G1 := Lib.hid (gby_trans (gby_alloc (gby_refl W none) _) g1)
    clear hr g1
    go_wp2
    go_ret
    exact ⟨rfl, G1.out⟩
  · have HC := Lib.hid hc
    clear hc
    go_enter Try.func134, Try.ntmps134
    go_wp2_with fail
    go_at_call 142
    refine (checkConfig_no 4 _ f t a l g s d len cap hl HC.out).mono ?_
    rintro e w1 ⟨rfl, g1⟩
    have hr := row_later g1 (heap_alloc_new _ _)
    have r7 := cell_of_row w1 _ 7 _ _ _ hr
    have G1 := Lib.hid (gby_trans (gby_alloc (gby_refl W none) _) g1)
    clear hr g1
    go_wp2
    go_ret
    exact ⟨rfl, G1.out⟩

set_option maxHeartbeats 1000000 in
theorem checkConfigWrite_yes (W : World) (f t a l g s : Int) (d : Option Addr) (len cap : Nat) (h : W5 t a l g s len) :
    Calls Try.prog 135 #[pkV 5 f t a l g s d len cap] W (AnsG (.bool true) W) := by
  obtain ⟨h, hn⟩ := h
  obtain rfl : len = 1 := by omega
  have H := Lib.hid h
  clear h
  unfold pkV
  go_enter Try.func135, Try.ntmps135
  go_wp2_with fail
  go_at_call 142
  refine (checkConfig_yes 5 _ f t a l g s d 1 cap H.out).mono ?_
  rintro e w1 ⟨rfl, g1⟩
  have hr := row_later g1 (heap_alloc_new _ _)
  have r7 := cell_of_row w1 _ 7 _ _ _ hr
  have G1 := Lib.hid (gby_trans (gby_alloc (gby_refl W none) _) g1)
  clear hr g1
  go_wp2
  go_ret
  exact ⟨rfl, G1.out⟩

set_option maxHeartbeats 1000000 in
theorem checkConfigWrite_no (W : World) (f t a l g s : Int) (d : Option Addr) (len cap : Nat) (hl : len ≤ 1048576) (h : ¬ W5 t a l g s len) :
    Calls Try.prog 135 #[pkV 5 f t a l g s d len cap] W (AnsG (.bool false) W) := by
  have H := Lib.hid h
  clear h
  unfold pkV
  by_cases hc : WC t a l g s
  · have hn : ((len : Int) == 1) = false := by
      have : ¬ (len : Int) = 1 := fun e => H.out ⟨hc, e⟩
      simpa using this
    have HC := Lib.hid hc
    clear hc
    go_enter Try.func135, Try.ntmps135
    go_wp2_with fail
    go_at_call 142
    refine (checkConfig_yes 5 _ f t a l g s d len cap HC.out).mono ?_
    rintro e w1 ⟨rfl, g1⟩
    have hr := row_later g1 (heap_alloc_new _ _)
    have r7 := cell_of_row w1 _ 7 _ _ _ hr
    have G1 := Lib.hid (gby_trans (gby_alloc (gby_refl W none) _) g1)
    clear hr g1
    go_wp2
    go_ret
    exact ⟨rfl, G1.out⟩
  · have HC := Lib.hid hc
    clear hc
    go_enter Try.func135, Try.ntmps135
    go_wp2_with fail
    go_at_call 142
    refine (checkConfig_no 5 _ f t a l g s d len cap hl HC.out).mono ?_
    rintro e w1 ⟨rfl, g1⟩
    have hr := row_later g1 (heap_alloc_new _ _)
    have r7 := cell_of_row w1 _ 7 _ _ _ hr
    have G1 := Lib.hid (gby_trans (gby_alloc (gby_refl W none) _) g1)
    clear hr g1
    go_wp2
    go_ret
    exact ⟨rfl, G1.out⟩

/-- a completion with at most m words -/
def W6m (m t a l g s n : Int) : Prop := 0 ≤ t ∧ t ≤ 255 ∧ 0 ≤ l ∧ l ≤ 64 ∧ 0 ≤ g ∧ g ≤ 7 ∧ 0 ≤ s ∧ s ≤ 2 ∧ a = 0 ∧ n ≤ m

set_option maxHeartbeats 1000000 in
theorem compBad_yes (W : World) (f t a l g s : Int) (d : Option Addr) (len cap : Nat) (hs : s ≠ 0) (h : W6m 0 t a l g s len) :
    Calls Try.prog 136 #[pkV 6 f t a l g s d len cap] W (AnsG (.bool true) W) := by
  obtain ⟨c0, d0, c1, d1, c2, d2, c3, d3, rfl, c5⟩ := h
  have bs : (s == 0) = false := by simpa using hs
  unfold pkV
  go_enter Try.func136, Try.ntmps136
  go_wp2_with (first | (go_at_call 139; (first | refine (size_yes _ _ (by omega) (by omega)).mono ?_ | refine (size_no _ _ (by omega)).mono ?_); rintro e w' ⟨rfl, rfl⟩) | (go_at_call 140; (first | refine (span_yes _ _ _ (by omega) (by omega) (by omega)).mono ?_ | refine (span_no _ _ _ (by omega) (by omega) (by omega)).mono ?_); rintro e w' ⟨rfl, rfl⟩) | (go_at_call 141; (first | refine (tag_yes _ _ (by omega) (by omega)).mono ?_ | refine (tag_no _ _ (by omega)).mono ?_); rintro e w' ⟨rfl, rfl⟩) | (go_at_call 111; (first | refine (rng_yes _ _ _ _ (by omega) (by omega)).mono ?_ | refine (rng_no _ _ _ _ (by omega)).mono ?_); rintro e w' ⟨rfl, rfl⟩) | (go_at_call 129; (first | refine (pid_yes _ _ (by omega) (by omega)).mono ?_ | refine (pid_no _ _ (by omega)).mono ?_); rintro e w' ⟨rfl, rfl⟩))
  go_ret
  first
    | exact ⟨rfl, gby_alloc (gby_refl _ _) _⟩
    | exact ⟨ret_bool (by simp; omega), gby_alloc (gby_refl _ _) _⟩

set_option maxHeartbeats 4000000 in
theorem compBad_no (W : World) (f t a l g s : Int) (d : Option Addr) (len cap : Nat) (_hl : len ≤ 1048576) (hs : s ≠ 0) (h : ¬ W6m 0 t a l g s len) :
    Calls Try.prog 136 #[pkV 6 f t a l g s d len cap] W (AnsG (.bool false) W) := by
  have bs : (s == 0) = false := by simpa using hs
  unfold pkV
  have H := Lib.hid h
  clear h
  by_cases c0 : 0 ≤ t ∧ t ≤ 255
  case' pos =>
    obtain ⟨c0, d0⟩ := c0
    by_cases c1 : 0 ≤ l ∧ l ≤ 64
    case' pos =>
      obtain ⟨c1, d1⟩ := c1
      by_cases c2 : 0 ≤ g ∧ g ≤ 7
      case' pos =>
        obtain ⟨c2, d2⟩ := c2
        by_cases c3 : 0 ≤ s ∧ s ≤ 2
        case' pos =>
          obtain ⟨c3, d3⟩ := c3
          by_cases c4 : a = 0
          case' neg => have b4 : (a == 0) = false := by simpa using c4
          case' pos =>
            subst c4
            by_cases c5 : (len : Int) ≤ 0
            case' pos =>
              exact absurd (show W6m 0 t 0 l g s len from ⟨c0, d0, c1, d1, c2, d2, c3, d3, rfl, c5⟩) H.out
  all_goals
    go_enter Try.func136, Try.ntmps136
    go_wp2_with (first | (go_at_call 139; (first | refine (size_yes _ _ (by omega) (by omega)).mono ?_ | refine (size_no _ _ (by omega)).mono ?_); rintro e w' ⟨rfl, rfl⟩) | (go_at_call 140; (first | refine (span_yes _ _ _ (by omega) (by omega) (by omega)).mono ?_ | refine (span_no _ _ _ (by omega) (by omega) (by omega)).mono ?_); rintro e w' ⟨rfl, rfl⟩) | (go_at_call 141; (first | refine (tag_yes _ _ (by omega) (by omega)).mono ?_ | refine (tag_no _ _ (by omega)).mono ?_); rintro e w' ⟨rfl, rfl⟩) | (go_at_call 111; (first | refine (rng_yes _ _ _ _ (by omega) (by omega)).mono ?_ | refine (rng_no _ _ _ _ (by omega)).mono ?_); rintro e w' ⟨rfl, rfl⟩) | (go_at_call 129; (first | refine (pid_yes _ _ (by omega) (by omega)).mono ?_ | refine (pid_no _ _ (by omega)).mono ?_); rintro e w' ⟨rfl, rfl⟩))
    go_ret
    first
      | exact ⟨rfl, gby_alloc (gby_refl _ _) _⟩
      | exact ⟨ret_bool (by simp; omega), gby_alloc (gby_refl _ _) _⟩

set_option maxHeartbeats 1000000 in
theorem compFew_yes (W : World) (f t a l g : Int) (d : Option Addr) (len cap : Nat) (hm : l < 8) (h : W6m l t a l g 0 len) :
    Calls Try.prog 136 #[pkV 6 f t a l g 0 d len cap] W (AnsG (.bool true) W) := by
  obtain ⟨c0, d0, c1, d1, c2, d2, c3, d3, rfl, c5⟩ := h
  unfold pkV
  go_enter Try.func136, Try.ntmps136
  go_wp2_with (first | (go_at_call 139; (first | refine (size_yes _ _ (by omega) (by omega)).mono ?_ | refine (size_no _ _ (by omega)).mono ?_); rintro e w' ⟨rfl, rfl⟩) | (go_at_call 140; (first | refine (span_yes _ _ _ (by omega) (by omega) (by omega)).mono ?_ | refine (span_no _ _ _ (by omega) (by omega) (by omega)).mono ?_); rintro e w' ⟨rfl, rfl⟩) | (go_at_call 141; (first | refine (tag_yes _ _ (by omega) (by omega)).mono ?_ | refine (tag_no _ _ (by omega)).mono ?_); rintro e w' ⟨rfl, rfl⟩) | (go_at_call 111; (first | refine (rng_yes _ _ _ _ (by omega) (by omega)).mono ?_ | refine (rng_no _ _ _ _ (by omega)).mono ?_); rintro e w' ⟨rfl, rfl⟩) | (go_at_call 129; (first | refine (pid_yes _ _ (by omega) (by omega)).mono ?_ | refine (pid_no _ _ (by omega)).mono ?_); rintro e w' ⟨rfl, rfl⟩))
  go_ret
  first
    | exact ⟨rfl, gby_alloc (gby_refl _ _) _⟩
    | exact ⟨ret_bool (by simp; omega), gby_alloc (gby_refl _ _) _⟩

set_option maxHeartbeats 4000000 in
theorem compFew_no (W : World) (f t a l g : Int) (d : Option Addr) (len cap : Nat) (_hl : len ≤ 1048576) (hm : l < 8) (h : ¬ W6m l t a l g 0 len) :
    Calls Try.prog 136 #[pkV 6 f t a l g 0 d len cap] W (AnsG (.bool false) W) := by
  unfold pkV
  have H := Lib.hid h
  clear h
  by_cases c0 : 0 ≤ t ∧ t ≤ 255
  case' pos =>
    obtain ⟨c0, d0⟩ := c0
    by_cases c1 : 0 ≤ l ∧ l ≤ 64
    case' pos =>
      obtain ⟨c1, d1⟩ := c1
      by_cases c2 : 0 ≤ g ∧ g ≤ 7
      case' pos =>
        obtain ⟨c2, d2⟩ := c2
        by_cases c3 : a = 0
        case' neg => have b3 : (a == 0) = false := by simpa using c3
        case' pos =>
          subst c3
          by_cases c4 : (len : Int) ≤ l
          case' pos =>
            exact absurd (show W6m l t 0 l g 0 len from ⟨c0, d0, c1, d1, c2, d2, by omega, by omega, rfl, c4⟩) H.out
  all_goals
    go_enter Try.func136, Try.ntmps136
    go_wp2_with (first | (go_at_call 139; (first | refine (size_yes _ _ (by omega) (by omega)).mono ?_ | refine (size_no _ _ (by omega)).mono ?_); rintro e w' ⟨rfl, rfl⟩) | (go_at_call 140; (first | refine (span_yes _ _ _ (by omega) (by omega) (by omega)).mono ?_ | refine (span_no _ _ _ (by omega) (by omega) (by omega)).mono ?_); rintro e w' ⟨rfl, rfl⟩) | (go_at_call 141; (first | refine (tag_yes _ _ (by omega) (by omega)).mono ?_ | refine (tag_no _ _ (by omega)).mono ?_); rintro e w' ⟨rfl, rfl⟩) | (go_at_call 111; (first | refine (rng_yes _ _ _ _ (by omega) (by omega)).mono ?_ | refine (rng_no _ _ _ _ (by omega)).mono ?_); rintro e w' ⟨rfl, rfl⟩) | (go_at_call 129; (first | refine (pid_yes _ _ (by omega) (by omega)).mono ?_ | refine (pid_no _ _ (by omega)).mono ?_); rintro e w' ⟨rfl, rfl⟩))
    go_ret
    first
      | exact ⟨rfl, gby_alloc (gby_refl _ _) _⟩
      | exact ⟨ret_bool (by simp; omega), gby_alloc (gby_refl _ _) _⟩

set_option maxHeartbeats 1000000 in
theorem compMany_yes (W : World) (f t a l g : Int) (d : Option Addr) (len cap : Nat) (hm : 8 ≤ l) (h : W6m 8 t a l g 0 len) :
    Calls Try.prog 136 #[pkV 6 f t a l g 0 d len cap] W (AnsG (.bool true) W) := by
  obtain ⟨c0, d0, c1, d1, c2, d2, c3, d3, rfl, c5⟩ := h
  unfold pkV
  go_enter Try.func136, Try.ntmps136
  go_wp2_with (first | (go_at_call 139; (first | refine (size_yes _ _ (by omega) (by omega)).mono ?_ | refine (size_no _ _ (by omega)).mono ?_); rintro e w' ⟨rfl, rfl⟩) | (go_at_call 140; (first | refine (span_yes _ _ _ (by omega) (by omega) (by omega)).mono ?_ | refine (span_no _ _ _ (by omega) (by omega) (by omega)).mono ?_); rintro e w' ⟨rfl, rfl⟩) | (go_at_call 141; (first | refine (tag_yes _ _ (by omega) (by omega)).mono ?_ | refine (tag_no _ _ (by omega)).mono ?_); rintro e w' ⟨rfl, rfl⟩) | (go_at_call 111; (first | refine (rng_yes _ _ _ _ (by omega) (by omega)).mono ?_ | refine (rng_no _ _ _ _ (by omega)).mono ?_); rintro e w' ⟨rfl, rfl⟩) | (go_at_call 129; (first | refine (pid_yes _ _ (by omega) (by omega)).mono ?_ | refine (pid_no _ _ (by omega)).mono ?_); rintro e w' ⟨rfl, rfl⟩))
  go_ret
  first
    | exact ⟨rfl, gby_alloc (gby_refl _ _) _⟩
    | exact ⟨ret_bool (by simp; omega), gby_alloc (gby_refl _ _) _⟩

set_option maxHeartbeats 4000000 in
theorem compMany_no (W : World) (f t a l g : Int) (d : Option Addr) (len cap : Nat) (_hl : len ≤ 1048576) (hm : 8 ≤ l) (h : ¬ W6m 8 t a l g 0 len) :
    Calls Try.prog 136 #[pkV 6 f t a l g 0 d len cap] W (AnsG (.bool false) W) := by
  unfold pkV
  have H := Lib.hid h
  clear h
  by_cases c0 : 0 ≤ t ∧ t ≤ 255
  case' pos =>
    obtain ⟨c0, d0⟩ := c0
    by_cases c1 : 0 ≤ l ∧ l ≤ 64
    case' pos =>
      obtain ⟨c1, d1⟩ := c1
      by_cases c2 : 0 ≤ g ∧ g ≤ 7
      case' pos =>
        obtain ⟨c2, d2⟩ := c2
        by_cases c3 : a = 0
        case' neg => have b3 : (a == 0) = false := by simpa using c3
        case' pos =>
          subst c3
          by_cases c4 : (len : Int) ≤ 8
          case' pos =>
            exact absurd (show W6m 8 t 0 l g 0 len from ⟨c0, d0, c1, d1, c2, d2, by omega, by omega, rfl, c4⟩) H.out
  all_goals
    go_enter Try.func136, Try.ntmps136
    go_wp2_with (first | (go_at_call 139; (first | refine (size_yes _ _ (by omega) (by omega)).mono ?_ | refine (size_no _ _ (by omega)).mono ?_); rintro e w' ⟨rfl, rfl⟩) | (go_at_call 140; (first | refine (span_yes _ _ _ (by omega) (by omega) (by omega)).mono ?_ | refine (span_no _ _ _ (by omega) (by omega) (by omega)).mono ?_); rintro e w' ⟨rfl, rfl⟩) | (go_at_call 141; (first | refine (tag_yes _ _ (by omega) (by omega)).mono ?_ | refine (tag_no _ _ (by omega)).mono ?_); rintro e w' ⟨rfl, rfl⟩) | (go_at_call 111; (first | refine (rng_yes _ _ _ _ (by omega) (by omega)).mono ?_ | refine (rng_no _ _ _ _ (by omega)).mono ?_); rintro e w' ⟨rfl, rfl⟩) | (go_at_call 129; (first | refine (pid_yes _ _ (by omega) (by omega)).mono ?_ | refine (pid_no _ _ (by omega)).mono ?_); rintro e w' ⟨rfl, rfl⟩))
    go_ret
    first
      | exact ⟨rfl, gby_alloc (gby_refl _ _) _⟩
      | exact ⟨ret_bool (by simp; omega), gby_alloc (gby_refl _ _) _⟩

theorem checkCompletion_yes (W : World) (f t a l g s : Int) (d : Option Addr) (len cap : Nat) (h : W6 t a l g s len) :
    Calls Try.prog 136 #[pkV 6 f t a l g s d len cap] W (AnsG (.bool true) W) := by
  by_cases hs : s = 0
  · subst hs
    by_cases hm : l < 8
    · exact compFew_yes W f t a l g d len cap hm (by unfold W6 at h; unfold W6m; omega)
    · exact compMany_yes W f t a l g d len cap (by omega) (by unfold W6 at h; unfold W6m; omega)
  · exact compBad_yes W f t a l g s d len cap hs (by unfold W6 at h; unfold W6m; omega)

theorem checkCompletion_no (W : World) (f t a l g s : Int) (d : Option Addr) (len cap : Nat) (hl : len ≤ 1048576) (h : ¬ W6 t a l g s len) :
    Calls Try.prog 136 #[pkV 6 f t a l g s d len cap] W (AnsG (.bool false) W) := by
  by_cases hs : s = 0
  · subst hs
    by_cases hm : l < 8
    · exact compFew_no W f t a l g d len cap hl hm (by unfold W6 at h; unfold W6m; omega)
    · exact compMany_no W f t a l g d len cap hl (by omega) (by unfold W6 at h; unfold W6m; omega)
  · exact compBad_no W f t a l g s d len cap hl hs (by unfold W6 at h; unfold W6m; omega)

end Go.Proofs.Ytnighnkkeiegnaa
