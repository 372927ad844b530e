/-
  Contracts of the checks of packets.
-/
import Derived.Test.YtnighnkkeiegnaaPk
import Derived.Test.YtnighnkkeiegnaaIdNum
namespace Go.Proofs.Ytnighnkkeiegnaa
open Go Go.RowKit

def W1 (t a l g s n : Int) : Prop := 1 ≤ n ∧ n ≤ 8 ∧ 0 ≤ a ∧ a + n ≤ 65536 ∧ t = 0 ∧ l = 0 ∧ g = 0 ∧ s = 0
def W2 (t a l g s n : Int) : Prop := 1 ≤ n ∧ n ≤ 8 ∧ t = 0 ∧ a = 0 ∧ l = 0 ∧ g = 0 ∧ s = 0
def W3 (t a l g s n : Int) : Prop := 1 ≤ l ∧ l ≤ 64 ∧ 0 ≤ a ∧ a + l ≤ 65536 ∧ 0 ≤ g ∧ g ≤ 7 ∧ t = 0 ∧ s = 0 ∧ n = 0
def WC (t a l g s : Int) : Prop := 0 ≤ t ∧ t ≤ 255 ∧ 0 ≤ a ∧ a ≤ 63 ∧ 0 ≤ g ∧ g ≤ 7 ∧ l = 0 ∧ s = 0
def W4 (t a l g s n : Int) : Prop := WC t a l g s ∧ n = 0
def W5 (t a l g s n : Int) : Prop := WC t a l g s ∧ n = 1
def W6 (t a l g s n : Int) : Prop := 0 ≤ t ∧ t ≤ 255 ∧ 0 ≤ l ∧ l ≤ 64 ∧ 0 ≤ g ∧ g ≤ 7 ∧ 0 ≤ s ∧ s ≤ 2 ∧ a = 0 ∧ (n = 0 ∨ (s = 0 ∧ n ≤ 8 ∧ n ≤ l))

/-- the fields of a packet fit its kind -/
def KindOk (k t a l g s n : Int) : Prop :=
  (k = 1 ∧ W1 t a l g s n) ∨ (k = 2 ∧ W2 t a l g s n) ∨ (k = 3 ∧ W3 t a l g s n) ∨ (k = 4 ∧ W4 t a l g s n) ∨ (k = 5 ∧ W5 t a l g s n) ∨ (k = 6 ∧ W6 t a l g s n)

/-- a valid packet -/
def PkOk (k f t a l g s : Int) (xs : List Int) : Prop := (0 ≤ f ∧ f ≤ 255) ∧ AreW xs ∧ KindOk k t a l g s xs.length

/-- an answer, and new memory at most -/
def AnsG (v : Value) (w : World) (e : Ending) (w' : World) : Prop := e = .returned v ∧ w.grownBy w' none

theorem size_yes (n : Int) (W : World) (h1 : 1 ≤ n) (h2 : n ≤ 8) : Calls Try.prog 139 #[.int .i64 n] W fun e w' => e = .returned (.bool true) ∧ W = w' := by
  go_enter Try.func139, Try.ntmps139
  go_wp2_with (go_at_call 111; refine (rng_yes _ _ _ _ (by omega) (by omega)).mono ?_; rintro e w' ⟨rfl, rfl⟩)
  go_ret
  exact ⟨rfl, rfl⟩

theorem size_no (n : Int) (W : World) (h : n < 1 ∨ 8 < n) : Calls Try.prog 139 #[.int .i64 n] W fun e w' => e = .returned (.bool false) ∧ W = w' := by
  have H := Lib.hid h
  clear h
  go_enter Try.func139, Try.ntmps139
  go_wp2_with (go_at_call 111; refine (rng_no _ _ _ _ H.out).mono ?_; rintro e w' ⟨rfl, rfl⟩)
  go_ret
  exact ⟨rfl, rfl⟩

theorem tag_yes (n : Int) (W : World) (h1 : 0 ≤ n) (h2 : n ≤ 7) : Calls Try.prog 141 #[.int .i64 n] W fun e w' => e = .returned (.bool true) ∧ W = w' := by
  go_enter Try.func141, Try.ntmps141
  go_wp2_with (go_at_call 111; refine (rng_yes _ _ _ _ (by omega) (by omega)).mono ?_; rintro e w' ⟨rfl, rfl⟩)
  go_ret
  exact ⟨rfl, rfl⟩

theorem tag_no (n : Int) (W : World) (h : n < 0 ∨ 7 < n) : Calls Try.prog 141 #[.int .i64 n] W fun e w' => e = .returned (.bool false) ∧ W = w' := by
  have H := Lib.hid h
  clear h
  go_enter Try.func141, Try.ntmps141
  go_wp2_with (go_at_call 111; refine (rng_no _ _ _ _ H.out).mono ?_; rintro e w' ⟨rfl, rfl⟩)
  go_ret
  exact ⟨rfl, rfl⟩

theorem pvalid_yes (n : Int) (W : World) (h1 : 0 ≤ n) (h2 : n ≤ 255) : Calls Try.prog 137 #[.int .i64 n] W fun e w' => e = .returned (.bool true) ∧ W = w' := by
  go_enter Try.func137, Try.ntmps137
  go_wp2_with (go_at_call 111; refine (rng_yes _ _ _ _ (by omega) (by omega)).mono ?_; rintro e w' ⟨rfl, rfl⟩)
  go_ret
  exact ⟨rfl, rfl⟩

theorem pvalid_no (n : Int) (W : World) (h : n < 0 ∨ 255 < n) : Calls Try.prog 137 #[.int .i64 n] W fun e w' => e = .returned (.bool false) ∧ W = w' := by
  have H := Lib.hid h
  clear h
  go_enter Try.func137, Try.ntmps137
  go_wp2_with (go_at_call 111; refine (rng_no _ _ _ _ H.out).mono ?_; rintro e w' ⟨rfl, rfl⟩)
  go_ret
  exact ⟨rfl, rfl⟩

theorem pid_yes (n : Int) (W : World) (h1 : 0 ≤ n) (h2 : n ≤ 255) : Calls Try.prog 129 #[.int .i64 n] W fun e w' => e = .returned (.bool true) ∧ W = w' := by
  go_enter Try.func129, Try.ntmps129
  go_wp2_with (go_at_call 137; refine (pvalid_yes _ _ (by omega) (by omega)).mono ?_; rintro e w' ⟨rfl, rfl⟩)
  go_ret
  exact ⟨rfl, rfl⟩

theorem pid_no (n : Int) (W : World) (h : n < 0 ∨ 255 < n) : Calls Try.prog 129 #[.int .i64 n] W fun e w' => e = .returned (.bool false) ∧ W = w' := by
  have H := Lib.hid h
  clear h
  go_enter Try.func129, Try.ntmps129
  go_wp2_with (go_at_call 137; refine (pvalid_no _ _ H.out).mono ?_; rintro e w' ⟨rfl, rfl⟩)
  go_ret
  exact ⟨rfl, rfl⟩

theorem sid_yes (n : Int) (W : World) (h1 : 0 ≤ n) (h2 : n ≤ 255) : Calls Try.prog 124 #[.int .i64 n] W fun e w' => e = .returned (.bool true) ∧ W = w' := by
  go_enter Try.func124, Try.ntmps124
  go_wp2_with (go_at_call 69; refine (in_yes _ _ _ _ (by omega) (by omega)).mono ?_; rintro e w' ⟨rfl, rfl⟩)
  go_ret
  exact ⟨rfl, rfl⟩

theorem sid_no (n : Int) (W : World) (h : n < 0 ∨ 255 < n) : Calls Try.prog 124 #[.int .i64 n] W fun e w' => e = .returned (.bool false) ∧ W = w' := by
  have H := Lib.hid h
  clear h
  go_enter Try.func124, Try.ntmps124
  go_wp2_with (go_at_call 69; refine (in_no _ _ _ _ H.out).mono ?_; rintro e w' ⟨rfl, rfl⟩)
  go_ret
  exact ⟨rfl, rfl⟩

theorem span_yes (a n : Int) (W : World) (h0 : 0 ≤ a) (h1 : 1 ≤ n) (h2 : a + n ≤ 65536) : Calls Try.prog 140 #[.int .i64 a, .int .i64 n] W fun e w' => e = .returned (.bool true) ∧ W = w' := by
  go_enter Try.func140, Try.ntmps140
  go_wp2_with (go_at_call 111; refine (rng_yes _ _ _ _ (by omega) (by omega)).mono ?_; rintro e w' ⟨rfl, rfl⟩)
  go_ret
  exact ⟨rfl, rfl⟩

theorem span_no (a n : Int) (W : World) (h1 : 1 ≤ n) (hn : n ≤ 2000000) (h : a < 0 ∨ 65536 < a + n) : Calls Try.prog 140 #[.int .i64 a, .int .i64 n] W fun e w' => e = .returned (.bool false) ∧ W = w' := by
  by_cases ha : 0 ≤ a ∧ a ≤ 65535
  · have hs : 65536 < a + n := by omega
    clear h
    go_enter Try.func140, Try.ntmps140
    go_wp2_with (go_at_call 111; refine (rng_yes _ _ _ _ (by omega) (by omega)).mono ?_; rintro e w' ⟨rfl, rfl⟩)
    go_ret
    exact ⟨ret_bool (by simp; omega), rfl⟩
  · have HA := Lib.hid ha
    clear h ha
    go_enter Try.func140, Try.ntmps140
    go_wp2_with (go_at_call 111; refine (rng_no _ _ _ _ (by have := HA.out; omega)).mono ?_; rintro e w' ⟨rfl, rfl⟩)
    go_ret
    exact ⟨rfl, rfl⟩

set_option maxHeartbeats 1000000 in
theorem checkWrite_yes (W : World) (f t a l g s : Int) (d : Option Addr) (len cap : Nat) (h : W1 t a l g s len) :
    Calls Try.prog 131 #[pkV 1 f t a l g s d len cap] W (AnsG (.bool true) W) := by
  obtain ⟨c0, d0, c1, d1, rfl, rfl, rfl, rfl⟩ := h
  unfold pkV
  go_enter Try.func131, Try.ntmps131
  go_wp2_with (first | (go_at_call 139; (first | refine (size_yes _ _ (by omega) (by omega)).mono ?_ | refine (size_no _ _ (by omega)).mono ?_); rintro e w' ⟨rfl, rfl⟩) | (go_at_call 140; (first | refine (span_yes _ _ _ (by omega) (by omega) (by omega)).mono ?_ | refine (span_no _ _ _ (by omega) (by omega) (by omega)).mono ?_); rintro e w' ⟨rfl, rfl⟩) | (go_at_call 141; (first | refine (tag_yes _ _ (by omega) (by omega)).mono ?_ | refine (tag_no _ _ (by omega)).mono ?_); rintro e w' ⟨rfl, rfl⟩) | (go_at_call 111; (first | refine (rng_yes _ _ _ _ (by omega) (by omega)).mono ?_ | refine (rng_no _ _ _ _ (by omega)).mono ?_); rintro e w' ⟨rfl, rfl⟩) | (go_at_call 129; (first | refine (pid_yes _ _ (by omega) (by omega)).mono ?_ | refine (pid_no _ _ (by omega)).mono ?_); rintro e w' ⟨rfl, rfl⟩))
  go_ret
  exact ⟨rfl, gby_alloc (gby_refl _ _) _⟩

set_option maxHeartbeats 4000000 in
theorem checkWrite_no (W : World) (f t a l g s : Int) (d : Option Addr) (len cap : Nat) (_hl : len ≤ 1048576) (h : ¬ W1 t a l g s len) :
    Calls Try.prog 131 #[pkV 1 f t a l g s d len cap] W (AnsG (.bool false) W) := by
  unfold pkV
  have H := Lib.hid h
  clear h
  by_cases c0 : 1 ≤ (len : Int) ∧ (len : Int) ≤ 8
  case' pos =>
    obtain ⟨c0, d0⟩ := c0
    by_cases c1 : 0 ≤ a ∧ a + (len : Int) ≤ 65536
    case' pos =>
      obtain ⟨c1, d1⟩ := c1
      by_cases c2 : t = 0
      case' neg => have b2 : (t == 0) = false := by simpa using c2
      case' pos =>
        subst c2
        by_cases c3 : l = 0
        case' neg => have b3 : (l == 0) = false := by simpa using c3
        case' pos =>
          subst c3
          by_cases c4 : g = 0
          case' neg => have b4 : (g == 0) = false := by simpa using c4
          case' pos =>
            subst c4
            by_cases c5 : s = 0
            case' neg => have b5 : (s == 0) = false := by simpa using c5
            case' pos =>
              subst c5
              exact absurd (show W1 0 a 0 0 0 len from ⟨c0, d0, c1, d1, rfl, rfl, rfl, rfl⟩) H.out
  all_goals
    go_enter Try.func131, Try.ntmps131
    go_wp2_with (first | (go_at_call 139; (first | refine (size_yes _ _ (by omega) (by omega)).mono ?_ | refine (size_no _ _ (by omega)).mono ?_); rintro e w' ⟨rfl, rfl⟩) | (go_at_call 140; (first | refine (span_yes _ _ _ (by omega) (by omega) (by omega)).mono ?_ | refine (span_no _ _ _ (by omega) (by omega) (by omega)).mono ?_); rintro e w' ⟨rfl, rfl⟩) | (go_at_call 141; (first | refine (tag_yes _ _ (by omega) (by omega)).mono ?_ | refine (tag_no _ _ (by omega)).mono ?_); rintro e w' ⟨rfl, rfl⟩) | (go_at_call 111; (first | refine (rng_yes _ _ _ _ (by omega) (by omega)).mono ?_ | refine (rng_no _ _ _ _ (by omega)).mono ?_); rintro e w' ⟨rfl, rfl⟩) | (go_at_call 129; (first | refine (pid_yes _ _ (by omega) (by omega)).mono ?_ | refine (pid_no _ _ (by omega)).mono ?_); rintro e w' ⟨rfl, rfl⟩))
    go_ret
    exact ⟨rfl, gby_alloc (gby_refl _ _) _⟩

set_option maxHeartbeats 1000000 in
theorem checkMessage_yes (W : World) (f t a l g s : Int) (d : Option Addr) (len cap : Nat) (h : W2 t a l g s len) :
    Calls Try.prog 132 #[pkV 2 f t a l g s d len cap] W (AnsG (.bool true) W) := by
  obtain ⟨c0, d0, rfl, rfl, rfl, rfl, rfl⟩ := h
  unfold pkV
  go_enter Try.func132, Try.ntmps132
  go_wp2_with (first | (go_at_call 139; (first | refine (size_yes _ _ (by omega) (by omega)).mono ?_ | refine (size_no _ _ (by omega)).mono ?_); rintro e w' ⟨rfl, rfl⟩) | (go_at_call 140; (first | refine (span_yes _ _ _ (by omega) (by omega) (by omega)).mono ?_ | refine (span_no _ _ _ (by omega) (by omega) (by omega)).mono ?_); rintro e w' ⟨rfl, rfl⟩) | (go_at_call 141; (first | refine (tag_yes _ _ (by omega) (by omega)).mono ?_ | refine (tag_no _ _ (by omega)).mono ?_); rintro e w' ⟨rfl, rfl⟩) | (go_at_call 111; (first | refine (rng_yes _ _ _ _ (by omega) (by omega)).mono ?_ | refine (rng_no _ _ _ _ (by omega)).mono ?_); rintro e w' ⟨rfl, rfl⟩) | (go_at_call 129; (first | refine (pid_yes _ _ (by omega) (by omega)).mono ?_ | refine (pid_no _ _ (by omega)).mono ?_); rintro e w' ⟨rfl, rfl⟩))
  go_ret
  exact ⟨rfl, gby_alloc (gby_refl _ _) _⟩

set_option maxHeartbeats 4000000 in
theorem checkMessage_no (W : World) (f t a l g s : Int) (d : Option Addr) (len cap : Nat) (_hl : len ≤ 1048576) (h : ¬ W2 t a l g s len) :
    Calls Try.prog 132 #[pkV 2 f t a l g s d len cap] W (AnsG (.bool false) W) := by
  unfold pkV
  have H := Lib.hid h
  clear h
  by_cases c0 : 1 ≤ (len : Int) ∧ (len : Int) ≤ 8
  case' pos =>
    obtain ⟨c0, d0⟩ := c0
    by_cases c1 : t = 0
    case' neg => have b1 : (t == 0) = false := by simpa using c1
    case' pos =>
      subst c1
      by_cases c2 : a = 0
      case' neg => have b2 : (a == 0) = false := by simpa using c2
      case' pos =>
        subst c2
        by_cases c3 : l = 0
        case' neg => have b3 : (l == 0) = false := by simpa using c3
        case' pos =>
          subst c3
          by_cases c4 : g = 0
          case' neg => have b4 : (g == 0) = false := by simpa using c4
          case' pos =>
            subst c4
            by_cases c5 : s = 0
            case' neg => have b5 : (s == 0) = false := by simpa using c5
            case' pos =>
              subst c5
              exact absurd (show W2 0 0 0 0 0 len from ⟨c0, d0, rfl, rfl, rfl, rfl, rfl⟩) H.out
  all_goals
    go_enter Try.func132, Try.ntmps132
    go_wp2_with (first | (go_at_call 139; (first | refine (size_yes _ _ (by omega) (by omega)).mono ?_ | refine (size_no _ _ (by omega)).mono ?_); rintro e w' ⟨rfl, rfl⟩) | (go_at_call 140; (first | refine (span_yes _ _ _ (by omega) (by omega) (by omega)).mono ?_ | refine (span_no _ _ _ (by omega) (by omega) (by omega)).mono ?_); rintro e w' ⟨rfl, rfl⟩) | (go_at_call 141; (first | refine (tag_yes _ _ (by omega) (by omega)).mono ?_ | refine (tag_no _ _ (by omega)).mono ?_); rintro e w' ⟨rfl, rfl⟩) | (go_at_call 111; (first | refine (rng_yes _ _ _ _ (by omega) (by omega)).mono ?_ | refine (rng_no _ _ _ _ (by omega)).mono ?_); rintro e w' ⟨rfl, rfl⟩) | (go_at_call 129; (first | refine (pid_yes _ _ (by omega) (by omega)).mono ?_ | refine (pid_no _ _ (by omega)).mono ?_); rintro e w' ⟨rfl, rfl⟩))
    go_ret
    exact ⟨rfl, gby_alloc (gby_refl _ _) _⟩

set_option maxHeartbeats 1000000 in
theorem checkRead_yes (W : World) (f t a l g s : Int) (d : Option Addr) (len cap : Nat) (h : W3 t a l g s len) :
    Calls Try.prog 133 #[pkV 3 f t a l g s d len cap] W (AnsG (.bool true) W) := by
  obtain ⟨c0, d0, c1, d1, c2, d2, rfl, rfl, c5⟩ := h
  obtain rfl : len = 0 := by omega
  unfold pkV
  go_enter Try.func133, Try.ntmps133
  go_wp2_with (first | (go_at_call 139; (first | refine (size_yes _ _ (by omega) (by omega)).mono ?_ | refine (size_no _ _ (by omega)).mono ?_); rintro e w' ⟨rfl, rfl⟩) | (go_at_call 140; (first | refine (span_yes _ _ _ (by omega) (by omega) (by omega)).mono ?_ | refine (span_no _ _ _ (by omega) (by omega) (by omega)).mono ?_); rintro e w' ⟨rfl, rfl⟩) | (go_at_call 141; (first | refine (tag_yes _ _ (by omega) (by omega)).mono ?_ | refine (tag_no _ _ (by omega)).mono ?_); rintro e w' ⟨rfl, rfl⟩) | (go_at_call 111; (first | refine (rng_yes _ _ _ _ (by omega) (by omega)).mono ?_ | refine (rng_no _ _ _ _ (by omega)).mono ?_); rintro e w' ⟨rfl, rfl⟩) | (go_at_call 129; (first | refine (pid_yes _ _ (by omega) (by omega)).mono ?_ | refine (pid_no _ _ (by omega)).mono ?_); rintro e w' ⟨rfl, rfl⟩))
  go_ret
  exact ⟨rfl, gby_alloc (gby_refl _ _) _⟩

set_option maxHeartbeats 4000000 in
theorem checkRead_no (W : World) (f t a l g s : Int) (d : Option Addr) (len cap : Nat) (_hl : len ≤ 1048576) (h : ¬ W3 t a l g s len) :
    Calls Try.prog 133 #[pkV 3 f t a l g s d len cap] W (AnsG (.bool false) W) := by
  unfold pkV
  have H := Lib.hid h
  clear h
  by_cases c0 : 1 ≤ l ∧ l ≤ 64
  case' pos =>
    obtain ⟨c0, d0⟩ := c0
    by_cases c1 : 0 ≤ a ∧ a + l ≤ 65536
    case' pos =>
      obtain ⟨c1, d1⟩ := c1
      by_cases c2 : 0 ≤ g ∧ g ≤ 7
      case' pos =>
        obtain ⟨c2, d2⟩ := c2
        by_cases c3 : t = 0
        case' neg => have b3 : (t == 0) = false := by simpa using c3
        case' pos =>
          subst c3
          by_cases c4 : s = 0
          case' neg => have b4 : (s == 0) = false := by simpa using c4
          case' pos =>
            subst c4
            by_cases c5 : len = 0
            case' neg => have b5 : ((len : Int) == 0) = false := by simp; omega
            case' pos =>
              subst c5
              exact absurd (show W3 0 a l g 0 (0 : Nat) from ⟨c0, d0, c1, d1, c2, d2, rfl, rfl, rfl⟩) H.out
  all_goals
    go_enter Try.func133, Try.ntmps133
    go_wp2_with (first | (go_at_call 139; (first | refine (size_yes _ _ (by omega) (by omega)).mono ?_ | refine (size_no _ _ (by omega)).mono ?_); rintro e w' ⟨rfl, rfl⟩) | (go_at_call 140; (first | refine (span_yes _ _ _ (by omega) (by omega) (by omega)).mono ?_ | refine (span_no _ _ _ (by omega) (by omega) (by omega)).mono ?_); rintro e w' ⟨rfl, rfl⟩) | (go_at_call 141; (first | refine (tag_yes _ _ (by omega) (by omega)).mono ?_ | refine (tag_no _ _ (by omega)).mono ?_); rintro e w' ⟨rfl, rfl⟩) | (go_at_call 111; (first | refine (rng_yes _ _ _ _ (by omega) (by omega)).mono ?_ | refine (rng_no _ _ _ _ (by omega)).mono ?_); rintro e w' ⟨rfl, rfl⟩) | (go_at_call 129; (first | refine (pid_yes _ _ (by omega) (by omega)).mono ?_ | refine (pid_no _ _ (by omega)).mono ?_); rintro e w' ⟨rfl, rfl⟩))
    go_ret
    exact ⟨rfl, gby_alloc (gby_refl _ _) _⟩

set_option maxHeartbeats 1000000 in
theorem checkConfig_yes (k : Int) (W : World) (f t a l g s : Int) (d : Option Addr) (len cap : Nat) (h : WC t a l g s) :
    Calls Try.prog 142 #[pkV k f t a l g s d len cap] W (AnsG (.bool true) W) := by
  obtain ⟨c0, d0, c1, d1, c2, d2, rfl, rfl⟩ := h
  unfold pkV
  go_enter Try.func142, Try.ntmps142
  go_wp2_with (first | (go_at_call 139; (first | refine (size_yes _ _ (by omega) (by omega)).mono ?_ | refine (size_no _ _ (by omega)).mono ?_); rintro e w' ⟨rfl, rfl⟩) | (go_at_call 140; (first | refine (span_yes _ _ _ (by omega) (by omega) (by omega)).mono ?_ | refine (span_no _ _ _ (by omega) (by omega) (by omega)).mono ?_); rintro e w' ⟨rfl, rfl⟩) | (go_at_call 141; (first | refine (tag_yes _ _ (by omega) (by omega)).mono ?_ | refine (tag_no _ _ (by omega)).mono ?_); rintro e w' ⟨rfl, rfl⟩) | (go_at_call 111; (first | refine (rng_yes _ _ _ _ (by omega) (by omega)).mono ?_ | refine (rng_no _ _ _ _ (by omega)).mono ?_); rintro e w' ⟨rfl, rfl⟩) | (go_at_call 129; (first | refine (pid_yes _ _ (by omega) (by omega)).mono ?_ | refine (pid_no _ _ (by omega)).mono ?_); rintro e w' ⟨rfl, rfl⟩))
  go_ret
  exact ⟨rfl, gby_alloc (gby_refl _ _) _⟩

set_option maxHeartbeats 4000000 in
theorem checkConfig_no (k : Int) (W : World) (f t a l g s : Int) (d : Option Addr) (len cap : Nat) (_hl : len ≤ 1048576) (h : ¬ WC t a l g s) :
    Calls Try.prog 142 #[pkV k f t a l g s d len cap] W (AnsG (.bool false) W) := by
  unfold pkV
  have H := Lib.hid h
  clear h
  by_cases c0 : 0 ≤ t ∧ t ≤ 255
  case' pos =>
    obtain ⟨c0, d0⟩ := c0
    by_cases c1 : 0 ≤ a ∧ a ≤ 63
    case' pos =>
      obtain ⟨c1, d1⟩ := c1
      by_cases c2 : 0 ≤ g ∧ g ≤ 7
      case' pos =>
        obtain ⟨c2, d2⟩ := c2
        by_cases c3 : l = 0
        case' neg => have b3 : (l == 0) = false := by simpa using c3
        case' pos =>
          subst c3
          by_cases c4 : s = 0
          case' neg => have b4 : (s == 0) = false := by simpa using c4
          case' pos =>
            subst c4
            exact absurd (show WC t a 0 g 0 from ⟨c0, d0, c1, d1, c2, d2, rfl, rfl⟩) H.out
  all_goals
    go_enter Try.func142, Try.ntmps142
    go_wp2_with (first | (go_at_call 139; (first | refine (size_yes _ _ (by omega) (by omega)).mono ?_ | refine (size_no _ _ (by omega)).mono ?_); rintro e w' ⟨rfl, rfl⟩) | (go_at_call 140; (first | refine (span_yes _ _ _ (by omega) (by omega) (by omega)).mono ?_ | refine (span_no _ _ _ (by omega) (by omega) (by omega)).mono ?_); rintro e w' ⟨rfl, rfl⟩) | (go_at_call 141; (first | refine (tag_yes _ _ (by omega) (by omega)).mono ?_ | refine (tag_no _ _ (by omega)).mono ?_); rintro e w' ⟨rfl, rfl⟩) | (go_at_call 111; (first | refine (rng_yes _ _ _ _ (by omega) (by omega)).mono ?_ | refine (rng_no _ _ _ _ (by omega)).mono ?_); rintro e w' ⟨rfl, rfl⟩) | (go_at_call 129; (first | refine (pid_yes _ _ (by omega) (by omega)).mono ?_ | refine (pid_no _ _ (by omega)).mono ?_); rintro e w' ⟨rfl, rfl⟩))
    go_ret
    exact ⟨rfl, gby_alloc (gby_refl _ _) _⟩

end Go.Proofs.Ytnighnkkeiegnaa
