/-
  Contracts of SamePacket.
-/
import Derived.Test.YtnighnkkeiegnaaPkEq
import Derived.Test.YtnighnkkeiegnaaPkChk
namespace Go.Proofs.Ytnighnkkeiegnaa
open Go Go.RowKit

/-- the same fields -/
def SameF (k f t a l g s k' f' t' a' l' g' s' : Int) (xs ys : List Int) : Prop := k = k' ∧ f = f' ∧ t = t' ∧ a = a' ∧ l = l' ∧ g = g' ∧ s = s' ∧ xs = ys
instance (k f t a l g s k' f' t' a' l' g' s' : Int) (xs ys : List Int) : Decidable (SameF k f t a l g s k' f' t' a' l' g' s' xs ys) := inferInstanceAs (Decidable (_ ∧ _))

set_option maxRecDepth 8000 in
set_option maxHeartbeats 4000000 in
theorem implSame_any (W : World) (k f t a l g s k' f' t' a' l' g' s' : Int) (d1 d2 : Option Addr) (l1 l2 c1 c2 : Nat) (xs ys : List Int) (H1 : ISl W d1 l1 xs) (H2 : ISl W d2 l2 ys) (hl1 : l1 ≤ 1048576) (hl2 : l2 ≤ 1048576) :
    Calls Try.prog 105 #[pkV k f t a l g s d1 l1 c1, pkV k' f' t' a' l' g' s' d2 l2 c2] W (AnsG (.bool (decide (SameF k f t a l g s k' f' t' a' l' g' s' xs ys))) W) := by
  have HI1 := Lib.hid H1
  have HI2 := Lib.hid H2
  clear H1 H2
  unfold pkV
  by_cases c0 : k = k'
  case' neg =>
    have b0 : (k == k') = false := by simpa using c0
    have hd : decide (SameF k f t a l g s k' f' t' a' l' g' s' xs ys) = false := decide_eq_false (fun h => c0 h.1)
    rw [hd]
    have HC := Lib.hid c0
    clear hd c0
  case' pos =>
    subst c0
    have b0 : (k == k) = true := by simp
    by_cases c1 : f = f'
    case' neg =>
      have b1 : (f == f') = false := by simpa using c1
      have hd : decide (SameF k f t a l g s k f' t' a' l' g' s' xs ys) = false := decide_eq_false (fun h => c1 h.2.1)
      rw [hd]
      have HC := Lib.hid c1
      clear hd c1
    case' pos =>
      subst c1
      have b1 : (f == f) = true := by simp
      by_cases c2 : t = t'
      case' neg =>
        have b2 : (t == t') = false := by simpa using c2
        have hd : decide (SameF k f t a l g s k f t' a' l' g' s' xs ys) = false := decide_eq_false (fun h => c2 h.2.2.1)
        rw [hd]
        have HC := Lib.hid c2
        clear hd c2
      case' pos =>
        subst c2
        have b2 : (t == t) = true := by simp
        by_cases c3 : a = a'
        case' neg =>
          have b3 : (a == a') = false := by simpa using c3
          have hd : decide (SameF k f t a l g s k f t a' l' g' s' xs ys) = false := decide_eq_false (fun h => c3 h.2.2.2.1)
          rw [hd]
          have HC := Lib.hid c3
          clear hd c3
        case' pos =>
          subst c3
          have b3 : (a == a) = true := by simp
          by_cases c4 : l = l'
          case' neg =>
            have b4 : (l == l') = false := by simpa using c4
            have hd : decide (SameF k f t a l g s k f t a l' g' s' xs ys) = false := decide_eq_false (fun h => c4 h.2.2.2.2.1)
            rw [hd]
            have HC := Lib.hid c4
            clear hd c4
          case' pos =>
            subst c4
            have b4 : (l == l) = true := by simp
            by_cases c5 : g = g'
            case' neg =>
              have b5 : (g == g') = false := by simpa using c5
              have hd : decide (SameF k f t a l g s k f t a l g' s' xs ys) = false := decide_eq_false (fun h => c5 h.2.2.2.2.2.1)
              rw [hd]
              have HC := Lib.hid c5
              clear hd c5
            case' pos =>
              subst c5
              have b5 : (g == g) = true := by simp
              by_cases c6 : s = s'
              case' neg =>
                have b6 : (s == s') = false := by simpa using c6
                have hd : decide (SameF k f t a l g s k f t a l g s' xs ys) = false := decide_eq_false (fun h => c6 h.2.2.2.2.2.2.1)
                rw [hd]
                have HC := Lib.hid c6
                clear hd c6
              case' pos =>
                subst c6
                have b6 : (s == s) = true := by simp
                have hd : decide (SameF k f t a l g s k f t a l g s xs ys) = decide (xs = ys) := decide_eq_decide.2 ⟨fun h => h.2.2.2.2.2.2.2, fun h => ⟨rfl, rfl, rfl, rfl, rfl, rfl, rfl, h⟩⟩
                rw [hd]
                clear hd
  all_goals
    go_enter Try.func105, Try.ntmps105
    go_wp2_with (go_at_call 118; refine (equal_any _ _ _ _ _ _ _ xs ys (HI1.out.kept (gby_alloc (gby_alloc (gby_refl _ _) _) _)) (HI2.out.kept (gby_alloc (gby_alloc (gby_refl _ _) _) _)) (by omega) (by omega)).mono ?_; rintro e w1 ⟨rfl, d1⟩; have D1 := Lib.hid (gby_trans (gby_alloc (gby_alloc (gby_refl W none) _) _) (d1.gby none)); clear d1)
    go_ret
    first
      | exact ⟨rfl, gby_alloc (gby_alloc (gby_refl _ _) _) _⟩
      | exact ⟨rfl, D1.out⟩

set_option maxRecDepth 8000 in
set_option maxHeartbeats 4000000 in
theorem specSame_any (W : World) (k f t a l g s k' f' t' a' l' g' s' : Int) (d1 d2 : Option Addr) (l1 l2 c1 c2 : Nat) (xs ys : List Int) (H1 : ISl W d1 l1 xs) (H2 : ISl W d2 l2 ys) (hl1 : l1 ≤ 1048576) (hl2 : l2 ≤ 1048576) :
    Calls Try.prog 102 #[pkV k f t a l g s d1 l1 c1, pkV k' f' t' a' l' g' s' d2 l2 c2] W (AnsG (.bool (decide (SameF k f t a l g s k' f' t' a' l' g' s' xs ys))) W) := by
  have HI1 := Lib.hid H1
  have HI2 := Lib.hid H2
  clear H1 H2
  unfold pkV
  by_cases c0 : k = k'
  case' neg =>
    have b0 : (k == k') = false := by simpa using c0
    have hd : decide (SameF k f t a l g s k' f' t' a' l' g' s' xs ys) = false := decide_eq_false (fun h => c0 h.1)
    rw [hd]
    have HC := Lib.hid c0
    clear hd c0
  case' pos =>
    subst c0
    have b0 : (k == k) = true := by simp
    by_cases c1 : f = f'
    case' neg =>
      have b1 : (f == f') = false := by simpa using c1
      have hd : decide (SameF k f t a l g s k f' t' a' l' g' s' xs ys) = false := decide_eq_false (fun h => c1 h.2.1)
      rw [hd]
      have HC := Lib.hid c1
      clear hd c1
    case' pos =>
      subst c1
      have b1 : (f == f) = true := by simp
      by_cases c2 : t = t'
      case' neg =>
        have b2 : (t == t') = false := by simpa using c2
        have hd : decide (SameF k f t a l g s k f t' a' l' g' s' xs ys) = false := decide_eq_false (fun h => c2 h.2.2.1)
        rw [hd]
        have HC := Lib.hid c2
        clear hd c2
      case' pos =>
        subst c2
        have b2 : (t == t) = true := by simp
        by_cases c3 : a = a'
        case' neg =>
          have b3 : (a == a') = false := by simpa using c3
          have hd : decide (SameF k f t a l g s k f t a' l' g' s' xs ys) = false := decide_eq_false (fun h => c3 h.2.2.2.1)
          rw [hd]
          have HC := Lib.hid c3
          clear hd c3
        case' pos =>
          subst c3
          have b3 : (a == a) = true := by simp
          by_cases c4 : l = l'
          case' neg =>
            have b4 : (l == l') = false := by simpa using c4
            have hd : decide (SameF k f t a l g s k f t a l' g' s' xs ys) = false := decide_eq_false (fun h => c4 h.2.2.2.2.1)
            rw [hd]
            have HC := Lib.hid c4
            clear hd c4
          case' pos =>
            subst c4
            have b4 : (l == l) = true := by simp
            by_cases c5 : g = g'
            case' neg =>
              have b5 : (g == g') = false := by simpa using c5
              have hd : decide (SameF k f t a l g s k f t a l g' s' xs ys) = false := decide_eq_false (fun h => c5 h.2.2.2.2.2.1)
              rw [hd]
              have HC := Lib.hid c5
              clear hd c5
            case' pos =>
              subst c5
              have b5 : (g == g) = true := by simp
              by_cases c6 : s = s'
              case' neg =>
                have b6 : (s == s') = false := by simpa using c6
                have hd : decide (SameF k f t a l g s k f t a l g s' xs ys) = false := decide_eq_false (fun h => c6 h.2.2.2.2.2.2.1)
                rw [hd]
                have HC := Lib.hid c6
                clear hd c6
              case' pos =>
                subst c6
                have b6 : (s == s) = true := by simp
                have hd : decide (SameF k f t a l g s k f t a l g s xs ys) = decide (xs = ys) := decide_eq_decide.2 ⟨fun h => h.2.2.2.2.2.2.2, fun h => ⟨rfl, rfl, rfl, rfl, rfl, rfl, rfl, h⟩⟩
                rw [hd]
                clear hd
  all_goals
    go_enter Try.func102, Try.ntmps102
    go_wp2_with (go_at_call 114; refine (l04Ints_any _ _ _ _ _ _ _ xs ys (HI1.out.kept (gby_alloc (gby_alloc (gby_refl _ _) _) _)) (HI2.out.kept (gby_alloc (gby_alloc (gby_refl _ _) _) _)) (by omega) (by omega)).mono ?_; rintro e w1 ⟨rfl, d1⟩; have D1 := Lib.hid (gby_trans (gby_alloc (gby_alloc (gby_refl W none) _) _) (d1.gby none)); clear d1)
    go_ret
    first
      | exact ⟨rfl, gby_alloc (gby_alloc (gby_refl _ _) _) _⟩
      | exact ⟨rfl, D1.out⟩

end Go.Proofs.Ytnighnkkeiegnaa
