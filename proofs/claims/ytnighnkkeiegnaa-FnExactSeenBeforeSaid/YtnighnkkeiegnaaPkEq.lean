/-
  The law's measure and comparison of packets.
-/
import Derived.Test.YtnighnkkeiegnaaPk
namespace Go.Proofs.Ytnighnkkeiegnaa
open Go Go.RowKit

set_option maxHeartbeats 1000000 in
theorem szPk_big (W : World) (k f t a l g s n : Int) (d : Option Addr) (len cap : Nat) (hl : n < (len : Int)) (hn : n ≤ 1048576) (h0 : 0 ≤ n) (hc : len ≤ 9223372036854775807) :
    Calls Try.prog 37 #[pkV k f t a l g s d len cap, .int .i64 n] W (fun e w' => e = .returned (.int .i64 (-1)) ∧ W.grownBy w' none) := by
  unfold pkV
  have hneg : n - (len : Int) < 0 := by omega
  go_enter Try.func37, Try.ntmps37
  go_wp2
  go_ret
  exact ⟨rfl, gby_alloc (gby_refl _ _) _⟩

set_option maxRecDepth 8000 in
set_option maxHeartbeats 2000000 in
theorem eqPk_same (W : World) (k f t a l g s : Int) (d1 d2 : Option Addr) (len c1 c2 : Nat) (xs : List Int) (H1 : ISl W d1 len xs) (H2 : ISl W d2 len xs) (hl : len ≤ 1048576) :
    Calls Try.prog 41 #[pkV k f t a l g s d1 len c1, pkV k f t a l g s d2 len c2] W (fun e w' => e = .returned (.bool true) ∧ W.grownBy w' none) := by
  have HI1 := Lib.hid H1
  have HI2 := Lib.hid H2
  clear H1 H2
  unfold pkV
  have bk : (k != k) = false := by simp
  have bf : (f != f) = false := by simp
  have bt : (t != t) = false := by simp
  have ba : (a != a) = false := by simp
  have bl : (l != l) = false := by simp
  have bg : (g != g) = false := by simp
  have bs : (s != s) = false := by simp
  go_enter Try.func41, Try.ntmps41
  go_wp2_with fail
  go_at_call 27
  refine (eqInts_any _ _ _ _ _ _ _ xs xs (HI1.out.kept (gby_alloc (gby_alloc (gby_refl _ _) _) _)) (HI2.out.kept (gby_alloc (gby_alloc (gby_refl _ _) _) _)) hl (by omega)).mono ?_
  rintro e w1 ⟨rfl, d1⟩
  have D1 := Lib.hid (gby_trans (gby_alloc (gby_alloc (gby_refl W none) _) _) (d1.gby none))
  clear d1
  rw [show decide (xs = xs) = true from decide_eq_true rfl]
  go_wp2
  go_ret
  exact ⟨rfl, D1.out⟩

end Go.Proofs.Ytnighnkkeiegnaa
