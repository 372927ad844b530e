/-
  Contracts of ids: the numbers.
-/
import Derived.Test.YteaaobklfhlgiaaDoorBits3Impl
namespace Go.Proofs.YteaaobklfhlgiaaDoor
open Go Go.RowKit

theorem isId_any (x : Int) (W : World) : Calls Tryd.prog 27 #[.int .i64 x] W (Ans (.bool (decide (0 ≤ x) && decide (x ≤ 255))) W) := by
  go_enter Tryd.func27, Tryd.ntmps27
  go_wp2_with (go_at_call 34; refine (in_any _ _ _ _).mono ?_; rintro e w' ⟨rfl, rfl⟩)
  go_ret
  exact ⟨rfl, Drew.refl _⟩

theorem valid_any (x : Int) (W : World) : Calls Tryd.prog 22 #[.int .i64 x] W (Ans (.bool (decide (0 ≤ x) && decide (x ≤ 255))) W) := by
  go_enter Tryd.func22, Tryd.ntmps22
  go_wp2_with (go_at_call 23; refine (rng_any _ _ _ _).mono ?_; rintro e w' ⟨rfl, rfl⟩)
  go_ret
  exact ⟨rfl, Drew.refl _⟩

theorem implIsId_any (x : Int) (W : World) : Calls Tryd.prog 10 #[.int .i64 x] W (Ans (.bool (decide (0 ≤ x) && decide (x ≤ 255))) W) := by
  go_enter Tryd.func10, Tryd.ntmps10
  go_wp2_with (go_at_call 22; refine (valid_any _ _).mono ?_; rintro e w1 ⟨rfl, d1⟩; have D1 := Lib.hid d1; clear d1)
  go_ret
  exact ⟨rfl, D1.out⟩

theorem ok_in {x : Int} (h0 : 0 ≤ x) (h1 : x ≤ 255) : (decide (0 ≤ x) && decide (x ≤ 255)) = true := by simp [h0, h1]
theorem ok_out {x : Int} (h : x < 0 ∨ 255 < x) : (decide (0 ≤ x) && decide (x ≤ 255)) = false := by simp; omega
theorem isId_yes (x : Int) (W : World) (h0 : 0 ≤ x) (h1 : x ≤ 255) : Calls Tryd.prog 27 #[.int .i64 x] W (Ans (.bool true) W) := by have := isId_any x W; rw [ok_in h0 h1] at this; exact this
theorem isId_no (x : Int) (W : World) (h : x < 0 ∨ 255 < x) : Calls Tryd.prog 27 #[.int .i64 x] W (Ans (.bool false) W) := by have := isId_any x W; rw [ok_out h] at this; exact this
theorem valid_yes (x : Int) (W : World) (h0 : 0 ≤ x) (h1 : x ≤ 255) : Calls Tryd.prog 22 #[.int .i64 x] W (Ans (.bool true) W) := by have := valid_any x W; rw [ok_in h0 h1] at this; exact this
theorem valid_no (x : Int) (W : World) (h : x < 0 ∨ 255 < x) : Calls Tryd.prog 22 #[.int .i64 x] W (Ans (.bool false) W) := by have := valid_any x W; rw [ok_out h] at this; exact this
theorem implIsId_yes (x : Int) (W : World) (h0 : 0 ≤ x) (h1 : x ≤ 255) : Calls Tryd.prog 10 #[.int .i64 x] W (Ans (.bool true) W) := by have := implIsId_any x W; rw [ok_in h0 h1] at this; exact this
theorem implIsId_no (x : Int) (W : World) (h : x < 0 ∨ 255 < x) : Calls Tryd.prog 10 #[.int .i64 x] W (Ans (.bool false) W) := by have := implIsId_any x W; rw [ok_out h] at this; exact this

theorem part_in (x low w : Nat) (W : World) (h : x ≤ 255) (h1 : low ≤ 15) (h2 : 1 ≤ w) (h3 : w + low ≤ 16) :
    Calls Tryd.prog 33 #[.int .i64 (x : Int), .int .i64 (low : Int), .int .i64 (w : Int)] W (Ans (.int .i64 (getF x low w : Int)) W) := by
  obtain ⟨F, hF⟩ : ∃ F : Int, F = (getF x low w : Int) := ⟨_, rfl⟩
  have HG := Lib.hid (fun W : World => show Calls Tryd.prog 40 #[.int .i64 (x : Int), .int .i64 (low : Int), .int .i64 (w : Int)] W (Ans (.int .i64 F) W) from by rw [hF]; exact implFieldOf_in x low w W (by omega) h1 h2 h3)
  rw [← hF]
  clear hF
  go_enter Tryd.func33, Tryd.ntmps33
  go_wp2_with fail
  go_at_call 22
  refine (valid_yes _ _ (by omega) (by omega)).mono ?_
  rintro e w1 ⟨rfl, d1⟩
  have D1 := Lib.hid d1
  clear d1
  go_wp2_with fail
  go_at_call 40
  refine (HG.out _).mono ?_
  rintro e w2 ⟨rfl, d2⟩
  have D2 := Lib.hid (D1.out.trans d2)
  clear d2
  go_wp2
  go_ret
  exact ⟨rfl, D2.out⟩

theorem part_out (x low w : Int) (W : World) (h : x < 0 ∨ 255 < x) :
    Calls Tryd.prog 33 #[.int .i64 x, .int .i64 low, .int .i64 w] W (Ans (.int .i64 (-1)) W) := by
  have H := Lib.hid h
  clear h
  go_enter Tryd.func33, Tryd.ntmps33
  go_wp2_with fail
  go_at_call 22
  refine (valid_no _ _ H.out).mono ?_
  rintro e w1 ⟨rfl, d1⟩
  have D1 := Lib.hid d1
  clear d1
  go_wp2
  go_ret
  exact ⟨rfl, D1.out⟩

end Go.Proofs.YteaaobklfhlgiaaDoor
