/-
  Contracts of the program's bit fields: FieldOf and WithField.
-/
import Derived.Test.YtgagbhkidponnadBits2Impl
namespace Go.Proofs.Ytgagbhkidponnad
open Go Go.RowKit

set_option maxHeartbeats 400000 in
theorem implFieldOf_in (x low w : Nat) (W : World) (h : x ≤ 65535) (h1 : low ≤ 15) (h2 : 1 ≤ w) (h3 : w + low ≤ 16) :
    Calls Try.prog 64 #[.int .i64 (x : Int), .int .i64 (low : Int), .int .i64 (w : Int)] W (Ans (.int .i64 (getF x low w : Int)) W) := by
  have i2 : (0 : Int) ≤ (low : Int) := by omega
  have i4 : (low : Int) ≤ 64 := by omega
  have n1 : ((low : Int)).toNat = low := by omega
  go_enter Try.func64, Try.ntmps64
  go_wp2_with fail
  go_at_call 52
  refine (word_yes _ _ (by omega) (by omega)).mono ?_
  rintro e w' ⟨rfl, rfl⟩
  go_wp2_with fail
  go_at_call 68
  refine (place_yes _ _ _ (by omega) (by omega) (by omega) (by omega)).mono ?_
  rintro e w' ⟨rfl, rfl⟩
  go_wp2_with fail
  go_quiet ((go_at_call 69; exact ans_quiet (fun W => fmask_any w W (by omega))))
  go_wp2
  go_ret
  exact ⟨ret_i64 (field_bits x low w h (by omega)), _, rfl⟩

theorem implFieldOf_out (x low w : Int) (W : World) (h : ¬ FitsF x low w) :
    Calls Try.prog 64 #[.int .i64 x, .int .i64 low, .int .i64 w] W (Ans (.int .i64 (-1)) W) := by
  have H := Lib.hid h
  clear h
  by_cases hx : 0 ≤ x ∧ x ≤ 65535
  · have HX := Lib.hid hx
    clear hx
    go_enter Try.func64, Try.ntmps64
    go_wp2_with fail
    go_at_call 52
    refine (word_yes _ _ HX.out.1 HX.out.2).mono ?_
    rintro e w' ⟨rfl, rfl⟩
    go_wp2_with fail
    go_at_call 68
    refine (place_no _ _ _ (by have h := H.out; have hx := HX.out; unfold FitsF at h; omega)).mono ?_
    rintro e w' ⟨rfl, rfl⟩
    go_wp2
    go_ret
    exact ⟨rfl, Drew.refl _⟩
  · have HX := Lib.hid hx
    clear hx
    go_enter Try.func64, Try.ntmps64
    go_wp2_with fail
    go_at_call 52
    refine (word_no _ _ (by have := HX.out; omega)).mono ?_
    rintro e w' ⟨rfl, rfl⟩
    go_wp2
    go_ret
    exact ⟨rfl, Drew.refl _⟩

end Go.Proofs.Ytgagbhkidponnad
