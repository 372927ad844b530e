/-
  Contracts of the program's bit fields: FieldOf and WithField.
-/
import Derived.Test.YteaaobklfhlgiaaBits2Impl
namespace Go.Proofs.Yteaaobklfhlgiaa
open Go Go.RowKit

set_option maxHeartbeats 400000 in
theorem implFieldOf_in (x low w : Nat) (W : World) (h : x ≤ 65535) (h1 : low ≤ 15) (h2 : 1 ≤ w) (h3 : w + low ≤ 16) :
    Calls Try.prog 18 #[.int .i64 (x : Int), .int .i64 (low : Int), .int .i64 (w : Int)] W (Ans (.int .i64 (getF x low w : Int)) W) := by
  have i2 : (0 : Int) ≤ (low : Int) := by omega
  have i4 : (low : Int) ≤ 64 := by omega
  have n1 : ((low : Int)).toNat = low := by omega
  go_enter Try.func18, Try.ntmps18
  go_wp2_with fail
  go_at_call 40
  refine (word_yes _ _ (by omega) (by omega)).mono ?_
  rintro e w' ⟨rfl, rfl⟩
  go_wp2_with fail
  go_at_call 41
  refine (place_yes _ _ _ (by omega) (by omega) (by omega) (by omega)).mono ?_
  rintro e w' ⟨rfl, rfl⟩
  go_wp2_with fail
  go_quiet ((go_at_call 39; exact ans_quiet (fun W => fmask_any w W (by omega))))
  go_wp2
  go_ret
  exact ⟨ret_i64 (field_bits x low w h (by omega)), _, rfl⟩

theorem implFieldOf_out (x low w : Int) (W : World) (h : ¬ FitsF x low w) :
    Calls Try.prog 18 #[.int .i64 x, .int .i64 low, .int .i64 w] W (Ans (.int .i64 (-1)) W) := by
  have H := Lib.hid h
  clear h
  by_cases hx : 0 ≤ x ∧ x ≤ 65535
  · have HX := Lib.hid hx
    clear hx
    go_enter Try.func18, Try.ntmps18
    go_wp2_with fail
    go_at_call 40
    refine (word_yes _ _ HX.out.1 HX.out.2).mono ?_
    rintro e w' ⟨rfl, rfl⟩
    go_wp2_with fail
    go_at_call 41
    refine (place_no _ _ _ (by have h := H.out; have hx := HX.out; unfold FitsF at h; omega)).mono ?_
    rintro e w' ⟨rfl, rfl⟩
    go_wp2
    go_ret
    exact ⟨rfl, Drew.refl _⟩
  · have HX := Lib.hid hx
    clear hx
    go_enter Try.func18, Try.ntmps18
    go_wp2_with fail
    go_at_call 40
    refine (word_no _ _ (by have := HX.out; omega)).mono ?_
    rintro e w' ⟨rfl, rfl⟩
    go_wp2
    go_ret
    exact ⟨rfl, Drew.refl _⟩

set_option maxHeartbeats 1000000 in
theorem implWithField_in (x low w v : Nat) (W : World) (h : x ≤ 65535) (h1 : low ≤ 15) (h2 : 1 ≤ w) (h3 : w + low ≤ 16) (hv : v < 2 ^ w) :
    Calls Try.prog 17 #[.int .i64 (x : Int), .int .i64 (low : Int), .int .i64 (w : Int), .int .i64 (v : Int)] W (Ans (.tuple #[.int .i64 (setF x low w v : Int), .bool true]) W) := by
  have HV := Lib.hid hv
  have i2 : (0 : Int) ≤ (low : Int) := by omega
  have i4 : (low : Int) ≤ 64 := by omega
  have n1 : ((low : Int)).toNat = low := by omega
  obtain ⟨M, hM⟩ : ∃ M : Int, M = wrap64 (wrap64 (2 ^ w) - 1) := ⟨_, rfl⟩
  have hd : ¬ M < (v : Int) := by rw [hM, mask_val w (by omega)]; omega
  have HM := Lib.hid hM
  have HF := Lib.hid (fun W : World => show Calls Try.prog 39 #[.int .i64 (w : Int)] W (Ans (.int .i64 M) W) from by rw [hM]; exact fmask_any w W (by omega))
  obtain ⟨F, hF⟩ : ∃ F : Int, F = (getF x low w : Int) := ⟨_, rfl⟩
  have hF0 : ¬ F < 0 := by omega
  have HG := Lib.hid (fun W : World => show Calls Try.prog 18 #[.int .i64 (x : Int), .int .i64 (low : Int), .int .i64 (w : Int)] W (Ans (.int .i64 F) W) from by rw [hF]; exact implFieldOf_in x low w W h h1 h2 h3)
  clear hv hM hF
  go_enter Try.func17, Try.ntmps17
  go_wp2_with fail
  go_at_call 18
  refine (HG.out _).mono ?_
  rintro e w1 ⟨rfl, d1⟩
  have D1 := Lib.hid d1
  clear d1
  go_wp2_with fail
  go_at_call 39
  refine (HF.out _).mono ?_
  rintro e w2 ⟨rfl, d2⟩
  have D2 := Lib.hid (D1.out.trans d2)
  clear d2
  go_wp2_with fail
  go_quiet ((go_at_call 39; exact ans_quiet HF.out))
  go_wp2
  go_ret2
  exact ⟨ret_ib (by rw [HM.out]; exact with_bits x low w v h HV.out (by omega)) true, by repeat (first | exact D2.out | apply Drew.drewN)⟩

theorem implWithField_out (x low w v : Int) (W : World) (h : ¬ FitsF x low w) :
    Calls Try.prog 17 #[.int .i64 x, .int .i64 low, .int .i64 w, .int .i64 v] W (Ans (.tuple #[.int .i64 x, .bool false]) W) := by
  have H := Lib.hid h
  clear h
  go_enter Try.func17, Try.ntmps17
  go_wp2_with fail
  go_at_call 18
  refine (implFieldOf_out _ _ _ _ H.out).mono ?_
  rintro e w1 ⟨rfl, d1⟩
  have D1 := Lib.hid d1
  clear d1
  go_wp2
  go_ret2
  exact ⟨rfl, D1.out⟩

set_option maxHeartbeats 400000 in
theorem implWithField_big (x low w : Nat) (v : Int) (W : World) (h : x ≤ 65535) (h1 : low ≤ 15) (h2 : 1 ≤ w) (h3 : w + low ≤ 16) (hv : v < 0 ∨ ((2 ^ w - 1 : Nat) : Int) < v) :
    Calls Try.prog 17 #[.int .i64 (x : Int), .int .i64 (low : Int), .int .i64 (w : Int), .int .i64 v] W (Ans (.tuple #[.int .i64 (x : Int), .bool false]) W) := by
  obtain ⟨M, hM⟩ : ∃ M : Int, M = wrap64 (wrap64 (2 ^ w) - 1) := ⟨_, rfl⟩
  have HF := Lib.hid (fun W : World => show Calls Try.prog 39 #[.int .i64 (w : Int)] W (Ans (.int .i64 M) W) from by rw [hM]; exact fmask_any w W (by omega))
  obtain ⟨F, hF⟩ : ∃ F : Int, F = (getF x low w : Int) := ⟨_, rfl⟩
  have hF0 : ¬ F < 0 := by omega
  have HG := Lib.hid (fun W : World => show Calls Try.prog 18 #[.int .i64 (x : Int), .int .i64 (low : Int), .int .i64 (w : Int)] W (Ans (.int .i64 F) W) from by rw [hF]; exact implFieldOf_in x low w W h h1 h2 h3)
  by_cases hneg : v < 0
  · clear hv hM hF
    go_enter Try.func17, Try.ntmps17
    go_wp2_with fail
    go_at_call 18
    refine (HG.out _).mono ?_
    rintro e w1 ⟨rfl, d1⟩
    have D1 := Lib.hid d1
    clear d1
    go_wp2
    go_ret2
    exact ⟨rfl, D1.out⟩
  · have hd : M < v := by rw [hM, mask_val w (by omega)]; omega
    clear hv hM hF
    go_enter Try.func17, Try.ntmps17
    go_wp2_with fail
    go_at_call 18
    refine (HG.out _).mono ?_
    rintro e w1 ⟨rfl, d1⟩
    have D1 := Lib.hid d1
    clear d1
    go_wp2_with fail
    go_at_call 39
    refine (HF.out _).mono ?_
    rintro e w2 ⟨rfl, d2⟩
    have D2 := Lib.hid (D1.out.trans d2)
    clear d2
    go_wp2
    go_ret2
    exact ⟨rfl, D2.out⟩

end Go.Proofs.Yteaaobklfhlgiaa
