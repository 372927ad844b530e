/-
  Contract of the model's FormatInt: the decimal text of every int.
-/
import Derived.Test.YteaaobklfhlgiaaDoorFigure
import Derived.Test.YteaaobklfhlgiaaDoorFmtMath
namespace Go.Proofs.YteaaobklfhlgiaaDoor
open Go Go.RowKit

/-- one text, and nothing that was there is written -/
def TextIs (s : ByteArray) (w : World) (e : Ending) (w' : World) : Prop := e = .returned (.string s) ∧ Below w.heap.size w w'

theorem specFormat_zero (w : World) :
    Calls Tryd.prog 28 #[.int .i64 0] w (TextIs ⟨#[48]⟩ w) := by
  go_enter Tryd.func28, Tryd.ntmps28
  go_wp2
  go_ret
  exact ⟨rfl, Below.refl _ _⟩

/-- the digits that are still to come and those that are there make the whole -/
def Rest (u0 u : Nat) (t : List UInt8) : Prop := decD u0 = decD u ++ t
theorem rest_step {u0 u : Nat} {t : List UInt8} (h : Rest u0 u t) (hu : u ≠ 0) : Rest u0 (u / 10) (UInt8.ofNat (48 + u % 10) :: t) := by
  unfold Rest at h ⊢; rw [h, decD_step u hu, List.append_assoc]; rfl
theorem rest_end {u0 : Nat} {t : List UInt8} (h : Rest u0 0 t) (h0 : u0 ≠ 0) : Go.Lib.decDigits u0 = t := by
  unfold Rest at h
  have e : decD u0 = Go.Lib.decDigits u0 := by unfold decD; rw [if_neg h0]
  rw [← e, h]; rfl

theorem rest_len {u0 u : Nat} {t : List UInt8} (h : Rest u0 u t) (hm : u0 ≤ 9223372036854775808) : t.length ≤ 1000000000000000000 := by
  unfold Rest at h
  have h1 : t.length ≤ (decD u0).length := by rw [h, List.length_append]; omega
  have h2 : (decD u0).length ≤ u0 / 10 + 2 := by
    unfold decD; split
    · simp
    · exact decDigits_length u0
  omega

set_option maxHeartbeats 1000000 in
theorem specFormat_pos (u0 : Nat) (w : World) (h0 : u0 ≠ 0) (hm : u0 ≤ 9223372036854775807) :
    Calls Tryd.prog 28 #[.int .i64 (u0 : Int)] w (TextIs ⟨(Go.Lib.decDigits u0).toArray⟩ w) := by
  have H0 := Lib.hid h0
  have HM := Lib.hid hm
  have z1 : ((u0 : Int) == 0) = false := by simp; omega
  have z2 : ¬ (u0 : Int) < 0 := by omega
  clear h0 hm
  go_enter Tryd.func28, Tryd.ntmps28
  go_wp2
  clear z1 z2
  go_loopw [0, 4] (fun n s wr => ∃ (u : Nat) (t : List UInt8), u ≤ 9223372036854775807 ∧ n = .int .i64 (u : Int) ∧ s = .string ⟨t.toArray⟩ ∧ Rest u0 u t ∧ Below w.heap.size w wr) (fun n _ _ => (intOf n).toNat)
  case atStart => exact ⟨u0, [], HM.out, rfl, rfl, by unfold Rest; rw [List.append_nil], Below.refl _ _⟩
  case round =>
    obtain ⟨u, t, hu, rfl, rfl, hr, hbel⟩ := hrel
    have HR := Lib.hid hr
    have HB := Lib.hid hbel
    have hsz := hbel.size
    clear hr hbel
    by_cases hz : u = 0
    · subst hz
      go_wp2
      go_ret
      exact ⟨ret_str (by rw [rest_end HR.out H0.out]), HB.out⟩
    · have hz1 : ((u : Int) == 0) = false := by simp; omega
      have hz2 : ((u : Int) != 0) = true := by simp; omega
      have HZ := Lib.hid hz
      clear hz
      have hs1 : (strOfNums [figI ((u : Int) % 10)]).size = 1 := strOfNums_size _
      have hlen := rest_len HR.out (by have := HM.out; omega)
      have hd : ¬ (u : Int) % 10 < 0 := by omega
      have hcv := conv_one (P := Tryd.prog) wr 5 22 9 (figI ((u : Int) % 10)) Tryd.underlying22 Tryd.underlying5 Tryd.underlying9
      go_wp2_with (go_at_call 35; refine (figure_any _ _ (by omega) (by omega)).mono ?_; rintro e w' ⟨rfl, rfl⟩)
      refine ⟨⟨u / 10, _, by omega, rfl, by rw [digit_front], rest_step HR.out HZ.out, HB.out.alloc hsz _⟩, by have := HZ.out; simp [intOf]; omega⟩

theorem minus_front (t : List UInt8) : ({ data := #[45] } : ByteArray) ++ (⟨t.toArray⟩ : ByteArray) = ⟨(45 :: t).toArray⟩ := by
  apply ByteArray.ext
  simp

set_option maxHeartbeats 1000000 in
theorem specFormat_neg (u0 : Nat) (w : World) (h0 : u0 ≠ 0) (hm : u0 ≤ 9223372036854775808) :
    Calls Tryd.prog 28 #[.int .i64 (-(u0 : Int))] w (TextIs ⟨(45 :: Go.Lib.decDigits u0).toArray⟩ w) := by
  have H0 := Lib.hid h0
  have HM := Lib.hid hm
  obtain ⟨n, hn⟩ : ∃ n : Int, n = -(u0 : Int) := ⟨_, rfl⟩
  have HN := Lib.hid hn
  rw [← hn]
  have z1 : (n == 0) = false := by simp; omega
  have z2 : n < 0 := by omega
  clear h0 hm hn
  go_enter Tryd.func28, Tryd.ntmps28
  go_wp2
  clear z1
  go_loopw [0, 4] (fun n s wr => ∃ (u : Nat) (m : Int) (t : List UInt8), u ≤ 9223372036854775808 ∧ m = -(u : Int) ∧ n = .int .i64 m ∧ s = .string ⟨t.toArray⟩ ∧ Rest u0 u t ∧ Below w.heap.size w wr) (fun n _ _ => (-(intOf n)).toNat)
  case atStart => exact ⟨u0, n, [], HM.out, HN.out, rfl, rfl, by unfold Rest; rw [List.append_nil], Below.refl _ _⟩
  case round =>
    obtain ⟨u, m, t, hu, hm, rfl, rfl, hr, hbel⟩ := hrel
    have HR := Lib.hid hr
    have HB := Lib.hid hbel
    have HMU := Lib.hid hm
    have HU := Lib.hid hu
    have hsz := hbel.size
    have hlen := rest_len HR.out HM.out
    clear hr hbel
    by_cases hz : u = 0
    · have hm0 : m = 0 := by omega
      subst hm0
      subst hz
      clear hm hu
      go_wp2
      go_ret
      exact ⟨ret_str (by rw [rest_end HR.out H0.out]; exact minus_front t), HB.out⟩
    · obtain ⟨d, hd⟩ : ∃ d : Int, d = (u : Int) % 10 := ⟨_, rfl⟩
      have HD := Lib.hid hd
      have hz1 : (m == 0) = false := by simp; omega
      have hz2 : (m != 0) = true := by simp; omega
      have HZ := Lib.hid hz
      have hrem : m.tmod 10 = -d := by rw [hm, hd, Int.neg_tmod, Int.tmod_eq_emod_of_nonneg (by omega)]
      obtain ⟨q, hq⟩ : ∃ q : Int, q = -((u : Int) / 10) := ⟨_, rfl⟩
      have HQ := Lib.hid hq
      have hquo : m.tdiv 10 = q := by rw [hm, hq, Int.neg_tdiv, Int.tdiv_eq_ediv_of_nonneg (by omega)]
      have hq0 : q ≤ 0 := by omega
      have hq1 : -9223372036854775808 ≤ q := by omega
      have hd0 : 0 ≤ d := by omega
      have hd9 : d ≤ 9 := by omega
      clear hz hd hq hm hu
      have hs1 : (strOfNums [figI d]).size = 1 := strOfNums_size _
      have hcv := conv_one (P := Tryd.prog) wr 5 22 9 (figI d) Tryd.underlying22 Tryd.underlying5 Tryd.underlying9
      by_cases hdz : d = 0
      · subst hdz
        go_wp2_with (go_at_call 35; refine (figure_any 0 _ (by omega) (by omega)).mono ?_; rintro e w' ⟨rfl, rfl⟩)
        refine ⟨⟨u / 10, q, _, by have := HU.out; omega, by have := HQ.out; omega, rfl, by have e := digit_front u t; rw [← HD.out] at e; rw [e], rest_step HR.out HZ.out, HB.out.alloc hsz _⟩, ?_⟩
        have h1 := HQ.out
        have h2 := HMU.out
        have h3 := HZ.out
        simp [intOf]; omega
      · have hdp : 0 < d := by omega
        go_wp2_with (go_at_call 35; refine (figure_any _ _ (by omega) (by omega)).mono ?_; rintro e w' ⟨rfl, rfl⟩)
        refine ⟨⟨u / 10, q, _, by have := HU.out; omega, by have := HQ.out; omega, rfl, by have e := digit_front u t; rw [← HD.out] at e; rw [e], rest_step HR.out HZ.out, HB.out.alloc hsz _⟩, ?_⟩
        have h1 := HQ.out
        have h2 := HMU.out
        have h3 := HZ.out
        simp [intOf]; omega

/-- the decimal text of every int -/
theorem specFormat_any (n : Int) (w : World) (h0 : -9223372036854775808 ≤ n) (h1 : n ≤ 9223372036854775807) :
    Calls Tryd.prog 28 #[.int .i64 n] w (TextIs ⟨(Go.Lib.itoa n).toArray⟩ w) := by
  unfold Go.Lib.itoa
  by_cases hn : n < 0
  · rw [if_pos hn]
    have e : n = -((n.natAbs : Nat) : Int) := by omega
    have := specFormat_neg n.natAbs w (by omega) (by omega)
    rw [← e] at this; exact this
  · rw [if_neg hn]
    by_cases hz : n = 0
    · subst hz
      have := specFormat_zero w
      rw [show (0 : Int).toNat = 0 from rfl, Go.Lib.decDigits, dif_pos (by omega)]
      exact this
    · have e : n = ((n.toNat : Nat) : Int) := by omega
      have := specFormat_pos n.toNat w (by omega) (by omega)
      rw [← e] at this; exact this

end Go.Proofs.YteaaobklfhlgiaaDoor
