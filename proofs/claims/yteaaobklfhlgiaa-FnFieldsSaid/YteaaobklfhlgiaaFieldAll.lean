/-
  What FnFields needs of the program's functions, at all drawn numbers.
-/
import Derived.Test.YteaaobklfhlgiaaFieldLaw
import Derived.Test.YteaaobklfhlgiaaBits3Impl
import Derived.Test.YteaaobklfhlgiaaBits4Impl
namespace Go.Proofs.Yteaaobklfhlgiaa
open Go Go.RowKit

theorem all_fields (x low wd p1 j : Nat) (v S : Int) (hx : x ≤ 65535) (hl : low ≤ 15) (h1 : 1 ≤ wd) (h2 : wd + low ≤ 16) (hv0 : 0 ≤ v) (hv1 : v < ((2 ^ wd : Nat) : Int)) (hp : p1 < 10000) (hj : j ≤ 7) (hS : S = ((2 ^ j : Nat) : Int)) :
    ∃ Y F o1 o2 R : Int, FieldFacts x low wd v Y F o1 o2 p1 S R := by
  obtain ⟨n, rfl⟩ : ∃ n : Nat, v = n := ⟨v.toNat, by omega⟩
  have hn : n < 2 ^ wd := by omega
  have hP : IsPow S := ⟨j, by omega, hS⟩
  obtain ⟨s1, s2⟩ := pow_bounds hP
  have hY : setF x low wd n ≤ 65535 := by have := setF_lt x low wd n 16 (by omega) hn (by omega); omega
  have hF : getF x low wd < 2 ^ wd := getF_lt x low wd
  have hF2 : getF x low wd ≤ 65535 := by
    have : (2 : Nat) ^ wd ≤ 2 ^ 16 := Nat.pow_le_pow_right (by omega) (by omega)
    omega
  obtain ⟨u0, u1, u2, _, _⟩ := upTo_le (p1 : Int) S (by omega) s1
  refine ⟨(setF x low wd n : Int), (getF x low wd : Int), (onesTo x 16 : Int), (onesTo (getF x low wd) 16 : Int), upTo p1 S, ?_, ?_, ?_, ?_, ?_, ?_, ?_, ?_, u2, ?_, ?_, ?_⟩
  · exact fun W => implWithField_in x low wd n W hx hl h1 h2 hn
  · exact fun W => implFieldOf_in x low wd W hx hl h1 h2
  · intro W
    have := implWithField_in (setF x low wd n) low wd (getF x low wd) W hY hl h1 h2 hF
    rw [setF_back x low wd n hn] at this
    exact this
  · intro W
    have := implFieldOf_in (setF x low wd n) low wd W hY hl h1 h2
    rw [getF_setF x low wd n hn] at this
    exact this
  · exact fun W => implCount_in x W hx
  · exact fun W => implCount_in (getF x low wd) W hF2
  · have := ones_field x low wd (by omega); omega
  · exact fun W => implRound_in _ _ W (by omega) (by omega) hP
  · omega
  · unfold upTo; exact Int.mul_emod_left _ _
  · exact fun W => implPower_yes S W hP

end Go.Proofs.Yteaaobklfhlgiaa
