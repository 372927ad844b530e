/-
  The walk of FnFields, over contracts of the program's bit fields.
-/
import Derived.Test.YteaaobklfhlgiaaBitsSpec
import Derived.Test.YteaaobklfhlgiaaDrawField
import Derived.Test.YteaaobklfhlgiaaBig
import Derived.Deep.RegionWith
namespace Go.Proofs.Yteaaobklfhlgiaa
open Go Go.RowKit

/-- what the law needs of the program's functions at these numbers -/
structure FieldFacts (x low wd v Y F o1 o2 p1 S R : Int) : Prop where
  with1 : ∀ W : World, Calls Try.prog 17 #[.int .i64 x, .int .i64 low, .int .i64 wd, .int .i64 v] W (Ans (.tuple #[.int .i64 Y, .bool true]) W)
  field1 : ∀ W : World, Calls Try.prog 18 #[.int .i64 x, .int .i64 low, .int .i64 wd] W (Ans (.int .i64 F) W)
  with2 : ∀ W : World, Calls Try.prog 17 #[.int .i64 Y, .int .i64 low, .int .i64 wd, .int .i64 F] W (Ans (.tuple #[.int .i64 x, .bool true]) W)
  field2 : ∀ W : World, Calls Try.prog 18 #[.int .i64 Y, .int .i64 low, .int .i64 wd] W (Ans (.int .i64 v) W)
  count1 : ∀ W : World, Calls Try.prog 20 #[.int .i64 x] W (Ans (.int .i64 o1) W)
  count2 : ∀ W : World, Calls Try.prog 20 #[.int .i64 F] W (Ans (.int .i64 o2) W)
  ones : o2 ≤ o1
  round : ∀ W : World, Calls Try.prog 19 #[.int .i64 p1, .int .i64 S] W (Ans (.int .i64 R) W)
  least : p1 ≤ R
  next : R < p1 + S
  whole : R % S = 0
  power : ∀ W : World, Calls Try.prog 21 #[.int .i64 S] W (Ans (.bool true) W)

theorem pow_wrap (k : Nat) (hk : k ≤ 62) : IntKind.i64.wrap (2 ^ k) = ((2 ^ k : Nat) : Int) := by rw [IntWalk.i64_left]; exact pow_val k hk

theorem pow_small (j m : Nat) (h : j ≤ m) (_hm : m ≤ 20) : 1 ≤ ((2 ^ j : Nat) : Int) ∧ ((2 ^ j : Nat) : Int) ≤ ((2 ^ m : Nat) : Int) := by
  have h1 : 1 ≤ (2 : Nat) ^ j := Nat.one_le_two_pow
  have h2 : (2 : Nat) ^ j ≤ 2 ^ m := Nat.pow_le_pow_right (by omega) h
  omega

set_option maxRecDepth 4000 in
set_option maxHeartbeats 4000000 in
theorem walk_fields (all : ∀ (x low wd p1 j : Nat) (v S : Int), x ≤ 65535 → low ≤ 15 → 1 ≤ wd → wd + low ≤ 16 → 0 ≤ v → v < ((2 ^ wd : Nat) : Int) → p1 < 10000 → j ≤ 7 → S = ((2 ^ j : Nat) : Int) → ∃ Y F o1 o2 R : Int, FieldFacts x low wd v Y F o1 o2 p1 S R)
    (a : Option Addr) (len cap : Nat) (zs : List Int) (w : World) (hB : Bytes w a len zs) :
    Calls Try.prog 3 #[.slice a len cap] w fun e w' => e = .returned (.bool true) ∧ Below w.heap.size w w' := by
  have HB := Lib.hid hB
  have HALL := Lib.hid all
  clear hB all
  by_cases hbig : (1048576 : Int) < (len : Int)
  · go_enter Try.func3, Try.ntmps3
    go_wp2
    go_ret
    exact ⟨rfl, Below.refl _ _⟩
  · go_enter Try.func3, Try.ntmps3
    go_wp2_with fail
    go_at_call 14
    refine (big_any _ _ _ _).mono ?_
    rintro e w1 ⟨rfl, rfl⟩
    go_wp2_with fail
    go_at_call 15
    refine (drawField_any _ _ _ _ _ HB.out (by omega)).mono ?_
    rintro e w1 ⟨x, low, wd, hx, hlow, hw1, hw2, rfl, G1⟩
    have HG1 := Lib.hid G1
    have HB1 := Lib.hid (show Bytes w1 a len zs from by
      rcases HB.out with h0 | ⟨b, off, ha, hk⟩
      · exact .inl h0
      · exact .inr ⟨b, off, ha, fun k hlt => ⟨G1.cell (hk k hlt).1 (by simp), (hk k hlt).2⟩⟩)
    clear G1
    go_wp2_with fail
    go_at_call 16
    refine (drawPlaces_any _ _ _ _ _ HB1.out (by omega)).mono ?_
    rintro e w2 ⟨pv, ps, rfl, hpl, hpb, hown, G2⟩
    have HG2 := Lib.hid (gby_trans HG1.out G2)
    clear G2
    obtain ⟨g, cp, rfl⟩ : ∃ g cp, pv = .slice (some ⟨g, 0, none⟩) 12 cp := by
      rcases hown.2 with ⟨_, h0⟩ | ⟨g, cp, cur, rfl, _⟩
      · omega
      · exact ⟨g, cp, rfl⟩
    have c0 := hown.cellAt 0 (by omega)
    have c1 := hown.cellAt 1 (by omega)
    have c2 := hown.cellAt 2 (by omega)
    obtain ⟨p0, p1, p2, rest, rfl⟩ : ∃ p0 p1 p2 rest, ps = p0 :: p1 :: p2 :: rest := by
      match ps, hpl with
      | p0 :: p1 :: p2 :: rest, _ => exact ⟨p0, p1, p2, rest, rfl⟩
    have c0' : w2.cell? ⟨g, 0, none⟩ = some (.int .i64 p0) := c0
    have c1' : w2.cell? ⟨g, 1, none⟩ = some (.int .i64 p1) := c1
    have c2' : w2.cell? ⟨g, 2, none⟩ = some (.int .i64 p2) := c2
    have b0 := hpb p0 (by simp)
    have b1 := hpb p1 (by simp)
    have b2 := hpb p2 (by simp)
    clear c0 c1 c2 hown hpb hpl
    obtain ⟨q1, rfl⟩ : ∃ q1 : Nat, p1 = q1 := ⟨p1.toNat, by omega⟩
    obtain ⟨j, hj⟩ : ∃ j : Nat, p2 % 8 = (j : Int) := ⟨(p2 % 8).toNat, by omega⟩
    have hj7 : j ≤ 7 := by omega
    obtain ⟨S, hS⟩ : ∃ S : Int, S = ((2 ^ j : Nat) : Int) := ⟨_, rfl⟩
    have hS1 : 1 ≤ S ∧ S ≤ 128 := by rw [hS]; exact pow_small j 7 hj7 (by omega)
    have HSV := Lib.hid (show IntKind.i64.wrap (2 ^ j) = S from by rw [hS]; exact pow_wrap j (by omega))
    obtain ⟨Q, hQ⟩ : ∃ Q : Int, Q = ((2 ^ wd : Nat) : Int) := ⟨_, rfl⟩
    have hQ1 : 1 ≤ Q ∧ Q ≤ 65536 := by rw [hQ]; exact pow_small wd 16 (by omega) (by omega)
    have HQV := Lib.hid (show IntKind.i64.wrap (2 ^ wd) = Q from by rw [hQ]; exact pow_wrap wd (by omega))
    have HQ := Lib.hid hQ
    have HSE := Lib.hid hS
    clear hQ hS
    have hv0 : 0 ≤ p0 % Q ∧ p0 % Q < Q := ⟨Int.emod_nonneg _ (by omega), Int.emod_lt_of_pos _ (by omega)⟩
    obtain ⟨Y, F, o1, o2, R, hf⟩ := HALL.out x low wd q1 j (p0 % Q) S hx hlow hw1 hw2 hv0.1 (by rw [← HQ.out]; exact hv0.2) (by omega) hj7 HSE.out
    have HW1 := Lib.hid hf.with1
    have HF1 := Lib.hid hf.field1
    have HW2 := Lib.hid hf.with2
    have HF2 := Lib.hid hf.field2
    have HC1 := Lib.hid hf.count1
    have HC2 := Lib.hid hf.count2
    have HR := Lib.hid hf.round
    have HP := Lib.hid hf.power
    have f1 := hf.ones
    have f2 := hf.least
    have f3 := hf.next
    have f4 := hf.whole
    obtain ⟨s1, s2⟩ := hS1
    obtain ⟨q3, q4⟩ := hQ1
    obtain ⟨a1, a2⟩ := b0
    obtain ⟨a3, a4⟩ := b1
    obtain ⟨a5, a6⟩ := b2
    have i3 : (0 : Int) ≤ (wd : Int) := by omega
    have i5 : (wd : Int) ≤ 64 := by omega
    have n2 : ((wd : Int)).toNat = wd := by omega
    have i6 : (0 : Int) ≤ (j : Int) := by omega
    have i7 : (j : Int) ≤ 64 := by omega
    have n3 : ((j : Int)).toNat = j := by omega
    have hz : (S == 0) = false := by simp; omega
    have hzq : (Q == 0) = false := by simp; omega
    clear hf
    have hQv := HQV.out
    go_wp2_with fail
    go_quiet (fail)
    rename_i nq
    clear hQv
    go_wp2_with fail
    go_at_call 17
    refine (HW1.out _).mono ?_
    rintro e w3 ⟨rfl, d3⟩
    have D3 := Lib.hid d3
    clear d3
    go_wp2_with fail
    go_at_call 18
    refine (HF1.out _).mono ?_
    rintro e w4 ⟨rfl, d4⟩
    have D4 := Lib.hid (D3.out.trans d4)
    clear d4
    go_wp2_with fail
    go_at_call 17
    refine (HW2.out _).mono ?_
    rintro e w5 ⟨rfl, d5⟩
    have D5 := Lib.hid (D4.out.trans d5)
    clear d5
    have g5 := D5.out.gby none
    have c1'' := g5.cell (show (w2.drewN nq).cell? ⟨g, 1, none⟩ = some (.int .i64 (q1 : Int)) from c1') (by simp)
    have c2'' := g5.cell (show (w2.drewN nq).cell? ⟨g, 2, none⟩ = some (.int .i64 p2) from c2') (by simp)
    have HG5 := Lib.hid (gby_trans (gby_drewN HG2.out nq) g5)
    clear g5 c0' c1' c2'
    have hn0 : S ≠ 0 := by omega
    have hr0 : 0 ≤ R := by omega
    have hr1 : R ≤ 20000 := by omega
    have hsum : IntKind.i64.wrap ((q1 : Int) + S) = (q1 : Int) + S := IntWalk.i64_in _ (by omega)
    have hSv := HSV.out
    have hj2 : p2.tmod 8 = (j : Int) := by rw [Int.tmod_eq_emod_of_nonneg a5]; exact hj
    have f5 : R.tmod S = 0 := by rw [Int.tmod_eq_emod_of_nonneg (by omega)]; exact f4
    go_wp2_with fail
    go_quiet ((go_at_call 19; exact ans_quiet HR.out))
    go_wp2_with fail
    go_quiet ((first
      | (go_at_call_of 18 (Value.int .i64 Y); exact ans_quiet_at HF2.out)
      | (go_at_call_of 18 (Value.int .i64 (x : Int)); exact ans_quiet_at HF1.out)
      | (go_at_call_of 20 (Value.int .i64 (x : Int)); exact ans_quiet_at HC1.out)
      | (go_at_call_of 20 (Value.int .i64 F); exact ans_quiet_at HC2.out)
      | (go_at_call 21; exact ans_quiet_at HP.out)))
    go_wp2
    go_ret
    exact ⟨rfl, gby_below (by repeat (first | exact HG5.out | apply gby_drewN))⟩

end Go.Proofs.Yteaaobklfhlgiaa
