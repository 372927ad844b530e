/-
  Contracts of the model's bit fields.
-/
import Derived.Test.YtnighnkkeiegnabProg
import Derived.Test.YtnighnkkeiegnabBitsMath
import Derived.LoopTactic
import Derived.Laws.Shifts
import Derived.Deep.QuietTactic
import Derived.BigQuiet
import Derived.IntWalk
namespace Go.Proofs.Ytnighnkkeiegnab
open Go Go.RowKit

/-- nothing but draws -/
def Drew (w w' : World) : Prop := ∃ n : Nat, w' = w.drewN n
theorem Drew.gby {w w' : World} (h : Drew w w') (r : Option Nat) : w.grownBy w' r := by obtain ⟨n, rfl⟩ := h; exact gby_drewN (gby_refl _ _) n
theorem Drew.refl (w : World) : Drew w w := ⟨0, rfl⟩
theorem Drew.trans {a b c : World} (h : Drew a b) (k : Drew b c) : Drew a c := by
  obtain ⟨n, rfl⟩ := h; obtain ⟨m, rfl⟩ := k; exact ⟨n + m, by simp [World.drewN, Nat.add_assoc]⟩
theorem Drew.drewN {a b : World} (h : Drew a b) (n : Nat) : Drew a (b.drewN n) := h.trans ⟨n, rfl⟩
/-- an answer, and nothing but draws -/
def Ans (v : Value) (w : World) (e : Ending) (w' : World) : Prop := e = .returned v ∧ Drew w w'

theorem ans_quiet {P : Program} {f : FuncId} {args : Array Value} {w : World} {n : Nat} {v : Value} (h : ∀ W : World, Calls P f args W (Ans v W)) : Calls P f args (w.drewN n) fun e w'' => e = .returned v ∧ ∃ m, w'' = w.drewN m := Calls.quiet_of (h (w.drewN n))

theorem ans_quiet_at {P : Program} {f : FuncId} {args : Array Value} {w : World} {n x : Nat} {v : Value} (h : ∀ W : World, Calls P f args W (Ans v W)) : Calls P f args (w.drewN (n + x)) fun e w'' => e = .returned v ∧ ∃ m, w'' = w.drewN (n + m) :=
  (h _).mono fun _ _ ⟨he, m, hm⟩ => ⟨he, x + m, by rw [hm]; simp [World.drewN, Nat.add_assoc]⟩

/-- the field fits the word -/
def FitsF (x low w : Int) : Prop := 0 ≤ x ∧ x ≤ 65535 ∧ 0 ≤ low ∧ low ≤ 15 ∧ 1 ≤ w ∧ w ≤ 16 - low

theorem ret_bool {b c : Bool} (h : b = c) : Ending.returned (.bool b) = .returned (.bool c) := by rw [h]

theorem ret_ib {a b : Int} (h : a = b) (c : Bool) : Ending.returned (.tuple #[.int .i64 a, .bool c]) = .returned (.tuple #[.int .i64 b, .bool c]) := by rw [h]

theorem in_any (x a b : Int) (W : World) : Calls Try.prog 81 #[.int .i64 x, .int .i64 a, .int .i64 b] W fun e w' => e = .returned (.bool (decide (a ≤ x) && decide (x ≤ b))) ∧ W = w' := by
  by_cases h1 : a ≤ x
  · by_cases h2 : x ≤ b
    · go_enter Try.func81, Try.ntmps81
      go_wp2
      go_ret
      exact ⟨by simp [h1, h2], rfl⟩
    · go_enter Try.func81, Try.ntmps81
      go_wp2
      go_ret
      exact ⟨ret_bool (by simp; omega), rfl⟩
  · go_enter Try.func81, Try.ntmps81
    go_wp2
    go_ret
    exact ⟨ret_bool (by simp; omega), rfl⟩

theorem field_bits (x low w : Nat) (hx : x ≤ 65535) (hw : w ≤ 16) : bits .and .i64 ((x : Int) / 2 ^ low) (wrap64 (wrap64 (2 ^ w) - 1)) = (getF x low w : Int) := by
  have hp : (2 : Nat) ^ w ≤ 2 ^ 16 := Nat.pow_le_pow_right (by omega) hw
  have h1 : 1 ≤ (2 : Nat) ^ w := Nat.one_le_two_pow
  have e1 : (2 : Int) ^ w = ((2 ^ w : Nat) : Int) := by rw [Int.natCast_pow]; rfl
  have e2 : (x : Int) / 2 ^ low = ((x / 2 ^ low : Nat) : Int) := by rw [Int.natCast_ediv, Int.natCast_pow]; rfl
  have hd : x / 2 ^ low ≤ x := Nat.div_le_self _ _
  have e3 : wrap64 ((2 ^ w : Nat) : Int) = ((2 ^ w : Nat) : Int) := IntWalk.wrap64_in _ (by omega)
  rw [e1, e2, e3, IntWalk.wrap64_in _ (by omega), show ((2 ^ w : Nat) : Int) - 1 = ((2 ^ w - 1 : Nat) : Int) by omega, mask_nat _ w (by omega) (by omega)]
  rfl

theorem in_yes (x a b : Int) (W : World) (h1 : a ≤ x) (h2 : x ≤ b) : Calls Try.prog 81 #[.int .i64 x, .int .i64 a, .int .i64 b] W fun e w' => e = .returned (.bool true) ∧ W = w' := by
  refine (in_any x a b W).mono ?_
  rintro e w' ⟨rfl, rfl⟩
  exact ⟨ret_bool (by simp [h1, h2]), rfl⟩
theorem in_no (x a b : Int) (W : World) (h : x < a ∨ b < x) : Calls Try.prog 81 #[.int .i64 x, .int .i64 a, .int .i64 b] W fun e w' => e = .returned (.bool false) ∧ W = w' := by
  refine (in_any x a b W).mono ?_
  rintro e w' ⟨rfl, rfl⟩
  exact ⟨ret_bool (by simp; omega), rfl⟩

theorem mask_val (w : Nat) (hw : w ≤ 16) : wrap64 (wrap64 (2 ^ w) - 1) = ((2 ^ w - 1 : Nat) : Int) := by
  have hp : (2 : Nat) ^ w ≤ 2 ^ 16 := Nat.pow_le_pow_right (by omega) hw
  have h1 : 1 ≤ (2 : Nat) ^ w := Nat.one_le_two_pow
  have e1 : (2 : Int) ^ w = ((2 ^ w : Nat) : Int) := by rw [Int.natCast_pow]; rfl
  have e3 : wrap64 ((2 ^ w : Nat) : Int) = ((2 ^ w : Nat) : Int) := IntWalk.wrap64_in _ (by omega)
  rw [e1, e3, IntWalk.wrap64_in _ (by omega)]; omega

theorem with_bits (x low w v : Nat) (hx : x ≤ 65535) (hv : v < 2 ^ w) (h : low + w ≤ 16) :
    bits .or .i64 (bits .andNot .i64 (x : Int) (wrap64 (wrap64 (wrap64 (2 ^ w) - 1) * 2 ^ low))) (wrap64 ((v : Int) * 2 ^ low)) = (setF x low w v : Int) := by
  have hw : (2 : Nat) ^ w ≤ 2 ^ 16 := Nat.pow_le_pow_right (by omega) (by omega)
  have hl : (2 : Nat) ^ low ≤ 2 ^ 16 := Nat.pow_le_pow_right (by omega) (by omega)
  have e1 : (2 : Int) ^ low = ((2 ^ low : Nat) : Int) := by rw [Int.natCast_pow]; rfl
  have hM : (2 ^ w - 1) * 2 ^ low ≤ 2 ^ 16 * 2 ^ 16 := Nat.mul_le_mul (by omega) hl
  have hV : v * 2 ^ low ≤ 2 ^ 16 * 2 ^ 16 := Nat.mul_le_mul (by omega) hl
  have hA : x &&& (2 ^ 64 - ((2 ^ w - 1) * 2 ^ low + 1)) ≤ x := Nat.and_le_left
  rw [mask_val w (by omega), e1, ← Int.natCast_mul, ← Int.natCast_mul, IntWalk.wrap64_in _ (by omega), IntWalk.wrap64_in _ (by omega), andNot_nat _ _ (by omega) (by omega), or_nat _ _ (by omega) (by omega), setF_bits x low w v (by omega) hv h]

theorem onesTo_le (x : Nat) : ∀ k, onesTo x k ≤ k := by
  intro k; induction k with
  | zero => exact Nat.le_refl _
  | succ k ih => show onesTo x k + x / 2 ^ k % 2 ≤ k + 1; omega

theorem bit_val (x k : Nat) (hx : x ≤ 65535) : bits .and .i64 ((x : Int) / 2 ^ k) 1 = ((x / 2 ^ k % 2 : Nat) : Int) := by
  have hd : x / 2 ^ k ≤ x := Nat.div_le_self _ _
  have e2 : (x : Int) / 2 ^ k = ((x / 2 ^ k : Nat) : Int) := by rw [Int.natCast_ediv, Int.natCast_pow]; rfl
  rw [e2]
  have := mask_nat (x / 2 ^ k) 1 (by omega) (by omega)
  simpa using this

/-- a power of two up to the twentieth -/
def IsPow (x : Int) : Prop := ∃ k : Nat, k ≤ 20 ∧ x = ((2 ^ k : Nat) : Int)

theorem pow_val (k : Nat) (hk : k ≤ 62) : wrap64 (2 ^ k) = ((2 ^ k : Nat) : Int) := by
  have hp : (2 : Nat) ^ k ≤ 2 ^ 62 := Nat.pow_le_pow_right (by omega) hk
  rw [show (2 : Int) ^ k = ((2 ^ k : Nat) : Int) by rw [Int.natCast_pow]; rfl]
  generalize (2 : Nat) ^ k = p at hp ⊢
  exact IntWalk.wrap64_in _ (by omega)

/-- the least multiple of s that is at least x -/
def upTo (x s : Int) : Int := (x + s - 1) / s * s

theorem pow_bounds {s : Int} (h : IsPow s) : 1 ≤ s ∧ s ≤ 1048576 := by
  obtain ⟨k, hk, rfl⟩ := h
  have h1 : 1 ≤ (2 : Nat) ^ k := Nat.one_le_two_pow
  have h2 : (2 : Nat) ^ k ≤ 2 ^ 20 := Nat.pow_le_pow_right (by omega) hk
  omega

theorem upTo_le (x s : Int) (h0 : 0 ≤ x) (h1 : 1 ≤ s) : 0 ≤ upTo x s ∧ upTo x s ≤ x + s - 1 ∧ x ≤ upTo x s ∧ (x + s - 1) / s ≤ x + s - 1 ∧ 0 ≤ (x + s - 1) / s := by
  unfold upTo
  have a := Int.ediv_mul_le (x + s - 1) (show s ≠ 0 by omega)
  have b := Int.lt_ediv_add_one_mul_self (x + s - 1) (show 0 < s by omega)
  have c : 0 ≤ (x + s - 1) / s := Int.ediv_nonneg (by omega) (by omega)
  have d : 0 ≤ (x + s - 1) / s * s := Int.mul_nonneg c (by omega)
  have e := Int.ediv_le_self s (show 0 ≤ x + s - 1 by omega)
  rw [Int.add_mul] at b
  refine ⟨d, by omega, by omega, e, c⟩

end Go.Proofs.Ytnighnkkeiegnab
