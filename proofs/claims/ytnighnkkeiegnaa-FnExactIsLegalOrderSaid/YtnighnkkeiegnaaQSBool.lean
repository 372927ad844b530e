/-
  Slices of truth values as shapes: the law's functions on them.
-/
import Derived.Test.YtnighnkkeiegnaaShpI
import Derived.Test.YtnighnkkeiegnaaBitsSpec
import Derived.Deep.QuietTactic
namespace Go.Proofs.Ytnighnkkeiegnaa
open Go Go.RowKit
set_option linter.unusedVariables false

set_option maxRecDepth 100000 in
theorem infoBool : (Try.prog.info? 4).map (fun i => (i.zero, i.size, i.bytes)) = some (some (.bool false), 1, 1) := by kernel_rfl

theorem szL_B (xs : List Bool) : szL shB xs = xs.length := by
  unfold szL
  have : (xs.map shB.size).sum = 0 := by induction xs with | nil => rfl | cons x xs ih => simpa [shB] using ih
  omega
theorem ecL_B (xs : List Bool) : ecL shB xs = xs.length := by
  unfold ecL
  induction xs with | nil => rfl | cons x xs ih => simp only [List.map_cons, List.sum_cons, ih, List.length_cons]; show 1 + _ = _; omega
theorem emL_B (m : Nat) (xs : List Bool) (k : Nat) (hk : k < xs.length) : (emL shB m xs).getD k false = ((m + k) % 3 == 0) := by
  have := emL_getD shB m xs k hk
  rw [ecL_B, List.length_take, Nat.min_eq_left (by omega)] at this
  exact this

/-- truth values, read -/
def RdB (w : World) (a : Option Addr) (xs : List Bool) : Prop := xs.length = 0 ∨ ∃ b off, a = some ⟨b, off, none⟩ ∧ ∀ k, k < xs.length → w.cell? ⟨b, off + k, none⟩ = some (.bool (xs.getD k false))
theorem rdB_in {w : World} {v : Value} {xs : List Bool} (H : RdL shB w v xs) : ∃ a cap, v = .slice a xs.length cap ∧ CapOk a xs.length cap ∧ RdB w a xs := by
  obtain ⟨a, cap, rfl, hc, _, h⟩ := H
  refine ⟨a, cap, rfl, hc, ?_⟩
  rcases h with h0 | ⟨b, off, ha, h⟩
  · exact .inl h0
  · refine .inr ⟨b, off, ha, fun k hk => ?_⟩
    obtain ⟨cs, h1, h2⟩ := h k hk
    obtain rfl : cs = [.bool (xs.getD k false)] := h2
    have := at_one h1
    rwa [show shB.n = 1 from rfl, Nat.mul_one] at this
/-- .. owned -/
def OwB (w : World) (a : Option Addr) (xs : List Bool) : Prop := xs.length = 0 ∨ ∃ b off C t, a = some ⟨b, off, none⟩ ∧ w.heap[b]? = some (.cells C t (0, 0)) ∧ ∀ k, k < xs.length → C[off + k]? = some (.bool (xs.getD k false))
theorem owB_in {w : World} {lo hi : Nat} {v : Value} {xs : List Bool} (H : OwL shB w lo hi v xs) : ∃ a cap, v = .slice a xs.length cap ∧ CapOk a xs.length cap ∧ (∀ p, a = some p → lo ≤ p.block ∧ p.block < hi) ∧ OwB w a xs := by
  obtain ⟨a, cap, rfl, hc, _, hp, h⟩ := H
  refine ⟨a, cap, rfl, hc, hp, ?_⟩
  rcases h with h0 | ⟨b, off, P, Q, C, t, ha, h3, h4, h5⟩
  · exact .inl h0
  · refine .inr ⟨b, off, C, t, ha, h3, fun k hk => ?_⟩
    obtain ⟨_, _, _, cs, q1, q2⟩ := h4 k hk
    obtain rfl : cs = [.bool (xs.getD k false)] := q2
    have := q1 0 (by simp)
    rwa [show shB.n = 1 from rfl, Nat.mul_one] at this
theorem owB_out {w : World} {lo hi cap n : Nat} {a : Option Addr} {xs : List Bool} (hn : n = xs.length) (hm : xs.length ≤ 9223372036854775807) (hc : CapOk a xs.length cap) (hp : ∀ p, a = some p → lo ≤ p.block ∧ p.block < hi) (h : OwB w a xs) : OwL shB w lo hi (.slice a n cap) xs := by
  subst hn
  refine ⟨a, cap, rfl, hc, hm, hp, ?_⟩
  rcases h with h0 | ⟨b, off, C, t, ha, hb, hC⟩
  · exact .inl h0
  · have := hp _ ha
    refine .inr ⟨b, off, fun _ => b, fun _ => b, C, t, ha, hb, fun k hk => ⟨this.1, Nat.le_of_lt this.2, .inr (Nat.le_refl _), _, fun j hj => ?_, rfl⟩, fun j k _ _ => .inl (Nat.le_refl _)⟩
    simp only [List.length_cons, List.length_nil] at hj
    obtain rfl : j = 0 := by omega
    rw [show shB.n = 1 from rfl, Nat.mul_one]
    exact hC k hk

theorem mod3 (n : Nat) : Int.tmod (n : Int) 3 = ((n % 3 : Nat) : Int) := by
  rw [Int.tmod_eq_emod_of_nonneg (by omega)]; omega
theorem mod3e (m k : Nat) : ((((m : Int) + (k : Int)) % 3 == 0) : Bool) = ((m + k) % 3 == 0) := by
  by_cases h : (m + k) % 3 = 0
  · rw [h, show ((m : Int) + (k : Int)) % 3 = 0 by omega]; rfl
  · rw [beq_eq_false_iff_ne.2 h, beq_eq_false_iff_ne.2 (by omega)]
theorem mod3b (n : Nat) : ((((n % 3 : Nat) : Int) == 0) : Bool) = (n % 3 == 0) := by
  by_cases h : n % 3 = 0
  · rw [h]; rfl
  · rw [beq_eq_false_iff_ne.2 h, beq_eq_false_iff_ne.2 (by omega)]

end Go.Proofs.Ytnighnkkeiegnaa
