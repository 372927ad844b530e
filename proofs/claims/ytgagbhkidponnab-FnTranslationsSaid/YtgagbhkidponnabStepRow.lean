/-
  A slice copied at a step of a drawn region, as a row that can be appended to.
-/
import Derived.Test.YtgagbhkidponnabAppP
namespace Go.Proofs.Ytgagbhkidponnab
open Go Go.RowKit
set_option linter.unusedVariables false

theorem owr_low {w : World} {b base : Nat} {e : TypeId} {n m : Nat} {v : Value} {xs : List Value} (h : w.ownsRow b e n v m xs) (hb : base ≤ b) : w.ownsRow base e n v m xs := by
  obtain ⟨h1, h2⟩ := h
  refine ⟨h1, ?_⟩
  rcases h2 with h | ⟨g, cap, cur, e1, e2, e3⟩
  · exact .inl h
  · exact .inr ⟨g, cap, cur, e1, by omega, e3⟩

section
variable {α : Type} [Inhabited α] {s : Shp α} {c : α → List Value}
theorem step_clone_prow (pl : Plain s c) {T e : TypeId} (hT : SlT T e s.n) {ops : Array Oper} {o : Oper} {ac : Act} {K : Act → World → Prop} {Q : Exit → Act → World → Prop} {E : Prop} (w : World) (hgd : o.guard = none) (l x : Operand)
    (ho : o.op = .call { callee := .builtin .append, args := #[l, x], argTypes := #[T, T] })
    (B : Nat) (hs : ac.eval l = .slice (some ⟨B, 0, none⟩) 0 0) (hB : w.heap[B]? = some (.cells #[] e (0, 0)))
    (a2 : Option Addr) (m cap : Nat) (xs : List α) (hx : ac.eval x = .slice a2 m cap) (H : RdL s w (.slice a2 m cap) xs) (hb : m ≤ 100000000)
    (h : ∀ g cap' w', w'.ownsRow B e s.n (.slice (some ⟨g, 0, none⟩) m cap') m (xs.flatMap c) → w.grownBy w' (some B) → (g = B ∨ g = w.heap.size) → g < w'.heap.size → K (ac.put o.dst (.slice (some ⟨g, 0, none⟩) m cap')) w') :
    if Region.wanted o (yielded ops ac.tmps) = true then Oper.wp Try.prog o ac w K Q else E := by
  have hw : Region.wanted o (yielded ops ac.tmps) = true := by simp [Region.wanted, hgd]
  rw [if_pos hw]
  have hBs : B < w.heap.size := (Array.getElem?_eq_some_iff.1 hB).1
  have hown : w.ownsRow B e s.n (.slice (some ⟨B, 0, none⟩) 0 0) 0 [] := ⟨by simp, .inr ⟨B, 0, #[], rfl, Nat.le_refl _, hB, Nat.le_refl _, by unfold maxLen; omega, by simp, by simp⟩⟩
  obtain ⟨hm, _, _⟩ := rdP_cells pl H
  obtain ⟨v', w', hr, h2, h3, h5⟩ := run_append_plain pl hT w o.type B _ 0 [] hown a2 m cap xs H (by omega) (by omega)
  have h20 := h2
  rcases h2.2 with ⟨rfl, _⟩ | ⟨g, cap', cur, rfl, q1, q2, q3, q4, q5, q6⟩
  · simp [Value.ownBlock] at h5
  · simp only [Value.ownBlock, Option.some.injEq] at h5
    rw [Nat.zero_add] at hr h20
    unfold Oper.wp
    simp [execOp, ho, resolve, invoke, builtin, hs, hx, hr, Result.andThen]
    exact h g cap' w' (by simpa using h20) h3 h5 (Array.getElem?_eq_some_iff.1 q2).1
end

end Go.Proofs.Ytgagbhkidponnab
