/-
  The append of a slice of numbers at a step of a region that draws its order.
-/
import Derived.Test.YtnighnkkeiegnabAppendInts
import Derived.Deep.AppendLies
import Derived.Deep.RegionHeld3
import Derived.Test.YtnighnkkeiegnabShpI
namespace Go.Proofs.Ytnighnkkeiegnab
open Go Go.RowKit

theorem run_append_isl (w : World) (ty : TypeId) (base : Nat) (v : Value) (n : Nat) (ys : List Int) (hown : w.ownsRow base 3 1 v n (i64s ys))
    (a2 : Option Addr) (m c : Nat) (xs : List Int) (H : ISl w a2 m xs) (hnone : a2 = none → c = 0) (hb : n + m ≤ 100000000) (hbase : base ≤ w.heap.size) :
    ∃ v' w', (Builtin.append_ #[23, 23] ty #[v, .slice a2 m c]).run Try.prog w = .ok v' w' ∧ w'.ownsRow base 3 1 v' (n + m) (i64s (ys ++ xs)) ∧ w.grownBy w' v.ownBlock := by
  obtain ⟨i0, hi0, hz0, hz1, hz2⟩ := info_parts infoInt
  obtain ⟨e, H2⟩ := H
  rcases H2 with h0 | ⟨b, off, ha, hc⟩
  · subst h0
    have ex : xs = [] := List.eq_nil_of_length_eq_zero e.symm
    subst ex
    cases a2 with
    | none =>
      have := hnone rfl
      subst this
      exact ⟨v, w, run_append_owned_none (P := Try.prog) (w := w) base 23 ty 3 i0 1 Try.underlying23 hi0 v n (i64s ys) hown, by rw [List.append_nil]; exact hown, gby_refl _ _⟩
    | some p =>
      obtain ⟨b, off, spot⟩ := p
      obtain ⟨v', w', hr, h2, h3, _, _⟩ := run_append_own_at (P := Try.prog) w base 23 ty 3 i0 (.int .i64 0) 1 8 Try.underlying23 hi0 hz0 hz1 hz2 rfl (by omega) v n (i64s ys) hown ⟨b, off, spot⟩ 0 c [] rfl (fun j u hu => by simp at hu) (fun u hu => by simp at hu) (by unfold maxLen; omega) (by omega) hbase
      exact ⟨v', w', hr, by rw [i64s_append]; exact h2, h3⟩
  · subst ha
    obtain ⟨v', w', hr, h2, h3, _, _⟩ := run_append_own_at (P := Try.prog) w base 23 ty 3 i0 (.int .i64 0) 1 8 Try.underlying23 hi0 hz0 hz1 hz2 rfl (by omega) v n (i64s ys) hown ⟨b, off, none⟩ m c (i64s xs) (by simp [i64s, e])
      (fun j u hu => by
        have hj : j < xs.length := by
          rcases Nat.lt_or_ge j xs.length with q | q
          · exact q
          · rw [i64s, List.getElem?_map, List.getElem?_eq_none q] at hu; cases hu
        rw [addr_add, hc j (by omega), List.getD_eq_getElem?_getD, List.getElem?_eq_getElem hj]
        rw [i64s, List.getElem?_map, List.getElem?_eq_getElem hj] at hu
        simpa using hu)
      (fun u hu => by obtain ⟨y, _, rfl⟩ := List.mem_map.1 hu; rfl) (by unfold maxLen; omega) (by omega) hbase
    exact ⟨v', w', hr, by rw [i64s_append]; exact h2, h3⟩

theorem step_append_isl {ops : Array Oper} {o : Oper} {ac : Act} {K : Act → World → Prop} {Q : Exit → Act → World → Prop} {E : Prop} (w : World) (hgd : o.guard = none) (s x : Operand)
    (ho : o.op = .call { callee := .builtin .append, args := #[s, x], argTypes := #[23, 23] })
    (base : Nat) (v : Value) (n : Nat) (ys : List Int) (hs : ac.eval s = v) (hown : w.ownsRow base 3 1 v n (i64s ys))
    (a2 : Option Addr) (m c : Nat) (xs : List Int) (hx : ac.eval x = .slice a2 m c) (H : ISl w a2 m xs) (hnone : a2 = none → c = 0) (hb : n + m ≤ 100000000) (hbase : base ≤ w.heap.size)
    (h : ∀ v' w', w'.ownsRow base 3 1 v' (n + m) (i64s (ys ++ xs)) → w.grownBy w' v.ownBlock → K (ac.put o.dst v') w') :
    if Region.wanted o (yielded ops ac.tmps) = true then Oper.wp Try.prog o ac w K Q else E := by
  have hw : Region.wanted o (yielded ops ac.tmps) = true := by simp [Region.wanted, hgd]
  rw [if_pos hw]
  obtain ⟨v', w', hr, h2, h3⟩ := run_append_isl w o.type base v n ys hown a2 m c xs H hnone hb hbase
  unfold Oper.wp
  simp [execOp, ho, resolve, invoke, builtin, hs, hx, hr, Result.andThen]
  exact h v' w' h2 h3

theorem own_empty {w : World} {B base : Nat} (h : w.heap[B]? = some (.cells #[] 3 (0, 0))) (hb : base ≤ B) : w.ownsRow base 3 1 (.slice (some ⟨B, 0, none⟩) 0 0) 0 (i64s []) :=
  ⟨by simp [i64s], .inr ⟨B, 0, #[], rfl, hb, h, Nat.le_refl _, by unfold maxLen; omega, rfl, rfl⟩⟩

theorem heap_quad (W : World) (a b c d : Obj) : ((((W.alloc a).alloc b).alloc c).alloc d).heap[W.heap.size + 1 + 1 + 1]? = some d := by
  have e : (((W.alloc a).alloc b).alloc c).heap.size = W.heap.size + 1 + 1 + 1 := by simp
  rw [← e]; exact heap_alloc_new _ _

/-- append([]int{}, xs..): the numbers lie in one block, the empty one or a new one -/
theorem step_clone_isl {ops : Array Oper} {o : Oper} {ac : Act} {K : Act → World → Prop} {Q : Exit → Act → World → Prop} {E : Prop} (w : World) (hgd : o.guard = none) (s x : Operand)
    (ho : o.op = .call { callee := .builtin .append, args := #[s, x], argTypes := #[23, 23] })
    (B : Nat) (hs : ac.eval s = .slice (some ⟨B, 0, none⟩) 0 0) (hB : w.heap[B]? = some (.cells #[] 3 (0, 0)))
    (a2 : Option Addr) (m c : Nat) (xs : List Int) (hx : ac.eval x = .slice a2 m c) (H : ISl w a2 m xs) (hnone : a2 = none → c = 0) (hb : m ≤ 100000000)
    (h : ∀ g cap w', OwL shI w' g (g + 1) (.slice (some ⟨g, 0, none⟩) m cap) xs → w.grownBy w' (some B) → (g = B ∨ g = w.heap.size) → g < w'.heap.size → K (ac.put o.dst (.slice (some ⟨g, 0, none⟩) m cap)) w') :
    if Region.wanted o (yielded ops ac.tmps) = true then Oper.wp Try.prog o ac w K Q else E := by
  have hw : Region.wanted o (yielded ops ac.tmps) = true := by simp [Region.wanted, hgd]
  rw [if_pos hw]
  have hBs := block_in hB
  have hown := own_empty hB (Nat.le_refl B)
  have hm := H.1
  have key : ∃ v' w', (Builtin.append_ #[23, 23] o.type #[.slice (some ⟨B, 0, none⟩) 0 0, .slice a2 m c]).run Try.prog w = .ok v' w' ∧ w'.ownsRow B 3 1 v' (0 + m) (i64s ([] ++ xs)) ∧ w.grownBy w' (some B) ∧ (v'.ownBlock = some B ∨ v'.ownBlock = some w.heap.size) := by
    obtain ⟨i0, hi0, hz0, hz1, hz2⟩ := info_parts infoInt
    obtain ⟨e, H2⟩ := H
    rcases H2 with h0 | ⟨b, off, ha, hc⟩
    · subst h0
      have ex : xs = [] := List.eq_nil_of_length_eq_zero e.symm
      subst ex
      cases a2 with
      | none =>
        have := hnone rfl
        subst this
        exact ⟨_, w, run_append_owned_none (P := Try.prog) (w := w) B 23 o.type 3 i0 1 Try.underlying23 hi0 _ 0 _ hown, by simpa [i64s] using hown, gby_refl _ _, .inl rfl⟩
      | some p =>
        obtain ⟨b, off, spot⟩ := p
        obtain ⟨v', w', hr, h2, h3, _, h5⟩ := run_append_own_at (P := Try.prog) w B 23 o.type 3 i0 (.int .i64 0) 1 8 Try.underlying23 hi0 hz0 hz1 hz2 rfl (by omega) _ 0 _ hown ⟨b, off, spot⟩ 0 c [] rfl (fun j u hu => by simp at hu) (fun u hu => by simp at hu) (by unfold maxLen; omega) (by omega) (by omega)
        exact ⟨v', w', hr, by rw [i64s_append]; exact h2, h3, h5⟩
    · subst ha
      obtain ⟨v', w', hr, h2, h3, _, h5⟩ := run_append_own_at (P := Try.prog) w B 23 o.type 3 i0 (.int .i64 0) 1 8 Try.underlying23 hi0 hz0 hz1 hz2 rfl (by omega) _ 0 _ hown ⟨b, off, none⟩ m c (i64s xs) (by simp [i64s, e])
        (fun j u hu => by
          have hj : j < xs.length := by
            rcases Nat.lt_or_ge j xs.length with q | q
            · exact q
            · rw [i64s, List.getElem?_map, List.getElem?_eq_none q] at hu; cases hu
          rw [addr_add, hc j (by omega), List.getD_eq_getElem?_getD, List.getElem?_eq_getElem hj]
          rw [i64s, List.getElem?_map, List.getElem?_eq_getElem hj] at hu
          simpa using hu)
        (fun u hu => by obtain ⟨y, _, rfl⟩ := List.mem_map.1 hu; rfl) (by unfold maxLen; omega) (by omega) (by omega)
      exact ⟨v', w', hr, by rw [i64s_append]; exact h2, h3, h5⟩
  obtain ⟨v', w', hr, h2, h3, h5⟩ := key
  rcases h2.2 with ⟨rfl, _⟩ | ⟨g, cap, cur, rfl, q1, q2, q3, q4, q5, q6⟩
  · simp [Value.ownBlock] at h5
  · simp only [Value.ownBlock, Option.some.injEq] at h5
    rw [Nat.zero_add] at hr h2 q3
    unfold Oper.wp
    simp [execOp, ho, resolve, invoke, builtin, hs, hx, hr, Result.andThen]
    refine h g cap w' ?_ h3 h5 (block_in q2)
    have hrow : w'.ownsRow g 3 1 (.slice (some ⟨g, 0, none⟩) m cap) m (i64s xs) := ⟨by simpa using h2.1, .inr ⟨g, cap, cur, rfl, Nat.le_refl _, q2, q3, q4, q5, by simpa using q6⟩⟩
    obtain ⟨a', cap', hv, o1, o2, o3⟩ := owI_row hrow
    refine owI_out (by omega) ⟨a', cap', hv, o1, fun p hp => ?_, o3⟩
    injection hv with e1 e2 e3
    rw [← e1] at hp
    cases hp
    exact ⟨Nat.le_refl _, Nat.lt_succ_self _⟩

end Go.Proofs.Ytnighnkkeiegnab
