/-
  The append of a slice of numbers to a row of the call's own.
-/
import Derived.Test.YtnighnkkeiegnabOwnInts
import Derived.Laws.AppendOwnNone
namespace Go.Proofs.Ytnighnkkeiegnab
open Go Go.RowKit

theorem addr_add (b off j : Nat) : (Addr.mk b off none).add j = ⟨b, off + j, none⟩ := by
  unfold Addr.add; split
  · rename_i hk0; have : j = 0 := by simpa using hk0
    subst this; rfl
  · rfl

theorem wpList_append_isl {ops : Array Oper} {rest : List Oper} {o : Oper} {ac : Act} {Q : Exit → Act → World → Prop} (w : World) (hgd : o.guard = none) (s x : Operand)
    (ho : o.op = .call { callee := .builtin .append, args := #[s, x], argTypes := #[23, 23] })
    (base : Nat) (v : Value) (n : Nat) (ys : List Int) (hs : ac.eval s = v) (hown : w.ownsRow base 3 1 v n (i64s ys))
    (a2 : Option Addr) (m c : Nat) (xs : List Int) (hx : ac.eval x = .slice a2 m c) (H : ISl w a2 m xs) (hnone : a2 = none → c = 0) (hb : n + m ≤ 100000000) (hbase : base ≤ w.heap.size)
    (h : ∀ v' w', w'.ownsRow base 3 1 v' (n + m) (i64s (ys ++ xs)) → w.grownBy w' v.ownBlock → wpList Try.prog ops Q rest (ac.put o.dst v') w') : wpList Try.prog ops Q (o :: rest) ac w := by
  obtain ⟨i0, hi0, hz0, hz1, hz2⟩ := info_parts infoInt
  obtain ⟨e, H2⟩ := H
  have some_case : ∀ b off, a2 = some ⟨b, off, none⟩ → (∀ k, k < m → w.cell? ⟨b, off + k, none⟩ = some (.int .i64 (xs.getD k 0))) → wpList Try.prog ops Q (o :: rest) ac w := by
    intro b off ha hc
    subst ha
    refine wpList_plain hgd fun K hK => ?_
    obtain ⟨v', w', hr, h2, h3, _, _⟩ := run_append_own_at (P := Try.prog) w base 23 o.type 3 i0 (.int .i64 0) 1 8 Try.underlying23 hi0 hz0 hz1 hz2 rfl (by omega) v n (i64s ys) hown ⟨b, off, none⟩ m c (i64s xs) (by simp [i64s, e])
      (fun j u hu => by
        have hj : j < xs.length := by
          rcases Nat.lt_or_ge j xs.length with q | q
          · exact q
          · rw [i64s, List.getElem?_map, List.getElem?_eq_none q] at hu; cases hu
        rw [addr_add, hc j (by omega), List.getD_eq_getElem?_getD, List.getElem?_eq_getElem hj]
        rw [i64s, List.getElem?_map, List.getElem?_eq_getElem hj] at hu
        simpa using hu)
      (fun u hu => by obtain ⟨y, _, rfl⟩ := List.mem_map.1 hu; rfl) (by unfold maxLen; omega) (by omega) hbase
    unfold Oper.wp
    simp [execOp, ho, resolve, invoke, builtin, hs, hx, hr, Result.andThen]
    exact hK _ _ (h v' w' (by rw [i64s_append]; exact h2) h3)
  rcases H2 with h0 | ⟨b, off, ha, hc⟩
  · subst h0
    have ex : xs = [] := List.eq_nil_of_length_eq_zero e.symm
    cases a2 with
    | none =>
      have := hnone rfl
      subst this
      subst ex
      refine wpList_append_own_none hgd s x 23 ho base 3 i0 1 Try.underlying23 hi0 v n (i64s ys) hs hown hx (h v w ?_ (gby_refl _ _))
      rw [List.append_nil]; exact hown
    | some p =>
      obtain ⟨b, off, spot⟩ := p
      subst ex
      refine wpList_plain hgd fun K hK => ?_
      obtain ⟨v', w', hr, h2, h3, _, _⟩ := run_append_own_at (P := Try.prog) w base 23 o.type 3 i0 (.int .i64 0) 1 8 Try.underlying23 hi0 hz0 hz1 hz2 rfl (by omega) v n (i64s ys) hown ⟨b, off, spot⟩ 0 c [] rfl (fun j u hu => by simp at hu) (fun u hu => by simp at hu) (by unfold maxLen; omega) (by omega) hbase
      unfold Oper.wp
      simp [execOp, ho, resolve, invoke, builtin, hs, hx, hr, Result.andThen]
      exact hK _ _ (h v' w' (by rw [i64s_append]; exact h2) h3)
  · exact some_case b off ha hc

end Go.Proofs.Ytnighnkkeiegnab
