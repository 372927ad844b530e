/-
  One place of an owned slice of numbers is written; slices of numbers appended whole.
-/
import Derived.Test.YtnighnkkeiegnabShpI
import Derived.Test.YtnighnkkeiegnabAppP
import Derived.Test.YtnighnkkeiegnabIntInfo
namespace Go.Proofs.Ytnighnkkeiegnab
open Go Go.RowKit

theorem slTI : SlT 23 3 1 := slT_of Try.underlying23 infoInt rfl (by omega)

theorem owL_I_at {w : World} {lo hi : Nat} {v : Value} {xs : List Int} (h : OwL shI w lo hi v xs) (k : Nat) (hk : k < xs.length) :
    ∃ b off c, v = .slice (some ⟨b, off, none⟩) xs.length c ∧ lo ≤ b ∧ b < hi ∧ w.cell? ⟨b, off + k, none⟩ = some (.int .i64 (xs.getD k 0)) ∧ w.frozen? ⟨b, off + k, none⟩ = false ∧ ∀ x : Int, OwL shI (w.setCell ⟨b, off + k, none⟩ (.int .i64 x)) lo hi v (xs.set k x) ∧ Chg w (w.setCell ⟨b, off + k, none⟩ (.int .i64 x)) lo hi := by
  obtain ⟨a, cap, rfl, hc, hm, hp, h⟩ := h
  obtain ⟨b, off, P, Q, C, t, rfl, hb, h4, h5⟩ := h.resolve_left (by omega)
  have hpb := hp _ rfl
  have hat : ∀ j, j < xs.length → C[off + j]? = some (.int .i64 (xs.getD j 0)) := by
    intro j hj
    obtain ⟨_, _, _, cs, hcs, ho⟩ := h4 j hj
    obtain rfl : cs = [.int .i64 (xs.getD j default)] := ho
    have := hcs 0 (by simp)
    simpa [shI] using this
  have hsz : off + k < C.size := (Array.getElem?_eq_some_iff.1 (hat k hk)).1
  refine ⟨b, off, cap, rfl, hpb.1, hpb.2, ?_, frozen_of_row w b (off + k) C t hb, fun x => ⟨?_, chg_setp (chg_gby (gby_refl _ _) _ _) ⟨b, off + k, none⟩ hpb.1 hpb.2 _⟩⟩
  · rw [cell_of_row w b (off + k) C t _ hb]; exact hat k hk
  · refine ⟨some ⟨b, off, none⟩, cap, by rw [List.length_set], by rw [List.length_set]; exact hc, by rw [List.length_set]; exact hm, hp, .inr ⟨b, off, P, Q, C.setIfInBounds (off + k) (.int .i64 x), t, rfl, heap_setCell_same w b (off + k) C t _ hb, fun j hj => ?_, fun i j h1 h2 => h5 i j h1 (by rwa [List.length_set] at h2)⟩⟩
    rw [List.length_set] at hj
    obtain ⟨p1, p2, p3, _⟩ := h4 j hj
    refine ⟨p1, p2, p3, [.int .i64 ((xs.set k x).getD j default)], fun i hi => ?_, rfl⟩
    obtain rfl : i = 0 := by simpa using hi
    show (C.setIfInBounds (off + k) (.int .i64 x))[off + j * 1 + 0]? = _
    rw [Nat.mul_one, Nat.add_zero, Array.getElem?_setIfInBounds, List.getD_eq_getElem?_getD, List.getElem?_set]
    by_cases e : k = j
    · subst e
      rw [if_pos rfl, if_pos hsz, if_pos rfl, if_pos hk]; rfl
    · rw [if_neg (by omega), if_neg e, hat j hj, List.getD_eq_getElem?_getD]; rfl

end Go.Proofs.Ytnighnkkeiegnab
