/-
  Grant: both sides answer alike.
-/
import Derived.Test.YtgagbhkidponnadGrantJ
namespace Go.Proofs.Ytgagbhkidponnad
open Go Go.RowKit
set_option linter.unusedVariables false

theorem grant_both (xs0_0 : List Int) (i0_1 : Int) (i0_2 : Int) (xs1 : List Bool) (h0 : szL shI xs0_0 ≤ 1048576) (h1 : szL shB xs1 ≤ 1048576) : ∃ (xsr0_0 : List Int) (ir0_1 : Int) (ir0_2 : Int) (ir1 : Int), szL shI xsr0_0 ≤ 1048576 ∧ (∀ (W : World), ∀ u0_0 u1, RdL shI W u0_0 xs0_0 → RdL shB W u1 xs1 → Calls Try.prog 26 #[.agg #[u0_0, .int .i64 i0_1, .int .i64 i0_2], u1] W (ResSGrant xsr0_0 ir0_1 ir0_2 ir1 W)) ∧ ∀ (W : World), ∀ u0_0 u1, RdL shI W u0_0 xs0_0 → RdL shB W u1 xs1 → Calls Try.prog 29 #[.agg #[u0_0, .int .i64 i0_1, .int .i64 i0_2], u1] W (ResIGrant xsr0_0 ir0_1 ir0_2 ir1 W) := by
  by_cases hok : ArbOk xs0_0 i0_1 i0_2
  rotate_left
  · exact ⟨xs0_0, i0_1, i0_2, -1, h0, fun W u v H1 H2 => (specGrant_bad W i0_1 i0_2 u v xs0_0 xs1 H1 H2 h0 h1 (.inl hok)).mono (fun e w q => resS_ofGrant e w q), fun W u v H1 H2 => implGrant_bad W i0_1 i0_2 u v xs0_0 xs1 H1 H2 h0 h1 (.inl hok)⟩
  by_cases hq : xs1.length = xs0_0.length
  rotate_left
  · exact ⟨xs0_0, i0_1, i0_2, -1, h0, fun W u v H1 H2 => (specGrant_bad W i0_1 i0_2 u v xs0_0 xs1 H1 H2 h0 h1 (.inr hq)).mono (fun e w q => resS_ofGrant e w q), fun W u v H1 H2 => implGrant_bad W i0_1 i0_2 u v xs0_0 xs1 H1 H2 h0 h1 (.inr hq)⟩
  rcases next_or xs1 i0_1.toNat xs0_0.length with ⟨k, hN⟩ | hN
  · by_cases hd : ak xs1 i0_1.toNat = true ∧ 0 < i0_2
    · exact ⟨xs0_0, i0_1, i0_2 - 1, i0_1, h0, fun W u v H1 H2 => (specGrant_direct W i0_1 i0_2 u v xs0_0 xs1 H1 H2 h0 h1 hok hq hd.1 hd.2).mono (fun e w q => resS_ofGrant e w q), fun W u v H1 H2 => implGrant_direct W i0_1 i0_2 u v xs0_0 xs1 H1 H2 h0 h1 hok hq hd.1 hd.2 k hN⟩
    · have hd2 : ak xs1 i0_1.toNat = false ∨ ¬ 0 < i0_2 := by
        cases e : ak xs1 i0_1.toNat with
        | false => exact .inl rfl
        | true => exact .inr (fun q => hd ⟨e, q⟩)
      have hlt : (i0_1.toNat + k) % xs0_0.length < xs0_0.length := Nat.mod_lt _ (by have := hok.2.1; omega)
      have hy := hok.1 (xs0_0.getD ((i0_1.toNat + k) % xs0_0.length) 0) (by rw [List.getD_eq_getElem?_getD, List.getElem?_eq_getElem hlt]; exact List.getElem_mem _)
      exact ⟨xs0_0, (((i0_1.toNat + k) % xs0_0.length : Nat) : Int), xs0_0.getD ((i0_1.toNat + k) % xs0_0.length) 0 - 1, (((i0_1.toNat + k) % xs0_0.length : Nat) : Int), h0, fun W u v H1 H2 => (specGrant_found W i0_1 i0_2 u v xs0_0 xs1 H1 H2 h0 h1 hok hq hd2 k _ _ hN ⟨rfl, rfl⟩).mono (fun e w q => resS_ofGrant e w q), fun W u v H1 H2 => implGrant_found W i0_1 i0_2 u v xs0_0 xs1 H1 H2 h0 h1 hok hq hd2 k _ _ hN ⟨rfl, rfl⟩ hy.1 hy.2⟩
  · have hd2 : ak xs1 i0_1.toNat = false ∨ ¬ 0 < i0_2 := by
      have h := hN xs0_0.length hok.2.1 (Nat.le_refl _)
      rw [Nat.add_mod_right, Nat.mod_eq_of_lt (by have h3 := hok.2.2.2.1; have h4 := hok.2.2.2.2.1; omega)] at h
      exact .inl h
    exact ⟨xs0_0, i0_1, i0_2, -1, h0, fun W u v H1 H2 => (specGrant_none W i0_1 i0_2 u v xs0_0 xs1 H1 H2 h0 h1 hok hq hd2 hN).mono (fun e w q => resS_ofGrant e w q), fun W u v H1 H2 => implGrant_none W i0_1 i0_2 u v xs0_0 xs1 H1 H2 h0 h1 hok hq hN⟩

end Go.Proofs.Ytgagbhkidponnad
