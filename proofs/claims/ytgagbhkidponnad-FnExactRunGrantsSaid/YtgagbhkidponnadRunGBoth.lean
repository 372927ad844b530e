/-
  RunGrants: both sides answer alike.
-/
import Derived.Test.YtgagbhkidponnadRunG
namespace Go.Proofs.Ytgagbhkidponnad
open Go Go.RowKit
set_option linter.unusedVariables false

theorem inr_or (x a b : Int) : (a ≤ x ∧ x ≤ b) ∨ (x < a ∨ b < x) := by omega
theorem gok_asks {xs : List Int} {ask : List Bool} {t l : Int} (hok : ArbOk xs t l) (hN : NoneAt ask t.toNat xs.length) : ak ask t.toNat = false ∨ ¬ 0 < l := by
  have h := hN xs.length hok.2.1 (Nat.le_refl _)
  rw [Nat.add_mod_right, Nat.mod_eq_of_lt (by have h3 := hok.2.2.2.1; have h4 := hok.2.2.2.2.1; omega)] at h
  exact .inl h

theorem runGrants_both (xs0_0 : List Int) (i0_1 : Int) (i0_2 : Int) (xs1 : List Bool) (i2 : Int) (h0 : szL shI xs0_0 ≤ 1048576) (h1 : szL shB xs1 ≤ 1048576) : ∃ (xsr0 : List Int), szL shI xsr0 ≤ 1048576 ∧ (∀ (W : World), ∀ u0_0 u1, RdL shI W u0_0 xs0_0 → RdL shB W u1 xs1 → Calls Try.prog 35 #[.agg #[u0_0, .int .i64 i0_1, .int .i64 i0_2], u1, .int .i64 i2] W (ResSRunGrants xsr0 W)) ∧ ∀ (W : World), ∀ u0_0 u1, RdL shI W u0_0 xs0_0 → RdL shB W u1 xs1 → Calls Try.prog 36 #[.agg #[u0_0, .int .i64 i0_1, .int .i64 i0_2], u1, .int .i64 i2] W (ResIRunGrants xsr0 W) := by
  have hnil : szL shI ([] : List Int) ≤ 1048576 := by rw [szL_I]; simp
  have refused : ∀ (hr : ∀ (w : World) (v u : Value), RdL shI w v xs0_0 → RdL shB w u xs1 → Calls Try.prog 26 #[vArbiter v i0_1 i0_2, u] w (ResIGrant xs0_0 i0_1 i0_2 (-1) w)) (W : World) (u v : Value), RdL shI W u xs0_0 → RdL shB W v xs1 → Calls Try.prog 35 #[.agg #[u, .int .i64 i0_1, .int .i64 i0_2], v, .int .i64 i2] W (ResSRunGrants [] W) := by
    intro hr W u v H1 H2
    rcases inr_or i2 1 200 with ⟨c1, c2⟩ | hc
    · exact (specRun_none W i0_1 i0_2 u v xs0_0 xs1 H1 H2 h0 h1 i2 c1 c2 hr).mono (fun e w q => resS_ofRunGrants e w q)
    · exact (specRun_out W i0_1 i0_2 u v xs0_0 xs1 H1 H2 h0 h1 i2 hc).mono (fun e w q => resS_ofRunGrants e w q)
  by_cases hb : ArbOk xs0_0 i0_1 i0_2 ∧ xs1.length = xs0_0.length
  rotate_left
  · have hb2 : ¬ ArbOk xs0_0 i0_1 i0_2 ∨ ¬ xs1.length = xs0_0.length := by
      by_cases q : ArbOk xs0_0 i0_1 i0_2
      · exact .inr (fun z => hb ⟨q, z⟩)
      · exact .inl q
    exact ⟨[], hnil, refused (fun w v u H1 H2 => specGrant_bad w i0_1 i0_2 v u xs0_0 xs1 H1 H2 h0 h1 hb2), fun W u v H1 H2 => implRun_refused W i0_1 i0_2 u v xs0_0 xs1 H1 H2 h0 h1 i2 (fun w v u H1 H2 => canGrant_bad w i0_1 i0_2 v u xs0_0 xs1 H1 H2 h0 h1 hb2)⟩
  obtain ⟨hok, hq⟩ := hb
  rcases next_or xs1 i0_1.toNat xs0_0.length with ⟨k, hN⟩ | hN
  · have hcg : ∀ (w : World) (v u : Value), RdL shI w v xs0_0 → RdL shB w u xs1 → Calls Try.prog 60 #[vArbiter v i0_1 i0_2, u] w (AnsN (.bool true) w) := fun w v u H1 H2 => canGrant_yes w i0_1 i0_2 v u xs0_0 xs1 H1 H2 h0 h1 hok hq k hN
    rcases inr_or i2 1 200 with ⟨c1, c2⟩ | hc
    · obtain ⟨cn, hcn⟩ : ∃ n : Nat, i2 = (n : Int) := ⟨i2.toNat, by omega⟩
      have hg : GOkS xs0_0 xs1 (i0_1, i0_2) := ⟨hok, hq, k, hN⟩
      exact ⟨gports xs0_0 xs1 (i0_1, i0_2) cn, by rw [szL_I, gports_len]; omega, fun W u v H1 H2 => (specRun_good W i0_1 i0_2 u v xs0_0 xs1 H1 H2 h0 h1 i2 cn hcn c1 c2 hg).mono (fun e w q => resS_ofRunGrants e w q), fun W u v H1 H2 => implRun_good W i0_1 i0_2 u v xs0_0 xs1 H1 H2 h0 h1 i2 cn hcn c1 c2 hg hcg⟩
    · exact ⟨[], hnil, fun W u v H1 H2 => (specRun_out W i0_1 i0_2 u v xs0_0 xs1 H1 H2 h0 h1 i2 hc).mono (fun e w q => resS_ofRunGrants e w q), fun W u v H1 H2 => implRun_out W i0_1 i0_2 u v xs0_0 xs1 H1 H2 h0 h1 i2 hcg hc⟩
  · exact ⟨[], hnil, refused (fun w v u H1 H2 => specGrant_none w i0_1 i0_2 v u xs0_0 xs1 H1 H2 h0 h1 hok hq (gok_asks hok hN) hN), fun W u v H1 H2 => implRun_refused W i0_1 i0_2 u v xs0_0 xs1 H1 H2 h0 h1 i2 (fun w v u H1 H2 => canGrant_none w i0_1 i0_2 v u xs0_0 xs1 H1 H2 h0 h1 hok hq hN)⟩

end Go.Proofs.Ytgagbhkidponnad
