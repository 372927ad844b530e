/-
  ReturnCredits: both sides answer alike.
-/
import Derived.Test.YtgagbhkidponnacCrSpecR
import Derived.Test.YtgagbhkidponnacCrImpl
namespace Go.Proofs.Ytgagbhkidponnac
open Go Go.RowKit
set_option linter.unusedVariables false

theorem set_sz {xs : List Int} {k : Nat} {y : Int} (h : szL shI xs ≤ 1048576) : szL shI (xs.set k y) ≤ 1048576 := by
  rw [szL_I] at *; rw [List.length_set]; exact h

theorem returnCredits_both (xs0_0 : List Int) (xs0_1 : List Int) (i1_0 : Int) (i1_1 : Int) (i1_2 : Int) (i1_3 : Int) (i1_4 : Int) (i1_5 : Int) (i1_6 : Int) (xs1_7 : List Int) (h0 : szL shI xs0_0 ≤ 1048576) (h1 : szL shI xs0_1 ≤ 1048576) (hl : szL shI xs1_7 ≤ 1048576) : ∃ (xsr0_0 : List Int) (xsr0_1 : List Int) (br1 : Bool), szL shI xsr0_0 ≤ 1048576 ∧ szL shI xsr0_1 ≤ 1048576 ∧ (∀ (W : World), ∀ u0_0 u0_1 u1_7, RdL shI W u0_0 xs0_0 → RdL shI W u0_1 xs0_1 → RdL shI W u1_7 xs1_7 → Calls Try.prog 41 #[.agg #[u0_0, u0_1], .agg #[.int .i64 i1_0, .int .i64 i1_1, .int .i64 i1_2, .int .i64 i1_3, .int .i64 i1_4, .int .i64 i1_5, .int .i64 i1_6, u1_7]] W (ResIReturnCredits xsr0_0 xsr0_1 br1 W)) ∧ ∀ (W : World), ∀ u0_0 u0_1 u1_7, RdL shI W u0_0 xs0_0 → RdL shI W u0_1 xs0_1 → RdL shI W u1_7 xs1_7 → Calls Try.prog 42 #[.agg #[u0_0, u0_1], .agg #[.int .i64 i1_0, .int .i64 i1_1, .int .i64 i1_2, .int .i64 i1_3, .int .i64 i1_4, .int .i64 i1_5, .int .i64 i1_6, u1_7]] W (ResIReturnCredits xsr0_0 xsr0_1 br1 W) := by
  obtain ⟨p, hp⟩ : ∃ p : DPacket, p = ⟨i1_0, i1_1, i1_2, i1_3, i1_4, i1_5, i1_6, xs1_7⟩ := ⟨_, rfl⟩
  have e7 : xs1_7 = p.f7 := by rw [hp]
  have e0 : i1_0 = p.f0 := by rw [hp]
  have e1 : i1_1 = p.f1 := by rw [hp]
  have e2 : i1_2 = p.f2 := by rw [hp]
  have e3 : i1_3 = p.f3 := by rw [hp]
  have e4 : i1_4 = p.f4 := by rw [hp]
  have e5 : i1_5 = p.f5 := by rw [hp]
  have e6 : i1_6 = p.f6 := by rw [hp]
  clear hp
  subst e0 e1 e2 e3 e4 e5 e6 e7
  have hu : ∃ u, untD p = u ∧ 0 ≤ u ∧ u ≤ 1000000 := by
    refine ⟨_, rfl, ?_, ?_⟩
    · unfold untD; omega
    · have q := hl
      rw [szL_I] at q
      unfold untD; omega
  obtain ⟨u, hu, hu0, hu9⟩ := hu
  by_cases hcr : CrdOk xs0_0 xs0_1
  rotate_left
  · exact ⟨xs0_0, xs0_1, false, h0, h1, fun W z0 z1 z2 H0 H1 Hp => specReturnCredits_bad W z0 z1 z2 xs0_0 xs0_1 p H0 H1 Hp h0 h1 hl hcr, fun W z0 z1 z2 H0 H1 Hp => implReturnCredits_bad W z0 z1 z2 xs0_0 xs0_1 p H0 H1 Hp h0 h1 hl hcr⟩
  by_cases hn : 0 ≤ clsD p
  rotate_left
  · exact ⟨xs0_0, xs0_1, false, h0, h1, fun W z0 z1 z2 H0 H1 Hp => specReturnCredits_pk W z0 z1 z2 xs0_0 xs0_1 p H0 H1 Hp h0 h1 hl hcr hn, fun W z0 z1 z2 H0 H1 Hp => implReturnCredits_pk W z0 z1 z2 xs0_0 xs0_1 p H0 H1 Hp h0 h1 hl hcr hn⟩
  have hr := clsD_rng p
  obtain ⟨k, hc⟩ : ∃ k : Nat, clsD p = (k : Int) := ⟨(clsD p).toNat, by omega⟩
  have hk3 : k < 3 := by omega
  by_cases hw : xs0_0.getD k 0 + 1 > 30
  · exact ⟨xs0_0, xs0_1, false, h0, h1, fun W z0 z1 z2 H0 H1 Hp => specReturnCredits_f1 W z0 z1 z2 xs0_0 xs0_1 p H0 H1 Hp h0 h1 hl k u hc hk3 hcr hu hu0 hu9 hw, fun W z0 z1 z2 H0 H1 Hp => implReturnCredits_f1 W z0 z1 z2 xs0_0 xs0_1 p H0 H1 Hp h0 h1 hl k u hc hk3 hcr hu hu0 hu9 hw⟩
  by_cases hw2 : xs0_1.getD k 0 + u > 30
  · exact ⟨xs0_0, xs0_1, false, h0, h1, fun W z0 z1 z2 H0 H1 Hp => specReturnCredits_f2 W z0 z1 z2 xs0_0 xs0_1 p H0 H1 Hp h0 h1 hl k u hc hk3 hcr hu hu0 hu9 hw hw2, fun W z0 z1 z2 H0 H1 Hp => implReturnCredits_f2 W z0 z1 z2 xs0_0 xs0_1 p H0 H1 Hp h0 h1 hl k u hc hk3 hcr hu hu0 hu9 ⟨hw, hw2⟩⟩
  · exact ⟨_, _, true, set_sz h0, set_sz h1, fun W z0 z1 z2 H0 H1 Hp => specReturnCredits_yes W z0 z1 z2 xs0_0 xs0_1 p H0 H1 Hp h0 h1 hl k u hc hk3 hcr hu hu0 hu9 hw hw2, fun W z0 z1 z2 H0 H1 Hp => implReturnCredits_yes W z0 z1 z2 xs0_0 xs0_1 p H0 H1 Hp h0 h1 hl k u hc hk3 hcr hu hu0 hu9 hw hw2⟩

end Go.Proofs.Ytgagbhkidponnac
