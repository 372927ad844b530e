/-
  Are all packets of a list valid; the checks of credits as data.
-/
import Derived.Test.YtnighnkkeiegnaaPkD
import Derived.Test.YtnighnkkeiegnaaQSPacket
import Derived.Test.YtnighnkkeiegnaaQCredits
import Derived.Test.YtnighnkkeiegnaaCrd
namespace Go.Proofs.Ytnighnkkeiegnaa
open Go Go.RowKit
set_option linter.unusedVariables false

/-- all packets are valid -/
def PksOk (xs : List DPacket) : Prop := ∀ k, k < xs.length → 0 ≤ clsD (xs.getD k default)
instance (xs : List DPacket) : Decidable (PksOk xs) := by unfold PksOk; infer_instance

theorem specCrD (W : World) (v0 v1 : Value) (xs ys : List Int) (H0 : RdL shI W v0 xs) (H1 : RdL shI W v1 ys) (hl0 : szL shI xs ≤ 1048576) (hl1 : szL shI ys ≤ 1048576) (b : Bool) (hb : b = decide (CrdOk xs ys)) :
    Calls Try.prog 73 #[vCredits v0 v1] W (AnsN (.bool b) W) := by
  rw [szL_I] at hl0 hl1
  obtain ⟨a, cap, rfl, hi, _⟩ := rdI_in H0
  obtain ⟨a', cap', rfl, hi', _⟩ := rdI_in H1
  rw [hb]
  exact specCr_any W a _ cap a' _ cap' xs ys hi hi' hl0 hl1
theorem implCrD (W : World) (v0 v1 : Value) (xs ys : List Int) (H0 : RdL shI W v0 xs) (H1 : RdL shI W v1 ys) (hl0 : szL shI xs ≤ 1048576) (hl1 : szL shI ys ≤ 1048576) (b : Bool) (hb : b = decide (CrdOk xs ys)) :
    Calls Try.prog 78 #[vCredits v0 v1] W (AnsN (.bool b) W) := by
  rw [szL_I] at hl0 hl1
  obtain ⟨a, cap, rfl, hi, _⟩ := rdI_in H0
  obtain ⟨a', cap', rfl, hi', _⟩ := rdI_in H1
  rw [hb]
  exact implCr_any W a _ cap a' _ cap' xs ys hi hi' hl0 hl1

set_option maxRecDepth 8000 in
set_option maxHeartbeats 2000000 in
theorem arePks_any (W : World) (v : Value) (xs : List DPacket) (H : RdL shPacket W v xs) (hl : szL shPacket xs ≤ 1048576) (b0 : Bool) (hb0 : b0 = decide (PksOk xs)) :
    Calls Try.prog 79 #[v] W (AnsN (.bool b0) W) := by
  obtain ⟨a, cap, rfl, _, _, H⟩ := H
  have HC := Lib.hid H
  have HS := Lib.hid hl
  obtain ⟨len, hlen⟩ : ∃ len, len = xs.length := ⟨_, rfl⟩
  have HE := Lib.hid hlen
  have hm1 : len ≤ 1048576 := by have := szL_len shPacket xs; omega
  rw [← hlen]
  clear H hl hlen
  have HB := Lib.hid hb0
  clear hb0
  go_enter Try.func79, Try.ntmps79
  go_wp2
  go_loopw [7] (fun i wr => ∃ k : Nat, k ≤ len ∧ i = .int .i64 (k : Int) ∧ (∀ j, j < k → 0 ≤ clsD (xs.getD j default)) ∧ W.grownBy wr none) (fun i _ => len - (intOf i).toNat)
  case atStart => exact ⟨0, Nat.zero_le _, rfl, fun j hj => absurd hj (Nat.not_lt_zero _), gby_refl _ _⟩
  case round =>
    obtain ⟨k, hk, rfl, hn, hg⟩ := hrel
    have HN := Lib.hid hn
    have GW := Lib.hid hg
    clear hn hg
    by_cases hlt : k < len
    · have hki : (k : Int) < (len : Int) := by omega
      have hk0 : (0 : Int) ≤ (k : Int) := by omega
      have htn : ((k : Int)).toNat = k := by omega
      have hke : k < xs.length := by have := HE.out; omega
      obtain ⟨b, off, rfl, hcell⟩ := HC.out.resolve_left (by omega)
      obtain ⟨cs, hat, hrd⟩ := hcell k hke
      obtain ⟨x, hx⟩ : ∃ x, x = xs.getD k default := ⟨_, rfl⟩
      rw [← hx] at hrd
      have HX := Lib.hid hx
      have hzx : shPacket.size x ≤ 1048576 := by have q1 := szL_at shPacket xs k hke; have q2 := HS.out; rw [hx]; omega
      clear hcell hx
      obtain ⟨v7, rfl, r7⟩ := hrd
      obtain ⟨p7, n7, c7, hv7⟩ := RdL.form r7
      subst hv7
      have hz7 : szL shI x.f7 ≤ 1048576 := hzx
      have R7 := Lib.hid r7
      clear r7
      have c0_ : wr.cell? ⟨b, off + k * 8, none⟩ = some (.int .i64 x.f0) := GW.out.cell (at_cell (j := 0) hat rfl) (by simp)
      have c1_ : wr.cell? ⟨b, off + k * 8 + 1, none⟩ = some (.int .i64 x.f1) := GW.out.cell (at_cell (j := 1) hat rfl) (by simp)
      have c2_ : wr.cell? ⟨b, off + k * 8 + 2, none⟩ = some (.int .i64 x.f2) := GW.out.cell (at_cell (j := 2) hat rfl) (by simp)
      have c3_ : wr.cell? ⟨b, off + k * 8 + 3, none⟩ = some (.int .i64 x.f3) := GW.out.cell (at_cell (j := 3) hat rfl) (by simp)
      have c4_ : wr.cell? ⟨b, off + k * 8 + 4, none⟩ = some (.int .i64 x.f4) := GW.out.cell (at_cell (j := 4) hat rfl) (by simp)
      have c5_ : wr.cell? ⟨b, off + k * 8 + 5, none⟩ = some (.int .i64 x.f5) := GW.out.cell (at_cell (j := 5) hat rfl) (by simp)
      have c6_ : wr.cell? ⟨b, off + k * 8 + 6, none⟩ = some (.int .i64 x.f6) := GW.out.cell (at_cell (j := 6) hat rfl) (by simp)
      have c7_ : wr.cell? ⟨b, off + k * 8 + 7, none⟩ = some (.slice p7 n7 c7) := GW.out.cell (at_cell (j := 7) hat rfl) (by simp)
      clear hat
      obtain ⟨ca, hca⟩ : ∃ ca, ca = clsD x := ⟨_, rfl⟩
      have HCA := Lib.hid hca
      clear hca
      by_cases hc : 0 ≤ ca
      · go_wp2_with fail
        go_at_call 107
        have gb := gby_alloc GW.out (.cells #[.int .i64 x.f0, .int .i64 x.f1, .int .i64 x.f2, .int .i64 x.f3, .int .i64 x.f4, .int .i64 x.f5, .int .i64 x.f6, .slice p7 n7 c7] 60)
        refine (implPkD (wr.alloc (.cells #[.int .i64 x.f0, .int .i64 x.f1, .int .i64 x.f2, .int .i64 x.f3, .int .i64 x.f4, .int .i64 x.f5, .int .i64 x.f6, .slice p7 n7 c7] 60)) x (.slice p7 n7 c7) (R7.out.grow gb) hz7 true (by have := HCA.out; rw [← this]; exact (decide_eq_true (by omega)).symm)).mono ?_
        rintro e w1 ⟨rfl, g1⟩
        have G1 := Lib.hid (gby_trans gb g1)
        clear gb g1
        go_wp2
        refine ⟨⟨k + 1, by omega, by go_num, fun j hj => ?_, G1.out⟩, by simp [intOf]; omega⟩
        by_cases e : j = k
        · subst e; have q1 := HX.out; have q2 := HCA.out; rw [← q1, ← q2]; exact hc
        · exact HN.out j (by omega)
      · go_wp2_with fail
        go_at_call 107
        have gb := gby_alloc GW.out (.cells #[.int .i64 x.f0, .int .i64 x.f1, .int .i64 x.f2, .int .i64 x.f3, .int .i64 x.f4, .int .i64 x.f5, .int .i64 x.f6, .slice p7 n7 c7] 60)
        refine (implPkD (wr.alloc (.cells #[.int .i64 x.f0, .int .i64 x.f1, .int .i64 x.f2, .int .i64 x.f3, .int .i64 x.f4, .int .i64 x.f5, .int .i64 x.f6, .slice p7 n7 c7] 60)) x (.slice p7 n7 c7) (R7.out.grow gb) hz7 false (by have := HCA.out; rw [← this]; exact (decide_eq_false (by omega)).symm)).mono ?_
        rintro e w1 ⟨rfl, g1⟩
        have G1 := Lib.hid (gby_trans gb g1)
        clear gb g1
        go_wp2
        go_ret
        have hnot : ¬ PksOk xs := fun h => by
          have q1 := HX.out
          have q2 := HCA.out
          have q3 := h k hke
          rw [← q1, ← q2] at q3
          omega
        exact ⟨ret_bool (by rw [HB.out]; simp [hnot]), G1.out⟩
    · have hki : ¬ (k : Int) < (len : Int) := by omega
      go_wp2
      go_ret
      have hyes : PksOk xs := fun j hj => HN.out j (by have := HE.out; omega)
      exact ⟨ret_bool (by rw [HB.out]; simp [hyes]), GW.out⟩

end Go.Proofs.Ytnighnkkeiegnaa
