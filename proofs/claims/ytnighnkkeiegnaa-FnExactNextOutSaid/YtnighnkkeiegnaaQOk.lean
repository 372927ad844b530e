/-
  QueueOk on both sides.
-/
import Derived.Test.YtnighnkkeiegnaaShpI
import Derived.Test.YtnighnkkeiegnaaDPacket
import Derived.Test.YtnighnkkeiegnaaPksOk
import Derived.Test.YtnighnkkeiegnaaQQueue
namespace Go.Proofs.Ytnighnkkeiegnaa
open Go Go.RowKit

def ResSQueueOk (br0 : Bool) (W : World) (e : Ending) (w' : World) : Prop := e = .returned (.bool br0) ∧ W.grownBy w' none
def ResIQueueOk (br0 : Bool) (W : World) (e : Ending) (w' : World) : Prop := e = .returned (.bool br0) ∧ W.grownBy w' none

end Go.Proofs.Ytnighnkkeiegnaa

namespace Go.Proofs.Ytnighnkkeiegnaa
open Go Go.RowKit
set_option linter.unusedVariables false

/-- a valid queue -/
def QueOk (xs : List DPacket) (hs us : List Int) (ys : List DPacket) : Prop := xs.length ≤ 12 ∧ ys.length ≤ 1000 ∧ PksOk xs ∧ PksOk ys ∧ CrdOk hs us
instance (xs : List DPacket) (hs us : List Int) (ys : List DPacket) : Decidable (QueOk xs hs us ys) := by unfold QueOk; infer_instance

set_option maxRecDepth 8000 in
set_option maxHeartbeats 4000000 in
theorem specQueOk (W : World) (v0 v1 v2 v3 : Value) (xs : List DPacket) (hs us : List Int) (ys : List DPacket) (H0 : RdL shPacket W v0 xs) (H1 : RdL shI W v1 hs) (H2 : RdL shI W v2 us) (H3 : RdL shPacket W v3 ys) (hl0 : szL shPacket xs ≤ 1048576) (hl1 : szL shI hs ≤ 1048576) (hl2 : szL shI us ≤ 1048576) (hl3 : szL shPacket ys ≤ 1048576) (b0 : Bool) (hb0 : b0 = decide (QueOk xs hs us ys)) :
    Calls Try.prog 59 #[vQueue v0 v1 v2 v3] W (AnsN (.bool b0) W) := by
  obtain ⟨a, cap, rfl, _, _, H0⟩ := H0
  have HC := Lib.hid H0
  have HS := Lib.hid hl0
  obtain ⟨len, hlen⟩ : ∃ len, len = xs.length := ⟨_, rfl⟩
  have HE := Lib.hid hlen
  have hm1 : len ≤ 1048576 := by have := szL_len shPacket xs; omega
  rw [← hlen]
  clear H0 hl0 hlen
  obtain ⟨a2, cap2, rfl, _, _, H3⟩ := H3
  have HC2 := Lib.hid H3
  have HS2 := Lib.hid hl3
  obtain ⟨len2, hlen2⟩ : ∃ len, len = ys.length := ⟨_, rfl⟩
  have HE2 := Lib.hid hlen2
  have hm12 : len2 ≤ 1048576 := by have := szL_len shPacket ys; omega
  rw [← hlen2]
  clear H3 hl3 hlen2
  have HB := Lib.hid hb0
  have HV1 := Lib.hid H1
  have HV2 := Lib.hid H2
  clear hb0 H1 H2
  unfold vQueue
  have HC0 := Lib.hid (heap_alloc_new W (.cells #[.slice a len cap, v1, v2, .slice a2 len2 cap2] 33))
  go_enter Try.func59, Try.ntmps59
  go_wp2
  go_loopw [3] (fun i wr => ∃ k : Nat, k ≤ len ∧ i = .int .i64 (k : Int) ∧ (∀ j, j < k → 0 ≤ clsD (xs.getD j default)) ∧ (W.alloc (.cells #[.slice a len cap, v1, v2, .slice a2 len2 cap2] 33)).grownBy wr none) (fun i _ => len - (intOf i).toNat)
  case atStart => exact ⟨0, Nat.zero_le _, rfl, fun j hj => absurd hj (Nat.not_lt_zero _), gby_refl _ _⟩
  case round =>
    obtain ⟨k, hk, rfl, hn, hg⟩ := hrel
    have HN := Lib.hid hn
    have HG := Lib.hid hg
    have GW := Lib.hid (gby_trans (gby_alloc (gby_refl W none) _) hg)
    have hr := row_held hg HC0.out
    have b0_ : wr.cell? ⟨W.heap.size, 0, none⟩ = some (.slice a len cap) := cell_of_row _ _ 0 _ _ _ hr
    have b1_ : wr.cell? ⟨W.heap.size, 1, none⟩ = some v1 := cell_of_row _ _ 1 _ _ _ hr
    have b2_ : wr.cell? ⟨W.heap.size, 2, none⟩ = some v2 := cell_of_row _ _ 2 _ _ _ hr
    have b3_ : wr.cell? ⟨W.heap.size, 3, none⟩ = some (.slice a2 len2 cap2) := cell_of_row _ _ 3 _ _ _ hr
    clear hr
    clear hn hg
    by_cases hlt : k < len
    · have hki : (k : Int) < (len : Int) := by omega
      have hk0 : (0 : Int) ≤ (k : Int) := by omega
      have htn : ((k : Int)).toNat = k := by omega
      have hke : k < xs.length := by have := HE.out; omega
      obtain ⟨b, off, rfl, hcell⟩ := HC.out.resolve_left (by omega)
      obtain ⟨cs, hat, hrd⟩ := hcell k hke
      obtain ⟨x, hx⟩ : ∃ x, x = xs.getD k default := ⟨_, rfl⟩
      rw [← hx] at hrd
      have HX := Lib.hid hx
      have hzx : shPacket.size x ≤ 1048576 := by have q1 := szL_at shPacket xs k hke; have q2 := HS.out; rw [hx]; omega
      clear hcell hx
      obtain ⟨v7, rfl, r7⟩ := hrd
      obtain ⟨p7, n7, c7, hv7⟩ := RdL.form r7
      subst hv7
      have hz7 : szL shI x.f7 ≤ 1048576 := hzx
      have R7 := Lib.hid r7
      clear r7
      have c0_ : wr.cell? ⟨b, off + k * 8, none⟩ = some (.int .i64 x.f0) := GW.out.cell (at_cell (j := 0) hat rfl) (by simp)
      have c1_ : wr.cell? ⟨b, off + k * 8 + 1, none⟩ = some (.int .i64 x.f1) := GW.out.cell (at_cell (j := 1) hat rfl) (by simp)
      have c2_ : wr.cell? ⟨b, off + k * 8 + 2, none⟩ = some (.int .i64 x.f2) := GW.out.cell (at_cell (j := 2) hat rfl) (by simp)
      have c3_ : wr.cell? ⟨b, off + k * 8 + 3, none⟩ = some (.int .i64 x.f3) := GW.out.cell (at_cell (j := 3) hat rfl) (by simp)
      have c4_ : wr.cell? ⟨b, off + k * 8 + 4, none⟩ = some (.int .i64 x.f4) := GW.out.cell (at_cell (j := 4) hat rfl) (by simp)
      have c5_ : wr.cell? ⟨b, off + k * 8 + 5, none⟩ = some (.int .i64 x.f5) := GW.out.cell (at_cell (j := 5) hat rfl) (by simp)
      have c6_ : wr.cell? ⟨b, off + k * 8 + 6, none⟩ = some (.int .i64 x.f6) := GW.out.cell (at_cell (j := 6) hat rfl) (by simp)
      have c7_ : wr.cell? ⟨b, off + k * 8 + 7, none⟩ = some (.slice p7 n7 c7) := GW.out.cell (at_cell (j := 7) hat rfl) (by simp)
      clear hat
      obtain ⟨ca, hca⟩ : ∃ ca, ca = clsD x := ⟨_, rfl⟩
      have HCA := Lib.hid hca
      clear hca
      by_cases hc : 0 ≤ ca
      · go_wp2_with fail
        go_at_call 98
        refine (specPkD wr x (.slice p7 n7 c7) (R7.out.grow GW.out) hz7 true (by have := HCA.out; rw [← this]; exact (decide_eq_true (by omega)).symm)).mono ?_
        rintro e w1 ⟨rfl, g1⟩
        have G1 := Lib.hid (gby_trans HG.out g1)
        clear g1 b0_ b1_ b2_ b3_
        go_wp2
        refine ⟨⟨k + 1, by omega, by go_num, fun j hj => ?_, G1.out⟩, by simp [intOf]; omega⟩
        by_cases e : j = k
        · subst e; have q1 := HX.out; have q2 := HCA.out; rw [← q1, ← q2]; exact hc
        · exact HN.out j (by omega)
      · go_wp2_with fail
        go_at_call 98
        refine (specPkD wr x (.slice p7 n7 c7) (R7.out.grow GW.out) hz7 false (by have := HCA.out; rw [← this]; exact (decide_eq_false (by omega)).symm)).mono ?_
        rintro e w1 ⟨rfl, g1⟩
        have G1 := Lib.hid (gby_trans GW.out g1)
        clear g1 b0_ b1_ b2_ b3_
        go_wp2
        go_ret
        have hnot : ¬ QueOk xs hs us ys := fun h => by
          have q1 := HX.out
          have q2 := HCA.out
          have q3 := h.2.2.1 k hke
          rw [← q1, ← q2] at q3
          omega
        exact ⟨ret_bool (by rw [HB.out]; simp [hnot]), G1.out⟩
    · have hki : ¬ (k : Int) < (len : Int) := by omega
      have hp : PksOk xs := fun j hj => HN.out j (by have := HE.out; omega)
      have HP := Lib.hid hp
      clear hp
      go_wp2
      go_loopw [4] (fun i wr => ∃ k : Nat, k ≤ len2 ∧ i = .int .i64 (k : Int) ∧ (∀ j, j < k → 0 ≤ clsD (ys.getD j default)) ∧ (W.alloc (.cells #[.slice a len cap, v1, v2, .slice a2 len2 cap2] 33)).grownBy wr none) (fun i _ => len2 - (intOf i).toNat)
      case atStart => exact ⟨0, Nat.zero_le _, rfl, fun j hj => absurd hj (Nat.not_lt_zero _), HG.out⟩
      case round =>
        clear b0_ b1_ b2_ b3_ hki hlt hk HG GW
        obtain ⟨k, hk, rfl, hn, hg⟩ := hrel
        have HN2 := Lib.hid hn
        have HG := Lib.hid hg
        have GW := Lib.hid (gby_trans (gby_alloc (gby_refl W none) _) hg)
        have hr := row_held hg HC0.out
        have b0_ : wr.cell? ⟨W.heap.size, 0, none⟩ = some (.slice a len cap) := cell_of_row _ _ 0 _ _ _ hr
        have b1_ : wr.cell? ⟨W.heap.size, 1, none⟩ = some v1 := cell_of_row _ _ 1 _ _ _ hr
        have b2_ : wr.cell? ⟨W.heap.size, 2, none⟩ = some v2 := cell_of_row _ _ 2 _ _ _ hr
        have b3_ : wr.cell? ⟨W.heap.size, 3, none⟩ = some (.slice a2 len2 cap2) := cell_of_row _ _ 3 _ _ _ hr
        clear hr
        clear hn hg
        by_cases hlt : k < len2
        · have hki : (k : Int) < (len2 : Int) := by omega
          have hk0 : (0 : Int) ≤ (k : Int) := by omega
          have htn : ((k : Int)).toNat = k := by omega
          have hke : k < ys.length := by have := HE2.out; omega
          obtain ⟨b2, off2, rfl, hcell⟩ := HC2.out.resolve_left (by omega)
          obtain ⟨cs, hat, hrd⟩ := hcell k hke
          obtain ⟨x, hx⟩ : ∃ x, x = ys.getD k default := ⟨_, rfl⟩
          rw [← hx] at hrd
          have HX := Lib.hid hx
          have hzx : shPacket.size x ≤ 1048576 := by have q1 := szL_at shPacket ys k hke; have q2 := HS2.out; rw [hx]; omega
          clear hcell hx
          obtain ⟨v7, rfl, r7⟩ := hrd
          obtain ⟨p7, n7, c7, hv7⟩ := RdL.form r7
          subst hv7
          have hz7 : szL shI x.f7 ≤ 1048576 := hzx
          have R7 := Lib.hid r7
          clear r7
          have c0_ : wr.cell? ⟨b2, off2 + k * 8, none⟩ = some (.int .i64 x.f0) := GW.out.cell (at_cell (j := 0) hat rfl) (by simp)
          have c1_ : wr.cell? ⟨b2, off2 + k * 8 + 1, none⟩ = some (.int .i64 x.f1) := GW.out.cell (at_cell (j := 1) hat rfl) (by simp)
          have c2_ : wr.cell? ⟨b2, off2 + k * 8 + 2, none⟩ = some (.int .i64 x.f2) := GW.out.cell (at_cell (j := 2) hat rfl) (by simp)
          have c3_ : wr.cell? ⟨b2, off2 + k * 8 + 3, none⟩ = some (.int .i64 x.f3) := GW.out.cell (at_cell (j := 3) hat rfl) (by simp)
          have c4_ : wr.cell? ⟨b2, off2 + k * 8 + 4, none⟩ = some (.int .i64 x.f4) := GW.out.cell (at_cell (j := 4) hat rfl) (by simp)
          have c5_ : wr.cell? ⟨b2, off2 + k * 8 + 5, none⟩ = some (.int .i64 x.f5) := GW.out.cell (at_cell (j := 5) hat rfl) (by simp)
          have c6_ : wr.cell? ⟨b2, off2 + k * 8 + 6, none⟩ = some (.int .i64 x.f6) := GW.out.cell (at_cell (j := 6) hat rfl) (by simp)
          have c7_ : wr.cell? ⟨b2, off2 + k * 8 + 7, none⟩ = some (.slice p7 n7 c7) := GW.out.cell (at_cell (j := 7) hat rfl) (by simp)
          clear hat
          obtain ⟨ca, hca⟩ : ∃ ca, ca = clsD x := ⟨_, rfl⟩
          have HCA := Lib.hid hca
          clear hca
          by_cases hc : 0 ≤ ca
          · go_wp2_with fail
            go_at_call 98
            refine (specPkD wr x (.slice p7 n7 c7) (R7.out.grow GW.out) hz7 true (by have := HCA.out; rw [← this]; exact (decide_eq_true (by omega)).symm)).mono ?_
            rintro e w1 ⟨rfl, g1⟩
            have G1 := Lib.hid (gby_trans HG.out g1)
            clear g1 b0_ b1_ b2_ b3_
            go_wp2
            refine ⟨⟨k + 1, by omega, by go_num, fun j hj => ?_, G1.out⟩, by simp [intOf]; omega⟩
            by_cases e : j = k
            · subst e; have q1 := HX.out; have q2 := HCA.out; rw [← q1, ← q2]; exact hc
            · exact HN2.out j (by omega)
          · go_wp2_with fail
            go_at_call 98
            refine (specPkD wr x (.slice p7 n7 c7) (R7.out.grow GW.out) hz7 false (by have := HCA.out; rw [← this]; exact (decide_eq_false (by omega)).symm)).mono ?_
            rintro e w1 ⟨rfl, g1⟩
            have G1 := Lib.hid (gby_trans GW.out g1)
            clear g1 b0_ b1_ b2_ b3_
            go_wp2
            go_ret
            have hnot : ¬ QueOk xs hs us ys := fun h => by
              have q1 := HX.out
              have q2 := HCA.out
              have q3 := h.2.2.2.1 k hke
              rw [← q1, ← q2] at q3
              omega
            exact ⟨ret_bool (by rw [HB.out]; simp [hnot]), G1.out⟩
        · have hki : ¬ (k : Int) < (len2 : Int) := by omega
          have hy : PksOk xs := HP.out
          have hy2 : PksOk ys := fun j hj => HN2.out j (by have := HE2.out; omega)
          have HY := Lib.hid hy
          have HY2 := Lib.hid hy2
          clear hy hy2
          by_cases h12 : len ≤ 12
          · have h12i : (len : Int) ≤ 12 := by omega
            by_cases h1k : len2 ≤ 1000
            · have h1ki : (len2 : Int) ≤ 1000 := by omega
              obtain ⟨bc, hbc⟩ : ∃ bc, bc = decide (CrdOk hs us) := ⟨_, rfl⟩
              have HBC := Lib.hid hbc
              go_wp2_with fail
              go_at_call 73
              refine (specCrD wr v1 v2 hs us (HV1.out.grow GW.out) (HV2.out.grow GW.out) hl1 hl2 bc hbc).mono ?_
              rintro e w1 ⟨rfl, g1⟩
              have G1 := Lib.hid (gby_trans GW.out g1)
              clear g1 b0_ b1_ b2_ b3_ hbc
              go_wp2
              go_ret
              refine ⟨ret_bool ?_, G1.out⟩
              rw [HB.out, HBC.out]
              by_cases hcr : CrdOk hs us
              · have : QueOk xs hs us ys := ⟨by have := HE.out; omega, by have := HE2.out; omega, HY.out, HY2.out, hcr⟩
                simp [this, hcr]
              · have : ¬ QueOk xs hs us ys := fun h => hcr h.2.2.2.2
                simp [this, hcr]
            · have h1ki : ¬ (len2 : Int) ≤ 1000 := by omega
              go_wp2
              go_ret
              have : ¬ QueOk xs hs us ys := fun h => h1k (by have := HE2.out; have := h.2.1; omega)
              exact ⟨ret_bool (by rw [HB.out]; simp [this]), GW.out⟩
          · have h12i : ¬ (len : Int) ≤ 12 := by omega
            go_wp2
            go_ret
            have : ¬ QueOk xs hs us ys := fun h => h12 (by have := HE.out; have := h.1; omega)
            exact ⟨ret_bool (by rw [HB.out]; simp [this]), GW.out⟩

set_option maxRecDepth 8000 in
set_option maxHeartbeats 4000000 in
theorem implQueOk (W : World) (v0 v1 v2 v3 : Value) (xs : List DPacket) (hs us : List Int) (ys : List DPacket) (H0 : RdL shPacket W v0 xs) (H1 : RdL shI W v1 hs) (H2 : RdL shI W v2 us) (H3 : RdL shPacket W v3 ys) (hl0 : szL shPacket xs ≤ 1048576) (hl1 : szL shI hs ≤ 1048576) (hl2 : szL shI us ≤ 1048576) (hl3 : szL shPacket ys ≤ 1048576) (b0 : Bool) (hb0 : b0 = decide (QueOk xs hs us ys)) :
    Calls Try.prog 63 #[vQueue v0 v1 v2 v3] W (AnsN (.bool b0) W) := by
  have HR0 := Lib.hid H0
  have HR3 := Lib.hid H3
  have HL0 := Lib.hid hl0
  have HL3 := Lib.hid hl3
  obtain ⟨a, cap, rfl, _, _, H0⟩ := H0
  have HC := Lib.hid H0
  have HS := Lib.hid hl0
  obtain ⟨len, hlen⟩ : ∃ len, len = xs.length := ⟨_, rfl⟩
  have HE := Lib.hid hlen
  have hm1 : len ≤ 1048576 := by have := szL_len shPacket xs; omega
  rw [← hlen]
  clear H0 hl0 hlen
  obtain ⟨a2, cap2, rfl, _, _, H3⟩ := H3
  have HC2 := Lib.hid H3
  have HS2 := Lib.hid hl3
  obtain ⟨len2, hlen2⟩ : ∃ len, len = ys.length := ⟨_, rfl⟩
  have HE2 := Lib.hid hlen2
  have hm12 : len2 ≤ 1048576 := by have := szL_len shPacket ys; omega
  rw [← hlen2]
  clear H3 hl3 hlen2
  have HB := Lib.hid hb0
  have HV1 := Lib.hid H1
  have HV2 := Lib.hid H2
  clear hb0 H1 H2
  unfold vQueue
  have HC0 := Lib.hid (heap_alloc_new W (.cells #[.slice a len cap, v1, v2, .slice a2 len2 cap2] 33))
  clear HC HC2
  have HR0p := Lib.hid (show RdL shPacket W (.slice a len cap) xs from by have q := HR0.out; have e := HE.out; rw [← e] at q; exact q)
  have HR3p := Lib.hid (show RdL shPacket W (.slice a2 len2 cap2) ys from by have q := HR3.out; have e := HE2.out; rw [← e] at q; exact q)
  by_cases h12 : len ≤ 12
  · have h12i : (len : Int) ≤ 12 := by omega
    by_cases h1k : len2 ≤ 1000
    · have h1ki : (len2 : Int) ≤ 1000 := by omega
      by_cases hp : PksOk xs
      · by_cases hq : PksOk ys
        · skip
          go_enter Try.func63, Try.ntmps63
          go_wp2_with fail
          go_at_call 79
          refine (arePks_any _ (.slice a len cap) xs (HR0p.out.grow (gby_alloc (gby_refl _ _) _)) HL0.out true (by first | exact (decide_eq_true hp).symm | exact (decide_eq_false hp).symm)).mono ?_
          rintro e w1 ⟨rfl, g1⟩
          have G1 := Lib.hid (gby_trans (gby_alloc (gby_refl W none) _) g1)
          have r1 := Lib.hid (row_held g1 HC0.out)
          clear g1
          have b0_ : w1.cell? ⟨W.heap.size, 0, none⟩ = some (.slice a len cap) := cell_of_row _ _ 0 _ _ _ r1.out
          have b1_ : w1.cell? ⟨W.heap.size, 1, none⟩ = some v1 := cell_of_row _ _ 1 _ _ _ r1.out
          have b2_ : w1.cell? ⟨W.heap.size, 2, none⟩ = some v2 := cell_of_row _ _ 2 _ _ _ r1.out
          have b3_ : w1.cell? ⟨W.heap.size, 3, none⟩ = some (.slice a2 len2 cap2) := cell_of_row _ _ 3 _ _ _ r1.out
          go_wp2_with fail
          go_at_call 79
          refine (arePks_any _ (.slice a2 len2 cap2) ys (HR3p.out.grow G1.out) HL3.out true (by first | exact (decide_eq_true hq).symm | exact (decide_eq_false hq).symm)).mono ?_
          rintro e w2 ⟨rfl, g2⟩
          have G2 := Lib.hid (gby_trans G1.out g2)
          have r2 := Lib.hid (row_held g2 r1.out)
          clear g2
          clear b0_ b1_ b2_ b3_
          have b0_ : w2.cell? ⟨W.heap.size, 0, none⟩ = some (.slice a len cap) := cell_of_row _ _ 0 _ _ _ r2.out
          have b1_ : w2.cell? ⟨W.heap.size, 1, none⟩ = some v1 := cell_of_row _ _ 1 _ _ _ r2.out
          have b2_ : w2.cell? ⟨W.heap.size, 2, none⟩ = some v2 := cell_of_row _ _ 2 _ _ _ r2.out
          have b3_ : w2.cell? ⟨W.heap.size, 3, none⟩ = some (.slice a2 len2 cap2) := cell_of_row _ _ 3 _ _ _ r2.out
          obtain ⟨bc, hbc⟩ : ∃ bc, bc = decide (CrdOk hs us) := ⟨_, rfl⟩
          have HBC := Lib.hid hbc
          go_wp2_with fail
          go_at_call 78
          refine (implCrD _ v1 v2 hs us (HV1.out.grow G2.out) (HV2.out.grow G2.out) hl1 hl2 bc hbc).mono ?_
          rintro e w3 ⟨rfl, g3⟩
          have G3 := Lib.hid (gby_trans G2.out g3)
          have r3 := Lib.hid (row_held g3 r2.out)
          clear g3
          clear b0_ b1_ b2_ b3_ hbc
          go_wp2
          go_ret
          refine ⟨ret_bool ?_, G3.out⟩
          rw [HB.out, HBC.out]
          by_cases hcr : CrdOk hs us
          · have : QueOk xs hs us ys := ⟨by have := HE.out; omega, by have := HE2.out; omega, hp, hq, hcr⟩
            simp [this, hcr]
          · have : ¬ QueOk xs hs us ys := fun h => hcr h.2.2.2.2
            simp [this, hcr]
        · skip
          go_enter Try.func63, Try.ntmps63
          go_wp2_with fail
          go_at_call 79
          refine (arePks_any _ (.slice a len cap) xs (HR0p.out.grow (gby_alloc (gby_refl _ _) _)) HL0.out true (by first | exact (decide_eq_true hp).symm | exact (decide_eq_false hp).symm)).mono ?_
          rintro e w1 ⟨rfl, g1⟩
          have G1 := Lib.hid (gby_trans (gby_alloc (gby_refl W none) _) g1)
          have r1 := Lib.hid (row_held g1 HC0.out)
          clear g1
          have b0_ : w1.cell? ⟨W.heap.size, 0, none⟩ = some (.slice a len cap) := cell_of_row _ _ 0 _ _ _ r1.out
          have b1_ : w1.cell? ⟨W.heap.size, 1, none⟩ = some v1 := cell_of_row _ _ 1 _ _ _ r1.out
          have b2_ : w1.cell? ⟨W.heap.size, 2, none⟩ = some v2 := cell_of_row _ _ 2 _ _ _ r1.out
          have b3_ : w1.cell? ⟨W.heap.size, 3, none⟩ = some (.slice a2 len2 cap2) := cell_of_row _ _ 3 _ _ _ r1.out
          go_wp2_with fail
          go_at_call 79
          refine (arePks_any _ (.slice a2 len2 cap2) ys (HR3p.out.grow G1.out) HL3.out false (by first | exact (decide_eq_true hq).symm | exact (decide_eq_false hq).symm)).mono ?_
          rintro e w2 ⟨rfl, g2⟩
          have G2 := Lib.hid (gby_trans G1.out g2)
          have r2 := Lib.hid (row_held g2 r1.out)
          clear g2
          clear b0_ b1_ b2_ b3_
          go_wp2
          go_ret
          have : ¬ QueOk xs hs us ys := fun h => hq h.2.2.2.1
          exact ⟨ret_bool (by rw [HB.out]; simp [this]), G2.out⟩
      · skip
        go_enter Try.func63, Try.ntmps63
        go_wp2_with fail
        go_at_call 79
        refine (arePks_any _ (.slice a len cap) xs (HR0p.out.grow (gby_alloc (gby_refl _ _) _)) HL0.out false (by first | exact (decide_eq_true hp).symm | exact (decide_eq_false hp).symm)).mono ?_
        rintro e w1 ⟨rfl, g1⟩
        have G1 := Lib.hid (gby_trans (gby_alloc (gby_refl W none) _) g1)
        have r1 := Lib.hid (row_held g1 HC0.out)
        clear g1
        go_wp2
        go_ret
        have : ¬ QueOk xs hs us ys := fun h => hp h.2.2.1
        exact ⟨ret_bool (by rw [HB.out]; simp [this]), G1.out⟩
    · have h1ki : ¬ (len2 : Int) ≤ 1000 := by omega
      go_enter Try.func63, Try.ntmps63
      go_wp2
      go_ret
      have : ¬ QueOk xs hs us ys := fun h => h1k (by have := HE2.out; have := h.2.1; omega)
      exact ⟨ret_bool (by rw [HB.out]; simp [this]), gby_alloc (gby_refl _ _) _⟩
  · have h12i : ¬ (len : Int) ≤ 12 := by omega
    go_enter Try.func63, Try.ntmps63
    go_wp2
    go_ret
    have : ¬ QueOk xs hs us ys := fun h => h12 (by have := HE.out; have := h.1; omega)
    exact ⟨ret_bool (by rw [HB.out]; simp [this]), gby_alloc (gby_refl _ _) _⟩

theorem queueOk_both (xs0_0 : List DPacket) (xs0_1 xs0_2 : List Int) (xs0_3 : List DPacket) (h0 : szL shPacket xs0_0 ≤ 1048576) (h1 : szL shI xs0_1 ≤ 1048576) (h2 : szL shI xs0_2 ≤ 1048576) (h3 : szL shPacket xs0_3 ≤ 1048576) :
    ∃ br0 : Bool, (∀ (W : World), ∀ u0_0 u0_1 u0_2 u0_3, RdL shPacket W u0_0 xs0_0 → RdL shI W u0_1 xs0_1 → RdL shI W u0_2 xs0_2 → RdL shPacket W u0_3 xs0_3 → Calls Try.prog 59 #[.agg #[u0_0, u0_1, u0_2, u0_3]] W (ResSQueueOk br0 W)) ∧ (∀ (W : World), ∀ u0_0 u0_1 u0_2 u0_3, RdL shPacket W u0_0 xs0_0 → RdL shI W u0_1 xs0_1 → RdL shI W u0_2 xs0_2 → RdL shPacket W u0_3 xs0_3 → Calls Try.prog 63 #[.agg #[u0_0, u0_1, u0_2, u0_3]] W (ResIQueueOk br0 W)) :=
  ⟨_, fun W u0 u1 u2 u3 r0 r1 r2 r3 => specQueOk W u0 u1 u2 u3 xs0_0 xs0_1 xs0_2 xs0_3 r0 r1 r2 r3 h0 h1 h2 h3 _ rfl, fun W u0 u1 u2 u3 r0 r1 r2 r3 => implQueOk W u0 u1 u2 u3 xs0_0 xs0_1 xs0_2 xs0_3 r0 r1 r2 r3 h0 h1 h2 h3 _ rfl⟩

end Go.Proofs.Ytnighnkkeiegnaa
