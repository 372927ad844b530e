/-
  BlockedBy, on both sides.
-/
import Derived.Test.YtnighnkkeiegnaaNextMath
import Derived.Test.YtnighnkkeiegnaaQOk
import Derived.Test.YtnighnkkeiegnaaRBlockedBy
import Derived.Test.YtnighnkkeiegnaaPassersS
import Derived.Deep.RegionHeld3
import Derived.Test.YtnighnkkeiegnaaPassersI
namespace Go.Proofs.Ytnighnkkeiegnaa
open Go Go.RowKit
set_option linter.unusedVariables false

set_option maxRecDepth 8000 in
set_option maxHeartbeats 4000000 in
theorem specBlk_no (W : World) (v0 v1 v2 v3 : Value) (xs : List DPacket) (hs us : List Int) (ys : List DPacket) (H : RdL shPacket W v0 xs) (H1 : RdL shI W v1 hs) (H2 : RdL shI W v2 us) (H3 : RdL shPacket W v3 ys) (hl : szL shPacket xs ≤ 1048576) (hl1 : szL shI hs ≤ 1048576) (hl2 : szL shI us ≤ 1048576) (hl3 : szL shPacket ys ≤ 1048576) (hq : ¬ QueOk xs hs us ys) : Calls Try.prog 19 #[vQueue v0 v1 v2 v3] W (AnsN (.int .i64 (-1)) W) := by
  have HQ := Lib.hid (show false = decide (QueOk xs hs us ys) from (decide_eq_false hq).symm)
  clear hq
  have HS := Lib.hid hl
  have HRD := Lib.hid H
  have HR1 := Lib.hid H1
  have HR2 := Lib.hid H2
  have HR3 := Lib.hid H3
  have HL1 := Lib.hid hl1
  have HL2 := Lib.hid hl2
  have HL3 := Lib.hid hl3
  obtain ⟨a0, cap0, rfl, hcap, _, H⟩ := H
  have HC := Lib.hid H
  have hcap2 := hcap.2
  obtain ⟨n0, hn0⟩ : ∃ n, n = xs.length := ⟨_, rfl⟩
  have HE := Lib.hid hn0
  have hlx : n0 ≤ 1048576 := by have := szL_len shPacket xs; omega
  rw [← hn0] at hcap2 ⊢
  rw [← hn0] at HRD HC
  clear H H1 H2 H3 hl1 hl2 hl3 hcap hl hn0
  unfold vQueue
  go_enter Try.func19, Try.ntmps19
  have rQ1_ := Lib.hid (show ((W.alloc (.cells #[.slice a0 n0 cap0, v1, v2, v3] 33))).heap[W.heap.size]? = some (.cells #[.slice a0 n0 cap0, v1, v2, v3] 33 (0, 0)) from by exact heap_alloc_new _ _)
  have G2_ := Lib.hid (show (W).grownBy ((W.alloc (.cells #[.slice a0 n0 cap0, v1, v2, v3] 33))) none from (gby_alloc (gby_refl _ _) _))
  have Q_0_ : ((W.alloc (.cells #[.slice a0 n0 cap0, v1, v2, v3] 33))).cell? ⟨W.heap.size, 0, none⟩ = some (.slice a0 n0 cap0) := cell_of_row _ _ 0 _ _ _ rQ1_.out
  have Q_1_ : ((W.alloc (.cells #[.slice a0 n0 cap0, v1, v2, v3] 33))).cell? ⟨W.heap.size, 1, none⟩ = some (v1) := cell_of_row _ _ 1 _ _ _ rQ1_.out
  have Q_2_ : ((W.alloc (.cells #[.slice a0 n0 cap0, v1, v2, v3] 33))).cell? ⟨W.heap.size, 2, none⟩ = some (v2) := cell_of_row _ _ 2 _ _ _ rQ1_.out
  have Q_3_ : ((W.alloc (.cells #[.slice a0 n0 cap0, v1, v2, v3] 33))).cell? ⟨W.heap.size, 3, none⟩ = some (v3) := cell_of_row _ _ 3 _ _ _ rQ1_.out
  go_wp2_with fail
  go_at_call 59
  refine (specQueOk _ _ _ _ _ xs hs us ys (HRD.out.grow G2_.out) (HR1.out.grow G2_.out) (HR2.out.grow G2_.out) (HR3.out.grow G2_.out) HS.out HL1.out HL2.out HL3.out false HQ.out).mono ?_
  rintro e w1 ⟨rfl, g⟩
  have szw1 := g.size
  try simp only [World.size_alloc] at szw1
  try simp only [World.size_setCell] at szw1
  clear Q_0_ Q_1_ Q_2_ Q_3_
  have rQ3_ := Lib.hid (show (w1).heap[W.heap.size]? = some (.cells #[.slice a0 n0 cap0, v1, v2, v3] 33 (0, 0)) from row_held g rQ1_.out)
  clear rQ1_
  have G4_ := Lib.hid (show (W).grownBy (w1) none from gby_trans G2_.out g)
  clear g
  have Q_0_ : (w1).cell? ⟨W.heap.size, 0, none⟩ = some (.slice a0 n0 cap0) := cell_of_row _ _ 0 _ _ _ rQ3_.out
  have Q_1_ : (w1).cell? ⟨W.heap.size, 1, none⟩ = some (v1) := cell_of_row _ _ 1 _ _ _ rQ3_.out
  have Q_2_ : (w1).cell? ⟨W.heap.size, 2, none⟩ = some (v2) := cell_of_row _ _ 2 _ _ _ rQ3_.out
  have Q_3_ : (w1).cell? ⟨W.heap.size, 3, none⟩ = some (v3) := cell_of_row _ _ 3 _ _ _ rQ3_.out
  go_wp2
  go_ret
  exact ⟨rfl, G4_.out⟩

set_option maxRecDepth 8000 in
set_option maxHeartbeats 4000000 in
theorem specBlk_yes (W : World) (v0 v1 v2 v3 : Value) (xs : List DPacket) (hs us : List Int) (ys : List DPacket) (H : RdL shPacket W v0 xs) (H1 : RdL shI W v1 hs) (H2 : RdL shI W v2 us) (H3 : RdL shPacket W v3 ys) (hl : szL shPacket xs ≤ 1048576) (hl1 : szL shI hs ≤ 1048576) (hl2 : szL shI us ≤ 1048576) (hl3 : szL shPacket ys ≤ 1048576) (hq : QueOk xs hs us ys) : Calls Try.prog 19 #[vQueue v0 v1 v2 v3] W (AnsN (.int .i64 ((blkN hs us xs xs.length : Nat) : Int)) W) := by
  have HQ := Lib.hid (show true = decide (QueOk xs hs us ys) from (decide_eq_true hq).symm)
  clear hq
  have HS := Lib.hid hl
  have HRD := Lib.hid H
  have HR1 := Lib.hid H1
  have HR2 := Lib.hid H2
  have HR3 := Lib.hid H3
  have HL1 := Lib.hid hl1
  have HL2 := Lib.hid hl2
  have HL3 := Lib.hid hl3
  obtain ⟨a0, cap0, rfl, hcap, _, H⟩ := H
  have HC := Lib.hid H
  have hcap2 := hcap.2
  obtain ⟨n0, hn0⟩ : ∃ n, n = xs.length := ⟨_, rfl⟩
  have HE := Lib.hid hn0
  have hlx : n0 ≤ 1048576 := by have := szL_len shPacket xs; omega
  rw [← hn0] at hcap2 ⊢
  rw [← hn0] at HRD HC
  clear H H1 H2 H3 hl1 hl2 hl3 hcap hl hn0
  unfold vQueue
  go_enter Try.func19, Try.ntmps19
  have rQ1_ := Lib.hid (show ((W.alloc (.cells #[.slice a0 n0 cap0, v1, v2, v3] 33))).heap[W.heap.size]? = some (.cells #[.slice a0 n0 cap0, v1, v2, v3] 33 (0, 0)) from by exact heap_alloc_new _ _)
  have G2_ := Lib.hid (show (W).grownBy ((W.alloc (.cells #[.slice a0 n0 cap0, v1, v2, v3] 33))) none from (gby_alloc (gby_refl _ _) _))
  have Q_0_ : ((W.alloc (.cells #[.slice a0 n0 cap0, v1, v2, v3] 33))).cell? ⟨W.heap.size, 0, none⟩ = some (.slice a0 n0 cap0) := cell_of_row _ _ 0 _ _ _ rQ1_.out
  have Q_1_ : ((W.alloc (.cells #[.slice a0 n0 cap0, v1, v2, v3] 33))).cell? ⟨W.heap.size, 1, none⟩ = some (v1) := cell_of_row _ _ 1 _ _ _ rQ1_.out
  have Q_2_ : ((W.alloc (.cells #[.slice a0 n0 cap0, v1, v2, v3] 33))).cell? ⟨W.heap.size, 2, none⟩ = some (v2) := cell_of_row _ _ 2 _ _ _ rQ1_.out
  have Q_3_ : ((W.alloc (.cells #[.slice a0 n0 cap0, v1, v2, v3] 33))).cell? ⟨W.heap.size, 3, none⟩ = some (v3) := cell_of_row _ _ 3 _ _ _ rQ1_.out
  go_wp2_with fail
  go_at_call 59
  refine (specQueOk _ _ _ _ _ xs hs us ys (HRD.out.grow G2_.out) (HR1.out.grow G2_.out) (HR2.out.grow G2_.out) (HR3.out.grow G2_.out) HS.out HL1.out HL2.out HL3.out true HQ.out).mono ?_
  rintro e w1 ⟨rfl, g⟩
  have szw1 := g.size
  try simp only [World.size_alloc] at szw1
  try simp only [World.size_setCell] at szw1
  clear Q_0_ Q_1_ Q_2_ Q_3_
  have rQ3_ := Lib.hid (show (w1).heap[W.heap.size]? = some (.cells #[.slice a0 n0 cap0, v1, v2, v3] 33 (0, 0)) from row_held g rQ1_.out)
  clear rQ1_
  have G4_ := Lib.hid (show (W).grownBy (w1) none from gby_trans G2_.out g)
  clear g
  have Q_0_ : (w1).cell? ⟨W.heap.size, 0, none⟩ = some (.slice a0 n0 cap0) := cell_of_row _ _ 0 _ _ _ rQ3_.out
  have Q_1_ : (w1).cell? ⟨W.heap.size, 1, none⟩ = some (v1) := cell_of_row _ _ 1 _ _ _ rQ3_.out
  have Q_2_ : (w1).cell? ⟨W.heap.size, 2, none⟩ = some (v2) := cell_of_row _ _ 2 _ _ _ rQ3_.out
  have Q_3_ : (w1).cell? ⟨W.heap.size, 3, none⟩ = some (v3) := cell_of_row _ _ 3 _ _ _ rQ3_.out
  go_wp2_with fail
  go_at_call 60
  refine (specPassers_any _ _ xs (HRD.out.grow G4_.out) HS.out).mono ?_
  rintro e w2 ⟨vl, rfl, o, g⟩
  have szw2 := g.size
  try simp only [World.size_alloc] at szw2
  clear Q_0_ Q_1_ Q_2_ Q_3_
  have rQ5_ := Lib.hid (show (w2).heap[W.heap.size]? = some (.cells #[.slice a0 n0 cap0, v1, v2, v3] 33 (0, 0)) from row_held g rQ3_.out)
  clear rQ3_
  have G6_ := Lib.hid (show (W).grownBy (w2) none from gby_trans G4_.out g)
  clear g
  have HLR := Lib.hid (OwU.rd o)
  clear o
  obtain ⟨L, hL_⟩ : ∃ L, L = passL xs xs.length := ⟨_, rfl⟩
  rw [← hL_] at HLR
  have HLE := Lib.hid hL_
  have hnl_ : L.length ≤ n0 := by rw [hL_]; have := passL_len xs xs.length; have := HE.out; omega
  clear hL_
  have Q_0_ : (w2).cell? ⟨W.heap.size, 0, none⟩ = some (.slice a0 n0 cap0) := cell_of_row _ _ 0 _ _ _ rQ5_.out
  have Q_1_ : (w2).cell? ⟨W.heap.size, 1, none⟩ = some (v1) := cell_of_row _ _ 1 _ _ _ rQ5_.out
  have Q_2_ : (w2).cell? ⟨W.heap.size, 2, none⟩ = some (v2) := cell_of_row _ _ 2 _ _ _ rQ5_.out
  have Q_3_ : (w2).cell? ⟨W.heap.size, 3, none⟩ = some (v3) := cell_of_row _ _ 3 _ _ _ rQ5_.out
  have HTP7_ := Lib.hid (gby_refl (w2) none)
  have MG8_ := Lib.hid (show (W).grownBy (w2) none from G6_.out)
  have MR9_ := Lib.hid rQ5_.out
  go_wp2
  go_loopw [4, 5, 6, 7] (fun z k y6 y7 wr => ∃ n : Nat, k = .int .i64 (n : Int) ∧ n ≤ n0 ∧ (∃ q, y6 = q) ∧ (∃ q, y7 = q) ∧ z = .int .i64 ((blkN hs us xs n : Nat) : Int) ∧ (w2).grownBy wr none) (fun _ k _ _ _ => n0 - (intOf k).toNat)
  case atStart => exact ⟨0, rfl, by omega, ⟨_, rfl⟩, ⟨_, rfl⟩, rfl, gby_refl _ _⟩
  case round =>
    clear Q_0_ Q_1_ Q_2_ Q_3_
    obtain ⟨wo, hwo_⟩ : ∃ w_, w_ = wr := ⟨_, rfl⟩
    subst hwo_
    obtain ⟨n, rfl, hn, ⟨y6, rfl⟩, ⟨y7, rfl⟩, rfl, hg⟩ := hrel
    have szrwo := hg.size
    try simp only [World.size_alloc] at szrwo
    try simp only [World.size_setCell] at szrwo
    have szr_ := szrwo
    have rQ10_ := Lib.hid (show (wo).heap[W.heap.size]? = some (.cells #[.slice a0 n0 cap0, v1, v2, v3] 33 (0, 0)) from row_held hg rQ5_.out)
    clear rQ5_
    have G11_ := Lib.hid (show (W).grownBy (wo) none from gby_trans G6_.out hg)
    have HTP12_ := Lib.hid (show (w2).grownBy (wo) none from gby_trans HTP7_.out hg)
    clear HTP7_
    have HTB_ := Lib.hid hg
    clear hg
    have Q_0_ : (wo).cell? ⟨W.heap.size, 0, none⟩ = some (.slice a0 n0 cap0) := cell_of_row _ _ 0 _ _ _ rQ10_.out
    have Q_1_ : (wo).cell? ⟨W.heap.size, 1, none⟩ = some (v1) := cell_of_row _ _ 1 _ _ _ rQ10_.out
    have Q_2_ : (wo).cell? ⟨W.heap.size, 2, none⟩ = some (v2) := cell_of_row _ _ 2 _ _ _ rQ10_.out
    have Q_3_ : (wo).cell? ⟨W.heap.size, 3, none⟩ = some (v3) := cell_of_row _ _ 3 _ _ _ rQ10_.out
    have hn0_ : (0 : Int) ≤ (n : Int) := by omega
    have htn : ((n : Int)).toNat = n := by omega
    have hbn_ := blkN_le hs us xs n
    obtain ⟨z0, hz0_⟩ : ∃ z, z = blkN hs us xs n := ⟨_, rfl⟩
    rw [← hz0_] at hbn_ ⊢
    have HZ := Lib.hid hz0_
    clear hz0_
    by_cases hlt : n < n0
    rotate_left
    · obtain rfl : n = n0 := by omega
      have hki : ¬ (n : Int) < (n : Int) := by omega
      go_wp2
      go_ret
      exact ⟨ret_i64 (by rw [HZ.out]), G11_.out⟩
    have hki : (n : Int) < (n0 : Int) := by omega
    obtain ⟨ab, ao, rfl, hcell_⟩ := HC.out.resolve_left (by omega)
    have HCE := Lib.hid hcell_
    clear hcell_
    have hq_ : n < n0 := hlt
    obtain ⟨cs_, hat_, hrd_⟩ := HCE.out n (by omega)
    obtain ⟨xk, hx_⟩ : ∃ x, x = xs.getD n default := ⟨_, rfl⟩
    rw [← hx_] at hrd_
    have hzk_ : szL shI xk.f7 ≤ 1048576 := by have q1 := szL_at shPacket xs n (by have := HE.out; omega); rw [← hx_] at q1; exact Nat.le_trans q1 HS.out
    have HXk := Lib.hid hx_
    obtain ⟨v7_, rfl, r7_⟩ := hrd_
    obtain ⟨pk, nk, ck, hv_⟩ := RdL.form r7_
    subst hv_
    have Rk := Lib.hid r7_
    have HEk0 := Lib.hid (show W.cell? ⟨ab, ao + n * 8, none⟩ = some (.int .i64 xk.f0) from at_cell (j := 0) hat_ rfl)
    have HEk1 := Lib.hid (show W.cell? ⟨ab, ao + n * 8 + 1, none⟩ = some (.int .i64 xk.f1) from at_cell (j := 1) hat_ rfl)
    have HEk2 := Lib.hid (show W.cell? ⟨ab, ao + n * 8 + 2, none⟩ = some (.int .i64 xk.f2) from at_cell (j := 2) hat_ rfl)
    have HEk3 := Lib.hid (show W.cell? ⟨ab, ao + n * 8 + 3, none⟩ = some (.int .i64 xk.f3) from at_cell (j := 3) hat_ rfl)
    have HEk4 := Lib.hid (show W.cell? ⟨ab, ao + n * 8 + 4, none⟩ = some (.int .i64 xk.f4) from at_cell (j := 4) hat_ rfl)
    have HEk5 := Lib.hid (show W.cell? ⟨ab, ao + n * 8 + 5, none⟩ = some (.int .i64 xk.f5) from at_cell (j := 5) hat_ rfl)
    have HEk6 := Lib.hid (show W.cell? ⟨ab, ao + n * 8 + 6, none⟩ = some (.int .i64 xk.f6) from at_cell (j := 6) hat_ rfl)
    have HEk7 := Lib.hid (show W.cell? ⟨ab, ao + n * 8 + 7, none⟩ = some (.slice pk nk ck) from at_cell (j := 7) hat_ rfl)
    clear hat_ r7_ hx_ hq_
    have ek0_ := (G11_.out).cell HEk0.out (by simp)
    have ek1_ := (G11_.out).cell HEk1.out (by simp)
    have ek2_ := (G11_.out).cell HEk2.out (by simp)
    have ek3_ := (G11_.out).cell HEk3.out (by simp)
    have ek4_ := (G11_.out).cell HEk4.out (by simp)
    have ek5_ := (G11_.out).cell HEk5.out (by simp)
    have ek6_ := (G11_.out).cell HEk6.out (by simp)
    have ek7_ := (G11_.out).cell HEk7.out (by simp)
    obtain ⟨cb_, hcb_⟩ : ∃ b, b = canD hs us xk := ⟨_, rfl⟩
    have HCB := Lib.hid hcb_
    clear hcb_
    obtain ⟨gb_, hgb_⟩ : ∃ b, b = goesP xs n := ⟨_, rfl⟩
    have HGB := Lib.hid hgb_
    clear hgb_
    have HLB := Lib.hid (show lastB hs us xs n = (cb_ && !gb_) from by unfold lastB; rw [← HXk.out, HCB.out, HGB.out])
    have HMEM := Lib.hid (show ((n : Int) ∈ L) ↔ gb_ = true from by rw [HLE.out, passL_goes xs _ n (by have := HE.out; omega), HGB.out])
    obtain ⟨pl, cl, hvl_, hcl_, hil_⟩ := rdI1_in HLR.out
    subst hvl_
    have HIL := Lib.hid hil_
    clear hcl_ hil_
    obtain ⟨nl, hnl2_⟩ : ∃ m, m = L.length := ⟨_, rfl⟩
    rw [← hnl2_] at hnl_ ⊢
    have HNL := Lib.hid hnl2_
    unfold RdN1 at HIL
    rw [← hnl2_] at HIL
    clear hnl2_
    go_wp2
    go_loopw [6, 7] (fun o i wr => ∃ (m : Nat) (r : Bool), i = .int .i64 (m : Int) ∧ m ≤ nl ∧ o = .bool r ∧ (r = true ↔ ∃ j, j < m ∧ L.getD j 0 = (n : Int)) ∧ (wo).grownBy wr none) (fun _ i _ => nl - (intOf i).toNat)
    case atStart => exact ⟨0, false, rfl, by omega, rfl, iff_no' (by rintro ⟨j, h, _⟩; omega), gby_refl _ _⟩
    case round =>
      clear Q_0_ Q_1_ Q_2_ Q_3_ ek0_ ek1_ ek2_ ek3_ ek4_ ek5_ ek6_ ek7_
      obtain ⟨m, r, rfl, hm, rfl, hr_, hg⟩ := hrel
      have szrwr := hg.size
      try simp only [World.size_alloc] at szrwr
      try simp only [World.size_setCell] at szrwr
      have szr_ := szrwr
      have rQ13_ := Lib.hid (show (wr).heap[W.heap.size]? = some (.cells #[.slice (some ⟨ab, ao, none⟩) n0 cap0, v1, v2, v3] 33 (0, 0)) from row_held hg rQ10_.out)
      clear rQ10_
      have G14_ := Lib.hid (show (W).grownBy (wr) none from gby_trans G11_.out hg)
      have HTP15_ := Lib.hid (show (w2).grownBy (wr) none from gby_trans HTP12_.out hg)
      clear HTP12_
      have HTB16_ := Lib.hid (show (w2).grownBy (wr) none from gby_trans HTB_.out hg)
      clear HTB_
      have HTI_ := Lib.hid hg
      clear hg
      have Q_0_ : (wr).cell? ⟨W.heap.size, 0, none⟩ = some (.slice (some ⟨ab, ao, none⟩) n0 cap0) := cell_of_row _ _ 0 _ _ _ rQ13_.out
      have Q_1_ : (wr).cell? ⟨W.heap.size, 1, none⟩ = some (v1) := cell_of_row _ _ 1 _ _ _ rQ13_.out
      have Q_2_ : (wr).cell? ⟨W.heap.size, 2, none⟩ = some (v2) := cell_of_row _ _ 2 _ _ _ rQ13_.out
      have Q_3_ : (wr).cell? ⟨W.heap.size, 3, none⟩ = some (v3) := cell_of_row _ _ 3 _ _ _ rQ13_.out
      have ek0_ := (G14_.out).cell HEk0.out (by simp)
      have ek1_ := (G14_.out).cell HEk1.out (by simp)
      have ek2_ := (G14_.out).cell HEk2.out (by simp)
      have ek3_ := (G14_.out).cell HEk3.out (by simp)
      have ek4_ := (G14_.out).cell HEk4.out (by simp)
      have ek5_ := (G14_.out).cell HEk5.out (by simp)
      have ek6_ := (G14_.out).cell HEk6.out (by simp)
      have ek7_ := (G14_.out).cell HEk7.out (by simp)
      have HR_ := Lib.hid hr_
      clear hr_
      have hm0_ : (0 : Int) ≤ (m : Int) := by omega
      have htm : ((m : Int)).toNat = m := by omega
      by_cases hlm : m < nl
      rotate_left
      · obtain rfl : m = nl := by omega
        have hmi : ¬ (m : Int) < (m : Int) := by omega
        have hrg_ : r = gb_ := by rw [Bool.eq_iff_iff, HR_.out, ← HMEM.out, mem_at, HNL.out]
        subst hrg_
        cases cb_
        · skip
          go_wp2_with fail
          refine wp_region_held_drew (S := fun w' => w'.cell? ⟨W.heap.size, 0, none⟩ = some (.slice (some ⟨ab, ao, none⟩) n0 cap0) ∧ w'.cell? ⟨W.heap.size, 1, none⟩ = some (v1) ∧ w'.cell? ⟨W.heap.size, 2, none⟩ = some (v2) ∧ w'.cell? ⟨W.heap.size, 3, none⟩ = some (v3) ∧ w'.cell? ⟨ab, ao + n * 8, none⟩ = some (.int .i64 xk.f0) ∧ w'.cell? ⟨ab, ao + n * 8 + 1, none⟩ = some (.int .i64 xk.f1) ∧ w'.cell? ⟨ab, ao + n * 8 + 2, none⟩ = some (.int .i64 xk.f2) ∧ w'.cell? ⟨ab, ao + n * 8 + 3, none⟩ = some (.int .i64 xk.f3) ∧ w'.cell? ⟨ab, ao + n * 8 + 4, none⟩ = some (.int .i64 xk.f4) ∧ w'.cell? ⟨ab, ao + n * 8 + 5, none⟩ = some (.int .i64 xk.f5) ∧ w'.cell? ⟨ab, ao + n * 8 + 6, none⟩ = some (.int .i64 xk.f6) ∧ w'.cell? ⟨ab, ao + n * 8 + 7, none⟩ = some (.slice pk nk ck)) (by kernel_rfl) (by (try dsimp only); exact ⟨Q_0_, Q_1_, Q_2_, Q_3_, ek0_, ek1_, ek2_, ek3_, ek4_, ek5_, ek6_, ek7_⟩) (fun hHeld => ?_)
          refine wpAnyH_take (i := 0) (oi := { dst := some 36, op := Op.fieldAddr 33 (Operand.tmp 1) 1, type := 0, pos := "l17_queue.go:76", after := #[], guard := none }) (v := ?v0_r1_1) rfl (by kernel_rfl) (by kernel_rfl) (by kernel_rfl) (fun _ _ _ h => h) (Or.inl ⟨by rfl, ?y0_r1_1⟩) (by assumption) ?r0_r1_1
          case y0_r1_1 => (intro w hSw; (try dsimp only at hSw); go_simp; all_goals (with_reducible rfl))
          try simp only [Act.put, List.setIfInBounds_toArray, List.set_cons_zero, List.set_cons_succ]
          refine wpAnyH_take (i := 1) (oi := { dst := some 37, op := Op.load 31 (Operand.tmp 36), type := 31, pos := "l17_queue.go:76", after := #[{ on := 0, ground := Ground.data }], guard := none }) (v := ?v1_r1_2) rfl (by kernel_rfl) (by kernel_rfl) (by kernel_rfl) (fun _ _ _ h => h) (Or.inl ⟨by rfl, ?y1_r1_2⟩) (by assumption) ?r1_r1_2
          case y1_r1_2 => (intro w hSw; (try dsimp only at hSw); go_simp; all_goals (with_reducible rfl))
          try simp only [Act.put, List.setIfInBounds_toArray, List.set_cons_zero, List.set_cons_succ]
          refine wpAnyH_take (i := 2) (oi := { dst := some 38, op := Op.fieldAddr 33 (Operand.tmp 1) 0, type := 0, pos := "l17_queue.go:76", after := #[], guard := none }) (v := ?v2_r1_3) rfl (by kernel_rfl) (by kernel_rfl) (by kernel_rfl) (fun _ _ _ h => h) (Or.inl ⟨by rfl, ?y2_r1_3⟩) (by assumption) ?r2_r1_3
          case y2_r1_3 => (intro w hSw; (try dsimp only at hSw); go_simp; all_goals (with_reducible rfl))
          try simp only [Act.put, List.setIfInBounds_toArray, List.set_cons_zero, List.set_cons_succ]
          refine wpAnyH_take (i := 3) (oi := { dst := some 39, op := Op.load 30 (Operand.tmp 38), type := 30, pos := "l17_queue.go:76", after := #[{ on := 2, ground := Ground.data }], guard := none }) (v := ?v3_r1_4) rfl (by kernel_rfl) (by kernel_rfl) (by kernel_rfl) (fun _ _ _ h => h) (Or.inl ⟨by rfl, ?y3_r1_4⟩) (by assumption) ?r3_r1_4
          case y3_r1_4 => (intro w hSw; (try dsimp only at hSw); go_simp; all_goals (with_reducible rfl))
          try simp only [Act.put, List.setIfInBounds_toArray, List.set_cons_zero, List.set_cons_succ]
          refine wpAnyH_take (i := 4) (oi := { dst := some 40, op := Op.move (Operand.tmp 5), type := 3, pos := "l17_queue.go:76", after := #[], guard := none }) (v := ?v4_r1_5) rfl (by kernel_rfl) (by kernel_rfl) (by kernel_rfl) (fun _ _ _ h => h) (Or.inl ⟨by rfl, ?y4_r1_5⟩) (by assumption) ?r4_r1_5
          case y4_r1_5 => (intro w hSw; (try dsimp only at hSw); go_simp; all_goals (with_reducible rfl))
          try simp only [Act.put, List.setIfInBounds_toArray, List.set_cons_zero, List.set_cons_succ]
          refine wpAnyH_take (i := 5) (oi := { dst := some 41, op := Op.indexAddr 30 (Operand.tmp 39) (Operand.tmp 40), type := 0, pos := "l17_queue.go:76", after := #[{ on := 3, ground := Ground.data }, { on := 4, ground := Ground.data }], guard := none }) (v := ?v5_r1_6) rfl (by kernel_rfl) (by kernel_rfl) (by kernel_rfl) (fun _ _ _ h => h) (Or.inl ⟨by rfl, ?y5_r1_6⟩) (by assumption) ?r5_r1_6
          case y5_r1_6 => (intro w hSw; (try dsimp only at hSw); go_simp; all_goals (with_reducible rfl))
          try simp only [Act.put, List.setIfInBounds_toArray, List.set_cons_zero, List.set_cons_succ]
          refine wpAnyH_take (i := 6) (oi := { dst := some 42, op := Op.load 60 (Operand.tmp 41), type := 60, pos := "l17_queue.go:76", after := #[{ on := 5, ground := Ground.data }], guard := none }) (v := ?v6_r1_7) rfl (by kernel_rfl) (by kernel_rfl) (by kernel_rfl) (fun _ _ _ h => h) (Or.inl ⟨by rfl, ?y6_r1_7⟩) (by assumption) ?r6_r1_7
          case y6_r1_7 => (intro w hSw; (try dsimp only at hSw); go_simp; all_goals (with_reducible rfl))
          try simp only [Act.put, List.setIfInBounds_toArray, List.set_cons_zero, List.set_cons_succ]
          refine wpAnyH_ready (rs := [7]) (by kernel_rfl) (by simp) ?_
          refine AllReadyH.cons (o := { dst := some 43, op := Op.call { callee := Callee.value (Operand.func 61), args := #[Operand.tmp 37, Operand.tmp 42], argTypes := #[31, 60] }, type := 4, pos := "l17_queue.go:76", after := #[{ on := 1, ground := Ground.data }, { on := 6, ground := Ground.data }], guard := none }) rfl (fun K hK => ?_) AllReadyH.nil
          go_simp
          go_at_call 61
          refine (specCanD _ hs us xk _ _ _ (HR1.out.grow (gby_trans G14_.out (gby_drew (gby_refl _ none)))) (HR2.out.grow (gby_trans G14_.out (gby_drew (gby_refl _ none)))) (Rk.out.grow (gby_trans G14_.out (gby_drew (gby_refl _ none)))) HL1.out HL2.out hzk_ false HCB.out).mono ?_
          rintro e wH8_r1 ⟨rfl, gH8_r1⟩
          have m8_Q_0_ : wH8_r1.cell? _ = some _ := gH8_r1.cell Q_0_ (by simp); have m8_Q_1_ : wH8_r1.cell? _ = some _ := gH8_r1.cell Q_1_ (by simp); have m8_Q_2_ : wH8_r1.cell? _ = some _ := gH8_r1.cell Q_2_ (by simp); have m8_Q_3_ : wH8_r1.cell? _ = some _ := gH8_r1.cell Q_3_ (by simp); have m8_ek0_ : wH8_r1.cell? _ = some _ := gH8_r1.cell ek0_ (by simp); have m8_ek1_ : wH8_r1.cell? _ = some _ := gH8_r1.cell ek1_ (by simp); have m8_ek2_ : wH8_r1.cell? _ = some _ := gH8_r1.cell ek2_ (by simp); have m8_ek3_ : wH8_r1.cell? _ = some _ := gH8_r1.cell ek3_ (by simp); have m8_ek4_ : wH8_r1.cell? _ = some _ := gH8_r1.cell ek4_ (by simp); have m8_ek5_ : wH8_r1.cell? _ = some _ := gH8_r1.cell ek5_ (by simp); have m8_ek6_ : wH8_r1.cell? _ = some _ := gH8_r1.cell ek6_ (by simp); have m8_ek7_ : wH8_r1.cell? _ = some _ := gH8_r1.cell ek7_ (by simp)
          go_wp2_with fail
          clear hHeld
          refine hK.out _ _ ?s7_r1_8 (fun hHeld => ?_)
          case s7_r1_8 => exact ⟨m8_Q_0_, m8_Q_1_, m8_Q_2_, m8_Q_3_, m8_ek0_, m8_ek1_, m8_ek2_, m8_ek3_, m8_ek4_, m8_ek5_, m8_ek6_, m8_ek7_⟩
          clear hK K
          try simp only [Act.put, List.setIfInBounds_toArray, List.set_cons_zero, List.set_cons_succ]
          refine wpAnyH_take (i := 8) (oi := { dst := some 44, op := Op.move (Operand.tmp 43), type := 4, pos := "l17_queue.go:76", after := #[{ on := 7, ground := Ground.data }, { on := 7, ground := Ground.chain }], guard := none }) (v := ?v8_r1_9) rfl (by kernel_rfl) (by kernel_rfl) (by kernel_rfl) (fun _ _ _ h => h) (Or.inl ⟨by rfl, ?y8_r1_9⟩) (by assumption) ?r8_r1_9
          case y8_r1_9 => (intro w hSw; (try dsimp only at hSw); go_simp; all_goals (with_reducible rfl))
          try simp only [Act.put, List.setIfInBounds_toArray, List.set_cons_zero, List.set_cons_succ]
          refine wpAnyH_take (i := 9) (oi := { dst := some 45, op := Op.move (Operand.tmp 6), type := 4, pos := "l17_queue.go:76", after := #[{ on := 8, ground := Ground.guard }], guard := some (8, true) }) (v := undef) rfl (by kernel_rfl) (by kernel_rfl) (by kernel_rfl) (fun _ _ _ h => h) (Or.inr ⟨by rfl, rfl⟩) (by assumption) ?r9_r1_10
          try simp only [Act.put, List.setIfInBounds_toArray, List.set_cons_zero, List.set_cons_succ]
          refine wpAnyH_take (i := 10) (oi := { dst := some 46, op := Op.unOp UnOp.not 4 (Operand.tmp 45), type := 4, pos := "l17_queue.go:76", after := #[{ on := 9, ground := Ground.data }, { on := 8, ground := Ground.guard }], guard := some (8, true) }) (v := undef) rfl (by kernel_rfl) (by kernel_rfl) (by kernel_rfl) (fun _ _ _ h => h) (Or.inr ⟨by rfl, rfl⟩) (by assumption) ?r10_r1_11
          try simp only [Act.put, List.setIfInBounds_toArray, List.set_cons_zero, List.set_cons_succ]
          refine wpAnyH_take (i := 11) (oi := { dst := some 47, op := Op.pick (Operand.tmp 44) (Operand.tmp 46) (Operand.const (Value.bool false)), type := 4, pos := "l17_queue.go:76", after := #[{ on := 8, ground := Ground.data }, { on := 10, ground := Ground.data }], guard := none }) (v := ?v11_r1_12) rfl (by kernel_rfl) (by kernel_rfl) (by kernel_rfl) (fun _ _ _ h => h) (Or.inl ⟨by rfl, ?y11_r1_12⟩) (by assumption) ?r11_r1_12
          case y11_r1_12 => (intro w hSw; (try dsimp only at hSw); go_simp; all_goals (with_reducible rfl))
          try simp only [Act.put, List.setIfInBounds_toArray, List.set_cons_zero, List.set_cons_succ]
          refine wpAnyH_done (by kernel_rfl) ?_ _
          have gR_ : (wr).grownBy (wH8_r1) none := (gby_trans (gby_drew (gby_refl _ none)) gH8_r1)
          have szwH8_r1 := gR_.size
          try simp only [World.size_alloc] at szwH8_r1
          clear Q_0_ Q_1_ Q_2_ Q_3_ ek0_ ek1_ ek2_ ek3_ ek4_ ek5_ ek6_ ek7_
          have rQ17_ := Lib.hid (show (wH8_r1).heap[W.heap.size]? = some (.cells #[.slice (some ⟨ab, ao, none⟩) n0 cap0, v1, v2, v3] 33 (0, 0)) from row_held gR_ rQ13_.out)
          clear rQ13_
          have G18_ := Lib.hid (show (W).grownBy (wH8_r1) none from gby_trans G14_.out gR_)
          have HTP19_ := Lib.hid (show (w2).grownBy (wH8_r1) none from gby_trans HTP15_.out gR_)
          clear HTP15_
          have HTB20_ := Lib.hid (show (w2).grownBy (wH8_r1) none from gby_trans HTB16_.out gR_)
          clear HTB16_
          have HTI21_ := Lib.hid (show (wo).grownBy (wH8_r1) none from gby_trans HTI_.out gR_)
          clear HTI_
          clear gR_
          have eb_ : blkN hs us xs (n + 1) = z0 := by rw [HZ.out]; show (if _ then _ else _) = _; rw [if_neg (by rw [HLB.out]; simp)]
          go_wp2
          refine ⟨⟨n + 1, by go_num, by omega, ⟨_, rfl⟩, ⟨_, rfl⟩, by rw [eb_], HTB20_.out⟩, by simp [intOf]; omega⟩
        · cases r
          · skip
            go_wp2_with fail
            refine wp_region_held_drew (S := fun w' => w'.cell? ⟨W.heap.size, 0, none⟩ = some (.slice (some ⟨ab, ao, none⟩) n0 cap0) ∧ w'.cell? ⟨W.heap.size, 1, none⟩ = some (v1) ∧ w'.cell? ⟨W.heap.size, 2, none⟩ = some (v2) ∧ w'.cell? ⟨W.heap.size, 3, none⟩ = some (v3) ∧ w'.cell? ⟨ab, ao + n * 8, none⟩ = some (.int .i64 xk.f0) ∧ w'.cell? ⟨ab, ao + n * 8 + 1, none⟩ = some (.int .i64 xk.f1) ∧ w'.cell? ⟨ab, ao + n * 8 + 2, none⟩ = some (.int .i64 xk.f2) ∧ w'.cell? ⟨ab, ao + n * 8 + 3, none⟩ = some (.int .i64 xk.f3) ∧ w'.cell? ⟨ab, ao + n * 8 + 4, none⟩ = some (.int .i64 xk.f4) ∧ w'.cell? ⟨ab, ao + n * 8 + 5, none⟩ = some (.int .i64 xk.f5) ∧ w'.cell? ⟨ab, ao + n * 8 + 6, none⟩ = some (.int .i64 xk.f6) ∧ w'.cell? ⟨ab, ao + n * 8 + 7, none⟩ = some (.slice pk nk ck)) (by kernel_rfl) (by (try dsimp only); exact ⟨Q_0_, Q_1_, Q_2_, Q_3_, ek0_, ek1_, ek2_, ek3_, ek4_, ek5_, ek6_, ek7_⟩) (fun hHeld => ?_)
            refine wpAnyH_take (i := 0) (oi := { dst := some 36, op := Op.fieldAddr 33 (Operand.tmp 1) 1, type := 0, pos := "l17_queue.go:76", after := #[], guard := none }) (v := ?v0_r2_1) rfl (by kernel_rfl) (by kernel_rfl) (by kernel_rfl) (fun _ _ _ h => h) (Or.inl ⟨by rfl, ?y0_r2_1⟩) (by assumption) ?r0_r2_1
            case y0_r2_1 => (intro w hSw; (try dsimp only at hSw); go_simp; all_goals (with_reducible rfl))
            try simp only [Act.put, List.setIfInBounds_toArray, List.set_cons_zero, List.set_cons_succ]
            refine wpAnyH_take (i := 1) (oi := { dst := some 37, op := Op.load 31 (Operand.tmp 36), type := 31, pos := "l17_queue.go:76", after := #[{ on := 0, ground := Ground.data }], guard := none }) (v := ?v1_r2_2) rfl (by kernel_rfl) (by kernel_rfl) (by kernel_rfl) (fun _ _ _ h => h) (Or.inl ⟨by rfl, ?y1_r2_2⟩) (by assumption) ?r1_r2_2
            case y1_r2_2 => (intro w hSw; (try dsimp only at hSw); go_simp; all_goals (with_reducible rfl))
            try simp only [Act.put, List.setIfInBounds_toArray, List.set_cons_zero, List.set_cons_succ]
            refine wpAnyH_take (i := 2) (oi := { dst := some 38, op := Op.fieldAddr 33 (Operand.tmp 1) 0, type := 0, pos := "l17_queue.go:76", after := #[], guard := none }) (v := ?v2_r2_3) rfl (by kernel_rfl) (by kernel_rfl) (by kernel_rfl) (fun _ _ _ h => h) (Or.inl ⟨by rfl, ?y2_r2_3⟩) (by assumption) ?r2_r2_3
            case y2_r2_3 => (intro w hSw; (try dsimp only at hSw); go_simp; all_goals (with_reducible rfl))
            try simp only [Act.put, List.setIfInBounds_toArray, List.set_cons_zero, List.set_cons_succ]
            refine wpAnyH_take (i := 3) (oi := { dst := some 39, op := Op.load 30 (Operand.tmp 38), type := 30, pos := "l17_queue.go:76", after := #[{ on := 2, ground := Ground.data }], guard := none }) (v := ?v3_r2_4) rfl (by kernel_rfl) (by kernel_rfl) (by kernel_rfl) (fun _ _ _ h => h) (Or.inl ⟨by rfl, ?y3_r2_4⟩) (by assumption) ?r3_r2_4
            case y3_r2_4 => (intro w hSw; (try dsimp only at hSw); go_simp; all_goals (with_reducible rfl))
            try simp only [Act.put, List.setIfInBounds_toArray, List.set_cons_zero, List.set_cons_succ]
            refine wpAnyH_take (i := 4) (oi := { dst := some 40, op := Op.move (Operand.tmp 5), type := 3, pos := "l17_queue.go:76", after := #[], guard := none }) (v := ?v4_r2_5) rfl (by kernel_rfl) (by kernel_rfl) (by kernel_rfl) (fun _ _ _ h => h) (Or.inl ⟨by rfl, ?y4_r2_5⟩) (by assumption) ?r4_r2_5
            case y4_r2_5 => (intro w hSw; (try dsimp only at hSw); go_simp; all_goals (with_reducible rfl))
            try simp only [Act.put, List.setIfInBounds_toArray, List.set_cons_zero, List.set_cons_succ]
            refine wpAnyH_take (i := 5) (oi := { dst := some 41, op := Op.indexAddr 30 (Operand.tmp 39) (Operand.tmp 40), type := 0, pos := "l17_queue.go:76", after := #[{ on := 3, ground := Ground.data }, { on := 4, ground := Ground.data }], guard := none }) (v := ?v5_r2_6) rfl (by kernel_rfl) (by kernel_rfl) (by kernel_rfl) (fun _ _ _ h => h) (Or.inl ⟨by rfl, ?y5_r2_6⟩) (by assumption) ?r5_r2_6
            case y5_r2_6 => (intro w hSw; (try dsimp only at hSw); go_simp; all_goals (with_reducible rfl))
            try simp only [Act.put, List.setIfInBounds_toArray, List.set_cons_zero, List.set_cons_succ]
            refine wpAnyH_take (i := 6) (oi := { dst := some 42, op := Op.load 60 (Operand.tmp 41), type := 60, pos := "l17_queue.go:76", after := #[{ on := 5, ground := Ground.data }], guard := none }) (v := ?v6_r2_7) rfl (by kernel_rfl) (by kernel_rfl) (by kernel_rfl) (fun _ _ _ h => h) (Or.inl ⟨by rfl, ?y6_r2_7⟩) (by assumption) ?r6_r2_7
            case y6_r2_7 => (intro w hSw; (try dsimp only at hSw); go_simp; all_goals (with_reducible rfl))
            try simp only [Act.put, List.setIfInBounds_toArray, List.set_cons_zero, List.set_cons_succ]
            refine wpAnyH_ready (rs := [7]) (by kernel_rfl) (by simp) ?_
            refine AllReadyH.cons (o := { dst := some 43, op := Op.call { callee := Callee.value (Operand.func 61), args := #[Operand.tmp 37, Operand.tmp 42], argTypes := #[31, 60] }, type := 4, pos := "l17_queue.go:76", after := #[{ on := 1, ground := Ground.data }, { on := 6, ground := Ground.data }], guard := none }) rfl (fun K hK => ?_) AllReadyH.nil
            go_simp
            go_at_call 61
            refine (specCanD _ hs us xk _ _ _ (HR1.out.grow (gby_trans G14_.out (gby_drew (gby_refl _ none)))) (HR2.out.grow (gby_trans G14_.out (gby_drew (gby_refl _ none)))) (Rk.out.grow (gby_trans G14_.out (gby_drew (gby_refl _ none)))) HL1.out HL2.out hzk_ true HCB.out).mono ?_
            rintro e wH8_r2 ⟨rfl, gH8_r2⟩
            have m8_Q_0_ : wH8_r2.cell? _ = some _ := gH8_r2.cell Q_0_ (by simp); have m8_Q_1_ : wH8_r2.cell? _ = some _ := gH8_r2.cell Q_1_ (by simp); have m8_Q_2_ : wH8_r2.cell? _ = some _ := gH8_r2.cell Q_2_ (by simp); have m8_Q_3_ : wH8_r2.cell? _ = some _ := gH8_r2.cell Q_3_ (by simp); have m8_ek0_ : wH8_r2.cell? _ = some _ := gH8_r2.cell ek0_ (by simp); have m8_ek1_ : wH8_r2.cell? _ = some _ := gH8_r2.cell ek1_ (by simp); have m8_ek2_ : wH8_r2.cell? _ = some _ := gH8_r2.cell ek2_ (by simp); have m8_ek3_ : wH8_r2.cell? _ = some _ := gH8_r2.cell ek3_ (by simp); have m8_ek4_ : wH8_r2.cell? _ = some _ := gH8_r2.cell ek4_ (by simp); have m8_ek5_ : wH8_r2.cell? _ = some _ := gH8_r2.cell ek5_ (by simp); have m8_ek6_ : wH8_r2.cell? _ = some _ := gH8_r2.cell ek6_ (by simp); have m8_ek7_ : wH8_r2.cell? _ = some _ := gH8_r2.cell ek7_ (by simp)
            go_wp2_with fail
            clear hHeld
            refine hK.out _ _ ?s7_r2_8 (fun hHeld => ?_)
            case s7_r2_8 => exact ⟨m8_Q_0_, m8_Q_1_, m8_Q_2_, m8_Q_3_, m8_ek0_, m8_ek1_, m8_ek2_, m8_ek3_, m8_ek4_, m8_ek5_, m8_ek6_, m8_ek7_⟩
            clear hK K
            try simp only [Act.put, List.setIfInBounds_toArray, List.set_cons_zero, List.set_cons_succ]
            refine wpAnyH_take (i := 8) (oi := { dst := some 44, op := Op.move (Operand.tmp 43), type := 4, pos := "l17_queue.go:76", after := #[{ on := 7, ground := Ground.data }, { on := 7, ground := Ground.chain }], guard := none }) (v := ?v8_r2_9) rfl (by kernel_rfl) (by kernel_rfl) (by kernel_rfl) (fun _ _ _ h => h) (Or.inl ⟨by rfl, ?y8_r2_9⟩) (by assumption) ?r8_r2_9
            case y8_r2_9 => (intro w hSw; (try dsimp only at hSw); go_simp; all_goals (with_reducible rfl))
            try simp only [Act.put, List.setIfInBounds_toArray, List.set_cons_zero, List.set_cons_succ]
            refine wpAnyH_take (i := 9) (oi := { dst := some 45, op := Op.move (Operand.tmp 6), type := 4, pos := "l17_queue.go:76", after := #[{ on := 8, ground := Ground.guard }], guard := some (8, true) }) (v := ?v9_r2_10) rfl (by kernel_rfl) (by kernel_rfl) (by kernel_rfl) (fun _ _ _ h => h) (Or.inl ⟨by rfl, ?y9_r2_10⟩) (by assumption) ?r9_r2_10
            case y9_r2_10 => (intro w hSw; (try dsimp only at hSw); go_simp; all_goals (with_reducible rfl))
            try simp only [Act.put, List.setIfInBounds_toArray, List.set_cons_zero, List.set_cons_succ]
            refine wpAnyH_take (i := 10) (oi := { dst := some 46, op := Op.unOp UnOp.not 4 (Operand.tmp 45), type := 4, pos := "l17_queue.go:76", after := #[{ on := 9, ground := Ground.data }, { on := 8, ground := Ground.guard }], guard := some (8, true) }) (v := ?v10_r2_11) rfl (by kernel_rfl) (by kernel_rfl) (by kernel_rfl) (fun _ _ _ h => h) (Or.inl ⟨by rfl, ?y10_r2_11⟩) (by assumption) ?r10_r2_11
            case y10_r2_11 => (intro w hSw; (try dsimp only at hSw); go_simp; all_goals (with_reducible rfl))
            try simp only [Act.put, List.setIfInBounds_toArray, List.set_cons_zero, List.set_cons_succ]
            refine wpAnyH_take (i := 11) (oi := { dst := some 47, op := Op.pick (Operand.tmp 44) (Operand.tmp 46) (Operand.const (Value.bool false)), type := 4, pos := "l17_queue.go:76", after := #[{ on := 8, ground := Ground.data }, { on := 10, ground := Ground.data }], guard := none }) (v := ?v11_r2_12) rfl (by kernel_rfl) (by kernel_rfl) (by kernel_rfl) (fun _ _ _ h => h) (Or.inl ⟨by rfl, ?y11_r2_12⟩) (by assumption) ?r11_r2_12
            case y11_r2_12 => (intro w hSw; (try dsimp only at hSw); go_simp; all_goals (with_reducible rfl))
            try simp only [Act.put, List.setIfInBounds_toArray, List.set_cons_zero, List.set_cons_succ]
            refine wpAnyH_done (by kernel_rfl) ?_ _
            have gR_ : (wr).grownBy (wH8_r2) none := (gby_trans (gby_drew (gby_refl _ none)) gH8_r2)
            have szwH8_r2 := gR_.size
            try simp only [World.size_alloc] at szwH8_r2
            clear Q_0_ Q_1_ Q_2_ Q_3_ ek0_ ek1_ ek2_ ek3_ ek4_ ek5_ ek6_ ek7_
            have rQ17_ := Lib.hid (show (wH8_r2).heap[W.heap.size]? = some (.cells #[.slice (some ⟨ab, ao, none⟩) n0 cap0, v1, v2, v3] 33 (0, 0)) from row_held gR_ rQ13_.out)
            clear rQ13_
            have G18_ := Lib.hid (show (W).grownBy (wH8_r2) none from gby_trans G14_.out gR_)
            have HTP19_ := Lib.hid (show (w2).grownBy (wH8_r2) none from gby_trans HTP15_.out gR_)
            clear HTP15_
            have HTB20_ := Lib.hid (show (w2).grownBy (wH8_r2) none from gby_trans HTB16_.out gR_)
            clear HTB16_
            have HTI21_ := Lib.hid (show (wo).grownBy (wH8_r2) none from gby_trans HTI_.out gR_)
            clear HTI_
            clear gR_
            have eb_ : blkN hs us xs (n + 1) = z0 + 1 := by rw [HZ.out]; show (if _ then _ else _) = _; rw [if_pos (by rw [HLB.out]; rfl)]
            go_wp2
            refine ⟨⟨n + 1, by go_num, by omega, ⟨_, rfl⟩, ⟨_, rfl⟩, by rw [eb_]; go_num, HTB20_.out⟩, by simp [intOf]; omega⟩
          · skip
            go_wp2_with fail
            refine wp_region_held_drew (S := fun w' => w'.cell? ⟨W.heap.size, 0, none⟩ = some (.slice (some ⟨ab, ao, none⟩) n0 cap0) ∧ w'.cell? ⟨W.heap.size, 1, none⟩ = some (v1) ∧ w'.cell? ⟨W.heap.size, 2, none⟩ = some (v2) ∧ w'.cell? ⟨W.heap.size, 3, none⟩ = some (v3) ∧ w'.cell? ⟨ab, ao + n * 8, none⟩ = some (.int .i64 xk.f0) ∧ w'.cell? ⟨ab, ao + n * 8 + 1, none⟩ = some (.int .i64 xk.f1) ∧ w'.cell? ⟨ab, ao + n * 8 + 2, none⟩ = some (.int .i64 xk.f2) ∧ w'.cell? ⟨ab, ao + n * 8 + 3, none⟩ = some (.int .i64 xk.f3) ∧ w'.cell? ⟨ab, ao + n * 8 + 4, none⟩ = some (.int .i64 xk.f4) ∧ w'.cell? ⟨ab, ao + n * 8 + 5, none⟩ = some (.int .i64 xk.f5) ∧ w'.cell? ⟨ab, ao + n * 8 + 6, none⟩ = some (.int .i64 xk.f6) ∧ w'.cell? ⟨ab, ao + n * 8 + 7, none⟩ = some (.slice pk nk ck)) (by kernel_rfl) (by (try dsimp only); exact ⟨Q_0_, Q_1_, Q_2_, Q_3_, ek0_, ek1_, ek2_, ek3_, ek4_, ek5_, ek6_, ek7_⟩) (fun hHeld => ?_)
            refine wpAnyH_take (i := 0) (oi := { dst := some 36, op := Op.fieldAddr 33 (Operand.tmp 1) 1, type := 0, pos := "l17_queue.go:76", after := #[], guard := none }) (v := ?v0_r3_1) rfl (by kernel_rfl) (by kernel_rfl) (by kernel_rfl) (fun _ _ _ h => h) (Or.inl ⟨by rfl, ?y0_r3_1⟩) (by assumption) ?r0_r3_1
            case y0_r3_1 => (intro w hSw; (try dsimp only at hSw); go_simp; all_goals (with_reducible rfl))
            try simp only [Act.put, List.setIfInBounds_toArray, List.set_cons_zero, List.set_cons_succ]
            refine wpAnyH_take (i := 1) (oi := { dst := some 37, op := Op.load 31 (Operand.tmp 36), type := 31, pos := "l17_queue.go:76", after := #[{ on := 0, ground := Ground.data }], guard := none }) (v := ?v1_r3_2) rfl (by kernel_rfl) (by kernel_rfl) (by kernel_rfl) (fun _ _ _ h => h) (Or.inl ⟨by rfl, ?y1_r3_2⟩) (by assumption) ?r1_r3_2
            case y1_r3_2 => (intro w hSw; (try dsimp only at hSw); go_simp; all_goals (with_reducible rfl))
            try simp only [Act.put, List.setIfInBounds_toArray, List.set_cons_zero, List.set_cons_succ]
            refine wpAnyH_take (i := 2) (oi := { dst := some 38, op := Op.fieldAddr 33 (Operand.tmp 1) 0, type := 0, pos := "l17_queue.go:76", after := #[], guard := none }) (v := ?v2_r3_3) rfl (by kernel_rfl) (by kernel_rfl) (by kernel_rfl) (fun _ _ _ h => h) (Or.inl ⟨by rfl, ?y2_r3_3⟩) (by assumption) ?r2_r3_3
            case y2_r3_3 => (intro w hSw; (try dsimp only at hSw); go_simp; all_goals (with_reducible rfl))
            try simp only [Act.put, List.setIfInBounds_toArray, List.set_cons_zero, List.set_cons_succ]
            refine wpAnyH_take (i := 3) (oi := { dst := some 39, op := Op.load 30 (Operand.tmp 38), type := 30, pos := "l17_queue.go:76", after := #[{ on := 2, ground := Ground.data }], guard := none }) (v := ?v3_r3_4) rfl (by kernel_rfl) (by kernel_rfl) (by kernel_rfl) (fun _ _ _ h => h) (Or.inl ⟨by rfl, ?y3_r3_4⟩) (by assumption) ?r3_r3_4
            case y3_r3_4 => (intro w hSw; (try dsimp only at hSw); go_simp; all_goals (with_reducible rfl))
            try simp only [Act.put, List.setIfInBounds_toArray, List.set_cons_zero, List.set_cons_succ]
            refine wpAnyH_take (i := 4) (oi := { dst := some 40, op := Op.move (Operand.tmp 5), type := 3, pos := "l17_queue.go:76", after := #[], guard := none }) (v := ?v4_r3_5) rfl (by kernel_rfl) (by kernel_rfl) (by kernel_rfl) (fun _ _ _ h => h) (Or.inl ⟨by rfl, ?y4_r3_5⟩) (by assumption) ?r4_r3_5
            case y4_r3_5 => (intro w hSw; (try dsimp only at hSw); go_simp; all_goals (with_reducible rfl))
            try simp only [Act.put, List.setIfInBounds_toArray, List.set_cons_zero, List.set_cons_succ]
            refine wpAnyH_take (i := 5) (oi := { dst := some 41, op := Op.indexAddr 30 (Operand.tmp 39) (Operand.tmp 40), type := 0, pos := "l17_queue.go:76", after := #[{ on := 3, ground := Ground.data }, { on := 4, ground := Ground.data }], guard := none }) (v := ?v5_r3_6) rfl (by kernel_rfl) (by kernel_rfl) (by kernel_rfl) (fun _ _ _ h => h) (Or.inl ⟨by rfl, ?y5_r3_6⟩) (by assumption) ?r5_r3_6
            case y5_r3_6 => (intro w hSw; (try dsimp only at hSw); go_simp; all_goals (with_reducible rfl))
            try simp only [Act.put, List.setIfInBounds_toArray, List.set_cons_zero, List.set_cons_succ]
            refine wpAnyH_take (i := 6) (oi := { dst := some 42, op := Op.load 60 (Operand.tmp 41), type := 60, pos := "l17_queue.go:76", after := #[{ on := 5, ground := Ground.data }], guard := none }) (v := ?v6_r3_7) rfl (by kernel_rfl) (by kernel_rfl) (by kernel_rfl) (fun _ _ _ h => h) (Or.inl ⟨by rfl, ?y6_r3_7⟩) (by assumption) ?r6_r3_7
            case y6_r3_7 => (intro w hSw; (try dsimp only at hSw); go_simp; all_goals (with_reducible rfl))
            try simp only [Act.put, List.setIfInBounds_toArray, List.set_cons_zero, List.set_cons_succ]
            refine wpAnyH_ready (rs := [7]) (by kernel_rfl) (by simp) ?_
            refine AllReadyH.cons (o := { dst := some 43, op := Op.call { callee := Callee.value (Operand.func 61), args := #[Operand.tmp 37, Operand.tmp 42], argTypes := #[31, 60] }, type := 4, pos := "l17_queue.go:76", after := #[{ on := 1, ground := Ground.data }, { on := 6, ground := Ground.data }], guard := none }) rfl (fun K hK => ?_) AllReadyH.nil
            go_simp
            go_at_call 61
            refine (specCanD _ hs us xk _ _ _ (HR1.out.grow (gby_trans G14_.out (gby_drew (gby_refl _ none)))) (HR2.out.grow (gby_trans G14_.out (gby_drew (gby_refl _ none)))) (Rk.out.grow (gby_trans G14_.out (gby_drew (gby_refl _ none)))) HL1.out HL2.out hzk_ true HCB.out).mono ?_
            rintro e wH8_r3 ⟨rfl, gH8_r3⟩
            have m8_Q_0_ : wH8_r3.cell? _ = some _ := gH8_r3.cell Q_0_ (by simp); have m8_Q_1_ : wH8_r3.cell? _ = some _ := gH8_r3.cell Q_1_ (by simp); have m8_Q_2_ : wH8_r3.cell? _ = some _ := gH8_r3.cell Q_2_ (by simp); have m8_Q_3_ : wH8_r3.cell? _ = some _ := gH8_r3.cell Q_3_ (by simp); have m8_ek0_ : wH8_r3.cell? _ = some _ := gH8_r3.cell ek0_ (by simp); have m8_ek1_ : wH8_r3.cell? _ = some _ := gH8_r3.cell ek1_ (by simp); have m8_ek2_ : wH8_r3.cell? _ = some _ := gH8_r3.cell ek2_ (by simp); have m8_ek3_ : wH8_r3.cell? _ = some _ := gH8_r3.cell ek3_ (by simp); have m8_ek4_ : wH8_r3.cell? _ = some _ := gH8_r3.cell ek4_ (by simp); have m8_ek5_ : wH8_r3.cell? _ = some _ := gH8_r3.cell ek5_ (by simp); have m8_ek6_ : wH8_r3.cell? _ = some _ := gH8_r3.cell ek6_ (by simp); have m8_ek7_ : wH8_r3.cell? _ = some _ := gH8_r3.cell ek7_ (by simp)
            go_wp2_with fail
            clear hHeld
            refine hK.out _ _ ?s7_r3_8 (fun hHeld => ?_)
            case s7_r3_8 => exact ⟨m8_Q_0_, m8_Q_1_, m8_Q_2_, m8_Q_3_, m8_ek0_, m8_ek1_, m8_ek2_, m8_ek3_, m8_ek4_, m8_ek5_, m8_ek6_, m8_ek7_⟩
            clear hK K
            try simp only [Act.put, List.setIfInBounds_toArray, List.set_cons_zero, List.set_cons_succ]
            refine wpAnyH_take (i := 8) (oi := { dst := some 44, op := Op.move (Operand.tmp 43), type := 4, pos := "l17_queue.go:76", after := #[{ on := 7, ground := Ground.data }, { on := 7, ground := Ground.chain }], guard := none }) (v := ?v8_r3_9) rfl (by kernel_rfl) (by kernel_rfl) (by kernel_rfl) (fun _ _ _ h => h) (Or.inl ⟨by rfl, ?y8_r3_9⟩) (by assumption) ?r8_r3_9
            case y8_r3_9 => (intro w hSw; (try dsimp only at hSw); go_simp; all_goals (with_reducible rfl))
            try simp only [Act.put, List.setIfInBounds_toArray, List.set_cons_zero, List.set_cons_succ]
            refine wpAnyH_take (i := 9) (oi := { dst := some 45, op := Op.move (Operand.tmp 6), type := 4, pos := "l17_queue.go:76", after := #[{ on := 8, ground := Ground.guard }], guard := some (8, true) }) (v := ?v9_r3_10) rfl (by kernel_rfl) (by kernel_rfl) (by kernel_rfl) (fun _ _ _ h => h) (Or.inl ⟨by rfl, ?y9_r3_10⟩) (by assumption) ?r9_r3_10
            case y9_r3_10 => (intro w hSw; (try dsimp only at hSw); go_simp; all_goals (with_reducible rfl))
            try simp only [Act.put, List.setIfInBounds_toArray, List.set_cons_zero, List.set_cons_succ]
            refine wpAnyH_take (i := 10) (oi := { dst := some 46, op := Op.unOp UnOp.not 4 (Operand.tmp 45), type := 4, pos := "l17_queue.go:76", after := #[{ on := 9, ground := Ground.data }, { on := 8, ground := Ground.guard }], guard := some (8, true) }) (v := ?v10_r3_11) rfl (by kernel_rfl) (by kernel_rfl) (by kernel_rfl) (fun _ _ _ h => h) (Or.inl ⟨by rfl, ?y10_r3_11⟩) (by assumption) ?r10_r3_11
            case y10_r3_11 => (intro w hSw; (try dsimp only at hSw); go_simp; all_goals (with_reducible rfl))
            try simp only [Act.put, List.setIfInBounds_toArray, List.set_cons_zero, List.set_cons_succ]
            refine wpAnyH_take (i := 11) (oi := { dst := some 47, op := Op.pick (Operand.tmp 44) (Operand.tmp 46) (Operand.const (Value.bool false)), type := 4, pos := "l17_queue.go:76", after := #[{ on := 8, ground := Ground.data }, { on := 10, ground := Ground.data }], guard := none }) (v := ?v11_r3_12) rfl (by kernel_rfl) (by kernel_rfl) (by kernel_rfl) (fun _ _ _ h => h) (Or.inl ⟨by rfl, ?y11_r3_12⟩) (by assumption) ?r11_r3_12
            case y11_r3_12 => (intro w hSw; (try dsimp only at hSw); go_simp; all_goals (with_reducible rfl))
            try simp only [Act.put, List.setIfInBounds_toArray, List.set_cons_zero, List.set_cons_succ]
            refine wpAnyH_done (by kernel_rfl) ?_ _
            have gR_ : (wr).grownBy (wH8_r3) none := (gby_trans (gby_drew (gby_refl _ none)) gH8_r3)
            have szwH8_r3 := gR_.size
            try simp only [World.size_alloc] at szwH8_r3
            clear Q_0_ Q_1_ Q_2_ Q_3_ ek0_ ek1_ ek2_ ek3_ ek4_ ek5_ ek6_ ek7_
            have rQ17_ := Lib.hid (show (wH8_r3).heap[W.heap.size]? = some (.cells #[.slice (some ⟨ab, ao, none⟩) n0 cap0, v1, v2, v3] 33 (0, 0)) from row_held gR_ rQ13_.out)
            clear rQ13_
            have G18_ := Lib.hid (show (W).grownBy (wH8_r3) none from gby_trans G14_.out gR_)
            have HTP19_ := Lib.hid (show (w2).grownBy (wH8_r3) none from gby_trans HTP15_.out gR_)
            clear HTP15_
            have HTB20_ := Lib.hid (show (w2).grownBy (wH8_r3) none from gby_trans HTB16_.out gR_)
            clear HTB16_
            have HTI21_ := Lib.hid (show (wo).grownBy (wH8_r3) none from gby_trans HTI_.out gR_)
            clear HTI_
            clear gR_
            have eb_ : blkN hs us xs (n + 1) = z0 := by rw [HZ.out]; show (if _ then _ else _) = _; rw [if_neg (by rw [HLB.out]; simp)]
            go_wp2
            refine ⟨⟨n + 1, by go_num, by omega, ⟨_, rfl⟩, ⟨_, rfl⟩, by rw [eb_], HTB20_.out⟩, by simp [intOf]; omega⟩
      have hmi : (m : Int) < (nl : Int) := by omega
      obtain ⟨bl, ol, rfl, hlc_⟩ := HIL.out.resolve_left (by omega)
      have hy_ := hlc_ m hlm
      clear hlc_
      obtain ⟨y, hye_⟩ : ∃ y, y = L.getD m 0 := ⟨_, rfl⟩
      rw [← hye_] at hy_
      have HY := Lib.hid hye_
      clear hye_
      have yc_ := (HTP15_.out).cell hy_ (by simp)
      clear hy_
      obtain ⟨eb_, heb_⟩ : ∃ b, b = (y == (n : Int)) := ⟨_, rfl⟩
      have HEB := Lib.hid heb_.symm
      clear heb_
      have hkeep_ : (r || eb_) = true ↔ ∃ j, j < m + 1 ∧ L.getD j 0 = (n : Int) := by
        rw [Bool.or_eq_true, HR_.out, ← HEB.out, beq_iff_eq, HY.out]
        constructor
        · rintro (⟨j, h1, h2⟩ | h)
          · exact ⟨j, by omega, h2⟩
          · exact ⟨m, by omega, h⟩
        · rintro ⟨j, h1, h2⟩
          by_cases e : j = m
          · subst e; exact .inr h2
          · exact .inl ⟨j, by omega, h2⟩
      have HKP := Lib.hid hkeep_
      clear hkeep_
      cases r
      · have hb_ := HEB.out
        go_wp2
        refine ⟨⟨m + 1, eb_, by go_num, by omega, rfl, HKP.out, by repeat (first | exact HTI_.out | with_reducible refine gby_drewN ?_ _)⟩, by simp [intOf]; omega⟩
      · skip
        go_wp2
        refine ⟨⟨m + 1, true, by go_num, by omega, rfl, HKP.out, by repeat (first | exact HTI_.out | with_reducible refine gby_drewN ?_ _)⟩, by simp [intOf]; omega⟩

end Go.Proofs.Ytnighnkkeiegnaa

namespace Go.Proofs.Ytnighnkkeiegnaa
open Go Go.RowKit
set_option linter.unusedVariables false

set_option maxRecDepth 8000 in
set_option maxHeartbeats 4000000 in
theorem implBlk_no (W : World) (v0 v1 v2 v3 : Value) (xs : List DPacket) (hs us : List Int) (ys : List DPacket) (H : RdL shPacket W v0 xs) (H1 : RdL shI W v1 hs) (H2 : RdL shI W v2 us) (H3 : RdL shPacket W v3 ys) (hl : szL shPacket xs ≤ 1048576) (hl1 : szL shI hs ≤ 1048576) (hl2 : szL shI us ≤ 1048576) (hl3 : szL shPacket ys ≤ 1048576) (hq : ¬ QueOk xs hs us ys) : Calls Try.prog 20 #[vQueue v0 v1 v2 v3] W (AnsN (.int .i64 (-1)) W) := by
  have HQ := Lib.hid (show false = decide (QueOk xs hs us ys) from (decide_eq_false hq).symm)
  clear hq
  have HS := Lib.hid hl
  have HRD := Lib.hid H
  have HR1 := Lib.hid H1
  have HR2 := Lib.hid H2
  have HR3 := Lib.hid H3
  have HL1 := Lib.hid hl1
  have HL2 := Lib.hid hl2
  have HL3 := Lib.hid hl3
  obtain ⟨a0, cap0, rfl, hcap, _, H⟩ := H
  have HC := Lib.hid H
  have hcap2 := hcap.2
  obtain ⟨n0, hn0⟩ : ∃ n, n = xs.length := ⟨_, rfl⟩
  have HE := Lib.hid hn0
  have hlx : n0 ≤ 1048576 := by have := szL_len shPacket xs; omega
  rw [← hn0] at hcap2 ⊢
  rw [← hn0] at HRD HC
  clear H H1 H2 H3 hl1 hl2 hl3 hcap hl hn0
  unfold vQueue
  go_enter Try.func20, Try.ntmps20
  have rQ1_ := Lib.hid (show ((W.alloc (.cells #[.slice a0 n0 cap0, v1, v2, v3] 33))).heap[W.heap.size]? = some (.cells #[.slice a0 n0 cap0, v1, v2, v3] 33 (0, 0)) from by exact heap_alloc_new _ _)
  have G2_ := Lib.hid (show (W).grownBy ((W.alloc (.cells #[.slice a0 n0 cap0, v1, v2, v3] 33))) none from (gby_alloc (gby_refl _ _) _))
  have Q_0_ : ((W.alloc (.cells #[.slice a0 n0 cap0, v1, v2, v3] 33))).cell? ⟨W.heap.size, 0, none⟩ = some (.slice a0 n0 cap0) := cell_of_row _ _ 0 _ _ _ rQ1_.out
  have Q_1_ : ((W.alloc (.cells #[.slice a0 n0 cap0, v1, v2, v3] 33))).cell? ⟨W.heap.size, 1, none⟩ = some (v1) := cell_of_row _ _ 1 _ _ _ rQ1_.out
  have Q_2_ : ((W.alloc (.cells #[.slice a0 n0 cap0, v1, v2, v3] 33))).cell? ⟨W.heap.size, 2, none⟩ = some (v2) := cell_of_row _ _ 2 _ _ _ rQ1_.out
  have Q_3_ : ((W.alloc (.cells #[.slice a0 n0 cap0, v1, v2, v3] 33))).cell? ⟨W.heap.size, 3, none⟩ = some (v3) := cell_of_row _ _ 3 _ _ _ rQ1_.out
  go_wp2_with fail
  go_at_call 63
  refine (implQueOk _ _ _ _ _ xs hs us ys (HRD.out.grow G2_.out) (HR1.out.grow G2_.out) (HR2.out.grow G2_.out) (HR3.out.grow G2_.out) HS.out HL1.out HL2.out HL3.out false HQ.out).mono ?_
  rintro e w1 ⟨rfl, g⟩
  have szw1 := g.size
  try simp only [World.size_alloc] at szw1
  try simp only [World.size_setCell] at szw1
  clear Q_0_ Q_1_ Q_2_ Q_3_
  have rQ3_ := Lib.hid (show (w1).heap[W.heap.size]? = some (.cells #[.slice a0 n0 cap0, v1, v2, v3] 33 (0, 0)) from row_held g rQ1_.out)
  clear rQ1_
  have G4_ := Lib.hid (show (W).grownBy (w1) none from gby_trans G2_.out g)
  clear g
  have Q_0_ : (w1).cell? ⟨W.heap.size, 0, none⟩ = some (.slice a0 n0 cap0) := cell_of_row _ _ 0 _ _ _ rQ3_.out
  have Q_1_ : (w1).cell? ⟨W.heap.size, 1, none⟩ = some (v1) := cell_of_row _ _ 1 _ _ _ rQ3_.out
  have Q_2_ : (w1).cell? ⟨W.heap.size, 2, none⟩ = some (v2) := cell_of_row _ _ 2 _ _ _ rQ3_.out
  have Q_3_ : (w1).cell? ⟨W.heap.size, 3, none⟩ = some (v3) := cell_of_row _ _ 3 _ _ _ rQ3_.out
  go_wp2
  go_ret
  exact ⟨rfl, G4_.out⟩

set_option maxRecDepth 8000 in
set_option maxHeartbeats 4000000 in
theorem implBlk_yes (W : World) (v0 v1 v2 v3 : Value) (xs : List DPacket) (hs us : List Int) (ys : List DPacket) (H : RdL shPacket W v0 xs) (H1 : RdL shI W v1 hs) (H2 : RdL shI W v2 us) (H3 : RdL shPacket W v3 ys) (hl : szL shPacket xs ≤ 1048576) (hl1 : szL shI hs ≤ 1048576) (hl2 : szL shI us ≤ 1048576) (hl3 : szL shPacket ys ≤ 1048576) (hq : QueOk xs hs us ys) : Calls Try.prog 20 #[vQueue v0 v1 v2 v3] W (AnsN (.int .i64 ((blkN hs us xs xs.length : Nat) : Int)) W) := by
  have HQ := Lib.hid (show true = decide (QueOk xs hs us ys) from (decide_eq_true hq).symm)
  clear hq
  have HS := Lib.hid hl
  have HRD := Lib.hid H
  have HR1 := Lib.hid H1
  have HR2 := Lib.hid H2
  have HR3 := Lib.hid H3
  have HL1 := Lib.hid hl1
  have HL2 := Lib.hid hl2
  have HL3 := Lib.hid hl3
  obtain ⟨a0, cap0, rfl, hcap, _, H⟩ := H
  have HC := Lib.hid H
  have hcap2 := hcap.2
  obtain ⟨n0, hn0⟩ : ∃ n, n = xs.length := ⟨_, rfl⟩
  have HE := Lib.hid hn0
  have hlx : n0 ≤ 1048576 := by have := szL_len shPacket xs; omega
  rw [← hn0] at hcap2 ⊢
  rw [← hn0] at HRD HC
  clear H H1 H2 H3 hl1 hl2 hl3 hcap hl hn0
  unfold vQueue
  go_enter Try.func20, Try.ntmps20
  have rQ1_ := Lib.hid (show ((W.alloc (.cells #[.slice a0 n0 cap0, v1, v2, v3] 33))).heap[W.heap.size]? = some (.cells #[.slice a0 n0 cap0, v1, v2, v3] 33 (0, 0)) from by exact heap_alloc_new _ _)
  have G2_ := Lib.hid (show (W).grownBy ((W.alloc (.cells #[.slice a0 n0 cap0, v1, v2, v3] 33))) none from (gby_alloc (gby_refl _ _) _))
  have Q_0_ : ((W.alloc (.cells #[.slice a0 n0 cap0, v1, v2, v3] 33))).cell? ⟨W.heap.size, 0, none⟩ = some (.slice a0 n0 cap0) := cell_of_row _ _ 0 _ _ _ rQ1_.out
  have Q_1_ : ((W.alloc (.cells #[.slice a0 n0 cap0, v1, v2, v3] 33))).cell? ⟨W.heap.size, 1, none⟩ = some (v1) := cell_of_row _ _ 1 _ _ _ rQ1_.out
  have Q_2_ : ((W.alloc (.cells #[.slice a0 n0 cap0, v1, v2, v3] 33))).cell? ⟨W.heap.size, 2, none⟩ = some (v2) := cell_of_row _ _ 2 _ _ _ rQ1_.out
  have Q_3_ : ((W.alloc (.cells #[.slice a0 n0 cap0, v1, v2, v3] 33))).cell? ⟨W.heap.size, 3, none⟩ = some (v3) := cell_of_row _ _ 3 _ _ _ rQ1_.out
  go_wp2_with fail
  go_at_call 63
  refine (implQueOk _ _ _ _ _ xs hs us ys (HRD.out.grow G2_.out) (HR1.out.grow G2_.out) (HR2.out.grow G2_.out) (HR3.out.grow G2_.out) HS.out HL1.out HL2.out HL3.out true HQ.out).mono ?_
  rintro e w1 ⟨rfl, g⟩
  have szw1 := g.size
  try simp only [World.size_alloc] at szw1
  try simp only [World.size_setCell] at szw1
  clear Q_0_ Q_1_ Q_2_ Q_3_
  have rQ3_ := Lib.hid (show (w1).heap[W.heap.size]? = some (.cells #[.slice a0 n0 cap0, v1, v2, v3] 33 (0, 0)) from row_held g rQ1_.out)
  clear rQ1_
  have G4_ := Lib.hid (show (W).grownBy (w1) none from gby_trans G2_.out g)
  clear g
  have Q_0_ : (w1).cell? ⟨W.heap.size, 0, none⟩ = some (.slice a0 n0 cap0) := cell_of_row _ _ 0 _ _ _ rQ3_.out
  have Q_1_ : (w1).cell? ⟨W.heap.size, 1, none⟩ = some (v1) := cell_of_row _ _ 1 _ _ _ rQ3_.out
  have Q_2_ : (w1).cell? ⟨W.heap.size, 2, none⟩ = some (v2) := cell_of_row _ _ 2 _ _ _ rQ3_.out
  have Q_3_ : (w1).cell? ⟨W.heap.size, 3, none⟩ = some (v3) := cell_of_row _ _ 3 _ _ _ rQ3_.out
  go_wp2_with fail
  go_at_call 66
  refine (implPassers_any _ _ xs (HRD.out.grow G4_.out) HS.out).mono ?_
  rintro e w2 ⟨vl, rfl, o, g⟩
  have szw2 := g.size
  try simp only [World.size_alloc] at szw2
  clear Q_0_ Q_1_ Q_2_ Q_3_
  have rQ5_ := Lib.hid (show (w2).heap[W.heap.size]? = some (.cells #[.slice a0 n0 cap0, v1, v2, v3] 33 (0, 0)) from row_held g rQ3_.out)
  clear rQ3_
  have G6_ := Lib.hid (show (W).grownBy (w2) none from gby_trans G4_.out g)
  clear g
  have HLR := Lib.hid (OwU.rd o)
  clear o
  obtain ⟨L, hL_⟩ : ∃ L, L = passL xs xs.length := ⟨_, rfl⟩
  rw [← hL_] at HLR
  have HLE := Lib.hid hL_
  have hnl_ : L.length ≤ n0 := by rw [hL_]; have := passL_len xs xs.length; have := HE.out; omega
  clear hL_
  have Q_0_ : (w2).cell? ⟨W.heap.size, 0, none⟩ = some (.slice a0 n0 cap0) := cell_of_row _ _ 0 _ _ _ rQ5_.out
  have Q_1_ : (w2).cell? ⟨W.heap.size, 1, none⟩ = some (v1) := cell_of_row _ _ 1 _ _ _ rQ5_.out
  have Q_2_ : (w2).cell? ⟨W.heap.size, 2, none⟩ = some (v2) := cell_of_row _ _ 2 _ _ _ rQ5_.out
  have Q_3_ : (w2).cell? ⟨W.heap.size, 3, none⟩ = some (v3) := cell_of_row _ _ 3 _ _ _ rQ5_.out
  have HTP7_ := Lib.hid (gby_refl (w2) none)
  have MG8_ := Lib.hid (show (W).grownBy (w2) none from G6_.out)
  have MR9_ := Lib.hid rQ5_.out
  go_wp2
  go_loopw [4, 5, 6, 16] (fun z y5 y6 k wr => ∃ n : Nat, k = .int .i64 (n : Int) ∧ n ≤ n0 ∧ (∃ q, y5 = q) ∧ (∃ q, y6 = q) ∧ z = .int .i64 ((blkN hs us xs n : Nat) : Int) ∧ (w2).grownBy wr none) (fun _ _ _ k _ => n0 - (intOf k).toNat)
  case atStart => exact ⟨0, rfl, by omega, ⟨_, rfl⟩, ⟨_, rfl⟩, rfl, gby_refl _ _⟩
  case round =>
    clear Q_0_ Q_1_ Q_2_ Q_3_
    obtain ⟨wo, hwo_⟩ : ∃ w_, w_ = wr := ⟨_, rfl⟩
    subst hwo_
    obtain ⟨n, rfl, hn, ⟨y5, rfl⟩, ⟨y6, rfl⟩, rfl, hg⟩ := hrel
    have szrwo := hg.size
    try simp only [World.size_alloc] at szrwo
    try simp only [World.size_setCell] at szrwo
    have szr_ := szrwo
    have rQ10_ := Lib.hid (show (wo).heap[W.heap.size]? = some (.cells #[.slice a0 n0 cap0, v1, v2, v3] 33 (0, 0)) from row_held hg rQ5_.out)
    clear rQ5_
    have G11_ := Lib.hid (show (W).grownBy (wo) none from gby_trans G6_.out hg)
    have HTP12_ := Lib.hid (show (w2).grownBy (wo) none from gby_trans HTP7_.out hg)
    clear HTP7_
    have HTB_ := Lib.hid hg
    clear hg
    have Q_0_ : (wo).cell? ⟨W.heap.size, 0, none⟩ = some (.slice a0 n0 cap0) := cell_of_row _ _ 0 _ _ _ rQ10_.out
    have Q_1_ : (wo).cell? ⟨W.heap.size, 1, none⟩ = some (v1) := cell_of_row _ _ 1 _ _ _ rQ10_.out
    have Q_2_ : (wo).cell? ⟨W.heap.size, 2, none⟩ = some (v2) := cell_of_row _ _ 2 _ _ _ rQ10_.out
    have Q_3_ : (wo).cell? ⟨W.heap.size, 3, none⟩ = some (v3) := cell_of_row _ _ 3 _ _ _ rQ10_.out
    have hn0_ : (0 : Int) ≤ (n : Int) := by omega
    have htn : ((n : Int)).toNat = n := by omega
    have hbn_ := blkN_le hs us xs n
    obtain ⟨z0, hz0_⟩ : ∃ z, z = blkN hs us xs n := ⟨_, rfl⟩
    rw [← hz0_] at hbn_ ⊢
    have HZ := Lib.hid hz0_
    clear hz0_
    by_cases hlt : n < n0
    rotate_left
    · obtain rfl : n = n0 := by omega
      have hki : ¬ (n : Int) < (n : Int) := by omega
      go_wp2
      go_ret
      exact ⟨ret_i64 (by rw [HZ.out]), G11_.out⟩
    have hki : (n : Int) < (n0 : Int) := by omega
    obtain ⟨ab, ao, rfl, hcell_⟩ := HC.out.resolve_left (by omega)
    have HCE := Lib.hid hcell_
    clear hcell_
    have hq_ : n < n0 := hlt
    obtain ⟨cs_, hat_, hrd_⟩ := HCE.out n (by omega)
    obtain ⟨xk, hx_⟩ : ∃ x, x = xs.getD n default := ⟨_, rfl⟩
    rw [← hx_] at hrd_
    have hzk_ : szL shI xk.f7 ≤ 1048576 := by have q1 := szL_at shPacket xs n (by have := HE.out; omega); rw [← hx_] at q1; exact Nat.le_trans q1 HS.out
    have HXk := Lib.hid hx_
    obtain ⟨v7_, rfl, r7_⟩ := hrd_
    obtain ⟨pk, nk, ck, hv_⟩ := RdL.form r7_
    subst hv_
    have Rk := Lib.hid r7_
    have HEk0 := Lib.hid (show W.cell? ⟨ab, ao + n * 8, none⟩ = some (.int .i64 xk.f0) from at_cell (j := 0) hat_ rfl)
    have HEk1 := Lib.hid (show W.cell? ⟨ab, ao + n * 8 + 1, none⟩ = some (.int .i64 xk.f1) from at_cell (j := 1) hat_ rfl)
    have HEk2 := Lib.hid (show W.cell? ⟨ab, ao + n * 8 + 2, none⟩ = some (.int .i64 xk.f2) from at_cell (j := 2) hat_ rfl)
    have HEk3 := Lib.hid (show W.cell? ⟨ab, ao + n * 8 + 3, none⟩ = some (.int .i64 xk.f3) from at_cell (j := 3) hat_ rfl)
    have HEk4 := Lib.hid (show W.cell? ⟨ab, ao + n * 8 + 4, none⟩ = some (.int .i64 xk.f4) from at_cell (j := 4) hat_ rfl)
    have HEk5 := Lib.hid (show W.cell? ⟨ab, ao + n * 8 + 5, none⟩ = some (.int .i64 xk.f5) from at_cell (j := 5) hat_ rfl)
    have HEk6 := Lib.hid (show W.cell? ⟨ab, ao + n * 8 + 6, none⟩ = some (.int .i64 xk.f6) from at_cell (j := 6) hat_ rfl)
    have HEk7 := Lib.hid (show W.cell? ⟨ab, ao + n * 8 + 7, none⟩ = some (.slice pk nk ck) from at_cell (j := 7) hat_ rfl)
    clear hat_ r7_ hx_ hq_
    have ek0_ := (G11_.out).cell HEk0.out (by simp)
    have ek1_ := (G11_.out).cell HEk1.out (by simp)
    have ek2_ := (G11_.out).cell HEk2.out (by simp)
    have ek3_ := (G11_.out).cell HEk3.out (by simp)
    have ek4_ := (G11_.out).cell HEk4.out (by simp)
    have ek5_ := (G11_.out).cell HEk5.out (by simp)
    have ek6_ := (G11_.out).cell HEk6.out (by simp)
    have ek7_ := (G11_.out).cell HEk7.out (by simp)
    have al_ : (wo).grownBy ((wo).alloc (.cells #[.int .i64 xk.f0, .int .i64 xk.f1, .int .i64 xk.f2, .int .i64 xk.f3, .int .i64 xk.f4, .int .i64 xk.f5, .int .i64 xk.f6, .slice pk nk ck] 60)) none := gby_alloc (gby_refl _ _) _
    have rQ13_ := Lib.hid (show ((wo.alloc (.cells #[.int .i64 xk.f0, .int .i64 xk.f1, .int .i64 xk.f2, .int .i64 xk.f3, .int .i64 xk.f4, .int .i64 xk.f5, .int .i64 xk.f6, .slice pk nk ck] 60))).heap[W.heap.size]? = some (.cells #[.slice (some ⟨ab, ao, none⟩) n0 cap0, v1, v2, v3] 33 (0, 0)) from row_held al_ rQ10_.out)
    clear rQ10_
    have G14_ := Lib.hid (show (W).grownBy ((wo.alloc (.cells #[.int .i64 xk.f0, .int .i64 xk.f1, .int .i64 xk.f2, .int .i64 xk.f3, .int .i64 xk.f4, .int .i64 xk.f5, .int .i64 xk.f6, .slice pk nk ck] 60))) none from gby_trans G11_.out al_)
    have HTP15_ := Lib.hid (show (w2).grownBy ((wo.alloc (.cells #[.int .i64 xk.f0, .int .i64 xk.f1, .int .i64 xk.f2, .int .i64 xk.f3, .int .i64 xk.f4, .int .i64 xk.f5, .int .i64 xk.f6, .slice pk nk ck] 60))) none from gby_trans HTP12_.out al_)
    clear HTP12_
    have HTB16_ := Lib.hid (show (w2).grownBy ((wo.alloc (.cells #[.int .i64 xk.f0, .int .i64 xk.f1, .int .i64 xk.f2, .int .i64 xk.f3, .int .i64 xk.f4, .int .i64 xk.f5, .int .i64 xk.f6, .slice pk nk ck] 60))) none from gby_trans HTB_.out al_)
    clear HTB_
    have rE17_ := Lib.hid (show ((wo.alloc (.cells #[.int .i64 xk.f0, .int .i64 xk.f1, .int .i64 xk.f2, .int .i64 xk.f3, .int .i64 xk.f4, .int .i64 xk.f5, .int .i64 xk.f6, .slice pk nk ck] 60))).heap[wo.heap.size]? = some (.cells #[.int .i64 xk.f0, .int .i64 xk.f1, .int .i64 xk.f2, .int .i64 xk.f3, .int .i64 xk.f4, .int .i64 xk.f5, .int .i64 xk.f6, .slice pk nk ck] 60 (0, 0)) from by first | exact heap_alloc_new _ _ | exact heap_pair _ _ _ | exact heap_trip _ _ _ _)
    clear al_
    have Q_0_ : ((wo.alloc (.cells #[.int .i64 xk.f0, .int .i64 xk.f1, .int .i64 xk.f2, .int .i64 xk.f3, .int .i64 xk.f4, .int .i64 xk.f5, .int .i64 xk.f6, .slice pk nk ck] 60))).cell? ⟨W.heap.size, 0, none⟩ = some (.slice (some ⟨ab, ao, none⟩) n0 cap0) := cell_of_row _ _ 0 _ _ _ rQ13_.out
    have Q_1_ : ((wo.alloc (.cells #[.int .i64 xk.f0, .int .i64 xk.f1, .int .i64 xk.f2, .int .i64 xk.f3, .int .i64 xk.f4, .int .i64 xk.f5, .int .i64 xk.f6, .slice pk nk ck] 60))).cell? ⟨W.heap.size, 1, none⟩ = some (v1) := cell_of_row _ _ 1 _ _ _ rQ13_.out
    have Q_2_ : ((wo.alloc (.cells #[.int .i64 xk.f0, .int .i64 xk.f1, .int .i64 xk.f2, .int .i64 xk.f3, .int .i64 xk.f4, .int .i64 xk.f5, .int .i64 xk.f6, .slice pk nk ck] 60))).cell? ⟨W.heap.size, 2, none⟩ = some (v2) := cell_of_row _ _ 2 _ _ _ rQ13_.out
    have Q_3_ : ((wo.alloc (.cells #[.int .i64 xk.f0, .int .i64 xk.f1, .int .i64 xk.f2, .int .i64 xk.f3, .int .i64 xk.f4, .int .i64 xk.f5, .int .i64 xk.f6, .slice pk nk ck] 60))).cell? ⟨W.heap.size, 3, none⟩ = some (v3) := cell_of_row _ _ 3 _ _ _ rQ13_.out
    have E_0_ : ((wo.alloc (.cells #[.int .i64 xk.f0, .int .i64 xk.f1, .int .i64 xk.f2, .int .i64 xk.f3, .int .i64 xk.f4, .int .i64 xk.f5, .int .i64 xk.f6, .slice pk nk ck] 60))).cell? ⟨wo.heap.size, 0, none⟩ = some (.int .i64 xk.f0) := cell_of_row _ _ 0 _ _ _ rE17_.out
    have E_1_ : ((wo.alloc (.cells #[.int .i64 xk.f0, .int .i64 xk.f1, .int .i64 xk.f2, .int .i64 xk.f3, .int .i64 xk.f4, .int .i64 xk.f5, .int .i64 xk.f6, .slice pk nk ck] 60))).cell? ⟨wo.heap.size, 1, none⟩ = some (.int .i64 xk.f1) := cell_of_row _ _ 1 _ _ _ rE17_.out
    have E_2_ : ((wo.alloc (.cells #[.int .i64 xk.f0, .int .i64 xk.f1, .int .i64 xk.f2, .int .i64 xk.f3, .int .i64 xk.f4, .int .i64 xk.f5, .int .i64 xk.f6, .slice pk nk ck] 60))).cell? ⟨wo.heap.size, 2, none⟩ = some (.int .i64 xk.f2) := cell_of_row _ _ 2 _ _ _ rE17_.out
    have E_3_ : ((wo.alloc (.cells #[.int .i64 xk.f0, .int .i64 xk.f1, .int .i64 xk.f2, .int .i64 xk.f3, .int .i64 xk.f4, .int .i64 xk.f5, .int .i64 xk.f6, .slice pk nk ck] 60))).cell? ⟨wo.heap.size, 3, none⟩ = some (.int .i64 xk.f3) := cell_of_row _ _ 3 _ _ _ rE17_.out
    have E_4_ : ((wo.alloc (.cells #[.int .i64 xk.f0, .int .i64 xk.f1, .int .i64 xk.f2, .int .i64 xk.f3, .int .i64 xk.f4, .int .i64 xk.f5, .int .i64 xk.f6, .slice pk nk ck] 60))).cell? ⟨wo.heap.size, 4, none⟩ = some (.int .i64 xk.f4) := cell_of_row _ _ 4 _ _ _ rE17_.out
    have E_5_ : ((wo.alloc (.cells #[.int .i64 xk.f0, .int .i64 xk.f1, .int .i64 xk.f2, .int .i64 xk.f3, .int .i64 xk.f4, .int .i64 xk.f5, .int .i64 xk.f6, .slice pk nk ck] 60))).cell? ⟨wo.heap.size, 5, none⟩ = some (.int .i64 xk.f5) := cell_of_row _ _ 5 _ _ _ rE17_.out
    have E_6_ : ((wo.alloc (.cells #[.int .i64 xk.f0, .int .i64 xk.f1, .int .i64 xk.f2, .int .i64 xk.f3, .int .i64 xk.f4, .int .i64 xk.f5, .int .i64 xk.f6, .slice pk nk ck] 60))).cell? ⟨wo.heap.size, 6, none⟩ = some (.int .i64 xk.f6) := cell_of_row _ _ 6 _ _ _ rE17_.out
    have E_7_ : ((wo.alloc (.cells #[.int .i64 xk.f0, .int .i64 xk.f1, .int .i64 xk.f2, .int .i64 xk.f3, .int .i64 xk.f4, .int .i64 xk.f5, .int .i64 xk.f6, .slice pk nk ck] 60))).cell? ⟨wo.heap.size, 7, none⟩ = some (.slice pk nk ck) := cell_of_row _ _ 7 _ _ _ rE17_.out
    have ek0_ := (G14_.out).cell HEk0.out (by simp)
    have ek1_ := (G14_.out).cell HEk1.out (by simp)
    have ek2_ := (G14_.out).cell HEk2.out (by simp)
    have ek3_ := (G14_.out).cell HEk3.out (by simp)
    have ek4_ := (G14_.out).cell HEk4.out (by simp)
    have ek5_ := (G14_.out).cell HEk5.out (by simp)
    have ek6_ := (G14_.out).cell HEk6.out (by simp)
    have ek7_ := (G14_.out).cell HEk7.out (by simp)
    obtain ⟨cb_, hcb_⟩ : ∃ b, b = canD hs us xk := ⟨_, rfl⟩
    have HCB := Lib.hid hcb_
    clear hcb_
    obtain ⟨gb_, hgb_⟩ : ∃ b, b = goesP xs n := ⟨_, rfl⟩
    have HGB := Lib.hid hgb_
    clear hgb_
    have HLB := Lib.hid (show lastB hs us xs n = (cb_ && !gb_) from by unfold lastB; rw [← HXk.out, HCB.out, HGB.out])
    have HMEM := Lib.hid (show ((n : Int) ∈ L) ↔ gb_ = true from by rw [HLE.out, passL_goes xs _ n (by have := HE.out; omega), HGB.out])
    cases cb_
    · skip
      go_wp2_with fail
      go_at_call 67
      refine (implCanD _ hs us xk _ _ _ (HR1.out.grow G14_.out) (HR2.out.grow G14_.out) (Rk.out.grow G14_.out) HL1.out HL2.out hzk_ false HCB.out).mono ?_
      rintro e w3 ⟨rfl, g⟩
      have szw3 := g.size
      try simp only [World.size_alloc] at szw3
      try simp only [World.size_setCell] at szw3
      clear Q_0_ Q_1_ Q_2_ Q_3_ E_0_ E_1_ E_2_ E_3_ E_4_ E_5_ E_6_ E_7_ ek0_ ek1_ ek2_ ek3_ ek4_ ek5_ ek6_ ek7_
      have rQ18_ := Lib.hid (show (w3).heap[W.heap.size]? = some (.cells #[.slice (some ⟨ab, ao, none⟩) n0 cap0, v1, v2, v3] 33 (0, 0)) from row_held g rQ13_.out)
      clear rQ13_
      have rE19_ := Lib.hid (show (w3).heap[wo.heap.size]? = some (.cells #[.int .i64 xk.f0, .int .i64 xk.f1, .int .i64 xk.f2, .int .i64 xk.f3, .int .i64 xk.f4, .int .i64 xk.f5, .int .i64 xk.f6, .slice pk nk ck] 60 (0, 0)) from row_held g rE17_.out)
      clear rE17_
      have G20_ := Lib.hid (show (W).grownBy (w3) none from gby_trans G14_.out g)
      have HTP21_ := Lib.hid (show (w2).grownBy (w3) none from gby_trans HTP15_.out g)
      clear HTP15_
      have HTB22_ := Lib.hid (show (w2).grownBy (w3) none from gby_trans HTB16_.out g)
      clear HTB16_
      clear g
      have Q_0_ : (w3).cell? ⟨W.heap.size, 0, none⟩ = some (.slice (some ⟨ab, ao, none⟩) n0 cap0) := cell_of_row _ _ 0 _ _ _ rQ18_.out
      have Q_1_ : (w3).cell? ⟨W.heap.size, 1, none⟩ = some (v1) := cell_of_row _ _ 1 _ _ _ rQ18_.out
      have Q_2_ : (w3).cell? ⟨W.heap.size, 2, none⟩ = some (v2) := cell_of_row _ _ 2 _ _ _ rQ18_.out
      have Q_3_ : (w3).cell? ⟨W.heap.size, 3, none⟩ = some (v3) := cell_of_row _ _ 3 _ _ _ rQ18_.out
      have E_0_ : (w3).cell? ⟨wo.heap.size, 0, none⟩ = some (.int .i64 xk.f0) := cell_of_row _ _ 0 _ _ _ rE19_.out
      have E_1_ : (w3).cell? ⟨wo.heap.size, 1, none⟩ = some (.int .i64 xk.f1) := cell_of_row _ _ 1 _ _ _ rE19_.out
      have E_2_ : (w3).cell? ⟨wo.heap.size, 2, none⟩ = some (.int .i64 xk.f2) := cell_of_row _ _ 2 _ _ _ rE19_.out
      have E_3_ : (w3).cell? ⟨wo.heap.size, 3, none⟩ = some (.int .i64 xk.f3) := cell_of_row _ _ 3 _ _ _ rE19_.out
      have E_4_ : (w3).cell? ⟨wo.heap.size, 4, none⟩ = some (.int .i64 xk.f4) := cell_of_row _ _ 4 _ _ _ rE19_.out
      have E_5_ : (w3).cell? ⟨wo.heap.size, 5, none⟩ = some (.int .i64 xk.f5) := cell_of_row _ _ 5 _ _ _ rE19_.out
      have E_6_ : (w3).cell? ⟨wo.heap.size, 6, none⟩ = some (.int .i64 xk.f6) := cell_of_row _ _ 6 _ _ _ rE19_.out
      have E_7_ : (w3).cell? ⟨wo.heap.size, 7, none⟩ = some (.slice pk nk ck) := cell_of_row _ _ 7 _ _ _ rE19_.out
      have ek0_ := (G20_.out).cell HEk0.out (by simp)
      have ek1_ := (G20_.out).cell HEk1.out (by simp)
      have ek2_ := (G20_.out).cell HEk2.out (by simp)
      have ek3_ := (G20_.out).cell HEk3.out (by simp)
      have ek4_ := (G20_.out).cell HEk4.out (by simp)
      have ek5_ := (G20_.out).cell HEk5.out (by simp)
      have ek6_ := (G20_.out).cell HEk6.out (by simp)
      have ek7_ := (G20_.out).cell HEk7.out (by simp)
      have eb_ : blkN hs us xs (n + 1) = z0 := by rw [HZ.out]; show (if _ then _ else _) = _; rw [if_neg (by rw [HLB.out]; simp)]
      go_wp2
      refine ⟨⟨n + 1, by go_num, by omega, ⟨_, rfl⟩, ⟨_, rfl⟩, by rw [eb_], HTB22_.out⟩, by simp [intOf]; omega⟩
    · cases gb_
      · skip
        go_wp2_with fail
        go_at_call 67
        refine (implCanD _ hs us xk _ _ _ (HR1.out.grow G14_.out) (HR2.out.grow G14_.out) (Rk.out.grow G14_.out) HL1.out HL2.out hzk_ true HCB.out).mono ?_
        rintro e w3 ⟨rfl, g⟩
        have szw3 := g.size
        try simp only [World.size_alloc] at szw3
        try simp only [World.size_setCell] at szw3
        clear Q_0_ Q_1_ Q_2_ Q_3_ E_0_ E_1_ E_2_ E_3_ E_4_ E_5_ E_6_ E_7_ ek0_ ek1_ ek2_ ek3_ ek4_ ek5_ ek6_ ek7_
        have rQ18_ := Lib.hid (show (w3).heap[W.heap.size]? = some (.cells #[.slice (some ⟨ab, ao, none⟩) n0 cap0, v1, v2, v3] 33 (0, 0)) from row_held g rQ13_.out)
        clear rQ13_
        have rE19_ := Lib.hid (show (w3).heap[wo.heap.size]? = some (.cells #[.int .i64 xk.f0, .int .i64 xk.f1, .int .i64 xk.f2, .int .i64 xk.f3, .int .i64 xk.f4, .int .i64 xk.f5, .int .i64 xk.f6, .slice pk nk ck] 60 (0, 0)) from row_held g rE17_.out)
        clear rE17_
        have G20_ := Lib.hid (show (W).grownBy (w3) none from gby_trans G14_.out g)
        have HTP21_ := Lib.hid (show (w2).grownBy (w3) none from gby_trans HTP15_.out g)
        clear HTP15_
        have HTB22_ := Lib.hid (show (w2).grownBy (w3) none from gby_trans HTB16_.out g)
        clear HTB16_
        clear g
        have Q_0_ : (w3).cell? ⟨W.heap.size, 0, none⟩ = some (.slice (some ⟨ab, ao, none⟩) n0 cap0) := cell_of_row _ _ 0 _ _ _ rQ18_.out
        have Q_1_ : (w3).cell? ⟨W.heap.size, 1, none⟩ = some (v1) := cell_of_row _ _ 1 _ _ _ rQ18_.out
        have Q_2_ : (w3).cell? ⟨W.heap.size, 2, none⟩ = some (v2) := cell_of_row _ _ 2 _ _ _ rQ18_.out
        have Q_3_ : (w3).cell? ⟨W.heap.size, 3, none⟩ = some (v3) := cell_of_row _ _ 3 _ _ _ rQ18_.out
        have E_0_ : (w3).cell? ⟨wo.heap.size, 0, none⟩ = some (.int .i64 xk.f0) := cell_of_row _ _ 0 _ _ _ rE19_.out
        have E_1_ : (w3).cell? ⟨wo.heap.size, 1, none⟩ = some (.int .i64 xk.f1) := cell_of_row _ _ 1 _ _ _ rE19_.out
        have E_2_ : (w3).cell? ⟨wo.heap.size, 2, none⟩ = some (.int .i64 xk.f2) := cell_of_row _ _ 2 _ _ _ rE19_.out
        have E_3_ : (w3).cell? ⟨wo.heap.size, 3, none⟩ = some (.int .i64 xk.f3) := cell_of_row _ _ 3 _ _ _ rE19_.out
        have E_4_ : (w3).cell? ⟨wo.heap.size, 4, none⟩ = some (.int .i64 xk.f4) := cell_of_row _ _ 4 _ _ _ rE19_.out
        have E_5_ : (w3).cell? ⟨wo.heap.size, 5, none⟩ = some (.int .i64 xk.f5) := cell_of_row _ _ 5 _ _ _ rE19_.out
        have E_6_ : (w3).cell? ⟨wo.heap.size, 6, none⟩ = some (.int .i64 xk.f6) := cell_of_row _ _ 6 _ _ _ rE19_.out
        have E_7_ : (w3).cell? ⟨wo.heap.size, 7, none⟩ = some (.slice pk nk ck) := cell_of_row _ _ 7 _ _ _ rE19_.out
        have ek0_ := (G20_.out).cell HEk0.out (by simp)
        have ek1_ := (G20_.out).cell HEk1.out (by simp)
        have ek2_ := (G20_.out).cell HEk2.out (by simp)
        have ek3_ := (G20_.out).cell HEk3.out (by simp)
        have ek4_ := (G20_.out).cell HEk4.out (by simp)
        have ek5_ := (G20_.out).cell HEk5.out (by simp)
        have ek6_ := (G20_.out).cell HEk6.out (by simp)
        have ek7_ := (G20_.out).cell HEk7.out (by simp)
        go_wp2_with fail
        go_at_call 68
        refine ((contains_any _ _ L (n : Int) (HLR.out.grow HTP21_.out) (by omega)).mono (bpost_no (fun h => by simpa using HMEM.out.1 h))).mono ?_
        rintro e w4 ⟨rfl, g⟩
        have szw4 := g.size
        try simp only [World.size_alloc] at szw4
        try simp only [World.size_setCell] at szw4
        clear Q_0_ Q_1_ Q_2_ Q_3_ E_0_ E_1_ E_2_ E_3_ E_4_ E_5_ E_6_ E_7_ ek0_ ek1_ ek2_ ek3_ ek4_ ek5_ ek6_ ek7_
        have rQ23_ := Lib.hid (show (w4).heap[W.heap.size]? = some (.cells #[.slice (some ⟨ab, ao, none⟩) n0 cap0, v1, v2, v3] 33 (0, 0)) from row_held g rQ18_.out)
        clear rQ18_
        have rE24_ := Lib.hid (show (w4).heap[wo.heap.size]? = some (.cells #[.int .i64 xk.f0, .int .i64 xk.f1, .int .i64 xk.f2, .int .i64 xk.f3, .int .i64 xk.f4, .int .i64 xk.f5, .int .i64 xk.f6, .slice pk nk ck] 60 (0, 0)) from row_held g rE19_.out)
        clear rE19_
        have G25_ := Lib.hid (show (W).grownBy (w4) none from gby_trans G20_.out g)
        have HTP26_ := Lib.hid (show (w2).grownBy (w4) none from gby_trans HTP21_.out g)
        clear HTP21_
        have HTB27_ := Lib.hid (show (w2).grownBy (w4) none from gby_trans HTB22_.out g)
        clear HTB22_
        clear g
        have Q_0_ : (w4).cell? ⟨W.heap.size, 0, none⟩ = some (.slice (some ⟨ab, ao, none⟩) n0 cap0) := cell_of_row _ _ 0 _ _ _ rQ23_.out
        have Q_1_ : (w4).cell? ⟨W.heap.size, 1, none⟩ = some (v1) := cell_of_row _ _ 1 _ _ _ rQ23_.out
        have Q_2_ : (w4).cell? ⟨W.heap.size, 2, none⟩ = some (v2) := cell_of_row _ _ 2 _ _ _ rQ23_.out
        have Q_3_ : (w4).cell? ⟨W.heap.size, 3, none⟩ = some (v3) := cell_of_row _ _ 3 _ _ _ rQ23_.out
        have E_0_ : (w4).cell? ⟨wo.heap.size, 0, none⟩ = some (.int .i64 xk.f0) := cell_of_row _ _ 0 _ _ _ rE24_.out
        have E_1_ : (w4).cell? ⟨wo.heap.size, 1, none⟩ = some (.int .i64 xk.f1) := cell_of_row _ _ 1 _ _ _ rE24_.out
        have E_2_ : (w4).cell? ⟨wo.heap.size, 2, none⟩ = some (.int .i64 xk.f2) := cell_of_row _ _ 2 _ _ _ rE24_.out
        have E_3_ : (w4).cell? ⟨wo.heap.size, 3, none⟩ = some (.int .i64 xk.f3) := cell_of_row _ _ 3 _ _ _ rE24_.out
        have E_4_ : (w4).cell? ⟨wo.heap.size, 4, none⟩ = some (.int .i64 xk.f4) := cell_of_row _ _ 4 _ _ _ rE24_.out
        have E_5_ : (w4).cell? ⟨wo.heap.size, 5, none⟩ = some (.int .i64 xk.f5) := cell_of_row _ _ 5 _ _ _ rE24_.out
        have E_6_ : (w4).cell? ⟨wo.heap.size, 6, none⟩ = some (.int .i64 xk.f6) := cell_of_row _ _ 6 _ _ _ rE24_.out
        have E_7_ : (w4).cell? ⟨wo.heap.size, 7, none⟩ = some (.slice pk nk ck) := cell_of_row _ _ 7 _ _ _ rE24_.out
        have ek0_ := (G25_.out).cell HEk0.out (by simp)
        have ek1_ := (G25_.out).cell HEk1.out (by simp)
        have ek2_ := (G25_.out).cell HEk2.out (by simp)
        have ek3_ := (G25_.out).cell HEk3.out (by simp)
        have ek4_ := (G25_.out).cell HEk4.out (by simp)
        have ek5_ := (G25_.out).cell HEk5.out (by simp)
        have ek6_ := (G25_.out).cell HEk6.out (by simp)
        have ek7_ := (G25_.out).cell HEk7.out (by simp)
        have eb_ : blkN hs us xs (n + 1) = z0 + 1 := by rw [HZ.out]; show (if _ then _ else _) = _; rw [if_pos (by rw [HLB.out]; rfl)]
        go_wp2
        refine ⟨⟨n + 1, by go_num, by omega, ⟨_, rfl⟩, ⟨_, rfl⟩, by rw [eb_]; go_num, HTB27_.out⟩, by simp [intOf]; omega⟩
      · skip
        go_wp2_with fail
        go_at_call 67
        refine (implCanD _ hs us xk _ _ _ (HR1.out.grow G14_.out) (HR2.out.grow G14_.out) (Rk.out.grow G14_.out) HL1.out HL2.out hzk_ true HCB.out).mono ?_
        rintro e w3 ⟨rfl, g⟩
        have szw3 := g.size
        try simp only [World.size_alloc] at szw3
        try simp only [World.size_setCell] at szw3
        clear Q_0_ Q_1_ Q_2_ Q_3_ E_0_ E_1_ E_2_ E_3_ E_4_ E_5_ E_6_ E_7_ ek0_ ek1_ ek2_ ek3_ ek4_ ek5_ ek6_ ek7_
        have rQ18_ := Lib.hid (show (w3).heap[W.heap.size]? = some (.cells #[.slice (some ⟨ab, ao, none⟩) n0 cap0, v1, v2, v3] 33 (0, 0)) from row_held g rQ13_.out)
        clear rQ13_
        have rE19_ := Lib.hid (show (w3).heap[wo.heap.size]? = some (.cells #[.int .i64 xk.f0, .int .i64 xk.f1, .int .i64 xk.f2, .int .i64 xk.f3, .int .i64 xk.f4, .int .i64 xk.f5, .int .i64 xk.f6, .slice pk nk ck] 60 (0, 0)) from row_held g rE17_.out)
        clear rE17_
        have G20_ := Lib.hid (show (W).grownBy (w3) none from gby_trans G14_.out g)
        have HTP21_ := Lib.hid (show (w2).grownBy (w3) none from gby_trans HTP15_.out g)
        clear HTP15_
        have HTB22_ := Lib.hid (show (w2).grownBy (w3) none from gby_trans HTB16_.out g)
        clear HTB16_
        clear g
        have Q_0_ : (w3).cell? ⟨W.heap.size, 0, none⟩ = some (.slice (some ⟨ab, ao, none⟩) n0 cap0) := cell_of_row _ _ 0 _ _ _ rQ18_.out
        have Q_1_ : (w3).cell? ⟨W.heap.size, 1, none⟩ = some (v1) := cell_of_row _ _ 1 _ _ _ rQ18_.out
        have Q_2_ : (w3).cell? ⟨W.heap.size, 2, none⟩ = some (v2) := cell_of_row _ _ 2 _ _ _ rQ18_.out
        have Q_3_ : (w3).cell? ⟨W.heap.size, 3, none⟩ = some (v3) := cell_of_row _ _ 3 _ _ _ rQ18_.out
        have E_0_ : (w3).cell? ⟨wo.heap.size, 0, none⟩ = some (.int .i64 xk.f0) := cell_of_row _ _ 0 _ _ _ rE19_.out
        have E_1_ : (w3).cell? ⟨wo.heap.size, 1, none⟩ = some (.int .i64 xk.f1) := cell_of_row _ _ 1 _ _ _ rE19_.out
        have E_2_ : (w3).cell? ⟨wo.heap.size, 2, none⟩ = some (.int .i64 xk.f2) := cell_of_row _ _ 2 _ _ _ rE19_.out
        have E_3_ : (w3).cell? ⟨wo.heap.size, 3, none⟩ = some (.int .i64 xk.f3) := cell_of_row _ _ 3 _ _ _ rE19_.out
        have E_4_ : (w3).cell? ⟨wo.heap.size, 4, none⟩ = some (.int .i64 xk.f4) := cell_of_row _ _ 4 _ _ _ rE19_.out
        have E_5_ : (w3).cell? ⟨wo.heap.size, 5, none⟩ = some (.int .i64 xk.f5) := cell_of_row _ _ 5 _ _ _ rE19_.out
        have E_6_ : (w3).cell? ⟨wo.heap.size, 6, none⟩ = some (.int .i64 xk.f6) := cell_of_row _ _ 6 _ _ _ rE19_.out
        have E_7_ : (w3).cell? ⟨wo.heap.size, 7, none⟩ = some (.slice pk nk ck) := cell_of_row _ _ 7 _ _ _ rE19_.out
        have ek0_ := (G20_.out).cell HEk0.out (by simp)
        have ek1_ := (G20_.out).cell HEk1.out (by simp)
        have ek2_ := (G20_.out).cell HEk2.out (by simp)
        have ek3_ := (G20_.out).cell HEk3.out (by simp)
        have ek4_ := (G20_.out).cell HEk4.out (by simp)
        have ek5_ := (G20_.out).cell HEk5.out (by simp)
        have ek6_ := (G20_.out).cell HEk6.out (by simp)
        have ek7_ := (G20_.out).cell HEk7.out (by simp)
        go_wp2_with fail
        go_at_call 68
        refine ((contains_any _ _ L (n : Int) (HLR.out.grow HTP21_.out) (by omega)).mono (bpost_yes (HMEM.out.2 (by first | trivial | rfl)))).mono ?_
        rintro e w4 ⟨rfl, g⟩
        have szw4 := g.size
        try simp only [World.size_alloc] at szw4
        try simp only [World.size_setCell] at szw4
        clear Q_0_ Q_1_ Q_2_ Q_3_ E_0_ E_1_ E_2_ E_3_ E_4_ E_5_ E_6_ E_7_ ek0_ ek1_ ek2_ ek3_ ek4_ ek5_ ek6_ ek7_
        have rQ23_ := Lib.hid (show (w4).heap[W.heap.size]? = some (.cells #[.slice (some ⟨ab, ao, none⟩) n0 cap0, v1, v2, v3] 33 (0, 0)) from row_held g rQ18_.out)
        clear rQ18_
        have rE24_ := Lib.hid (show (w4).heap[wo.heap.size]? = some (.cells #[.int .i64 xk.f0, .int .i64 xk.f1, .int .i64 xk.f2, .int .i64 xk.f3, .int .i64 xk.f4, .int .i64 xk.f5, .int .i64 xk.f6, .slice pk nk ck] 60 (0, 0)) from row_held g rE19_.out)
        clear rE19_
        have G25_ := Lib.hid (show (W).grownBy (w4) none from gby_trans G20_.out g)
        have HTP26_ := Lib.hid (show (w2).grownBy (w4) none from gby_trans HTP21_.out g)
        clear HTP21_
        have HTB27_ := Lib.hid (show (w2).grownBy (w4) none from gby_trans HTB22_.out g)
        clear HTB22_
        clear g
        have Q_0_ : (w4).cell? ⟨W.heap.size, 0, none⟩ = some (.slice (some ⟨ab, ao, none⟩) n0 cap0) := cell_of_row _ _ 0 _ _ _ rQ23_.out
        have Q_1_ : (w4).cell? ⟨W.heap.size, 1, none⟩ = some (v1) := cell_of_row _ _ 1 _ _ _ rQ23_.out
        have Q_2_ : (w4).cell? ⟨W.heap.size, 2, none⟩ = some (v2) := cell_of_row _ _ 2 _ _ _ rQ23_.out
        have Q_3_ : (w4).cell? ⟨W.heap.size, 3, none⟩ = some (v3) := cell_of_row _ _ 3 _ _ _ rQ23_.out
        have E_0_ : (w4).cell? ⟨wo.heap.size, 0, none⟩ = some (.int .i64 xk.f0) := cell_of_row _ _ 0 _ _ _ rE24_.out
        have E_1_ : (w4).cell? ⟨wo.heap.size, 1, none⟩ = some (.int .i64 xk.f1) := cell_of_row _ _ 1 _ _ _ rE24_.out
        have E_2_ : (w4).cell? ⟨wo.heap.size, 2, none⟩ = some (.int .i64 xk.f2) := cell_of_row _ _ 2 _ _ _ rE24_.out
        have E_3_ : (w4).cell? ⟨wo.heap.size, 3, none⟩ = some (.int .i64 xk.f3) := cell_of_row _ _ 3 _ _ _ rE24_.out
        have E_4_ : (w4).cell? ⟨wo.heap.size, 4, none⟩ = some (.int .i64 xk.f4) := cell_of_row _ _ 4 _ _ _ rE24_.out
        have E_5_ : (w4).cell? ⟨wo.heap.size, 5, none⟩ = some (.int .i64 xk.f5) := cell_of_row _ _ 5 _ _ _ rE24_.out
        have E_6_ : (w4).cell? ⟨wo.heap.size, 6, none⟩ = some (.int .i64 xk.f6) := cell_of_row _ _ 6 _ _ _ rE24_.out
        have E_7_ : (w4).cell? ⟨wo.heap.size, 7, none⟩ = some (.slice pk nk ck) := cell_of_row _ _ 7 _ _ _ rE24_.out
        have ek0_ := (G25_.out).cell HEk0.out (by simp)
        have ek1_ := (G25_.out).cell HEk1.out (by simp)
        have ek2_ := (G25_.out).cell HEk2.out (by simp)
        have ek3_ := (G25_.out).cell HEk3.out (by simp)
        have ek4_ := (G25_.out).cell HEk4.out (by simp)
        have ek5_ := (G25_.out).cell HEk5.out (by simp)
        have ek6_ := (G25_.out).cell HEk6.out (by simp)
        have ek7_ := (G25_.out).cell HEk7.out (by simp)
        have eb_ : blkN hs us xs (n + 1) = z0 := by rw [HZ.out]; show (if _ then _ else _) = _; rw [if_neg (by rw [HLB.out]; simp)]
        go_wp2
        refine ⟨⟨n + 1, by go_num, by omega, ⟨_, rfl⟩, ⟨_, rfl⟩, by rw [eb_], HTB27_.out⟩, by simp [intOf]; omega⟩

end Go.Proofs.Ytnighnkkeiegnaa

namespace Go.Proofs.Ytnighnkkeiegnaa
open Go Go.RowKit
set_option linter.unusedVariables false

theorem blockedBy_both (xs0_0 : List DPacket) (xs0_1 xs0_2 : List Int) (xs0_3 : List DPacket) (h0 : szL shPacket xs0_0 ≤ 1048576) (h1 : szL shI xs0_1 ≤ 1048576) (h2 : szL shI xs0_2 ≤ 1048576) (h3 : szL shPacket xs0_3 ≤ 1048576) :
    ∃ ir0 : Int, (∀ (W : World), ∀ u0_0 u0_1 u0_2 u0_3, RdL shPacket W u0_0 xs0_0 → RdL shI W u0_1 xs0_1 → RdL shI W u0_2 xs0_2 → RdL shPacket W u0_3 xs0_3 → Calls Try.prog 19 #[.agg #[u0_0, u0_1, u0_2, u0_3]] W (ResSBlockedBy ir0 W)) ∧ (∀ (W : World), ∀ u0_0 u0_1 u0_2 u0_3, RdL shPacket W u0_0 xs0_0 → RdL shI W u0_1 xs0_1 → RdL shI W u0_2 xs0_2 → RdL shPacket W u0_3 xs0_3 → Calls Try.prog 20 #[.agg #[u0_0, u0_1, u0_2, u0_3]] W (ResIBlockedBy ir0 W)) := by
  by_cases hq : QueOk xs0_0 xs0_1 xs0_2 xs0_3
  · exact ⟨_, fun W u0 u1 u2 u3 r0 r1 r2 r3 => specBlk_yes W u0 u1 u2 u3 xs0_0 xs0_1 xs0_2 xs0_3 r0 r1 r2 r3 h0 h1 h2 h3 hq, fun W u0 u1 u2 u3 r0 r1 r2 r3 => implBlk_yes W u0 u1 u2 u3 xs0_0 xs0_1 xs0_2 xs0_3 r0 r1 r2 r3 h0 h1 h2 h3 hq⟩
  · exact ⟨_, fun W u0 u1 u2 u3 r0 r1 r2 r3 => specBlk_no W u0 u1 u2 u3 xs0_0 xs0_1 xs0_2 xs0_3 r0 r1 r2 r3 h0 h1 h2 h3 hq, fun W u0 u1 u2 u3 r0 r1 r2 r3 => implBlk_no W u0 u1 u2 u3 xs0_0 xs0_1 xs0_2 xs0_3 r0 r1 r2 r3 h0 h1 h2 h3 hq⟩

end Go.Proofs.Ytnighnkkeiegnaa
