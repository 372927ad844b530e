/-
  NextOut, on both sides.
-/
import Derived.Test.YtnighnkkeiegnaaNextMath
import Derived.Test.YtnighnkkeiegnaaQOk
import Derived.Test.YtnighnkkeiegnaaRNextOut
import Derived.Test.YtnighnkkeiegnaaPassersS
import Derived.Deep.RegionHeld3
namespace Go.Proofs.Ytnighnkkeiegnaa
open Go Go.RowKit
set_option linter.unusedVariables false

set_option maxRecDepth 8000 in
set_option maxHeartbeats 4000000 in
theorem specNext_no (W : World) (v0 v1 v2 v3 : Value) (xs : List DPacket) (hs us : List Int) (ys : List DPacket) (H : RdL shPacket W v0 xs) (H1 : RdL shI W v1 hs) (H2 : RdL shI W v2 us) (H3 : RdL shPacket W v3 ys) (hl : szL shPacket xs ≤ 1048576) (hl1 : szL shI hs ≤ 1048576) (hl2 : szL shI us ≤ 1048576) (hl3 : szL shPacket ys ≤ 1048576) (hq : ¬ QueOk xs hs us ys) : Calls Try.prog 15 #[vQueue v0 v1 v2 v3] W (AnsN (.int .i64 (-1)) W) := by
  have HQ := Lib.hid (show false = decide (QueOk xs hs us ys) from (decide_eq_false hq).symm)
  clear hq
  have HS := Lib.hid hl
  have HRD := Lib.hid H
  have HR1 := Lib.hid H1
  have HR2 := Lib.hid H2
  have HR3 := Lib.hid H3
  have HL1 := Lib.hid hl1
  have HL2 := Lib.hid hl2
  have HL3 := Lib.hid hl3
  obtain ⟨a0, cap0, rfl, hcap, _, H⟩ := H
  have HC := Lib.hid H
  have hcap2 := hcap.2
  obtain ⟨n0, hn0⟩ : ∃ n, n = xs.length := ⟨_, rfl⟩
  have HE := Lib.hid hn0
  have hlx : n0 ≤ 1048576 := by have := szL_len shPacket xs; omega
  rw [← hn0] at hcap2 ⊢
  rw [← hn0] at HRD HC
  clear H H1 H2 H3 hl1 hl2 hl3 hcap hl hn0
  unfold vQueue
  go_enter Try.func15, Try.ntmps15
  have rQ1_ := Lib.hid (show ((W.alloc (.cells #[.slice a0 n0 cap0, v1, v2, v3] 33))).heap[W.heap.size]? = some (.cells #[.slice a0 n0 cap0, v1, v2, v3] 33 (0, 0)) from by exact heap_alloc_new _ _)
  have G2_ := Lib.hid (show (W).grownBy ((W.alloc (.cells #[.slice a0 n0 cap0, v1, v2, v3] 33))) none from (gby_alloc (gby_refl _ _) _))
  have Q_0_ : ((W.alloc (.cells #[.slice a0 n0 cap0, v1, v2, v3] 33))).cell? ⟨W.heap.size, 0, none⟩ = some (.slice a0 n0 cap0) := cell_of_row _ _ 0 _ _ _ rQ1_.out
  have Q_1_ : ((W.alloc (.cells #[.slice a0 n0 cap0, v1, v2, v3] 33))).cell? ⟨W.heap.size, 1, none⟩ = some (v1) := cell_of_row _ _ 1 _ _ _ rQ1_.out
  have Q_2_ : ((W.alloc (.cells #[.slice a0 n0 cap0, v1, v2, v3] 33))).cell? ⟨W.heap.size, 2, none⟩ = some (v2) := cell_of_row _ _ 2 _ _ _ rQ1_.out
  have Q_3_ : ((W.alloc (.cells #[.slice a0 n0 cap0, v1, v2, v3] 33))).cell? ⟨W.heap.size, 3, none⟩ = some (v3) := cell_of_row _ _ 3 _ _ _ rQ1_.out
  go_wp2_with fail
  go_at_call 59
  refine (specQueOk _ _ _ _ _ xs hs us ys (HRD.out.grow G2_.out) (HR1.out.grow G2_.out) (HR2.out.grow G2_.out) (HR3.out.grow G2_.out) HS.out HL1.out HL2.out HL3.out false HQ.out).mono ?_
  rintro e w1 ⟨rfl, g⟩
  have szw1 := g.size
  try simp only [World.size_alloc] at szw1
  try simp only [World.size_setCell] at szw1
  clear Q_0_ Q_1_ Q_2_ Q_3_
  have rQ3_ := Lib.hid (show (w1).heap[W.heap.size]? = some (.cells #[.slice a0 n0 cap0, v1, v2, v3] 33 (0, 0)) from row_held g rQ1_.out)
  clear rQ1_
  have G4_ := Lib.hid (show (W).grownBy (w1) none from gby_trans G2_.out g)
  clear g
  have Q_0_ : (w1).cell? ⟨W.heap.size, 0, none⟩ = some (.slice a0 n0 cap0) := cell_of_row _ _ 0 _ _ _ rQ3_.out
  have Q_1_ : (w1).cell? ⟨W.heap.size, 1, none⟩ = some (v1) := cell_of_row _ _ 1 _ _ _ rQ3_.out
  have Q_2_ : (w1).cell? ⟨W.heap.size, 2, none⟩ = some (v2) := cell_of_row _ _ 2 _ _ _ rQ3_.out
  have Q_3_ : (w1).cell? ⟨W.heap.size, 3, none⟩ = some (v3) := cell_of_row _ _ 3 _ _ _ rQ3_.out
  go_wp2
  go_ret
  exact ⟨rfl, G4_.out⟩

set_option maxRecDepth 8000 in
set_option maxHeartbeats 4000000 in
theorem specNext_yes (W : World) (v0 v1 v2 v3 : Value) (xs : List DPacket) (hs us : List Int) (ys : List DPacket) (H : RdL shPacket W v0 xs) (H1 : RdL shI W v1 hs) (H2 : RdL shI W v2 us) (H3 : RdL shPacket W v3 ys) (hl : szL shPacket xs ≤ 1048576) (hl1 : szL shI hs ≤ 1048576) (hl2 : szL shI us ≤ 1048576) (hl3 : szL shPacket ys ≤ 1048576) (hq : QueOk xs hs us ys) : Calls Try.prog 15 #[vQueue v0 v1 v2 v3] W (AnsN (.int .i64 (nextIn hs us xs (passL xs xs.length))) W) := by
  have HQ := Lib.hid (show true = decide (QueOk xs hs us ys) from (decide_eq_true hq).symm)
  clear hq
  have HS := Lib.hid hl
  have HRD := Lib.hid H
  have HR1 := Lib.hid H1
  have HR2 := Lib.hid H2
  have HR3 := Lib.hid H3
  have HL1 := Lib.hid hl1
  have HL2 := Lib.hid hl2
  have HL3 := Lib.hid hl3
  obtain ⟨a0, cap0, rfl, hcap, _, H⟩ := H
  have HC := Lib.hid H
  have hcap2 := hcap.2
  obtain ⟨n0, hn0⟩ : ∃ n, n = xs.length := ⟨_, rfl⟩
  have HE := Lib.hid hn0
  have hlx : n0 ≤ 1048576 := by have := szL_len shPacket xs; omega
  rw [← hn0] at hcap2 ⊢
  rw [← hn0] at HRD HC
  clear H H1 H2 H3 hl1 hl2 hl3 hcap hl hn0
  unfold vQueue
  go_enter Try.func15, Try.ntmps15
  have rQ1_ := Lib.hid (show ((W.alloc (.cells #[.slice a0 n0 cap0, v1, v2, v3] 33))).heap[W.heap.size]? = some (.cells #[.slice a0 n0 cap0, v1, v2, v3] 33 (0, 0)) from by exact heap_alloc_new _ _)
  have G2_ := Lib.hid (show (W).grownBy ((W.alloc (.cells #[.slice a0 n0 cap0, v1, v2, v3] 33))) none from (gby_alloc (gby_refl _ _) _))
  have Q_0_ : ((W.alloc (.cells #[.slice a0 n0 cap0, v1, v2, v3] 33))).cell? ⟨W.heap.size, 0, none⟩ = some (.slice a0 n0 cap0) := cell_of_row _ _ 0 _ _ _ rQ1_.out
  have Q_1_ : ((W.alloc (.cells #[.slice a0 n0 cap0, v1, v2, v3] 33))).cell? ⟨W.heap.size, 1, none⟩ = some (v1) := cell_of_row _ _ 1 _ _ _ rQ1_.out
  have Q_2_ : ((W.alloc (.cells #[.slice a0 n0 cap0, v1, v2, v3] 33))).cell? ⟨W.heap.size, 2, none⟩ = some (v2) := cell_of_row _ _ 2 _ _ _ rQ1_.out
  have Q_3_ : ((W.alloc (.cells #[.slice a0 n0 cap0, v1, v2, v3] 33))).cell? ⟨W.heap.size, 3, none⟩ = some (v3) := cell_of_row _ _ 3 _ _ _ rQ1_.out
  go_wp2_with fail
  go_at_call 59
  refine (specQueOk _ _ _ _ _ xs hs us ys (HRD.out.grow G2_.out) (HR1.out.grow G2_.out) (HR2.out.grow G2_.out) (HR3.out.grow G2_.out) HS.out HL1.out HL2.out HL3.out true HQ.out).mono ?_
  rintro e w1 ⟨rfl, g⟩
  have szw1 := g.size
  try simp only [World.size_alloc] at szw1
  try simp only [World.size_setCell] at szw1
  clear Q_0_ Q_1_ Q_2_ Q_3_
  have rQ3_ := Lib.hid (show (w1).heap[W.heap.size]? = some (.cells #[.slice a0 n0 cap0, v1, v2, v3] 33 (0, 0)) from row_held g rQ1_.out)
  clear rQ1_
  have G4_ := Lib.hid (show (W).grownBy (w1) none from gby_trans G2_.out g)
  clear g
  have Q_0_ : (w1).cell? ⟨W.heap.size, 0, none⟩ = some (.slice a0 n0 cap0) := cell_of_row _ _ 0 _ _ _ rQ3_.out
  have Q_1_ : (w1).cell? ⟨W.heap.size, 1, none⟩ = some (v1) := cell_of_row _ _ 1 _ _ _ rQ3_.out
  have Q_2_ : (w1).cell? ⟨W.heap.size, 2, none⟩ = some (v2) := cell_of_row _ _ 2 _ _ _ rQ3_.out
  have Q_3_ : (w1).cell? ⟨W.heap.size, 3, none⟩ = some (v3) := cell_of_row _ _ 3 _ _ _ rQ3_.out
  go_wp2_with fail
  go_at_call 60
  refine (specPassers_any _ _ xs (HRD.out.grow G4_.out) HS.out).mono ?_
  rintro e w2 ⟨vl, rfl, o, g⟩
  have szw2 := g.size
  try simp only [World.size_alloc] at szw2
  clear Q_0_ Q_1_ Q_2_ Q_3_
  have rQ5_ := Lib.hid (show (w2).heap[W.heap.size]? = some (.cells #[.slice a0 n0 cap0, v1, v2, v3] 33 (0, 0)) from row_held g rQ3_.out)
  clear rQ3_
  have G6_ := Lib.hid (show (W).grownBy (w2) none from gby_trans G4_.out g)
  clear g
  have HLR := Lib.hid (OwU.rd o)
  clear o
  obtain ⟨L, hL_⟩ : ∃ L, L = passL xs xs.length := ⟨_, rfl⟩
  rw [← hL_] at HLR
  have HLE := Lib.hid hL_
  have hnl_ : L.length ≤ n0 := by rw [hL_]; have := passL_len xs xs.length; have := HE.out; omega
  clear hL_
  have Q_0_ : (w2).cell? ⟨W.heap.size, 0, none⟩ = some (.slice a0 n0 cap0) := cell_of_row _ _ 0 _ _ _ rQ5_.out
  have Q_1_ : (w2).cell? ⟨W.heap.size, 1, none⟩ = some (v1) := cell_of_row _ _ 1 _ _ _ rQ5_.out
  have Q_2_ : (w2).cell? ⟨W.heap.size, 2, none⟩ = some (v2) := cell_of_row _ _ 2 _ _ _ rQ5_.out
  have Q_3_ : (w2).cell? ⟨W.heap.size, 3, none⟩ = some (v3) := cell_of_row _ _ 3 _ _ _ rQ5_.out
  have HTP7_ := Lib.hid (gby_refl (w2) none)
  have MG8_ := Lib.hid (show (W).grownBy (w2) none from G6_.out)
  have MR9_ := Lib.hid rQ5_.out
  obtain ⟨pl, cl, hvl_, hcl_, hil_⟩ := rdI1_in HLR.out
  subst hvl_
  have HIL := Lib.hid hil_
  clear hcl_ hil_
  obtain ⟨nl, hnl2_⟩ : ∃ m, m = L.length := ⟨_, rfl⟩
  rw [← hnl2_] at hnl_ ⊢
  have HNL := Lib.hid hnl2_
  unfold RdN1 at HIL
  rw [← hnl2_] at HIL
  clear hnl2_
  go_wp2
  go_loopw [4] (fun i wr => ∃ n : Nat, i = .int .i64 (n : Int) ∧ n ≤ nl ∧ (∀ j, j < n → canD hs us (xs.getD (L.getD j 0).toNat default) = false) ∧ (w2).grownBy wr none) (fun i _ => nl - (intOf i).toNat)
  case atStart => exact ⟨0, rfl, by omega, fun j hj => absurd hj (Nat.not_lt_zero _), gby_refl _ _⟩
  case round =>
    clear Q_0_ Q_1_ Q_2_ Q_3_
    obtain ⟨n, rfl, hn, hj_, hg⟩ := hrel
    have szrwr := hg.size
    try simp only [World.size_alloc] at szrwr
    try simp only [World.size_setCell] at szrwr
    have szr_ := szrwr
    have rQ10_ := Lib.hid (show (wr).heap[W.heap.size]? = some (.cells #[.slice a0 n0 cap0, v1, v2, v3] 33 (0, 0)) from row_held hg rQ5_.out)
    clear rQ5_
    have G11_ := Lib.hid (show (W).grownBy (wr) none from gby_trans G6_.out hg)
    have HTP12_ := Lib.hid (show (w2).grownBy (wr) none from gby_trans HTP7_.out hg)
    clear HTP7_
    have HTB_ := Lib.hid hg
    clear hg
    have Q_0_ : (wr).cell? ⟨W.heap.size, 0, none⟩ = some (.slice a0 n0 cap0) := cell_of_row _ _ 0 _ _ _ rQ10_.out
    have Q_1_ : (wr).cell? ⟨W.heap.size, 1, none⟩ = some (v1) := cell_of_row _ _ 1 _ _ _ rQ10_.out
    have Q_2_ : (wr).cell? ⟨W.heap.size, 2, none⟩ = some (v2) := cell_of_row _ _ 2 _ _ _ rQ10_.out
    have Q_3_ : (wr).cell? ⟨W.heap.size, 3, none⟩ = some (v3) := cell_of_row _ _ 3 _ _ _ rQ10_.out
    have HJ := Lib.hid hj_
    clear hj_
    have hn0_ : (0 : Int) ≤ (n : Int) := by omega
    have htn : ((n : Int)).toNat = n := by omega
    by_cases hlt : n < nl
    rotate_left
    · obtain rfl : n = nl := by omega
      have hki : ¬ (n : Int) < (n : Int) := by omega
      have er_ : (nextIn hs us xs (passL xs xs.length)) = -1 := by rw [← HLE.out]; exact nextIn_none _ _ _ _ (fun i hi => by obtain ⟨j, h1, h2⟩ := mem_at.1 hi; rw [← h2]; exact HJ.out j (by rw [HNL.out]; exact h1))
      have HRE := Lib.hid er_
      clear er_
      go_wp2
      go_ret
      exact ⟨ret_i64 (by first | exact HRE.out.symm | (rw [HE.out]; exact HRE.out.symm)), G11_.out⟩
    have hki : (n : Int) < (nl : Int) := by omega
    obtain ⟨bl, ol, rfl, hlc_⟩ := HIL.out.resolve_left (by omega)
    have hy_ := hlc_ n hlt
    clear hlc_
    obtain ⟨y, hye_⟩ : ∃ y, y = L.getD n 0 := ⟨_, rfl⟩
    rw [← hye_] at hy_
    have hmy_ := (passL_mem xs y xs.length).1 (by rw [← HLE.out]; exact mem_at.2 ⟨n, by rw [← HNL.out]; exact hlt, hye_.symm⟩)
    obtain ⟨yn, rfl⟩ : ∃ m : Nat, y = (m : Int) := ⟨y.toNat, by omega⟩
    have hyn_ : yn < n0 := by have := HE.out; omega
    have hyi_ : (yn : Int) < (n0 : Int) := by omega
    have hy0_ : (0 : Int) ≤ (yn : Int) := by omega
    have hyt_ : ((yn : Int)).toNat = yn := by omega
    have HY := Lib.hid hye_
    clear hye_ hmy_
    have HYP := Lib.hid hy_
    have HYC := Lib.hid ((HTP12_.out).cell hy_ (by simp))
    have yc_ := HYC.out
    clear hy_
    obtain ⟨ab, ao, rfl, hcell_⟩ := HC.out.resolve_left (by omega)
    have HCE := Lib.hid hcell_
    clear hcell_
    have hq_ : yn < n0 := hyn_
    obtain ⟨cs_, hat_, hrd_⟩ := HCE.out yn (by omega)
    obtain ⟨xk, hx_⟩ : ∃ x, x = xs.getD yn default := ⟨_, rfl⟩
    rw [← hx_] at hrd_
    have hzk_ : szL shI xk.f7 ≤ 1048576 := by have q1 := szL_at shPacket xs yn (by have := HE.out; omega); rw [← hx_] at q1; exact Nat.le_trans q1 HS.out
    have HXk := Lib.hid hx_
    obtain ⟨v7_, rfl, r7_⟩ := hrd_
    obtain ⟨pk, nk, ck, hv_⟩ := RdL.form r7_
    subst hv_
    have Rk := Lib.hid r7_
    have HEk0 := Lib.hid (show W.cell? ⟨ab, ao + yn * 8, none⟩ = some (.int .i64 xk.f0) from at_cell (j := 0) hat_ rfl)
    have HEk1 := Lib.hid (show W.cell? ⟨ab, ao + yn * 8 + 1, none⟩ = some (.int .i64 xk.f1) from at_cell (j := 1) hat_ rfl)
    have HEk2 := Lib.hid (show W.cell? ⟨ab, ao + yn * 8 + 2, none⟩ = some (.int .i64 xk.f2) from at_cell (j := 2) hat_ rfl)
    have HEk3 := Lib.hid (show W.cell? ⟨ab, ao + yn * 8 + 3, none⟩ = some (.int .i64 xk.f3) from at_cell (j := 3) hat_ rfl)
    have HEk4 := Lib.hid (show W.cell? ⟨ab, ao + yn * 8 + 4, none⟩ = some (.int .i64 xk.f4) from at_cell (j := 4) hat_ rfl)
    have HEk5 := Lib.hid (show W.cell? ⟨ab, ao + yn * 8 + 5, none⟩ = some (.int .i64 xk.f5) from at_cell (j := 5) hat_ rfl)
    have HEk6 := Lib.hid (show W.cell? ⟨ab, ao + yn * 8 + 6, none⟩ = some (.int .i64 xk.f6) from at_cell (j := 6) hat_ rfl)
    have HEk7 := Lib.hid (show W.cell? ⟨ab, ao + yn * 8 + 7, none⟩ = some (.slice pk nk ck) from at_cell (j := 7) hat_ rfl)
    clear hat_ r7_ hx_ hq_
    have ek0_ := (G11_.out).cell HEk0.out (by simp)
    have ek1_ := (G11_.out).cell HEk1.out (by simp)
    have ek2_ := (G11_.out).cell HEk2.out (by simp)
    have ek3_ := (G11_.out).cell HEk3.out (by simp)
    have ek4_ := (G11_.out).cell HEk4.out (by simp)
    have ek5_ := (G11_.out).cell HEk5.out (by simp)
    have ek6_ := (G11_.out).cell HEk6.out (by simp)
    have ek7_ := (G11_.out).cell HEk7.out (by simp)
    obtain ⟨cb_, hcb_⟩ : ∃ b, b = canD hs us xk := ⟨_, rfl⟩
    have HCB := Lib.hid hcb_
    clear hcb_
    clear yc_
    clear Q_0_ Q_1_ Q_2_ Q_3_ ek0_ ek1_ ek2_ ek3_ ek4_ ek5_ ek6_ ek7_
    have HGP := Lib.hid (HTP12_.out)
    have yc_ := HYC.out
    have Q_0_ : (wr).cell? ⟨W.heap.size, 0, none⟩ = some (.slice (some ⟨ab, ao, none⟩) n0 cap0) := cell_of_row _ _ 0 _ _ _ rQ10_.out
    have Q_1_ : (wr).cell? ⟨W.heap.size, 1, none⟩ = some (v1) := cell_of_row _ _ 1 _ _ _ rQ10_.out
    have Q_2_ : (wr).cell? ⟨W.heap.size, 2, none⟩ = some (v2) := cell_of_row _ _ 2 _ _ _ rQ10_.out
    have Q_3_ : (wr).cell? ⟨W.heap.size, 3, none⟩ = some (v3) := cell_of_row _ _ 3 _ _ _ rQ10_.out
    have ek0_ := (G11_.out).cell HEk0.out (by simp)
    have ek1_ := (G11_.out).cell HEk1.out (by simp)
    have ek2_ := (G11_.out).cell HEk2.out (by simp)
    have ek3_ := (G11_.out).cell HEk3.out (by simp)
    have ek4_ := (G11_.out).cell HEk4.out (by simp)
    have ek5_ := (G11_.out).cell HEk5.out (by simp)
    have ek6_ := (G11_.out).cell HEk6.out (by simp)
    have ek7_ := (G11_.out).cell HEk7.out (by simp)
    cases cb_
    · skip
      go_wp2_with fail
      refine wp_region_held_drew (S := fun w' => w'.cell? ⟨W.heap.size, 0, none⟩ = some (.slice (some ⟨ab, ao, none⟩) n0 cap0) ∧ w'.cell? ⟨W.heap.size, 1, none⟩ = some (v1) ∧ w'.cell? ⟨W.heap.size, 2, none⟩ = some (v2) ∧ w'.cell? ⟨W.heap.size, 3, none⟩ = some (v3) ∧ w'.cell? ⟨ab, ao + yn * 8, none⟩ = some (.int .i64 xk.f0) ∧ w'.cell? ⟨ab, ao + yn * 8 + 1, none⟩ = some (.int .i64 xk.f1) ∧ w'.cell? ⟨ab, ao + yn * 8 + 2, none⟩ = some (.int .i64 xk.f2) ∧ w'.cell? ⟨ab, ao + yn * 8 + 3, none⟩ = some (.int .i64 xk.f3) ∧ w'.cell? ⟨ab, ao + yn * 8 + 4, none⟩ = some (.int .i64 xk.f4) ∧ w'.cell? ⟨ab, ao + yn * 8 + 5, none⟩ = some (.int .i64 xk.f5) ∧ w'.cell? ⟨ab, ao + yn * 8 + 6, none⟩ = some (.int .i64 xk.f6) ∧ w'.cell? ⟨ab, ao + yn * 8 + 7, none⟩ = some (.slice pk nk ck) ∧ w'.cell? ⟨bl, ol + n, none⟩ = some (.int .i64 (yn : Int))) (by kernel_rfl) (by (try dsimp only); exact ⟨Q_0_, Q_1_, Q_2_, Q_3_, ek0_, ek1_, ek2_, ek3_, ek4_, ek5_, ek6_, ek7_, yc_⟩) (fun hHeld => ?_)
      refine wpAnyH_take (i := 0) (oi := { dst := some 17, op := Op.fieldAddr 33 (Operand.tmp 1) 1, type := 0, pos := "l17_queue.go:38", after := #[], guard := none }) (v := ?v0_r1_1) rfl (by kernel_rfl) (by kernel_rfl) (by kernel_rfl) (fun _ _ _ h => h) (Or.inl ⟨by rfl, ?y0_r1_1⟩) (by assumption) ?r0_r1_1
      case y0_r1_1 => (intro w hSw; (try dsimp only at hSw); go_simp; all_goals (with_reducible rfl))
      try simp only [Act.put, List.setIfInBounds_toArray, List.set_cons_zero, List.set_cons_succ]
      refine wpAnyH_take (i := 1) (oi := { dst := some 18, op := Op.load 31 (Operand.tmp 17), type := 31, pos := "l17_queue.go:38", after := #[{ on := 0, ground := Ground.data }], guard := none }) (v := ?v1_r1_2) rfl (by kernel_rfl) (by kernel_rfl) (by kernel_rfl) (fun _ _ _ h => h) (Or.inl ⟨by rfl, ?y1_r1_2⟩) (by assumption) ?r1_r1_2
      case y1_r1_2 => (intro w hSw; (try dsimp only at hSw); go_simp; all_goals (with_reducible rfl))
      try simp only [Act.put, List.setIfInBounds_toArray, List.set_cons_zero, List.set_cons_succ]
      refine wpAnyH_take (i := 2) (oi := { dst := some 19, op := Op.fieldAddr 33 (Operand.tmp 1) 0, type := 0, pos := "l17_queue.go:38", after := #[], guard := none }) (v := ?v2_r1_3) rfl (by kernel_rfl) (by kernel_rfl) (by kernel_rfl) (fun _ _ _ h => h) (Or.inl ⟨by rfl, ?y2_r1_3⟩) (by assumption) ?r2_r1_3
      case y2_r1_3 => (intro w hSw; (try dsimp only at hSw); go_simp; all_goals (with_reducible rfl))
      try simp only [Act.put, List.setIfInBounds_toArray, List.set_cons_zero, List.set_cons_succ]
      refine wpAnyH_take (i := 3) (oi := { dst := some 20, op := Op.load 30 (Operand.tmp 19), type := 30, pos := "l17_queue.go:38", after := #[{ on := 2, ground := Ground.data }], guard := none }) (v := ?v3_r1_4) rfl (by kernel_rfl) (by kernel_rfl) (by kernel_rfl) (fun _ _ _ h => h) (Or.inl ⟨by rfl, ?y3_r1_4⟩) (by assumption) ?r3_r1_4
      case y3_r1_4 => (intro w hSw; (try dsimp only at hSw); go_simp; all_goals (with_reducible rfl))
      try simp only [Act.put, List.setIfInBounds_toArray, List.set_cons_zero, List.set_cons_succ]
      refine wpAnyH_take (i := 4) (oi := { dst := some 21, op := Op.move (Operand.tmp 3), type := 23, pos := "l17_queue.go:38", after := #[], guard := none }) (v := ?v4_r1_5) rfl (by kernel_rfl) (by kernel_rfl) (by kernel_rfl) (fun _ _ _ h => h) (Or.inl ⟨by rfl, ?y4_r1_5⟩) (by assumption) ?r4_r1_5
      case y4_r1_5 => (intro w hSw; (try dsimp only at hSw); go_simp; all_goals (with_reducible rfl))
      try simp only [Act.put, List.setIfInBounds_toArray, List.set_cons_zero, List.set_cons_succ]
      refine wpAnyH_take (i := 5) (oi := { dst := some 22, op := Op.move (Operand.tmp 4), type := 3, pos := "l17_queue.go:38", after := #[], guard := none }) (v := ?v5_r1_6) rfl (by kernel_rfl) (by kernel_rfl) (by kernel_rfl) (fun _ _ _ h => h) (Or.inl ⟨by rfl, ?y5_r1_6⟩) (by assumption) ?r5_r1_6
      case y5_r1_6 => (intro w hSw; (try dsimp only at hSw); go_simp; all_goals (with_reducible rfl))
      try simp only [Act.put, List.setIfInBounds_toArray, List.set_cons_zero, List.set_cons_succ]
      refine wpAnyH_take (i := 6) (oi := { dst := some 23, op := Op.indexAddr 23 (Operand.tmp 21) (Operand.tmp 22), type := 0, pos := "l17_queue.go:38", after := #[{ on := 4, ground := Ground.data }, { on := 5, ground := Ground.data }], guard := none }) (v := ?v6_r1_7) rfl (by kernel_rfl) (by kernel_rfl) (by kernel_rfl) (fun _ _ _ h => h) (Or.inl ⟨by rfl, ?y6_r1_7⟩) (by assumption) ?r6_r1_7
      case y6_r1_7 => (intro w hSw; (try dsimp only at hSw); go_simp; all_goals (with_reducible rfl))
      try simp only [Act.put, List.setIfInBounds_toArray, List.set_cons_zero, List.set_cons_succ]
      refine wpAnyH_take (i := 7) (oi := { dst := some 24, op := Op.load 3 (Operand.tmp 23), type := 3, pos := "l17_queue.go:38", after := #[{ on := 6, ground := Ground.data }], guard := none }) (v := ?v7_r1_8) rfl (by kernel_rfl) (by kernel_rfl) (by kernel_rfl) (fun _ _ _ h => h) (Or.inl ⟨by rfl, ?y7_r1_8⟩) (by assumption) ?r7_r1_8
      case y7_r1_8 => (intro w hSw; (try dsimp only at hSw); go_simp; all_goals (with_reducible rfl))
      try simp only [Act.put, List.setIfInBounds_toArray, List.set_cons_zero, List.set_cons_succ]
      refine wpAnyH_take (i := 8) (oi := { dst := some 25, op := Op.indexAddr 30 (Operand.tmp 20) (Operand.tmp 24), type := 0, pos := "l17_queue.go:38", after := #[{ on := 3, ground := Ground.data }, { on := 7, ground := Ground.data }], guard := none }) (v := ?v8_r1_9) rfl (by kernel_rfl) (by kernel_rfl) (by kernel_rfl) (fun _ _ _ h => h) (Or.inl ⟨by rfl, ?y8_r1_9⟩) (by assumption) ?r8_r1_9
      case y8_r1_9 => (intro w hSw; (try dsimp only at hSw); go_simp; all_goals (with_reducible rfl))
      try simp only [Act.put, List.setIfInBounds_toArray, List.set_cons_zero, List.set_cons_succ]
      refine wpAnyH_take (i := 9) (oi := { dst := some 26, op := Op.load 60 (Operand.tmp 25), type := 60, pos := "l17_queue.go:38", after := #[{ on := 8, ground := Ground.data }], guard := none }) (v := ?v9_r1_10) rfl (by kernel_rfl) (by kernel_rfl) (by kernel_rfl) (fun _ _ _ h => h) (Or.inl ⟨by rfl, ?y9_r1_10⟩) (by assumption) ?r9_r1_10
      case y9_r1_10 => (intro w hSw; (try dsimp only at hSw); go_simp; all_goals (with_reducible rfl))
      try simp only [Act.put, List.setIfInBounds_toArray, List.set_cons_zero, List.set_cons_succ]
      refine wpAnyH_ready (rs := [10]) (by kernel_rfl) (by simp) ?_
      refine AllReadyH.cons (o := { dst := some 27, op := Op.call { callee := Callee.value (Operand.func 61), args := #[Operand.tmp 18, Operand.tmp 26], argTypes := #[31, 60] }, type := 4, pos := "l17_queue.go:38", after := #[{ on := 1, ground := Ground.data }, { on := 9, ground := Ground.data }], guard := none }) rfl (fun K hK => ?_) AllReadyH.nil
      go_simp
      go_at_call 61
      refine (specCanD _ hs us xk _ _ _ (HR1.out.grow (gby_trans G11_.out (gby_drew (gby_refl _ none)))) (HR2.out.grow (gby_trans G11_.out (gby_drew (gby_refl _ none)))) (Rk.out.grow (gby_trans G11_.out (gby_drew (gby_refl _ none)))) HL1.out HL2.out hzk_ false HCB.out).mono ?_
      rintro e wH11_r1 ⟨rfl, gH11_r1⟩
      have m11_Q_0_ : wH11_r1.cell? _ = some _ := gH11_r1.cell Q_0_ (by simp); have m11_Q_1_ : wH11_r1.cell? _ = some _ := gH11_r1.cell Q_1_ (by simp); have m11_Q_2_ : wH11_r1.cell? _ = some _ := gH11_r1.cell Q_2_ (by simp); have m11_Q_3_ : wH11_r1.cell? _ = some _ := gH11_r1.cell Q_3_ (by simp); have m11_ek0_ : wH11_r1.cell? _ = some _ := gH11_r1.cell ek0_ (by simp); have m11_ek1_ : wH11_r1.cell? _ = some _ := gH11_r1.cell ek1_ (by simp); have m11_ek2_ : wH11_r1.cell? _ = some _ := gH11_r1.cell ek2_ (by simp); have m11_ek3_ : wH11_r1.cell? _ = some _ := gH11_r1.cell ek3_ (by simp); have m11_ek4_ : wH11_r1.cell? _ = some _ := gH11_r1.cell ek4_ (by simp); have m11_ek5_ : wH11_r1.cell? _ = some _ := gH11_r1.cell ek5_ (by simp); have m11_ek6_ : wH11_r1.cell? _ = some _ := gH11_r1.cell ek6_ (by simp); have m11_ek7_ : wH11_r1.cell? _ = some _ := gH11_r1.cell ek7_ (by simp); have m11_yc_ : wH11_r1.cell? _ = some _ := gH11_r1.cell yc_ (by simp)
      go_wp2_with fail
      clear hHeld
      refine hK.out _ _ ?s10_r1_11 (fun hHeld => ?_)
      case s10_r1_11 => exact ⟨m11_Q_0_, m11_Q_1_, m11_Q_2_, m11_Q_3_, m11_ek0_, m11_ek1_, m11_ek2_, m11_ek3_, m11_ek4_, m11_ek5_, m11_ek6_, m11_ek7_, m11_yc_⟩
      clear hK K
      try simp only [Act.put, List.setIfInBounds_toArray, List.set_cons_zero, List.set_cons_succ]
      refine wpAnyH_done (by kernel_rfl) ?_ _
      have gR_ : (wr).grownBy (wH11_r1) none := (gby_trans (gby_drew (gby_refl _ none)) gH11_r1)
      have szwH11_r1 := gR_.size
      try simp only [World.size_alloc] at szwH11_r1
      clear Q_0_ Q_1_ Q_2_ Q_3_ ek0_ ek1_ ek2_ ek3_ ek4_ ek5_ ek6_ ek7_ yc_
      have rQ13_ := Lib.hid (show (wH11_r1).heap[W.heap.size]? = some (.cells #[.slice (some ⟨ab, ao, none⟩) n0 cap0, v1, v2, v3] 33 (0, 0)) from row_held gR_ rQ10_.out)
      clear rQ10_
      have G14_ := Lib.hid (show (W).grownBy (wH11_r1) none from gby_trans G11_.out gR_)
      have HTP15_ := Lib.hid (show (w2).grownBy (wH11_r1) none from gby_trans HTP12_.out gR_)
      clear HTP12_
      have HTB16_ := Lib.hid (show (w2).grownBy (wH11_r1) none from gby_trans HTB_.out gR_)
      clear HTB_
      clear gR_
      go_wp2
      refine ⟨⟨n + 1, by go_num, by omega, fun j hj => ?_, HTB16_.out⟩, by simp [intOf]; omega⟩
      by_cases e : j = n
      · subst e; rw [← HY.out, hyt_, ← HXk.out]; exact HCB.out.symm
      · exact HJ.out j (by omega)
    · skip
      go_wp2_with fail
      refine wp_region_held_drew (S := fun w' => w'.cell? ⟨W.heap.size, 0, none⟩ = some (.slice (some ⟨ab, ao, none⟩) n0 cap0) ∧ w'.cell? ⟨W.heap.size, 1, none⟩ = some (v1) ∧ w'.cell? ⟨W.heap.size, 2, none⟩ = some (v2) ∧ w'.cell? ⟨W.heap.size, 3, none⟩ = some (v3) ∧ w'.cell? ⟨ab, ao + yn * 8, none⟩ = some (.int .i64 xk.f0) ∧ w'.cell? ⟨ab, ao + yn * 8 + 1, none⟩ = some (.int .i64 xk.f1) ∧ w'.cell? ⟨ab, ao + yn * 8 + 2, none⟩ = some (.int .i64 xk.f2) ∧ w'.cell? ⟨ab, ao + yn * 8 + 3, none⟩ = some (.int .i64 xk.f3) ∧ w'.cell? ⟨ab, ao + yn * 8 + 4, none⟩ = some (.int .i64 xk.f4) ∧ w'.cell? ⟨ab, ao + yn * 8 + 5, none⟩ = some (.int .i64 xk.f5) ∧ w'.cell? ⟨ab, ao + yn * 8 + 6, none⟩ = some (.int .i64 xk.f6) ∧ w'.cell? ⟨ab, ao + yn * 8 + 7, none⟩ = some (.slice pk nk ck) ∧ w'.cell? ⟨bl, ol + n, none⟩ = some (.int .i64 (yn : Int))) (by kernel_rfl) (by (try dsimp only); exact ⟨Q_0_, Q_1_, Q_2_, Q_3_, ek0_, ek1_, ek2_, ek3_, ek4_, ek5_, ek6_, ek7_, yc_⟩) (fun hHeld => ?_)
      refine wpAnyH_take (i := 0) (oi := { dst := some 17, op := Op.fieldAddr 33 (Operand.tmp 1) 1, type := 0, pos := "l17_queue.go:38", after := #[], guard := none }) (v := ?v0_r2_1) rfl (by kernel_rfl) (by kernel_rfl) (by kernel_rfl) (fun _ _ _ h => h) (Or.inl ⟨by rfl, ?y0_r2_1⟩) (by assumption) ?r0_r2_1
      case y0_r2_1 => (intro w hSw; (try dsimp only at hSw); go_simp; all_goals (with_reducible rfl))
      try simp only [Act.put, List.setIfInBounds_toArray, List.set_cons_zero, List.set_cons_succ]
      refine wpAnyH_take (i := 1) (oi := { dst := some 18, op := Op.load 31 (Operand.tmp 17), type := 31, pos := "l17_queue.go:38", after := #[{ on := 0, ground := Ground.data }], guard := none }) (v := ?v1_r2_2) rfl (by kernel_rfl) (by kernel_rfl) (by kernel_rfl) (fun _ _ _ h => h) (Or.inl ⟨by rfl, ?y1_r2_2⟩) (by assumption) ?r1_r2_2
      case y1_r2_2 => (intro w hSw; (try dsimp only at hSw); go_simp; all_goals (with_reducible rfl))
      try simp only [Act.put, List.setIfInBounds_toArray, List.set_cons_zero, List.set_cons_succ]
      refine wpAnyH_take (i := 2) (oi := { dst := some 19, op := Op.fieldAddr 33 (Operand.tmp 1) 0, type := 0, pos := "l17_queue.go:38", after := #[], guard := none }) (v := ?v2_r2_3) rfl (by kernel_rfl) (by kernel_rfl) (by kernel_rfl) (fun _ _ _ h => h) (Or.inl ⟨by rfl, ?y2_r2_3⟩) (by assumption) ?r2_r2_3
      case y2_r2_3 => (intro w hSw; (try dsimp only at hSw); go_simp; all_goals (with_reducible rfl))
      try simp only [Act.put, List.setIfInBounds_toArray, List.set_cons_zero, List.set_cons_succ]
      refine wpAnyH_take (i := 3) (oi := { dst := some 20, op := Op.load 30 (Operand.tmp 19), type := 30, pos := "l17_queue.go:38", after := #[{ on := 2, ground := Ground.data }], guard := none }) (v := ?v3_r2_4) rfl (by kernel_rfl) (by kernel_rfl) (by kernel_rfl) (fun _ _ _ h => h) (Or.inl ⟨by rfl, ?y3_r2_4⟩) (by assumption) ?r3_r2_4
      case y3_r2_4 => (intro w hSw; (try dsimp only at hSw); go_simp; all_goals (with_reducible rfl))
      try simp only [Act.put, List.setIfInBounds_toArray, List.set_cons_zero, List.set_cons_succ]
      refine wpAnyH_take (i := 4) (oi := { dst := some 21, op := Op.move (Operand.tmp 3), type := 23, pos := "l17_queue.go:38", after := #[], guard := none }) (v := ?v4_r2_5) rfl (by kernel_rfl) (by kernel_rfl) (by kernel_rfl) (fun _ _ _ h => h) (Or.inl ⟨by rfl, ?y4_r2_5⟩) (by assumption) ?r4_r2_5
      case y4_r2_5 => (intro w hSw; (try dsimp only at hSw); go_simp; all_goals (with_reducible rfl))
      try simp only [Act.put, List.setIfInBounds_toArray, List.set_cons_zero, List.set_cons_succ]
      refine wpAnyH_take (i := 5) (oi := { dst := some 22, op := Op.move (Operand.tmp 4), type := 3, pos := "l17_queue.go:38", after := #[], guard := none }) (v := ?v5_r2_6) rfl (by kernel_rfl) (by kernel_rfl) (by kernel_rfl) (fun _ _ _ h => h) (Or.inl ⟨by rfl, ?y5_r2_6⟩) (by assumption) ?r5_r2_6
      case y5_r2_6 => (intro w hSw; (try dsimp only at hSw); go_simp; all_goals (with_reducible rfl))
      try simp only [Act.put, List.setIfInBounds_toArray, List.set_cons_zero, List.set_cons_succ]
      refine wpAnyH_take (i := 6) (oi := { dst := some 23, op := Op.indexAddr 23 (Operand.tmp 21) (Operand.tmp 22), type := 0, pos := "l17_queue.go:38", after := #[{ on := 4, ground := Ground.data }, { on := 5, ground := Ground.data }], guard := none }) (v := ?v6_r2_7) rfl (by kernel_rfl) (by kernel_rfl) (by kernel_rfl) (fun _ _ _ h => h) (Or.inl ⟨by rfl, ?y6_r2_7⟩) (by assumption) ?r6_r2_7
      case y6_r2_7 => (intro w hSw; (try dsimp only at hSw); go_simp; all_goals (with_reducible rfl))
      try simp only [Act.put, List.setIfInBounds_toArray, List.set_cons_zero, List.set_cons_succ]
      refine wpAnyH_take (i := 7) (oi := { dst := some 24, op := Op.load 3 (Operand.tmp 23), type := 3, pos := "l17_queue.go:38", after := #[{ on := 6, ground := Ground.data }], guard := none }) (v := ?v7_r2_8) rfl (by kernel_rfl) (by kernel_rfl) (by kernel_rfl) (fun _ _ _ h => h) (Or.inl ⟨by rfl, ?y7_r2_8⟩) (by assumption) ?r7_r2_8
      case y7_r2_8 => (intro w hSw; (try dsimp only at hSw); go_simp; all_goals (with_reducible rfl))
      try simp only [Act.put, List.setIfInBounds_toArray, List.set_cons_zero, List.set_cons_succ]
      refine wpAnyH_take (i := 8) (oi := { dst := some 25, op := Op.indexAddr 30 (Operand.tmp 20) (Operand.tmp 24), type := 0, pos := "l17_queue.go:38", after := #[{ on := 3, ground := Ground.data }, { on := 7, ground := Ground.data }], guard := none }) (v := ?v8_r2_9) rfl (by kernel_rfl) (by kernel_rfl) (by kernel_rfl) (fun _ _ _ h => h) (Or.inl ⟨by rfl, ?y8_r2_9⟩) (by assumption) ?r8_r2_9
      case y8_r2_9 => (intro w hSw; (try dsimp only at hSw); go_simp; all_goals (with_reducible rfl))
      try simp only [Act.put, List.setIfInBounds_toArray, List.set_cons_zero, List.set_cons_succ]
      refine wpAnyH_take (i := 9) (oi := { dst := some 26, op := Op.load 60 (Operand.tmp 25), type := 60, pos := "l17_queue.go:38", after := #[{ on := 8, ground := Ground.data }], guard := none }) (v := ?v9_r2_10) rfl (by kernel_rfl) (by kernel_rfl) (by kernel_rfl) (fun _ _ _ h => h) (Or.inl ⟨by rfl, ?y9_r2_10⟩) (by assumption) ?r9_r2_10
      case y9_r2_10 => (intro w hSw; (try dsimp only at hSw); go_simp; all_goals (with_reducible rfl))
      try simp only [Act.put, List.setIfInBounds_toArray, List.set_cons_zero, List.set_cons_succ]
      refine wpAnyH_ready (rs := [10]) (by kernel_rfl) (by simp) ?_
      refine AllReadyH.cons (o := { dst := some 27, op := Op.call { callee := Callee.value (Operand.func 61), args := #[Operand.tmp 18, Operand.tmp 26], argTypes := #[31, 60] }, type := 4, pos := "l17_queue.go:38", after := #[{ on := 1, ground := Ground.data }, { on := 9, ground := Ground.data }], guard := none }) rfl (fun K hK => ?_) AllReadyH.nil
      go_simp
      go_at_call 61
      refine (specCanD _ hs us xk _ _ _ (HR1.out.grow (gby_trans G11_.out (gby_drew (gby_refl _ none)))) (HR2.out.grow (gby_trans G11_.out (gby_drew (gby_refl _ none)))) (Rk.out.grow (gby_trans G11_.out (gby_drew (gby_refl _ none)))) HL1.out HL2.out hzk_ true HCB.out).mono ?_
      rintro e wH11_r2 ⟨rfl, gH11_r2⟩
      have m11_Q_0_ : wH11_r2.cell? _ = some _ := gH11_r2.cell Q_0_ (by simp); have m11_Q_1_ : wH11_r2.cell? _ = some _ := gH11_r2.cell Q_1_ (by simp); have m11_Q_2_ : wH11_r2.cell? _ = some _ := gH11_r2.cell Q_2_ (by simp); have m11_Q_3_ : wH11_r2.cell? _ = some _ := gH11_r2.cell Q_3_ (by simp); have m11_ek0_ : wH11_r2.cell? _ = some _ := gH11_r2.cell ek0_ (by simp); have m11_ek1_ : wH11_r2.cell? _ = some _ := gH11_r2.cell ek1_ (by simp); have m11_ek2_ : wH11_r2.cell? _ = some _ := gH11_r2.cell ek2_ (by simp); have m11_ek3_ : wH11_r2.cell? _ = some _ := gH11_r2.cell ek3_ (by simp); have m11_ek4_ : wH11_r2.cell? _ = some _ := gH11_r2.cell ek4_ (by simp); have m11_ek5_ : wH11_r2.cell? _ = some _ := gH11_r2.cell ek5_ (by simp); have m11_ek6_ : wH11_r2.cell? _ = some _ := gH11_r2.cell ek6_ (by simp); have m11_ek7_ : wH11_r2.cell? _ = some _ := gH11_r2.cell ek7_ (by simp); have m11_yc_ : wH11_r2.cell? _ = some _ := gH11_r2.cell yc_ (by simp)
      go_wp2_with fail
      clear hHeld
      refine hK.out _ _ ?s10_r2_11 (fun hHeld => ?_)
      case s10_r2_11 => exact ⟨m11_Q_0_, m11_Q_1_, m11_Q_2_, m11_Q_3_, m11_ek0_, m11_ek1_, m11_ek2_, m11_ek3_, m11_ek4_, m11_ek5_, m11_ek6_, m11_ek7_, m11_yc_⟩
      clear hK K
      try simp only [Act.put, List.setIfInBounds_toArray, List.set_cons_zero, List.set_cons_succ]
      refine wpAnyH_done (by kernel_rfl) ?_ _
      have gR_ : (wr).grownBy (wH11_r2) none := (gby_trans (gby_drew (gby_refl _ none)) gH11_r2)
      have szwH11_r2 := gR_.size
      try simp only [World.size_alloc] at szwH11_r2
      clear Q_0_ Q_1_ Q_2_ Q_3_ ek0_ ek1_ ek2_ ek3_ ek4_ ek5_ ek6_ ek7_ yc_
      have rQ13_ := Lib.hid (show (wH11_r2).heap[W.heap.size]? = some (.cells #[.slice (some ⟨ab, ao, none⟩) n0 cap0, v1, v2, v3] 33 (0, 0)) from row_held gR_ rQ10_.out)
      clear rQ10_
      have G14_ := Lib.hid (show (W).grownBy (wH11_r2) none from gby_trans G11_.out gR_)
      have HTP15_ := Lib.hid (show (w2).grownBy (wH11_r2) none from gby_trans HTP12_.out gR_)
      clear HTP12_
      have HTB16_ := Lib.hid (show (w2).grownBy (wH11_r2) none from gby_trans HTB_.out gR_)
      clear HTB_
      clear gR_
      have yc2_ := (HTP15_.out).cell HYP.out (by simp)
      have er_ : (nextIn hs us xs (passL xs xs.length)) = (yn : Int) := by rw [← HLE.out, HY.out]; exact nextIn_first _ _ _ _ n (by rw [← HNL.out]; exact hlt) HJ.out (by rw [← HY.out, hyt_, ← HXk.out]; exact HCB.out.symm)
      have HRE := Lib.hid er_
      clear er_
      go_wp2
      go_ret
      exact ⟨ret_i64 (by first | exact HRE.out.symm | (rw [HE.out]; exact HRE.out.symm)), G14_.out⟩

end Go.Proofs.Ytnighnkkeiegnaa

namespace Go.Proofs.Ytnighnkkeiegnaa
open Go Go.RowKit
set_option linter.unusedVariables false

theorem goes_ok {xs : List DPacket} (h : PksOk xs) {k : Nat} (hk : k < xs.length) {b : Bool} (hb : b = clearOf (xs.getD k default) xs k) : goesP xs k = b := by
  unfold goesP
  rw [show okP (xs.getD k default) = true from decide_eq_true (h k hk), ← hb]; rfl

set_option maxRecDepth 8000 in
set_option maxHeartbeats 4000000 in
theorem nextOut_any (W : World) (v0 v1 v2 v3 : Value) (xs : List DPacket) (hs us : List Int) (ys : List DPacket) (H : RdL shPacket W v0 xs) (H1 : RdL shI W v1 hs) (H2 : RdL shI W v2 us) (H3 : RdL shPacket W v3 ys) (hl : szL shPacket xs ≤ 1048576) (hl1 : szL shI hs ≤ 1048576) (hl2 : szL shI us ≤ 1048576) (hl3 : szL shPacket ys ≤ 1048576) (hp : PksOk xs) : Calls Try.prog 64 #[vQueue v0 v1 v2 v3] W (AnsN (.int .i64 (nextIn hs us xs (passL xs xs.length))) W) := by
  have HPK := Lib.hid hp
  clear hp
  have HS := Lib.hid hl
  have HRD := Lib.hid H
  have HR1 := Lib.hid H1
  have HR2 := Lib.hid H2
  have HR3 := Lib.hid H3
  have HL1 := Lib.hid hl1
  have HL2 := Lib.hid hl2
  have HL3 := Lib.hid hl3
  obtain ⟨a0, cap0, rfl, hcap, _, H⟩ := H
  have HC := Lib.hid H
  have hcap2 := hcap.2
  obtain ⟨n0, hn0⟩ : ∃ n, n = xs.length := ⟨_, rfl⟩
  have HE := Lib.hid hn0
  have hlx : n0 ≤ 1048576 := by have := szL_len shPacket xs; omega
  rw [← hn0] at hcap2 ⊢
  rw [← hn0] at HRD HC
  clear H H1 H2 H3 hl1 hl2 hl3 hcap hl hn0
  unfold vQueue
  go_enter Try.func64, Try.ntmps64
  have rQ1_ := Lib.hid (show ((W.alloc (.cells #[.slice a0 n0 cap0, v1, v2, v3] 33))).heap[W.heap.size]? = some (.cells #[.slice a0 n0 cap0, v1, v2, v3] 33 (0, 0)) from by exact heap_alloc_new _ _)
  have G2_ := Lib.hid (show (W).grownBy ((W.alloc (.cells #[.slice a0 n0 cap0, v1, v2, v3] 33))) none from (gby_alloc (gby_refl _ _) _))
  have Q_0_ : ((W.alloc (.cells #[.slice a0 n0 cap0, v1, v2, v3] 33))).cell? ⟨W.heap.size, 0, none⟩ = some (.slice a0 n0 cap0) := cell_of_row _ _ 0 _ _ _ rQ1_.out
  have Q_1_ : ((W.alloc (.cells #[.slice a0 n0 cap0, v1, v2, v3] 33))).cell? ⟨W.heap.size, 1, none⟩ = some (v1) := cell_of_row _ _ 1 _ _ _ rQ1_.out
  have Q_2_ : ((W.alloc (.cells #[.slice a0 n0 cap0, v1, v2, v3] 33))).cell? ⟨W.heap.size, 2, none⟩ = some (v2) := cell_of_row _ _ 2 _ _ _ rQ1_.out
  have Q_3_ : ((W.alloc (.cells #[.slice a0 n0 cap0, v1, v2, v3] 33))).cell? ⟨W.heap.size, 3, none⟩ = some (v3) := cell_of_row _ _ 3 _ _ _ rQ1_.out
  go_wp2
  go_step3
  go_wp2
  go_step3
  go_wp2
  go_loopw [3, 11] (fun y3 k wr => ∃ n : Nat, k = .int .i64 (n : Int) ∧ n ≤ n0 ∧ y3 = .int .i64 (-1) ∧ (∀ j, j < n → goesP xs j = true → canD hs us (xs.getD j default) = false) ∧ ((W.alloc (.cells #[.slice a0 n0 cap0, v1, v2, v3] 33))).grownBy wr none) (fun _ k _ => n0 - (intOf k).toNat)
  case atStart => exact ⟨0, rfl, by omega, rfl, fun j hj => absurd hj (Nat.not_lt_zero _), gby_refl _ _⟩
  case round =>
    clear Q_0_ Q_1_ Q_2_ Q_3_
    obtain ⟨wo, hwo_⟩ : ∃ w_, w_ = wr := ⟨_, rfl⟩
    subst hwo_
    obtain ⟨n, rfl, hn, rfl, hj_, hg⟩ := hrel
    have szrwo := hg.size
    try simp only [World.size_alloc] at szrwo
    try simp only [World.size_setCell] at szrwo
    have szr_ := szrwo
    have rQ3_ := Lib.hid (show (wo).heap[W.heap.size]? = some (.cells #[.slice a0 n0 cap0, v1, v2, v3] 33 (0, 0)) from row_held hg rQ1_.out)
    clear rQ1_
    have G4_ := Lib.hid (show (W).grownBy (wo) none from gby_trans G2_.out hg)
    have HTB_ := Lib.hid hg
    clear hg
    have Q_0_ : (wo).cell? ⟨W.heap.size, 0, none⟩ = some (.slice a0 n0 cap0) := cell_of_row _ _ 0 _ _ _ rQ3_.out
    have Q_1_ : (wo).cell? ⟨W.heap.size, 1, none⟩ = some (v1) := cell_of_row _ _ 1 _ _ _ rQ3_.out
    have Q_2_ : (wo).cell? ⟨W.heap.size, 2, none⟩ = some (v2) := cell_of_row _ _ 2 _ _ _ rQ3_.out
    have Q_3_ : (wo).cell? ⟨W.heap.size, 3, none⟩ = some (v3) := cell_of_row _ _ 3 _ _ _ rQ3_.out
    have HJ := Lib.hid hj_
    clear hj_
    have hn0_ : (0 : Int) ≤ (n : Int) := by omega
    have htn : ((n : Int)).toNat = n := by omega
    by_cases hlt : n < n0
    rotate_left
    · obtain rfl : n = n0 := by omega
      have hki : ¬ (n : Int) < (n : Int) := by omega
      have er_ : (nextIn hs us xs (passL xs xs.length)) = -1 := next_no _ _ _ _ (fun j hj => HJ.out j (by have := HE.out; omega))
      have HRE := Lib.hid er_
      clear er_
      go_wp2
      try rw [Exit.noGoto_ret]
      go_ret
      exact ⟨ret_i64 (by first | exact HRE.out.symm | (rw [HE.out]; exact HRE.out.symm)), G4_.out⟩
    have hki : (n : Int) < (n0 : Int) := by omega
    have hcn_ : n ≤ cap0 := by omega
    have hcn2_ : (n : Int) ≤ (cap0 : Int) := by omega
    obtain ⟨ab, ao, rfl, hcell_⟩ := HC.out.resolve_left (by omega)
    have HCE := Lib.hid hcell_
    clear hcell_
    have hq_ : n < n0 := hlt
    obtain ⟨cs_, hat_, hrd_⟩ := HCE.out n (by omega)
    obtain ⟨xk, hx_⟩ : ∃ x, x = xs.getD n default := ⟨_, rfl⟩
    rw [← hx_] at hrd_
    have hzk_ : szL shI xk.f7 ≤ 1048576 := by have q1 := szL_at shPacket xs n (by have := HE.out; omega); rw [← hx_] at q1; exact Nat.le_trans q1 HS.out
    have HXk := Lib.hid hx_
    obtain ⟨v7_, rfl, r7_⟩ := hrd_
    obtain ⟨pk, nk, ck, hv_⟩ := RdL.form r7_
    subst hv_
    have Rk := Lib.hid r7_
    have HEk0 := Lib.hid (show W.cell? ⟨ab, ao + n * 8, none⟩ = some (.int .i64 xk.f0) from at_cell (j := 0) hat_ rfl)
    have HEk1 := Lib.hid (show W.cell? ⟨ab, ao + n * 8 + 1, none⟩ = some (.int .i64 xk.f1) from at_cell (j := 1) hat_ rfl)
    have HEk2 := Lib.hid (show W.cell? ⟨ab, ao + n * 8 + 2, none⟩ = some (.int .i64 xk.f2) from at_cell (j := 2) hat_ rfl)
    have HEk3 := Lib.hid (show W.cell? ⟨ab, ao + n * 8 + 3, none⟩ = some (.int .i64 xk.f3) from at_cell (j := 3) hat_ rfl)
    have HEk4 := Lib.hid (show W.cell? ⟨ab, ao + n * 8 + 4, none⟩ = some (.int .i64 xk.f4) from at_cell (j := 4) hat_ rfl)
    have HEk5 := Lib.hid (show W.cell? ⟨ab, ao + n * 8 + 5, none⟩ = some (.int .i64 xk.f5) from at_cell (j := 5) hat_ rfl)
    have HEk6 := Lib.hid (show W.cell? ⟨ab, ao + n * 8 + 6, none⟩ = some (.int .i64 xk.f6) from at_cell (j := 6) hat_ rfl)
    have HEk7 := Lib.hid (show W.cell? ⟨ab, ao + n * 8 + 7, none⟩ = some (.slice pk nk ck) from at_cell (j := 7) hat_ rfl)
    clear hat_ r7_ hx_ hq_
    have ek0_ := (G4_.out).cell HEk0.out (by simp)
    have ek1_ := (G4_.out).cell HEk1.out (by simp)
    have ek2_ := (G4_.out).cell HEk2.out (by simp)
    have ek3_ := (G4_.out).cell HEk3.out (by simp)
    have ek4_ := (G4_.out).cell HEk4.out (by simp)
    have ek5_ := (G4_.out).cell HEk5.out (by simp)
    have ek6_ := (G4_.out).cell HEk6.out (by simp)
    have ek7_ := (G4_.out).cell HEk7.out (by simp)
    have al_ : (wo).grownBy ((wo).alloc (.cells #[.int .i64 xk.f0, .int .i64 xk.f1, .int .i64 xk.f2, .int .i64 xk.f3, .int .i64 xk.f4, .int .i64 xk.f5, .int .i64 xk.f6, .slice pk nk ck] 60)) none := gby_alloc (gby_refl _ _) _
    have rQ5_ := Lib.hid (show ((wo.alloc (.cells #[.int .i64 xk.f0, .int .i64 xk.f1, .int .i64 xk.f2, .int .i64 xk.f3, .int .i64 xk.f4, .int .i64 xk.f5, .int .i64 xk.f6, .slice pk nk ck] 60))).heap[W.heap.size]? = some (.cells #[.slice (some ⟨ab, ao, none⟩) n0 cap0, v1, v2, v3] 33 (0, 0)) from row_held al_ rQ3_.out)
    clear rQ3_
    have G6_ := Lib.hid (show (W).grownBy ((wo.alloc (.cells #[.int .i64 xk.f0, .int .i64 xk.f1, .int .i64 xk.f2, .int .i64 xk.f3, .int .i64 xk.f4, .int .i64 xk.f5, .int .i64 xk.f6, .slice pk nk ck] 60))) none from gby_trans G4_.out al_)
    have HTB7_ := Lib.hid (show ((W.alloc (.cells #[.slice (some ⟨ab, ao, none⟩) n0 cap0, v1, v2, v3] 33))).grownBy ((wo.alloc (.cells #[.int .i64 xk.f0, .int .i64 xk.f1, .int .i64 xk.f2, .int .i64 xk.f3, .int .i64 xk.f4, .int .i64 xk.f5, .int .i64 xk.f6, .slice pk nk ck] 60))) none from gby_trans HTB_.out al_)
    clear HTB_
    have rE8_ := Lib.hid (show ((wo.alloc (.cells #[.int .i64 xk.f0, .int .i64 xk.f1, .int .i64 xk.f2, .int .i64 xk.f3, .int .i64 xk.f4, .int .i64 xk.f5, .int .i64 xk.f6, .slice pk nk ck] 60))).heap[wo.heap.size]? = some (.cells #[.int .i64 xk.f0, .int .i64 xk.f1, .int .i64 xk.f2, .int .i64 xk.f3, .int .i64 xk.f4, .int .i64 xk.f5, .int .i64 xk.f6, .slice pk nk ck] 60 (0, 0)) from by first | exact heap_alloc_new _ _ | exact heap_pair _ _ _ | exact heap_trip _ _ _ _)
    clear al_
    have Q_0_ : ((wo.alloc (.cells #[.int .i64 xk.f0, .int .i64 xk.f1, .int .i64 xk.f2, .int .i64 xk.f3, .int .i64 xk.f4, .int .i64 xk.f5, .int .i64 xk.f6, .slice pk nk ck] 60))).cell? ⟨W.heap.size, 0, none⟩ = some (.slice (some ⟨ab, ao, none⟩) n0 cap0) := cell_of_row _ _ 0 _ _ _ rQ5_.out
    have Q_1_ : ((wo.alloc (.cells #[.int .i64 xk.f0, .int .i64 xk.f1, .int .i64 xk.f2, .int .i64 xk.f3, .int .i64 xk.f4, .int .i64 xk.f5, .int .i64 xk.f6, .slice pk nk ck] 60))).cell? ⟨W.heap.size, 1, none⟩ = some (v1) := cell_of_row _ _ 1 _ _ _ rQ5_.out
    have Q_2_ : ((wo.alloc (.cells #[.int .i64 xk.f0, .int .i64 xk.f1, .int .i64 xk.f2, .int .i64 xk.f3, .int .i64 xk.f4, .int .i64 xk.f5, .int .i64 xk.f6, .slice pk nk ck] 60))).cell? ⟨W.heap.size, 2, none⟩ = some (v2) := cell_of_row _ _ 2 _ _ _ rQ5_.out
    have Q_3_ : ((wo.alloc (.cells #[.int .i64 xk.f0, .int .i64 xk.f1, .int .i64 xk.f2, .int .i64 xk.f3, .int .i64 xk.f4, .int .i64 xk.f5, .int .i64 xk.f6, .slice pk nk ck] 60))).cell? ⟨W.heap.size, 3, none⟩ = some (v3) := cell_of_row _ _ 3 _ _ _ rQ5_.out
    have E_0_ : ((wo.alloc (.cells #[.int .i64 xk.f0, .int .i64 xk.f1, .int .i64 xk.f2, .int .i64 xk.f3, .int .i64 xk.f4, .int .i64 xk.f5, .int .i64 xk.f6, .slice pk nk ck] 60))).cell? ⟨wo.heap.size, 0, none⟩ = some (.int .i64 xk.f0) := cell_of_row _ _ 0 _ _ _ rE8_.out
    have E_1_ : ((wo.alloc (.cells #[.int .i64 xk.f0, .int .i64 xk.f1, .int .i64 xk.f2, .int .i64 xk.f3, .int .i64 xk.f4, .int .i64 xk.f5, .int .i64 xk.f6, .slice pk nk ck] 60))).cell? ⟨wo.heap.size, 1, none⟩ = some (.int .i64 xk.f1) := cell_of_row _ _ 1 _ _ _ rE8_.out
    have E_2_ : ((wo.alloc (.cells #[.int .i64 xk.f0, .int .i64 xk.f1, .int .i64 xk.f2, .int .i64 xk.f3, .int .i64 xk.f4, .int .i64 xk.f5, .int .i64 xk.f6, .slice pk nk ck] 60))).cell? ⟨wo.heap.size, 2, none⟩ = some (.int .i64 xk.f2) := cell_of_row _ _ 2 _ _ _ rE8_.out
    have E_3_ : ((wo.alloc (.cells #[.int .i64 xk.f0, .int .i64 xk.f1, .int .i64 xk.f2, .int .i64 xk.f3, .int .i64 xk.f4, .int .i64 xk.f5, .int .i64 xk.f6, .slice pk nk ck] 60))).cell? ⟨wo.heap.size, 3, none⟩ = some (.int .i64 xk.f3) := cell_of_row _ _ 3 _ _ _ rE8_.out
    have E_4_ : ((wo.alloc (.cells #[.int .i64 xk.f0, .int .i64 xk.f1, .int .i64 xk.f2, .int .i64 xk.f3, .int .i64 xk.f4, .int .i64 xk.f5, .int .i64 xk.f6, .slice pk nk ck] 60))).cell? ⟨wo.heap.size, 4, none⟩ = some (.int .i64 xk.f4) := cell_of_row _ _ 4 _ _ _ rE8_.out
    have E_5_ : ((wo.alloc (.cells #[.int .i64 xk.f0, .int .i64 xk.f1, .int .i64 xk.f2, .int .i64 xk.f3, .int .i64 xk.f4, .int .i64 xk.f5, .int .i64 xk.f6, .slice pk nk ck] 60))).cell? ⟨wo.heap.size, 5, none⟩ = some (.int .i64 xk.f5) := cell_of_row _ _ 5 _ _ _ rE8_.out
    have E_6_ : ((wo.alloc (.cells #[.int .i64 xk.f0, .int .i64 xk.f1, .int .i64 xk.f2, .int .i64 xk.f3, .int .i64 xk.f4, .int .i64 xk.f5, .int .i64 xk.f6, .slice pk nk ck] 60))).cell? ⟨wo.heap.size, 6, none⟩ = some (.int .i64 xk.f6) := cell_of_row _ _ 6 _ _ _ rE8_.out
    have E_7_ : ((wo.alloc (.cells #[.int .i64 xk.f0, .int .i64 xk.f1, .int .i64 xk.f2, .int .i64 xk.f3, .int .i64 xk.f4, .int .i64 xk.f5, .int .i64 xk.f6, .slice pk nk ck] 60))).cell? ⟨wo.heap.size, 7, none⟩ = some (.slice pk nk ck) := cell_of_row _ _ 7 _ _ _ rE8_.out
    have ek0_ := (G6_.out).cell HEk0.out (by simp)
    have ek1_ := (G6_.out).cell HEk1.out (by simp)
    have ek2_ := (G6_.out).cell HEk2.out (by simp)
    have ek3_ := (G6_.out).cell HEk3.out (by simp)
    have ek4_ := (G6_.out).cell HEk4.out (by simp)
    have ek5_ := (G6_.out).cell HEk5.out (by simp)
    have ek6_ := (G6_.out).cell HEk6.out (by simp)
    have ek7_ := (G6_.out).cell HEk7.out (by simp)
    obtain ⟨cb_, hcb_⟩ : ∃ b, b = canD hs us xk := ⟨_, rfl⟩
    have HCB := Lib.hid hcb_
    clear hcb_
    go_wp2
    go_loopw [7, 21] (fun y6 i wr => ∃ m : Nat, i = .int .i64 (m : Int) ∧ m ≤ n ∧ (∃ q, y6 = q) ∧ clearOf xk xs m = true ∧ ((wo.alloc (.cells #[.int .i64 xk.f0, .int .i64 xk.f1, .int .i64 xk.f2, .int .i64 xk.f3, .int .i64 xk.f4, .int .i64 xk.f5, .int .i64 xk.f6, .slice pk nk ck] 60))).grownBy wr none) (fun _ i _ => n - (intOf i).toNat)
    case atStart => exact ⟨0, rfl, by omega, ⟨_, rfl⟩, rfl, gby_refl _ _⟩
    case round =>
      clear Q_0_ Q_1_ Q_2_ Q_3_ E_0_ E_1_ E_2_ E_3_ E_4_ E_5_ E_6_ E_7_ ek0_ ek1_ ek2_ ek3_ ek4_ ek5_ ek6_ ek7_
      obtain ⟨m, rfl, hm, ⟨y6, rfl⟩, hcl_, hg⟩ := hrel
      have szrwr := hg.size
      try simp only [World.size_alloc] at szrwr
      try simp only [World.size_setCell] at szrwr
      have szr_ := szrwr
      have rQ9_ := Lib.hid (show (wr).heap[W.heap.size]? = some (.cells #[.slice (some ⟨ab, ao, none⟩) n0 cap0, v1, v2, v3] 33 (0, 0)) from row_held hg rQ5_.out)
      clear rQ5_
      have rE10_ := Lib.hid (show (wr).heap[wo.heap.size]? = some (.cells #[.int .i64 xk.f0, .int .i64 xk.f1, .int .i64 xk.f2, .int .i64 xk.f3, .int .i64 xk.f4, .int .i64 xk.f5, .int .i64 xk.f6, .slice pk nk ck] 60 (0, 0)) from row_held hg rE8_.out)
      clear rE8_
      have G11_ := Lib.hid (show (W).grownBy (wr) none from gby_trans G6_.out hg)
      have HTB12_ := Lib.hid (show ((W.alloc (.cells #[.slice (some ⟨ab, ao, none⟩) n0 cap0, v1, v2, v3] 33))).grownBy (wr) none from gby_trans HTB7_.out hg)
      clear HTB7_
      have HTI_ := Lib.hid hg
      clear hg
      have Q_0_ : (wr).cell? ⟨W.heap.size, 0, none⟩ = some (.slice (some ⟨ab, ao, none⟩) n0 cap0) := cell_of_row _ _ 0 _ _ _ rQ9_.out
      have Q_1_ : (wr).cell? ⟨W.heap.size, 1, none⟩ = some (v1) := cell_of_row _ _ 1 _ _ _ rQ9_.out
      have Q_2_ : (wr).cell? ⟨W.heap.size, 2, none⟩ = some (v2) := cell_of_row _ _ 2 _ _ _ rQ9_.out
      have Q_3_ : (wr).cell? ⟨W.heap.size, 3, none⟩ = some (v3) := cell_of_row _ _ 3 _ _ _ rQ9_.out
      have E_0_ : (wr).cell? ⟨wo.heap.size, 0, none⟩ = some (.int .i64 xk.f0) := cell_of_row _ _ 0 _ _ _ rE10_.out
      have E_1_ : (wr).cell? ⟨wo.heap.size, 1, none⟩ = some (.int .i64 xk.f1) := cell_of_row _ _ 1 _ _ _ rE10_.out
      have E_2_ : (wr).cell? ⟨wo.heap.size, 2, none⟩ = some (.int .i64 xk.f2) := cell_of_row _ _ 2 _ _ _ rE10_.out
      have E_3_ : (wr).cell? ⟨wo.heap.size, 3, none⟩ = some (.int .i64 xk.f3) := cell_of_row _ _ 3 _ _ _ rE10_.out
      have E_4_ : (wr).cell? ⟨wo.heap.size, 4, none⟩ = some (.int .i64 xk.f4) := cell_of_row _ _ 4 _ _ _ rE10_.out
      have E_5_ : (wr).cell? ⟨wo.heap.size, 5, none⟩ = some (.int .i64 xk.f5) := cell_of_row _ _ 5 _ _ _ rE10_.out
      have E_6_ : (wr).cell? ⟨wo.heap.size, 6, none⟩ = some (.int .i64 xk.f6) := cell_of_row _ _ 6 _ _ _ rE10_.out
      have E_7_ : (wr).cell? ⟨wo.heap.size, 7, none⟩ = some (.slice pk nk ck) := cell_of_row _ _ 7 _ _ _ rE10_.out
      have ek0_ := (G11_.out).cell HEk0.out (by simp)
      have ek1_ := (G11_.out).cell HEk1.out (by simp)
      have ek2_ := (G11_.out).cell HEk2.out (by simp)
      have ek3_ := (G11_.out).cell HEk3.out (by simp)
      have ek4_ := (G11_.out).cell HEk4.out (by simp)
      have ek5_ := (G11_.out).cell HEk5.out (by simp)
      have ek6_ := (G11_.out).cell HEk6.out (by simp)
      have ek7_ := (G11_.out).cell HEk7.out (by simp)
      have HCL := Lib.hid hcl_
      clear hcl_
      have hm0_ : (0 : Int) ≤ (m : Int) := by omega
      have htm : ((m : Int)).toNat = m := by omega
      by_cases hlm : m < n
      rotate_left
      · obtain rfl : m = n := by omega
        have hmi : ¬ (m : Int) < (m : Int) := by omega
        have HGO := Lib.hid (goes_ok HPK.out (k := m) (by have := HE.out; omega) (b := true) (by rw [← HXk.out]; exact HCL.out.symm))
        cases cb_
        · skip
          go_wp2_with fail
          go_at_call 67
          refine (implCanD _ hs us xk _ _ _ (HR1.out.grow G11_.out) (HR2.out.grow G11_.out) (Rk.out.grow G11_.out) HL1.out HL2.out hzk_ false HCB.out).mono ?_
          rintro e w1 ⟨rfl, g⟩
          have szw1 := g.size
          try simp only [World.size_alloc] at szw1
          try simp only [World.size_setCell] at szw1
          clear Q_0_ Q_1_ Q_2_ Q_3_ E_0_ E_1_ E_2_ E_3_ E_4_ E_5_ E_6_ E_7_ ek0_ ek1_ ek2_ ek3_ ek4_ ek5_ ek6_ ek7_
          have rQ13_ := Lib.hid (show (w1).heap[W.heap.size]? = some (.cells #[.slice (some ⟨ab, ao, none⟩) n0 cap0, v1, v2, v3] 33 (0, 0)) from row_held g rQ9_.out)
          clear rQ9_
          have rE14_ := Lib.hid (show (w1).heap[wo.heap.size]? = some (.cells #[.int .i64 xk.f0, .int .i64 xk.f1, .int .i64 xk.f2, .int .i64 xk.f3, .int .i64 xk.f4, .int .i64 xk.f5, .int .i64 xk.f6, .slice pk nk ck] 60 (0, 0)) from row_held g rE10_.out)
          clear rE10_
          have G15_ := Lib.hid (show (W).grownBy (w1) none from gby_trans G11_.out g)
          have HTB16_ := Lib.hid (show ((W.alloc (.cells #[.slice (some ⟨ab, ao, none⟩) n0 cap0, v1, v2, v3] 33))).grownBy (w1) none from gby_trans HTB12_.out g)
          clear HTB12_
          have HTI17_ := Lib.hid (show ((wo.alloc (.cells #[.int .i64 xk.f0, .int .i64 xk.f1, .int .i64 xk.f2, .int .i64 xk.f3, .int .i64 xk.f4, .int .i64 xk.f5, .int .i64 xk.f6, .slice pk nk ck] 60))).grownBy (w1) none from gby_trans HTI_.out g)
          clear HTI_
          clear g
          have Q_0_ : (w1).cell? ⟨W.heap.size, 0, none⟩ = some (.slice (some ⟨ab, ao, none⟩) n0 cap0) := cell_of_row _ _ 0 _ _ _ rQ13_.out
          have Q_1_ : (w1).cell? ⟨W.heap.size, 1, none⟩ = some (v1) := cell_of_row _ _ 1 _ _ _ rQ13_.out
          have Q_2_ : (w1).cell? ⟨W.heap.size, 2, none⟩ = some (v2) := cell_of_row _ _ 2 _ _ _ rQ13_.out
          have Q_3_ : (w1).cell? ⟨W.heap.size, 3, none⟩ = some (v3) := cell_of_row _ _ 3 _ _ _ rQ13_.out
          have E_0_ : (w1).cell? ⟨wo.heap.size, 0, none⟩ = some (.int .i64 xk.f0) := cell_of_row _ _ 0 _ _ _ rE14_.out
          have E_1_ : (w1).cell? ⟨wo.heap.size, 1, none⟩ = some (.int .i64 xk.f1) := cell_of_row _ _ 1 _ _ _ rE14_.out
          have E_2_ : (w1).cell? ⟨wo.heap.size, 2, none⟩ = some (.int .i64 xk.f2) := cell_of_row _ _ 2 _ _ _ rE14_.out
          have E_3_ : (w1).cell? ⟨wo.heap.size, 3, none⟩ = some (.int .i64 xk.f3) := cell_of_row _ _ 3 _ _ _ rE14_.out
          have E_4_ : (w1).cell? ⟨wo.heap.size, 4, none⟩ = some (.int .i64 xk.f4) := cell_of_row _ _ 4 _ _ _ rE14_.out
          have E_5_ : (w1).cell? ⟨wo.heap.size, 5, none⟩ = some (.int .i64 xk.f5) := cell_of_row _ _ 5 _ _ _ rE14_.out
          have E_6_ : (w1).cell? ⟨wo.heap.size, 6, none⟩ = some (.int .i64 xk.f6) := cell_of_row _ _ 6 _ _ _ rE14_.out
          have E_7_ : (w1).cell? ⟨wo.heap.size, 7, none⟩ = some (.slice pk nk ck) := cell_of_row _ _ 7 _ _ _ rE14_.out
          have ek0_ := (G15_.out).cell HEk0.out (by simp)
          have ek1_ := (G15_.out).cell HEk1.out (by simp)
          have ek2_ := (G15_.out).cell HEk2.out (by simp)
          have ek3_ := (G15_.out).cell HEk3.out (by simp)
          have ek4_ := (G15_.out).cell HEk4.out (by simp)
          have ek5_ := (G15_.out).cell HEk5.out (by simp)
          have ek6_ := (G15_.out).cell HEk6.out (by simp)
          have ek7_ := (G15_.out).cell HEk7.out (by simp)
          go_wp2
          refine ⟨⟨m + 1, by go_num, by omega, rfl, fun j hj hg => ?_, HTB16_.out⟩, by simp [intOf]; omega⟩
          by_cases e : j = m
          · subst e; rw [← HXk.out]; exact HCB.out.symm
          · exact HJ.out j (by omega) hg
        · skip
          go_wp2_with fail
          go_at_call 67
          refine (implCanD _ hs us xk _ _ _ (HR1.out.grow G11_.out) (HR2.out.grow G11_.out) (Rk.out.grow G11_.out) HL1.out HL2.out hzk_ true HCB.out).mono ?_
          rintro e w1 ⟨rfl, g⟩
          have szw1 := g.size
          try simp only [World.size_alloc] at szw1
          try simp only [World.size_setCell] at szw1
          clear Q_0_ Q_1_ Q_2_ Q_3_ E_0_ E_1_ E_2_ E_3_ E_4_ E_5_ E_6_ E_7_ ek0_ ek1_ ek2_ ek3_ ek4_ ek5_ ek6_ ek7_
          have rQ13_ := Lib.hid (show (w1).heap[W.heap.size]? = some (.cells #[.slice (some ⟨ab, ao, none⟩) n0 cap0, v1, v2, v3] 33 (0, 0)) from row_held g rQ9_.out)
          clear rQ9_
          have rE14_ := Lib.hid (show (w1).heap[wo.heap.size]? = some (.cells #[.int .i64 xk.f0, .int .i64 xk.f1, .int .i64 xk.f2, .int .i64 xk.f3, .int .i64 xk.f4, .int .i64 xk.f5, .int .i64 xk.f6, .slice pk nk ck] 60 (0, 0)) from row_held g rE10_.out)
          clear rE10_
          have G15_ := Lib.hid (show (W).grownBy (w1) none from gby_trans G11_.out g)
          have HTB16_ := Lib.hid (show ((W.alloc (.cells #[.slice (some ⟨ab, ao, none⟩) n0 cap0, v1, v2, v3] 33))).grownBy (w1) none from gby_trans HTB12_.out g)
          clear HTB12_
          have HTI17_ := Lib.hid (show ((wo.alloc (.cells #[.int .i64 xk.f0, .int .i64 xk.f1, .int .i64 xk.f2, .int .i64 xk.f3, .int .i64 xk.f4, .int .i64 xk.f5, .int .i64 xk.f6, .slice pk nk ck] 60))).grownBy (w1) none from gby_trans HTI_.out g)
          clear HTI_
          clear g
          have Q_0_ : (w1).cell? ⟨W.heap.size, 0, none⟩ = some (.slice (some ⟨ab, ao, none⟩) n0 cap0) := cell_of_row _ _ 0 _ _ _ rQ13_.out
          have Q_1_ : (w1).cell? ⟨W.heap.size, 1, none⟩ = some (v1) := cell_of_row _ _ 1 _ _ _ rQ13_.out
          have Q_2_ : (w1).cell? ⟨W.heap.size, 2, none⟩ = some (v2) := cell_of_row _ _ 2 _ _ _ rQ13_.out
          have Q_3_ : (w1).cell? ⟨W.heap.size, 3, none⟩ = some (v3) := cell_of_row _ _ 3 _ _ _ rQ13_.out
          have E_0_ : (w1).cell? ⟨wo.heap.size, 0, none⟩ = some (.int .i64 xk.f0) := cell_of_row _ _ 0 _ _ _ rE14_.out
          have E_1_ : (w1).cell? ⟨wo.heap.size, 1, none⟩ = some (.int .i64 xk.f1) := cell_of_row _ _ 1 _ _ _ rE14_.out
          have E_2_ : (w1).cell? ⟨wo.heap.size, 2, none⟩ = some (.int .i64 xk.f2) := cell_of_row _ _ 2 _ _ _ rE14_.out
          have E_3_ : (w1).cell? ⟨wo.heap.size, 3, none⟩ = some (.int .i64 xk.f3) := cell_of_row _ _ 3 _ _ _ rE14_.out
          have E_4_ : (w1).cell? ⟨wo.heap.size, 4, none⟩ = some (.int .i64 xk.f4) := cell_of_row _ _ 4 _ _ _ rE14_.out
          have E_5_ : (w1).cell? ⟨wo.heap.size, 5, none⟩ = some (.int .i64 xk.f5) := cell_of_row _ _ 5 _ _ _ rE14_.out
          have E_6_ : (w1).cell? ⟨wo.heap.size, 6, none⟩ = some (.int .i64 xk.f6) := cell_of_row _ _ 6 _ _ _ rE14_.out
          have E_7_ : (w1).cell? ⟨wo.heap.size, 7, none⟩ = some (.slice pk nk ck) := cell_of_row _ _ 7 _ _ _ rE14_.out
          have ek0_ := (G15_.out).cell HEk0.out (by simp)
          have ek1_ := (G15_.out).cell HEk1.out (by simp)
          have ek2_ := (G15_.out).cell HEk2.out (by simp)
          have ek3_ := (G15_.out).cell HEk3.out (by simp)
          have ek4_ := (G15_.out).cell HEk4.out (by simp)
          have ek5_ := (G15_.out).cell HEk5.out (by simp)
          have ek6_ := (G15_.out).cell HEk6.out (by simp)
          have ek7_ := (G15_.out).cell HEk7.out (by simp)
          have er_ : (nextIn hs us xs (passL xs xs.length)) = (m : Int) := next_at _ _ _ _ m (by have := HE.out; omega) HJ.out HGO.out (by rw [← HXk.out]; exact HCB.out.symm)
          have HRE := Lib.hid er_
          clear er_
          go_wp2
          try rw [Exit.noGoto_ret]
          go_ret
          exact ⟨ret_i64 (by first | exact HRE.out.symm | (rw [HE.out]; exact HRE.out.symm)), G15_.out⟩
      have hmi : (m : Int) < (n : Int) := by omega
      have hmk : m < n0 := by omega
      have hq_ : m < n0 := hmk
      obtain ⟨cs_, hat_, hrd_⟩ := HCE.out m (by omega)
      obtain ⟨xi, hx_⟩ : ∃ x, x = xs.getD m default := ⟨_, rfl⟩
      rw [← hx_] at hrd_
      have hzi_ : szL shI xi.f7 ≤ 1048576 := by have q1 := szL_at shPacket xs m (by have := HE.out; omega); rw [← hx_] at q1; exact Nat.le_trans q1 HS.out
      have HXi := Lib.hid hx_
      obtain ⟨v7_, rfl, r7_⟩ := hrd_
      obtain ⟨pi, ni, ci, hv_⟩ := RdL.form r7_
      subst hv_
      have Ri := Lib.hid r7_
      have HEi0 := Lib.hid (show W.cell? ⟨ab, ao + m * 8, none⟩ = some (.int .i64 xi.f0) from at_cell (j := 0) hat_ rfl)
      have HEi1 := Lib.hid (show W.cell? ⟨ab, ao + m * 8 + 1, none⟩ = some (.int .i64 xi.f1) from at_cell (j := 1) hat_ rfl)
      have HEi2 := Lib.hid (show W.cell? ⟨ab, ao + m * 8 + 2, none⟩ = some (.int .i64 xi.f2) from at_cell (j := 2) hat_ rfl)
      have HEi3 := Lib.hid (show W.cell? ⟨ab, ao + m * 8 + 3, none⟩ = some (.int .i64 xi.f3) from at_cell (j := 3) hat_ rfl)
      have HEi4 := Lib.hid (show W.cell? ⟨ab, ao + m * 8 + 4, none⟩ = some (.int .i64 xi.f4) from at_cell (j := 4) hat_ rfl)
      have HEi5 := Lib.hid (show W.cell? ⟨ab, ao + m * 8 + 5, none⟩ = some (.int .i64 xi.f5) from at_cell (j := 5) hat_ rfl)
      have HEi6 := Lib.hid (show W.cell? ⟨ab, ao + m * 8 + 6, none⟩ = some (.int .i64 xi.f6) from at_cell (j := 6) hat_ rfl)
      have HEi7 := Lib.hid (show W.cell? ⟨ab, ao + m * 8 + 7, none⟩ = some (.slice pi ni ci) from at_cell (j := 7) hat_ rfl)
      clear hat_ r7_ hx_ hq_
      have ei0_ := (G11_.out).cell HEi0.out (by simp)
      have ei1_ := (G11_.out).cell HEi1.out (by simp)
      have ei2_ := (G11_.out).cell HEi2.out (by simp)
      have ei3_ := (G11_.out).cell HEi3.out (by simp)
      have ei4_ := (G11_.out).cell HEi4.out (by simp)
      have ei5_ := (G11_.out).cell HEi5.out (by simp)
      have ei6_ := (G11_.out).cell HEi6.out (by simp)
      have ei7_ := (G11_.out).cell HEi7.out (by simp)
      have al_ : (wr).grownBy ((wr).alloc (.cells #[.int .i64 xi.f0, .int .i64 xi.f1, .int .i64 xi.f2, .int .i64 xi.f3, .int .i64 xi.f4, .int .i64 xi.f5, .int .i64 xi.f6, .slice pi ni ci] 60)) none := gby_alloc (gby_refl _ _) _
      have rQ13_ := Lib.hid (show ((wr.alloc (.cells #[.int .i64 xi.f0, .int .i64 xi.f1, .int .i64 xi.f2, .int .i64 xi.f3, .int .i64 xi.f4, .int .i64 xi.f5, .int .i64 xi.f6, .slice pi ni ci] 60))).heap[W.heap.size]? = some (.cells #[.slice (some ⟨ab, ao, none⟩) n0 cap0, v1, v2, v3] 33 (0, 0)) from row_held al_ rQ9_.out)
      clear rQ9_
      have rE14_ := Lib.hid (show ((wr.alloc (.cells #[.int .i64 xi.f0, .int .i64 xi.f1, .int .i64 xi.f2, .int .i64 xi.f3, .int .i64 xi.f4, .int .i64 xi.f5, .int .i64 xi.f6, .slice pi ni ci] 60))).heap[wo.heap.size]? = some (.cells #[.int .i64 xk.f0, .int .i64 xk.f1, .int .i64 xk.f2, .int .i64 xk.f3, .int .i64 xk.f4, .int .i64 xk.f5, .int .i64 xk.f6, .slice pk nk ck] 60 (0, 0)) from row_held al_ rE10_.out)
      clear rE10_
      have G15_ := Lib.hid (show (W).grownBy ((wr.alloc (.cells #[.int .i64 xi.f0, .int .i64 xi.f1, .int .i64 xi.f2, .int .i64 xi.f3, .int .i64 xi.f4, .int .i64 xi.f5, .int .i64 xi.f6, .slice pi ni ci] 60))) none from gby_trans G11_.out al_)
      have HTB16_ := Lib.hid (show ((W.alloc (.cells #[.slice (some ⟨ab, ao, none⟩) n0 cap0, v1, v2, v3] 33))).grownBy ((wr.alloc (.cells #[.int .i64 xi.f0, .int .i64 xi.f1, .int .i64 xi.f2, .int .i64 xi.f3, .int .i64 xi.f4, .int .i64 xi.f5, .int .i64 xi.f6, .slice pi ni ci] 60))) none from gby_trans HTB12_.out al_)
      clear HTB12_
      have HTI17_ := Lib.hid (show ((wo.alloc (.cells #[.int .i64 xk.f0, .int .i64 xk.f1, .int .i64 xk.f2, .int .i64 xk.f3, .int .i64 xk.f4, .int .i64 xk.f5, .int .i64 xk.f6, .slice pk nk ck] 60))).grownBy ((wr.alloc (.cells #[.int .i64 xi.f0, .int .i64 xi.f1, .int .i64 xi.f2, .int .i64 xi.f3, .int .i64 xi.f4, .int .i64 xi.f5, .int .i64 xi.f6, .slice pi ni ci] 60))) none from gby_trans HTI_.out al_)
      clear HTI_
      have rI18_ := Lib.hid (show ((wr.alloc (.cells #[.int .i64 xi.f0, .int .i64 xi.f1, .int .i64 xi.f2, .int .i64 xi.f3, .int .i64 xi.f4, .int .i64 xi.f5, .int .i64 xi.f6, .slice pi ni ci] 60))).heap[wr.heap.size]? = some (.cells #[.int .i64 xi.f0, .int .i64 xi.f1, .int .i64 xi.f2, .int .i64 xi.f3, .int .i64 xi.f4, .int .i64 xi.f5, .int .i64 xi.f6, .slice pi ni ci] 60 (0, 0)) from by first | exact heap_alloc_new _ _ | exact heap_pair _ _ _ | exact heap_trip _ _ _ _)
      clear al_
      have Q_0_ : ((wr.alloc (.cells #[.int .i64 xi.f0, .int .i64 xi.f1, .int .i64 xi.f2, .int .i64 xi.f3, .int .i64 xi.f4, .int .i64 xi.f5, .int .i64 xi.f6, .slice pi ni ci] 60))).cell? ⟨W.heap.size, 0, none⟩ = some (.slice (some ⟨ab, ao, none⟩) n0 cap0) := cell_of_row _ _ 0 _ _ _ rQ13_.out
      have Q_1_ : ((wr.alloc (.cells #[.int .i64 xi.f0, .int .i64 xi.f1, .int .i64 xi.f2, .int .i64 xi.f3, .int .i64 xi.f4, .int .i64 xi.f5, .int .i64 xi.f6, .slice pi ni ci] 60))).cell? ⟨W.heap.size, 1, none⟩ = some (v1) := cell_of_row _ _ 1 _ _ _ rQ13_.out
      have Q_2_ : ((wr.alloc (.cells #[.int .i64 xi.f0, .int .i64 xi.f1, .int .i64 xi.f2, .int .i64 xi.f3, .int .i64 xi.f4, .int .i64 xi.f5, .int .i64 xi.f6, .slice pi ni ci] 60))).cell? ⟨W.heap.size, 2, none⟩ = some (v2) := cell_of_row _ _ 2 _ _ _ rQ13_.out
      have Q_3_ : ((wr.alloc (.cells #[.int .i64 xi.f0, .int .i64 xi.f1, .int .i64 xi.f2, .int .i64 xi.f3, .int .i64 xi.f4, .int .i64 xi.f5, .int .i64 xi.f6, .slice pi ni ci] 60))).cell? ⟨W.heap.size, 3, none⟩ = some (v3) := cell_of_row _ _ 3 _ _ _ rQ13_.out
      have E_0_ : ((wr.alloc (.cells #[.int .i64 xi.f0, .int .i64 xi.f1, .int .i64 xi.f2, .int .i64 xi.f3, .int .i64 xi.f4, .int .i64 xi.f5, .int .i64 xi.f6, .slice pi ni ci] 60))).cell? ⟨wo.heap.size, 0, none⟩ = some (.int .i64 xk.f0) := cell_of_row _ _ 0 _ _ _ rE14_.out
      have E_1_ : ((wr.alloc (.cells #[.int .i64 xi.f0, .int .i64 xi.f1, .int .i64 xi.f2, .int .i64 xi.f3, .int .i64 xi.f4, .int .i64 xi.f5, .int .i64 xi.f6, .slice pi ni ci] 60))).cell? ⟨wo.heap.size, 1, none⟩ = some (.int .i64 xk.f1) := cell_of_row _ _ 1 _ _ _ rE14_.out
      have E_2_ : ((wr.alloc (.cells #[.int .i64 xi.f0, .int .i64 xi.f1, .int .i64 xi.f2, .int .i64 xi.f3, .int .i64 xi.f4, .int .i64 xi.f5, .int .i64 xi.f6, .slice pi ni ci] 60))).cell? ⟨wo.heap.size, 2, none⟩ = some (.int .i64 xk.f2) := cell_of_row _ _ 2 _ _ _ rE14_.out
      have E_3_ : ((wr.alloc (.cells #[.int .i64 xi.f0, .int .i64 xi.f1, .int .i64 xi.f2, .int .i64 xi.f3, .int .i64 xi.f4, .int .i64 xi.f5, .int .i64 xi.f6, .slice pi ni ci] 60))).cell? ⟨wo.heap.size, 3, none⟩ = some (.int .i64 xk.f3) := cell_of_row _ _ 3 _ _ _ rE14_.out
      have E_4_ : ((wr.alloc (.cells #[.int .i64 xi.f0, .int .i64 xi.f1, .int .i64 xi.f2, .int .i64 xi.f3, .int .i64 xi.f4, .int .i64 xi.f5, .int .i64 xi.f6, .slice pi ni ci] 60))).cell? ⟨wo.heap.size, 4, none⟩ = some (.int .i64 xk.f4) := cell_of_row _ _ 4 _ _ _ rE14_.out
      have E_5_ : ((wr.alloc (.cells #[.int .i64 xi.f0, .int .i64 xi.f1, .int .i64 xi.f2, .int .i64 xi.f3, .int .i64 xi.f4, .int .i64 xi.f5, .int .i64 xi.f6, .slice pi ni ci] 60))).cell? ⟨wo.heap.size, 5, none⟩ = some (.int .i64 xk.f5) := cell_of_row _ _ 5 _ _ _ rE14_.out
      have E_6_ : ((wr.alloc (.cells #[.int .i64 xi.f0, .int .i64 xi.f1, .int .i64 xi.f2, .int .i64 xi.f3, .int .i64 xi.f4, .int .i64 xi.f5, .int .i64 xi.f6, .slice pi ni ci] 60))).cell? ⟨wo.heap.size, 6, none⟩ = some (.int .i64 xk.f6) := cell_of_row _ _ 6 _ _ _ rE14_.out
      have E_7_ : ((wr.alloc (.cells #[.int .i64 xi.f0, .int .i64 xi.f1, .int .i64 xi.f2, .int .i64 xi.f3, .int .i64 xi.f4, .int .i64 xi.f5, .int .i64 xi.f6, .slice pi ni ci] 60))).cell? ⟨wo.heap.size, 7, none⟩ = some (.slice pk nk ck) := cell_of_row _ _ 7 _ _ _ rE14_.out
      have I_0_ : ((wr.alloc (.cells #[.int .i64 xi.f0, .int .i64 xi.f1, .int .i64 xi.f2, .int .i64 xi.f3, .int .i64 xi.f4, .int .i64 xi.f5, .int .i64 xi.f6, .slice pi ni ci] 60))).cell? ⟨wr.heap.size, 0, none⟩ = some (.int .i64 xi.f0) := cell_of_row _ _ 0 _ _ _ rI18_.out
      have I_1_ : ((wr.alloc (.cells #[.int .i64 xi.f0, .int .i64 xi.f1, .int .i64 xi.f2, .int .i64 xi.f3, .int .i64 xi.f4, .int .i64 xi.f5, .int .i64 xi.f6, .slice pi ni ci] 60))).cell? ⟨wr.heap.size, 1, none⟩ = some (.int .i64 xi.f1) := cell_of_row _ _ 1 _ _ _ rI18_.out
      have I_2_ : ((wr.alloc (.cells #[.int .i64 xi.f0, .int .i64 xi.f1, .int .i64 xi.f2, .int .i64 xi.f3, .int .i64 xi.f4, .int .i64 xi.f5, .int .i64 xi.f6, .slice pi ni ci] 60))).cell? ⟨wr.heap.size, 2, none⟩ = some (.int .i64 xi.f2) := cell_of_row _ _ 2 _ _ _ rI18_.out
      have I_3_ : ((wr.alloc (.cells #[.int .i64 xi.f0, .int .i64 xi.f1, .int .i64 xi.f2, .int .i64 xi.f3, .int .i64 xi.f4, .int .i64 xi.f5, .int .i64 xi.f6, .slice pi ni ci] 60))).cell? ⟨wr.heap.size, 3, none⟩ = some (.int .i64 xi.f3) := cell_of_row _ _ 3 _ _ _ rI18_.out
      have I_4_ : ((wr.alloc (.cells #[.int .i64 xi.f0, .int .i64 xi.f1, .int .i64 xi.f2, .int .i64 xi.f3, .int .i64 xi.f4, .int .i64 xi.f5, .int .i64 xi.f6, .slice pi ni ci] 60))).cell? ⟨wr.heap.size, 4, none⟩ = some (.int .i64 xi.f4) := cell_of_row _ _ 4 _ _ _ rI18_.out
      have I_5_ : ((wr.alloc (.cells #[.int .i64 xi.f0, .int .i64 xi.f1, .int .i64 xi.f2, .int .i64 xi.f3, .int .i64 xi.f4, .int .i64 xi.f5, .int .i64 xi.f6, .slice pi ni ci] 60))).cell? ⟨wr.heap.size, 5, none⟩ = some (.int .i64 xi.f5) := cell_of_row _ _ 5 _ _ _ rI18_.out
      have I_6_ : ((wr.alloc (.cells #[.int .i64 xi.f0, .int .i64 xi.f1, .int .i64 xi.f2, .int .i64 xi.f3, .int .i64 xi.f4, .int .i64 xi.f5, .int .i64 xi.f6, .slice pi ni ci] 60))).cell? ⟨wr.heap.size, 6, none⟩ = some (.int .i64 xi.f6) := cell_of_row _ _ 6 _ _ _ rI18_.out
      have I_7_ : ((wr.alloc (.cells #[.int .i64 xi.f0, .int .i64 xi.f1, .int .i64 xi.f2, .int .i64 xi.f3, .int .i64 xi.f4, .int .i64 xi.f5, .int .i64 xi.f6, .slice pi ni ci] 60))).cell? ⟨wr.heap.size, 7, none⟩ = some (.slice pi ni ci) := cell_of_row _ _ 7 _ _ _ rI18_.out
      have ek0_ := (G15_.out).cell HEk0.out (by simp)
      have ek1_ := (G15_.out).cell HEk1.out (by simp)
      have ek2_ := (G15_.out).cell HEk2.out (by simp)
      have ek3_ := (G15_.out).cell HEk3.out (by simp)
      have ek4_ := (G15_.out).cell HEk4.out (by simp)
      have ek5_ := (G15_.out).cell HEk5.out (by simp)
      have ek6_ := (G15_.out).cell HEk6.out (by simp)
      have ek7_ := (G15_.out).cell HEk7.out (by simp)
      have ei0_ := (G15_.out).cell HEi0.out (by simp)
      have ei1_ := (G15_.out).cell HEi1.out (by simp)
      have ei2_ := (G15_.out).cell HEi2.out (by simp)
      have ei3_ := (G15_.out).cell HEi3.out (by simp)
      have ei4_ := (G15_.out).cell HEi4.out (by simp)
      have ei5_ := (G15_.out).cell HEi5.out (by simp)
      have ei6_ := (G15_.out).cell HEi6.out (by simp)
      have ei7_ := (G15_.out).cell HEi7.out (by simp)
      obtain ⟨mb_, hmb_⟩ : ∃ b, b = mayD xk xi := ⟨_, rfl⟩
      have HMB := Lib.hid hmb_
      clear hmb_
      have HMAY := Lib.hid (show ∀ w : World, RdL shI w (.slice pk nk ck) xk.f7 → RdL shI w (.slice pi ni ci) xi.f7 → Calls Try.prog 72 #[.agg #[.int .i64 xk.f0, .int .i64 xk.f1, .int .i64 xk.f2, .int .i64 xk.f3, .int .i64 xk.f4, .int .i64 xk.f5, .int .i64 xk.f6, .slice pk nk ck], .agg #[.int .i64 xi.f0, .int .i64 xi.f1, .int .i64 xi.f2, .int .i64 xi.f3, .int .i64 xi.f4, .int .i64 xi.f5, .int .i64 xi.f6, .slice pi ni ci]] w (AnsN (.bool mb_) w) from by rw [HMB.out]; exact fun w h1 h2 => implMayD w xk xi _ _ h1 h2 hzk_ hzi_)
      cases mb_
      · skip
        go_wp2_with fail
        go_at_call 72
        refine (HMAY.out _ (Rk.out.grow G15_.out) (Ri.out.grow G15_.out)).mono ?_
        rintro e w1 ⟨rfl, g⟩
        have szw1 := g.size
        try simp only [World.size_alloc] at szw1
        try simp only [World.size_setCell] at szw1
        clear Q_0_ Q_1_ Q_2_ Q_3_ E_0_ E_1_ E_2_ E_3_ E_4_ E_5_ E_6_ E_7_ I_0_ I_1_ I_2_ I_3_ I_4_ I_5_ I_6_ I_7_ ek0_ ek1_ ek2_ ek3_ ek4_ ek5_ ek6_ ek7_ ei0_ ei1_ ei2_ ei3_ ei4_ ei5_ ei6_ ei7_
        have rQ19_ := Lib.hid (show (w1).heap[W.heap.size]? = some (.cells #[.slice (some ⟨ab, ao, none⟩) n0 cap0, v1, v2, v3] 33 (0, 0)) from row_held g rQ13_.out)
        clear rQ13_
        have rE20_ := Lib.hid (show (w1).heap[wo.heap.size]? = some (.cells #[.int .i64 xk.f0, .int .i64 xk.f1, .int .i64 xk.f2, .int .i64 xk.f3, .int .i64 xk.f4, .int .i64 xk.f5, .int .i64 xk.f6, .slice pk nk ck] 60 (0, 0)) from row_held g rE14_.out)
        clear rE14_
        have rI21_ := Lib.hid (show (w1).heap[wr.heap.size]? = some (.cells #[.int .i64 xi.f0, .int .i64 xi.f1, .int .i64 xi.f2, .int .i64 xi.f3, .int .i64 xi.f4, .int .i64 xi.f5, .int .i64 xi.f6, .slice pi ni ci] 60 (0, 0)) from row_held g rI18_.out)
        clear rI18_
        have G22_ := Lib.hid (show (W).grownBy (w1) none from gby_trans G15_.out g)
        have HTB23_ := Lib.hid (show ((W.alloc (.cells #[.slice (some ⟨ab, ao, none⟩) n0 cap0, v1, v2, v3] 33))).grownBy (w1) none from gby_trans HTB16_.out g)
        clear HTB16_
        have HTI24_ := Lib.hid (show ((wo.alloc (.cells #[.int .i64 xk.f0, .int .i64 xk.f1, .int .i64 xk.f2, .int .i64 xk.f3, .int .i64 xk.f4, .int .i64 xk.f5, .int .i64 xk.f6, .slice pk nk ck] 60))).grownBy (w1) none from gby_trans HTI17_.out g)
        clear HTI17_
        clear g
        have Q_0_ : (w1).cell? ⟨W.heap.size, 0, none⟩ = some (.slice (some ⟨ab, ao, none⟩) n0 cap0) := cell_of_row _ _ 0 _ _ _ rQ19_.out
        have Q_1_ : (w1).cell? ⟨W.heap.size, 1, none⟩ = some (v1) := cell_of_row _ _ 1 _ _ _ rQ19_.out
        have Q_2_ : (w1).cell? ⟨W.heap.size, 2, none⟩ = some (v2) := cell_of_row _ _ 2 _ _ _ rQ19_.out
        have Q_3_ : (w1).cell? ⟨W.heap.size, 3, none⟩ = some (v3) := cell_of_row _ _ 3 _ _ _ rQ19_.out
        have E_0_ : (w1).cell? ⟨wo.heap.size, 0, none⟩ = some (.int .i64 xk.f0) := cell_of_row _ _ 0 _ _ _ rE20_.out
        have E_1_ : (w1).cell? ⟨wo.heap.size, 1, none⟩ = some (.int .i64 xk.f1) := cell_of_row _ _ 1 _ _ _ rE20_.out
        have E_2_ : (w1).cell? ⟨wo.heap.size, 2, none⟩ = some (.int .i64 xk.f2) := cell_of_row _ _ 2 _ _ _ rE20_.out
        have E_3_ : (w1).cell? ⟨wo.heap.size, 3, none⟩ = some (.int .i64 xk.f3) := cell_of_row _ _ 3 _ _ _ rE20_.out
        have E_4_ : (w1).cell? ⟨wo.heap.size, 4, none⟩ = some (.int .i64 xk.f4) := cell_of_row _ _ 4 _ _ _ rE20_.out
        have E_5_ : (w1).cell? ⟨wo.heap.size, 5, none⟩ = some (.int .i64 xk.f5) := cell_of_row _ _ 5 _ _ _ rE20_.out
        have E_6_ : (w1).cell? ⟨wo.heap.size, 6, none⟩ = some (.int .i64 xk.f6) := cell_of_row _ _ 6 _ _ _ rE20_.out
        have E_7_ : (w1).cell? ⟨wo.heap.size, 7, none⟩ = some (.slice pk nk ck) := cell_of_row _ _ 7 _ _ _ rE20_.out
        have I_0_ : (w1).cell? ⟨wr.heap.size, 0, none⟩ = some (.int .i64 xi.f0) := cell_of_row _ _ 0 _ _ _ rI21_.out
        have I_1_ : (w1).cell? ⟨wr.heap.size, 1, none⟩ = some (.int .i64 xi.f1) := cell_of_row _ _ 1 _ _ _ rI21_.out
        have I_2_ : (w1).cell? ⟨wr.heap.size, 2, none⟩ = some (.int .i64 xi.f2) := cell_of_row _ _ 2 _ _ _ rI21_.out
        have I_3_ : (w1).cell? ⟨wr.heap.size, 3, none⟩ = some (.int .i64 xi.f3) := cell_of_row _ _ 3 _ _ _ rI21_.out
        have I_4_ : (w1).cell? ⟨wr.heap.size, 4, none⟩ = some (.int .i64 xi.f4) := cell_of_row _ _ 4 _ _ _ rI21_.out
        have I_5_ : (w1).cell? ⟨wr.heap.size, 5, none⟩ = some (.int .i64 xi.f5) := cell_of_row _ _ 5 _ _ _ rI21_.out
        have I_6_ : (w1).cell? ⟨wr.heap.size, 6, none⟩ = some (.int .i64 xi.f6) := cell_of_row _ _ 6 _ _ _ rI21_.out
        have I_7_ : (w1).cell? ⟨wr.heap.size, 7, none⟩ = some (.slice pi ni ci) := cell_of_row _ _ 7 _ _ _ rI21_.out
        have ek0_ := (G22_.out).cell HEk0.out (by simp)
        have ek1_ := (G22_.out).cell HEk1.out (by simp)
        have ek2_ := (G22_.out).cell HEk2.out (by simp)
        have ek3_ := (G22_.out).cell HEk3.out (by simp)
        have ek4_ := (G22_.out).cell HEk4.out (by simp)
        have ek5_ := (G22_.out).cell HEk5.out (by simp)
        have ek6_ := (G22_.out).cell HEk6.out (by simp)
        have ek7_ := (G22_.out).cell HEk7.out (by simp)
        have ei0_ := (G22_.out).cell HEi0.out (by simp)
        have ei1_ := (G22_.out).cell HEi1.out (by simp)
        have ei2_ := (G22_.out).cell HEi2.out (by simp)
        have ei3_ := (G22_.out).cell HEi3.out (by simp)
        have ei4_ := (G22_.out).cell HEi4.out (by simp)
        have ei5_ := (G22_.out).cell HEi5.out (by simp)
        have ei6_ := (G22_.out).cell HEi6.out (by simp)
        have ei7_ := (G22_.out).cell HEi7.out (by simp)
        have HNG := Lib.hid (goes_ok HPK.out (k := n) (by have := HE.out; omega) (b := false) (by rw [← HXk.out]; exact clear_halt (m := m) (by rw [← HXi.out]; exact (show true = okP xi from (decide_eq_true (by rw [HXi.out]; exact HPK.out m (by have := HE.out; omega))).symm)) (by rw [← HXi.out]; exact HMB.out) hlm))
        go_wp2
        refine ⟨⟨n + 1, by go_num, by omega, rfl, fun j hj hg => ?_, HTB23_.out⟩, by simp [intOf]; omega⟩
        by_cases e : j = n
        · subst e; exact absurd hg (by rw [HNG.out]; decide)
        · exact HJ.out j (by omega) hg
      · skip
        go_wp2_with fail
        go_at_call 72
        refine (HMAY.out _ (Rk.out.grow G15_.out) (Ri.out.grow G15_.out)).mono ?_
        rintro e w1 ⟨rfl, g⟩
        have szw1 := g.size
        try simp only [World.size_alloc] at szw1
        try simp only [World.size_setCell] at szw1
        clear Q_0_ Q_1_ Q_2_ Q_3_ E_0_ E_1_ E_2_ E_3_ E_4_ E_5_ E_6_ E_7_ I_0_ I_1_ I_2_ I_3_ I_4_ I_5_ I_6_ I_7_ ek0_ ek1_ ek2_ ek3_ ek4_ ek5_ ek6_ ek7_ ei0_ ei1_ ei2_ ei3_ ei4_ ei5_ ei6_ ei7_
        have rQ19_ := Lib.hid (show (w1).heap[W.heap.size]? = some (.cells #[.slice (some ⟨ab, ao, none⟩) n0 cap0, v1, v2, v3] 33 (0, 0)) from row_held g rQ13_.out)
        clear rQ13_
        have rE20_ := Lib.hid (show (w1).heap[wo.heap.size]? = some (.cells #[.int .i64 xk.f0, .int .i64 xk.f1, .int .i64 xk.f2, .int .i64 xk.f3, .int .i64 xk.f4, .int .i64 xk.f5, .int .i64 xk.f6, .slice pk nk ck] 60 (0, 0)) from row_held g rE14_.out)
        clear rE14_
        have rI21_ := Lib.hid (show (w1).heap[wr.heap.size]? = some (.cells #[.int .i64 xi.f0, .int .i64 xi.f1, .int .i64 xi.f2, .int .i64 xi.f3, .int .i64 xi.f4, .int .i64 xi.f5, .int .i64 xi.f6, .slice pi ni ci] 60 (0, 0)) from row_held g rI18_.out)
        clear rI18_
        have G22_ := Lib.hid (show (W).grownBy (w1) none from gby_trans G15_.out g)
        have HTB23_ := Lib.hid (show ((W.alloc (.cells #[.slice (some ⟨ab, ao, none⟩) n0 cap0, v1, v2, v3] 33))).grownBy (w1) none from gby_trans HTB16_.out g)
        clear HTB16_
        have HTI24_ := Lib.hid (show ((wo.alloc (.cells #[.int .i64 xk.f0, .int .i64 xk.f1, .int .i64 xk.f2, .int .i64 xk.f3, .int .i64 xk.f4, .int .i64 xk.f5, .int .i64 xk.f6, .slice pk nk ck] 60))).grownBy (w1) none from gby_trans HTI17_.out g)
        clear HTI17_
        clear g
        have Q_0_ : (w1).cell? ⟨W.heap.size, 0, none⟩ = some (.slice (some ⟨ab, ao, none⟩) n0 cap0) := cell_of_row _ _ 0 _ _ _ rQ19_.out
        have Q_1_ : (w1).cell? ⟨W.heap.size, 1, none⟩ = some (v1) := cell_of_row _ _ 1 _ _ _ rQ19_.out
        have Q_2_ : (w1).cell? ⟨W.heap.size, 2, none⟩ = some (v2) := cell_of_row _ _ 2 _ _ _ rQ19_.out
        have Q_3_ : (w1).cell? ⟨W.heap.size, 3, none⟩ = some (v3) := cell_of_row _ _ 3 _ _ _ rQ19_.out
        have E_0_ : (w1).cell? ⟨wo.heap.size, 0, none⟩ = some (.int .i64 xk.f0) := cell_of_row _ _ 0 _ _ _ rE20_.out
        have E_1_ : (w1).cell? ⟨wo.heap.size, 1, none⟩ = some (.int .i64 xk.f1) := cell_of_row _ _ 1 _ _ _ rE20_.out
        have E_2_ : (w1).cell? ⟨wo.heap.size, 2, none⟩ = some (.int .i64 xk.f2) := cell_of_row _ _ 2 _ _ _ rE20_.out
        have E_3_ : (w1).cell? ⟨wo.heap.size, 3, none⟩ = some (.int .i64 xk.f3) := cell_of_row _ _ 3 _ _ _ rE20_.out
        have E_4_ : (w1).cell? ⟨wo.heap.size, 4, none⟩ = some (.int .i64 xk.f4) := cell_of_row _ _ 4 _ _ _ rE20_.out
        have E_5_ : (w1).cell? ⟨wo.heap.size, 5, none⟩ = some (.int .i64 xk.f5) := cell_of_row _ _ 5 _ _ _ rE20_.out
        have E_6_ : (w1).cell? ⟨wo.heap.size, 6, none⟩ = some (.int .i64 xk.f6) := cell_of_row _ _ 6 _ _ _ rE20_.out
        have E_7_ : (w1).cell? ⟨wo.heap.size, 7, none⟩ = some (.slice pk nk ck) := cell_of_row _ _ 7 _ _ _ rE20_.out
        have I_0_ : (w1).cell? ⟨wr.heap.size, 0, none⟩ = some (.int .i64 xi.f0) := cell_of_row _ _ 0 _ _ _ rI21_.out
        have I_1_ : (w1).cell? ⟨wr.heap.size, 1, none⟩ = some (.int .i64 xi.f1) := cell_of_row _ _ 1 _ _ _ rI21_.out
        have I_2_ : (w1).cell? ⟨wr.heap.size, 2, none⟩ = some (.int .i64 xi.f2) := cell_of_row _ _ 2 _ _ _ rI21_.out
        have I_3_ : (w1).cell? ⟨wr.heap.size, 3, none⟩ = some (.int .i64 xi.f3) := cell_of_row _ _ 3 _ _ _ rI21_.out
        have I_4_ : (w1).cell? ⟨wr.heap.size, 4, none⟩ = some (.int .i64 xi.f4) := cell_of_row _ _ 4 _ _ _ rI21_.out
        have I_5_ : (w1).cell? ⟨wr.heap.size, 5, none⟩ = some (.int .i64 xi.f5) := cell_of_row _ _ 5 _ _ _ rI21_.out
        have I_6_ : (w1).cell? ⟨wr.heap.size, 6, none⟩ = some (.int .i64 xi.f6) := cell_of_row _ _ 6 _ _ _ rI21_.out
        have I_7_ : (w1).cell? ⟨wr.heap.size, 7, none⟩ = some (.slice pi ni ci) := cell_of_row _ _ 7 _ _ _ rI21_.out
        have ek0_ := (G22_.out).cell HEk0.out (by simp)
        have ek1_ := (G22_.out).cell HEk1.out (by simp)
        have ek2_ := (G22_.out).cell HEk2.out (by simp)
        have ek3_ := (G22_.out).cell HEk3.out (by simp)
        have ek4_ := (G22_.out).cell HEk4.out (by simp)
        have ek5_ := (G22_.out).cell HEk5.out (by simp)
        have ek6_ := (G22_.out).cell HEk6.out (by simp)
        have ek7_ := (G22_.out).cell HEk7.out (by simp)
        have ei0_ := (G22_.out).cell HEi0.out (by simp)
        have ei1_ := (G22_.out).cell HEi1.out (by simp)
        have ei2_ := (G22_.out).cell HEi2.out (by simp)
        have ei3_ := (G22_.out).cell HEi3.out (by simp)
        have ei4_ := (G22_.out).cell HEi4.out (by simp)
        have ei5_ := (G22_.out).cell HEi5.out (by simp)
        have ei6_ := (G22_.out).cell HEi6.out (by simp)
        have ei7_ := (G22_.out).cell HEi7.out (by simp)
        go_wp2
        refine ⟨⟨m + 1, by go_num, by omega, ⟨_, rfl⟩, clear_next (a := true) HCL.out (by rw [← HXi.out]; exact (show true = okP xi from (decide_eq_true (by rw [HXi.out]; exact HPK.out m (by have := HE.out; omega))).symm)) (by rw [← HXi.out, ← HMB.out]; rfl), HTI24_.out⟩, by simp [intOf]; omega⟩

set_option maxRecDepth 8000 in
set_option maxHeartbeats 4000000 in
theorem implNext_no (W : World) (v0 v1 v2 v3 : Value) (xs : List DPacket) (hs us : List Int) (ys : List DPacket) (H : RdL shPacket W v0 xs) (H1 : RdL shI W v1 hs) (H2 : RdL shI W v2 us) (H3 : RdL shPacket W v3 ys) (hl : szL shPacket xs ≤ 1048576) (hl1 : szL shI hs ≤ 1048576) (hl2 : szL shI us ≤ 1048576) (hl3 : szL shPacket ys ≤ 1048576) (hq : ¬ QueOk xs hs us ys) : Calls Try.prog 17 #[vQueue v0 v1 v2 v3] W (AnsN (.int .i64 (-1)) W) := by
  have HQ := Lib.hid (show false = decide (QueOk xs hs us ys) from (decide_eq_false hq).symm)
  clear hq
  have HS := Lib.hid hl
  have HRD := Lib.hid H
  have HR1 := Lib.hid H1
  have HR2 := Lib.hid H2
  have HR3 := Lib.hid H3
  have HL1 := Lib.hid hl1
  have HL2 := Lib.hid hl2
  have HL3 := Lib.hid hl3
  obtain ⟨a0, cap0, rfl, hcap, _, H⟩ := H
  have HC := Lib.hid H
  have hcap2 := hcap.2
  obtain ⟨n0, hn0⟩ : ∃ n, n = xs.length := ⟨_, rfl⟩
  have HE := Lib.hid hn0
  have hlx : n0 ≤ 1048576 := by have := szL_len shPacket xs; omega
  rw [← hn0] at hcap2 ⊢
  rw [← hn0] at HRD HC
  clear H H1 H2 H3 hl1 hl2 hl3 hcap hl hn0
  unfold vQueue
  go_enter Try.func17, Try.ntmps17
  have rQ1_ := Lib.hid (show ((W.alloc (.cells #[.slice a0 n0 cap0, v1, v2, v3] 33))).heap[W.heap.size]? = some (.cells #[.slice a0 n0 cap0, v1, v2, v3] 33 (0, 0)) from by exact heap_alloc_new _ _)
  have G2_ := Lib.hid (show (W).grownBy ((W.alloc (.cells #[.slice a0 n0 cap0, v1, v2, v3] 33))) none from (gby_alloc (gby_refl _ _) _))
  have Q_0_ : ((W.alloc (.cells #[.slice a0 n0 cap0, v1, v2, v3] 33))).cell? ⟨W.heap.size, 0, none⟩ = some (.slice a0 n0 cap0) := cell_of_row _ _ 0 _ _ _ rQ1_.out
  have Q_1_ : ((W.alloc (.cells #[.slice a0 n0 cap0, v1, v2, v3] 33))).cell? ⟨W.heap.size, 1, none⟩ = some (v1) := cell_of_row _ _ 1 _ _ _ rQ1_.out
  have Q_2_ : ((W.alloc (.cells #[.slice a0 n0 cap0, v1, v2, v3] 33))).cell? ⟨W.heap.size, 2, none⟩ = some (v2) := cell_of_row _ _ 2 _ _ _ rQ1_.out
  have Q_3_ : ((W.alloc (.cells #[.slice a0 n0 cap0, v1, v2, v3] 33))).cell? ⟨W.heap.size, 3, none⟩ = some (v3) := cell_of_row _ _ 3 _ _ _ rQ1_.out
  go_wp2_with fail
  go_at_call 63
  refine (implQueOk _ _ _ _ _ xs hs us ys (HRD.out.grow G2_.out) (HR1.out.grow G2_.out) (HR2.out.grow G2_.out) (HR3.out.grow G2_.out) HS.out HL1.out HL2.out HL3.out false HQ.out).mono ?_
  rintro e w1 ⟨rfl, g⟩
  have szw1 := g.size
  try simp only [World.size_alloc] at szw1
  try simp only [World.size_setCell] at szw1
  clear Q_0_ Q_1_ Q_2_ Q_3_
  have rQ3_ := Lib.hid (show (w1).heap[W.heap.size]? = some (.cells #[.slice a0 n0 cap0, v1, v2, v3] 33 (0, 0)) from row_held g rQ1_.out)
  clear rQ1_
  have G4_ := Lib.hid (show (W).grownBy (w1) none from gby_trans G2_.out g)
  clear g
  have Q_0_ : (w1).cell? ⟨W.heap.size, 0, none⟩ = some (.slice a0 n0 cap0) := cell_of_row _ _ 0 _ _ _ rQ3_.out
  have Q_1_ : (w1).cell? ⟨W.heap.size, 1, none⟩ = some (v1) := cell_of_row _ _ 1 _ _ _ rQ3_.out
  have Q_2_ : (w1).cell? ⟨W.heap.size, 2, none⟩ = some (v2) := cell_of_row _ _ 2 _ _ _ rQ3_.out
  have Q_3_ : (w1).cell? ⟨W.heap.size, 3, none⟩ = some (v3) := cell_of_row _ _ 3 _ _ _ rQ3_.out
  go_wp2
  go_ret
  exact ⟨rfl, G4_.out⟩

set_option maxRecDepth 8000 in
set_option maxHeartbeats 4000000 in
theorem implNext_yes (W : World) (v0 v1 v2 v3 : Value) (xs : List DPacket) (hs us : List Int) (ys : List DPacket) (H : RdL shPacket W v0 xs) (H1 : RdL shI W v1 hs) (H2 : RdL shI W v2 us) (H3 : RdL shPacket W v3 ys) (hl : szL shPacket xs ≤ 1048576) (hl1 : szL shI hs ≤ 1048576) (hl2 : szL shI us ≤ 1048576) (hl3 : szL shPacket ys ≤ 1048576) (hq : QueOk xs hs us ys) : Calls Try.prog 17 #[vQueue v0 v1 v2 v3] W (AnsN (.int .i64 (nextIn hs us xs (passL xs xs.length))) W) := by
  have HPK := Lib.hid hq.2.2.1
  have HQ := Lib.hid (show true = decide (QueOk xs hs us ys) from (decide_eq_true hq).symm)
  clear hq
  have HS := Lib.hid hl
  have HRD := Lib.hid H
  have HR1 := Lib.hid H1
  have HR2 := Lib.hid H2
  have HR3 := Lib.hid H3
  have HL1 := Lib.hid hl1
  have HL2 := Lib.hid hl2
  have HL3 := Lib.hid hl3
  obtain ⟨a0, cap0, rfl, hcap, _, H⟩ := H
  have HC := Lib.hid H
  have hcap2 := hcap.2
  obtain ⟨n0, hn0⟩ : ∃ n, n = xs.length := ⟨_, rfl⟩
  have HE := Lib.hid hn0
  have hlx : n0 ≤ 1048576 := by have := szL_len shPacket xs; omega
  rw [← hn0] at hcap2 ⊢
  rw [← hn0] at HRD HC
  clear H H1 H2 H3 hl1 hl2 hl3 hcap hl hn0
  unfold vQueue
  go_enter Try.func17, Try.ntmps17
  have rQ1_ := Lib.hid (show ((W.alloc (.cells #[.slice a0 n0 cap0, v1, v2, v3] 33))).heap[W.heap.size]? = some (.cells #[.slice a0 n0 cap0, v1, v2, v3] 33 (0, 0)) from by exact heap_alloc_new _ _)
  have G2_ := Lib.hid (show (W).grownBy ((W.alloc (.cells #[.slice a0 n0 cap0, v1, v2, v3] 33))) none from (gby_alloc (gby_refl _ _) _))
  have Q_0_ : ((W.alloc (.cells #[.slice a0 n0 cap0, v1, v2, v3] 33))).cell? ⟨W.heap.size, 0, none⟩ = some (.slice a0 n0 cap0) := cell_of_row _ _ 0 _ _ _ rQ1_.out
  have Q_1_ : ((W.alloc (.cells #[.slice a0 n0 cap0, v1, v2, v3] 33))).cell? ⟨W.heap.size, 1, none⟩ = some (v1) := cell_of_row _ _ 1 _ _ _ rQ1_.out
  have Q_2_ : ((W.alloc (.cells #[.slice a0 n0 cap0, v1, v2, v3] 33))).cell? ⟨W.heap.size, 2, none⟩ = some (v2) := cell_of_row _ _ 2 _ _ _ rQ1_.out
  have Q_3_ : ((W.alloc (.cells #[.slice a0 n0 cap0, v1, v2, v3] 33))).cell? ⟨W.heap.size, 3, none⟩ = some (v3) := cell_of_row _ _ 3 _ _ _ rQ1_.out
  go_wp2_with fail
  go_at_call 63
  refine (implQueOk _ _ _ _ _ xs hs us ys (HRD.out.grow G2_.out) (HR1.out.grow G2_.out) (HR2.out.grow G2_.out) (HR3.out.grow G2_.out) HS.out HL1.out HL2.out HL3.out true HQ.out).mono ?_
  rintro e w1 ⟨rfl, g⟩
  have szw1 := g.size
  try simp only [World.size_alloc] at szw1
  try simp only [World.size_setCell] at szw1
  clear Q_0_ Q_1_ Q_2_ Q_3_
  have rQ3_ := Lib.hid (show (w1).heap[W.heap.size]? = some (.cells #[.slice a0 n0 cap0, v1, v2, v3] 33 (0, 0)) from row_held g rQ1_.out)
  clear rQ1_
  have G4_ := Lib.hid (show (W).grownBy (w1) none from gby_trans G2_.out g)
  clear g
  have Q_0_ : (w1).cell? ⟨W.heap.size, 0, none⟩ = some (.slice a0 n0 cap0) := cell_of_row _ _ 0 _ _ _ rQ3_.out
  have Q_1_ : (w1).cell? ⟨W.heap.size, 1, none⟩ = some (v1) := cell_of_row _ _ 1 _ _ _ rQ3_.out
  have Q_2_ : (w1).cell? ⟨W.heap.size, 2, none⟩ = some (v2) := cell_of_row _ _ 2 _ _ _ rQ3_.out
  have Q_3_ : (w1).cell? ⟨W.heap.size, 3, none⟩ = some (v3) := cell_of_row _ _ 3 _ _ _ rQ3_.out
  go_wp2_with fail
  go_at_call 64
  refine (nextOut_any _ _ v1 v2 v3 xs hs us ys (HRD.out.grow G4_.out) (HR1.out.grow G4_.out) (HR2.out.grow G4_.out) (HR3.out.grow G4_.out) HS.out HL1.out HL2.out HL3.out HPK.out).mono ?_
  rintro e w2 ⟨rfl, g⟩
  have szw2 := g.size
  try simp only [World.size_alloc] at szw2
  try simp only [World.size_setCell] at szw2
  clear Q_0_ Q_1_ Q_2_ Q_3_
  have rQ5_ := Lib.hid (show (w2).heap[W.heap.size]? = some (.cells #[.slice a0 n0 cap0, v1, v2, v3] 33 (0, 0)) from row_held g rQ3_.out)
  clear rQ3_
  have G6_ := Lib.hid (show (W).grownBy (w2) none from gby_trans G4_.out g)
  clear g
  have Q_0_ : (w2).cell? ⟨W.heap.size, 0, none⟩ = some (.slice a0 n0 cap0) := cell_of_row _ _ 0 _ _ _ rQ5_.out
  have Q_1_ : (w2).cell? ⟨W.heap.size, 1, none⟩ = some (v1) := cell_of_row _ _ 1 _ _ _ rQ5_.out
  have Q_2_ : (w2).cell? ⟨W.heap.size, 2, none⟩ = some (v2) := cell_of_row _ _ 2 _ _ _ rQ5_.out
  have Q_3_ : (w2).cell? ⟨W.heap.size, 3, none⟩ = some (v3) := cell_of_row _ _ 3 _ _ _ rQ5_.out
  go_wp2
  go_ret
  exact ⟨ret_i64 (by rw [HE.out]), G6_.out⟩

end Go.Proofs.Ytnighnkkeiegnaa

namespace Go.Proofs.Ytnighnkkeiegnaa
open Go Go.RowKit
set_option linter.unusedVariables false

theorem nextOut_both (xs0_0 : List DPacket) (xs0_1 xs0_2 : List Int) (xs0_3 : List DPacket) (h0 : szL shPacket xs0_0 ≤ 1048576) (h1 : szL shI xs0_1 ≤ 1048576) (h2 : szL shI xs0_2 ≤ 1048576) (h3 : szL shPacket xs0_3 ≤ 1048576) :
    ∃ ir0 : Int, (∀ (W : World), ∀ u0_0 u0_1 u0_2 u0_3, RdL shPacket W u0_0 xs0_0 → RdL shI W u0_1 xs0_1 → RdL shI W u0_2 xs0_2 → RdL shPacket W u0_3 xs0_3 → Calls Try.prog 15 #[.agg #[u0_0, u0_1, u0_2, u0_3]] W (ResSNextOut ir0 W)) ∧ (∀ (W : World), ∀ u0_0 u0_1 u0_2 u0_3, RdL shPacket W u0_0 xs0_0 → RdL shI W u0_1 xs0_1 → RdL shI W u0_2 xs0_2 → RdL shPacket W u0_3 xs0_3 → Calls Try.prog 17 #[.agg #[u0_0, u0_1, u0_2, u0_3]] W (ResINextOut ir0 W)) := by
  by_cases hq : QueOk xs0_0 xs0_1 xs0_2 xs0_3
  · exact ⟨_, fun W u0 u1 u2 u3 r0 r1 r2 r3 => specNext_yes W u0 u1 u2 u3 xs0_0 xs0_1 xs0_2 xs0_3 r0 r1 r2 r3 h0 h1 h2 h3 hq, fun W u0 u1 u2 u3 r0 r1 r2 r3 => implNext_yes W u0 u1 u2 u3 xs0_0 xs0_1 xs0_2 xs0_3 r0 r1 r2 r3 h0 h1 h2 h3 hq⟩
  · exact ⟨_, fun W u0 u1 u2 u3 r0 r1 r2 r3 => specNext_no W u0 u1 u2 u3 xs0_0 xs0_1 xs0_2 xs0_3 r0 r1 r2 r3 h0 h1 h2 h3 hq, fun W u0 u1 u2 u3 r0 r1 r2 r3 => implNext_no W u0 u1 u2 u3 xs0_0 xs0_1 xs0_2 xs0_3 r0 r1 r2 r3 h0 h1 h2 h3 hq⟩

end Go.Proofs.Ytnighnkkeiegnaa
