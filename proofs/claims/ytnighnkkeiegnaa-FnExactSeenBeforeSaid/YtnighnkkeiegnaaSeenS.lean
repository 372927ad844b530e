/-
  SeenBefore, the model.
-/
import Derived.Test.YtnighnkkeiegnaaSeenMath
import Derived.Deep.RegionHeld3
namespace Go.Proofs.Ytnighnkkeiegnaa
open Go Go.RowKit
set_option linter.unusedVariables false

set_option maxRecDepth 8000 in
set_option maxHeartbeats 4000000 in
theorem specSeen (W : World) (v u : Value) (xs : List DPacket) (xy : DPacket) (H : RdL shPacket W v xs) (Hy : RdL shI W u xy.f7) (hl : szL shPacket xs ≤ 1048576) (hzy_ : szL shI xy.f7 ≤ 1048576) (q : Nat) (hq : SeenAt xs xy q) : Calls Try.prog 54 #[v, vPacket xy.f0 xy.f1 xy.f2 xy.f3 xy.f4 xy.f5 xy.f6 u] W (fun e w' => ∃ v', e = .returned v' ∧ OwR shPacket 60 w' (W.heap.size + 1) v' (xs.take q) ∧ W.grownBy w' none) := by
  have HQ := Lib.hid hq
  have hq0_ := hq.1
  clear hq
  have HS := Lib.hid hl
  have HRD := Lib.hid H
  obtain ⟨a0, cap0, rfl, hcap, _, H⟩ := H
  have HC := Lib.hid H
  have hcap2 := hcap.2
  obtain ⟨n0, hn0⟩ : ∃ n, n = xs.length := ⟨_, rfl⟩
  have HE := Lib.hid hn0
  have hlx : n0 ≤ 1048576 := by have := szL_len shPacket xs; omega
  rw [← hn0] at hcap2 hq0_ ⊢
  rw [← hn0] at HRD HC
  clear H hcap hl hn0
  obtain ⟨py, ny, cy, rfl⟩ := RdL.form Hy
  have Ry := Lib.hid Hy
  clear Hy
  unfold vPacket
  go_enter Try.func54, Try.ntmps54
  have rY1_ := Lib.hid (show ((W.alloc (.cells #[.int .i64 xy.f0, .int .i64 xy.f1, .int .i64 xy.f2, .int .i64 xy.f3, .int .i64 xy.f4, .int .i64 xy.f5, .int .i64 xy.f6, .slice py ny cy] 60))).heap[W.heap.size]? = some (.cells #[.int .i64 xy.f0, .int .i64 xy.f1, .int .i64 xy.f2, .int .i64 xy.f3, .int .i64 xy.f4, .int .i64 xy.f5, .int .i64 xy.f6, .slice py ny cy] 60 (0, 0)) from by exact heap_alloc_new _ _)
  have G2_ := Lib.hid (show (W).grownBy ((W.alloc (.cells #[.int .i64 xy.f0, .int .i64 xy.f1, .int .i64 xy.f2, .int .i64 xy.f3, .int .i64 xy.f4, .int .i64 xy.f5, .int .i64 xy.f6, .slice py ny cy] 60))) none from (gby_alloc (gby_refl _ _) _))
  have Y_0_ : ((W.alloc (.cells #[.int .i64 xy.f0, .int .i64 xy.f1, .int .i64 xy.f2, .int .i64 xy.f3, .int .i64 xy.f4, .int .i64 xy.f5, .int .i64 xy.f6, .slice py ny cy] 60))).cell? ⟨W.heap.size, 0, none⟩ = some (.int .i64 xy.f0) := cell_of_row _ _ 0 _ _ _ rY1_.out
  have Y_1_ : ((W.alloc (.cells #[.int .i64 xy.f0, .int .i64 xy.f1, .int .i64 xy.f2, .int .i64 xy.f3, .int .i64 xy.f4, .int .i64 xy.f5, .int .i64 xy.f6, .slice py ny cy] 60))).cell? ⟨W.heap.size, 1, none⟩ = some (.int .i64 xy.f1) := cell_of_row _ _ 1 _ _ _ rY1_.out
  have Y_2_ : ((W.alloc (.cells #[.int .i64 xy.f0, .int .i64 xy.f1, .int .i64 xy.f2, .int .i64 xy.f3, .int .i64 xy.f4, .int .i64 xy.f5, .int .i64 xy.f6, .slice py ny cy] 60))).cell? ⟨W.heap.size, 2, none⟩ = some (.int .i64 xy.f2) := cell_of_row _ _ 2 _ _ _ rY1_.out
  have Y_3_ : ((W.alloc (.cells #[.int .i64 xy.f0, .int .i64 xy.f1, .int .i64 xy.f2, .int .i64 xy.f3, .int .i64 xy.f4, .int .i64 xy.f5, .int .i64 xy.f6, .slice py ny cy] 60))).cell? ⟨W.heap.size, 3, none⟩ = some (.int .i64 xy.f3) := cell_of_row _ _ 3 _ _ _ rY1_.out
  have Y_4_ : ((W.alloc (.cells #[.int .i64 xy.f0, .int .i64 xy.f1, .int .i64 xy.f2, .int .i64 xy.f3, .int .i64 xy.f4, .int .i64 xy.f5, .int .i64 xy.f6, .slice py ny cy] 60))).cell? ⟨W.heap.size, 4, none⟩ = some (.int .i64 xy.f4) := cell_of_row _ _ 4 _ _ _ rY1_.out
  have Y_5_ : ((W.alloc (.cells #[.int .i64 xy.f0, .int .i64 xy.f1, .int .i64 xy.f2, .int .i64 xy.f3, .int .i64 xy.f4, .int .i64 xy.f5, .int .i64 xy.f6, .slice py ny cy] 60))).cell? ⟨W.heap.size, 5, none⟩ = some (.int .i64 xy.f5) := cell_of_row _ _ 5 _ _ _ rY1_.out
  have Y_6_ : ((W.alloc (.cells #[.int .i64 xy.f0, .int .i64 xy.f1, .int .i64 xy.f2, .int .i64 xy.f3, .int .i64 xy.f4, .int .i64 xy.f5, .int .i64 xy.f6, .slice py ny cy] 60))).cell? ⟨W.heap.size, 6, none⟩ = some (.int .i64 xy.f6) := cell_of_row _ _ 6 _ _ _ rY1_.out
  have Y_7_ : ((W.alloc (.cells #[.int .i64 xy.f0, .int .i64 xy.f1, .int .i64 xy.f2, .int .i64 xy.f3, .int .i64 xy.f4, .int .i64 xy.f5, .int .i64 xy.f6, .slice py ny cy] 60))).cell? ⟨W.heap.size, 7, none⟩ = some (.slice py ny cy) := cell_of_row _ _ 7 _ _ _ rY1_.out
  have HTM3_ := Lib.hid (gby_refl ((W.alloc (.cells #[.int .i64 xy.f0, .int .i64 xy.f1, .int .i64 xy.f2, .int .i64 xy.f3, .int .i64 xy.f4, .int .i64 xy.f5, .int .i64 xy.f6, .slice py ny cy] 60))) none)
  have MG4_ := Lib.hid (show (W).grownBy ((W.alloc (.cells #[.int .i64 xy.f0, .int .i64 xy.f1, .int .i64 xy.f2, .int .i64 xy.f3, .int .i64 xy.f4, .int .i64 xy.f5, .int .i64 xy.f6, .slice py ny cy] 60))) none from G2_.out)
  have MR5_ := Lib.hid rY1_.out
  clear Y_0_ Y_1_ Y_2_ Y_3_ Y_4_ Y_5_ Y_6_ Y_7_
  have al_ : ((W.alloc (.cells #[.int .i64 xy.f0, .int .i64 xy.f1, .int .i64 xy.f2, .int .i64 xy.f3, .int .i64 xy.f4, .int .i64 xy.f5, .int .i64 xy.f6, .slice py ny cy] 60))).grownBy (((W.alloc (.cells #[.int .i64 xy.f0, .int .i64 xy.f1, .int .i64 xy.f2, .int .i64 xy.f3, .int .i64 xy.f4, .int .i64 xy.f5, .int .i64 xy.f6, .slice py ny cy] 60))).alloc (.cells #[] 60)) none := gby_alloc (gby_refl _ _) _
  have rY6_ := Lib.hid (show (((W.alloc (.cells #[.int .i64 xy.f0, .int .i64 xy.f1, .int .i64 xy.f2, .int .i64 xy.f3, .int .i64 xy.f4, .int .i64 xy.f5, .int .i64 xy.f6, .slice py ny cy] 60)).alloc (.cells #[] 60))).heap[W.heap.size]? = some (.cells #[.int .i64 xy.f0, .int .i64 xy.f1, .int .i64 xy.f2, .int .i64 xy.f3, .int .i64 xy.f4, .int .i64 xy.f5, .int .i64 xy.f6, .slice py ny cy] 60 (0, 0)) from row_held al_ rY1_.out)
  clear rY1_
  have G7_ := Lib.hid (show (W).grownBy (((W.alloc (.cells #[.int .i64 xy.f0, .int .i64 xy.f1, .int .i64 xy.f2, .int .i64 xy.f3, .int .i64 xy.f4, .int .i64 xy.f5, .int .i64 xy.f6, .slice py ny cy] 60)).alloc (.cells #[] 60))) none from gby_trans G2_.out al_)
  have HTM8_ := Lib.hid (show ((W.alloc (.cells #[.int .i64 xy.f0, .int .i64 xy.f1, .int .i64 xy.f2, .int .i64 xy.f3, .int .i64 xy.f4, .int .i64 xy.f5, .int .i64 xy.f6, .slice py ny cy] 60))).grownBy (((W.alloc (.cells #[.int .i64 xy.f0, .int .i64 xy.f1, .int .i64 xy.f2, .int .i64 xy.f3, .int .i64 xy.f4, .int .i64 xy.f5, .int .i64 xy.f6, .slice py ny cy] 60)).alloc (.cells #[] 60))) none from gby_trans HTM3_.out al_)
  clear HTM3_
  have rO9_ := Lib.hid (show (((W.alloc (.cells #[.int .i64 xy.f0, .int .i64 xy.f1, .int .i64 xy.f2, .int .i64 xy.f3, .int .i64 xy.f4, .int .i64 xy.f5, .int .i64 xy.f6, .slice py ny cy] 60)).alloc (.cells #[] 60))).heap[W.heap.size + 1]? = some (.cells #[] 60 (0, 0)) from by first | exact heap_alloc_new _ _ | exact heap_pair _ _ _ | exact heap_trip _ _ _ _)
  clear al_
  have Y_0_ : (((W.alloc (.cells #[.int .i64 xy.f0, .int .i64 xy.f1, .int .i64 xy.f2, .int .i64 xy.f3, .int .i64 xy.f4, .int .i64 xy.f5, .int .i64 xy.f6, .slice py ny cy] 60)).alloc (.cells #[] 60))).cell? ⟨W.heap.size, 0, none⟩ = some (.int .i64 xy.f0) := cell_of_row _ _ 0 _ _ _ rY6_.out
  have Y_1_ : (((W.alloc (.cells #[.int .i64 xy.f0, .int .i64 xy.f1, .int .i64 xy.f2, .int .i64 xy.f3, .int .i64 xy.f4, .int .i64 xy.f5, .int .i64 xy.f6, .slice py ny cy] 60)).alloc (.cells #[] 60))).cell? ⟨W.heap.size, 1, none⟩ = some (.int .i64 xy.f1) := cell_of_row _ _ 1 _ _ _ rY6_.out
  have Y_2_ : (((W.alloc (.cells #[.int .i64 xy.f0, .int .i64 xy.f1, .int .i64 xy.f2, .int .i64 xy.f3, .int .i64 xy.f4, .int .i64 xy.f5, .int .i64 xy.f6, .slice py ny cy] 60)).alloc (.cells #[] 60))).cell? ⟨W.heap.size, 2, none⟩ = some (.int .i64 xy.f2) := cell_of_row _ _ 2 _ _ _ rY6_.out
  have Y_3_ : (((W.alloc (.cells #[.int .i64 xy.f0, .int .i64 xy.f1, .int .i64 xy.f2, .int .i64 xy.f3, .int .i64 xy.f4, .int .i64 xy.f5, .int .i64 xy.f6, .slice py ny cy] 60)).alloc (.cells #[] 60))).cell? ⟨W.heap.size, 3, none⟩ = some (.int .i64 xy.f3) := cell_of_row _ _ 3 _ _ _ rY6_.out
  have Y_4_ : (((W.alloc (.cells #[.int .i64 xy.f0, .int .i64 xy.f1, .int .i64 xy.f2, .int .i64 xy.f3, .int .i64 xy.f4, .int .i64 xy.f5, .int .i64 xy.f6, .slice py ny cy] 60)).alloc (.cells #[] 60))).cell? ⟨W.heap.size, 4, none⟩ = some (.int .i64 xy.f4) := cell_of_row _ _ 4 _ _ _ rY6_.out
  have Y_5_ : (((W.alloc (.cells #[.int .i64 xy.f0, .int .i64 xy.f1, .int .i64 xy.f2, .int .i64 xy.f3, .int .i64 xy.f4, .int .i64 xy.f5, .int .i64 xy.f6, .slice py ny cy] 60)).alloc (.cells #[] 60))).cell? ⟨W.heap.size, 5, none⟩ = some (.int .i64 xy.f5) := cell_of_row _ _ 5 _ _ _ rY6_.out
  have Y_6_ : (((W.alloc (.cells #[.int .i64 xy.f0, .int .i64 xy.f1, .int .i64 xy.f2, .int .i64 xy.f3, .int .i64 xy.f4, .int .i64 xy.f5, .int .i64 xy.f6, .slice py ny cy] 60)).alloc (.cells #[] 60))).cell? ⟨W.heap.size, 6, none⟩ = some (.int .i64 xy.f6) := cell_of_row _ _ 6 _ _ _ rY6_.out
  have Y_7_ : (((W.alloc (.cells #[.int .i64 xy.f0, .int .i64 xy.f1, .int .i64 xy.f2, .int .i64 xy.f3, .int .i64 xy.f4, .int .i64 xy.f5, .int .i64 xy.f6, .slice py ny cy] 60)).alloc (.cells #[] 60))).cell? ⟨W.heap.size, 7, none⟩ = some (.slice py ny cy) := cell_of_row _ _ 7 _ _ _ rY6_.out
  have hst_ : OwR shPacket 60 (((W.alloc (.cells #[.int .i64 xy.f0, .int .i64 xy.f1, .int .i64 xy.f2, .int .i64 xy.f3, .int .i64 xy.f4, .int .i64 xy.f5, .int .i64 xy.f6, .slice py ny cy] 60)).alloc (.cells #[] 60))) (W.heap.size + 1) (.slice (some ⟨W.heap.size + 1, 0, none⟩) 0 0) (xs.take 0) := by rw [List.take_zero]; exact owR_of (own_emptyP (e := 60) (n := 8) rO9_.out (Nat.le_refl _))
  go_wp2
  go_loopw [5, 6] (fun v i wr => ∃ k : Nat, i = .int .i64 (k : Int) ∧ k ≤ q ∧ OwR shPacket 60 wr (W.heap.size + 1) v (xs.take k) ∧ ((W.alloc (.cells #[.int .i64 xy.f0, .int .i64 xy.f1, .int .i64 xy.f2, .int .i64 xy.f3, .int .i64 xy.f4, .int .i64 xy.f5, .int .i64 xy.f6, .slice py ny cy] 60))).grownBy wr none) (fun _ i _ => n0 - (intOf i).toNat)
  case atStart => exact ⟨0, rfl, by omega, hst_, HTM8_.out⟩
  case round =>
    clear Y_0_ Y_1_ Y_2_ Y_3_ Y_4_ Y_5_ Y_6_ Y_7_
    clear rY6_
    clear rO9_
    clear HTM8_
    obtain ⟨k, rfl, hk, hor_, hg⟩ := hrel
    have szr_ := hg.size
    try simp only [World.size_alloc] at szr_
    try simp only [World.size_setCell] at szr_
    have G10_ := Lib.hid (show (W).grownBy (wr) none from gby_trans MG4_.out hg)
    have rY11_ := Lib.hid (show (wr).heap[W.heap.size]? = some (.cells #[.int .i64 xy.f0, .int .i64 xy.f1, .int .i64 xy.f2, .int .i64 xy.f3, .int .i64 xy.f4, .int .i64 xy.f5, .int .i64 xy.f6, .slice py ny cy] 60 (0, 0)) from row_held hg MR5_.out)
    have HTM12_ := Lib.hid hg
    clear hg
    have Y_0_ : (wr).cell? ⟨W.heap.size, 0, none⟩ = some (.int .i64 xy.f0) := cell_of_row _ _ 0 _ _ _ rY11_.out
    have Y_1_ : (wr).cell? ⟨W.heap.size, 1, none⟩ = some (.int .i64 xy.f1) := cell_of_row _ _ 1 _ _ _ rY11_.out
    have Y_2_ : (wr).cell? ⟨W.heap.size, 2, none⟩ = some (.int .i64 xy.f2) := cell_of_row _ _ 2 _ _ _ rY11_.out
    have Y_3_ : (wr).cell? ⟨W.heap.size, 3, none⟩ = some (.int .i64 xy.f3) := cell_of_row _ _ 3 _ _ _ rY11_.out
    have Y_4_ : (wr).cell? ⟨W.heap.size, 4, none⟩ = some (.int .i64 xy.f4) := cell_of_row _ _ 4 _ _ _ rY11_.out
    have Y_5_ : (wr).cell? ⟨W.heap.size, 5, none⟩ = some (.int .i64 xy.f5) := cell_of_row _ _ 5 _ _ _ rY11_.out
    have Y_6_ : (wr).cell? ⟨W.heap.size, 6, none⟩ = some (.int .i64 xy.f6) := cell_of_row _ _ 6 _ _ _ rY11_.out
    have Y_7_ : (wr).cell? ⟨W.heap.size, 7, none⟩ = some (.slice py ny cy) := cell_of_row _ _ 7 _ _ _ rY11_.out
    clear hst_
    have hlk_ : (xs.take k).length = k := by rw [List.length_take]; have := HE.out; omega
    obtain ⟨p1, d1, hv_⟩ := OwR.form hor_
    rw [hlk_] at hv_
    subst hv_
    have HOR := Lib.hid hor_
    clear hor_
    have hk0 : (0 : Int) ≤ (k : Int) := by omega
    have htk : ((k : Int)).toNat = k := by omega
    have hkn_ : k ≤ n0 := by omega
    by_cases hlt : k < n0
    rotate_left
    · obtain rfl : k = n0 := by omega
      have hki : ¬ (k : Int) < (k : Int) := by omega
      have hqk_ : k = q := by omega
      subst hqk_
      clear hlk_
      go_wp2
      go_ret
      exact ⟨_, rfl, HOR.out, G10_.out⟩
    have hki : (k : Int) < (n0 : Int) := by omega
    obtain ⟨ab, ao, rfl, hcell_⟩ := HC.out.resolve_left (by omega)
    have HCE := Lib.hid hcell_
    clear hcell_
    have hq_ : k < n0 := hlt
    obtain ⟨cs_, hat_, hrd_⟩ := HCE.out k (by omega)
    obtain ⟨xk, hx_⟩ : ∃ x, x = xs.getD k default := ⟨_, rfl⟩
    rw [← hx_] at hrd_
    have hzk_ : szL shI xk.f7 ≤ 1048576 := by have q1 := szL_at shPacket xs k (by have := HE.out; omega); rw [← hx_] at q1; exact Nat.le_trans q1 HS.out
    have HXk := Lib.hid hx_
    obtain ⟨v7_, rfl, r7_⟩ := hrd_
    obtain ⟨pk, nk, ck, hv_⟩ := RdL.form r7_
    subst hv_
    have Rk := Lib.hid r7_
    have HEk0 := Lib.hid (show W.cell? ⟨ab, ao + k * 8, none⟩ = some (.int .i64 xk.f0) from at_cell (j := 0) hat_ rfl)
    have HEk1 := Lib.hid (show W.cell? ⟨ab, ao + k * 8 + 1, none⟩ = some (.int .i64 xk.f1) from at_cell (j := 1) hat_ rfl)
    have HEk2 := Lib.hid (show W.cell? ⟨ab, ao + k * 8 + 2, none⟩ = some (.int .i64 xk.f2) from at_cell (j := 2) hat_ rfl)
    have HEk3 := Lib.hid (show W.cell? ⟨ab, ao + k * 8 + 3, none⟩ = some (.int .i64 xk.f3) from at_cell (j := 3) hat_ rfl)
    have HEk4 := Lib.hid (show W.cell? ⟨ab, ao + k * 8 + 4, none⟩ = some (.int .i64 xk.f4) from at_cell (j := 4) hat_ rfl)
    have HEk5 := Lib.hid (show W.cell? ⟨ab, ao + k * 8 + 5, none⟩ = some (.int .i64 xk.f5) from at_cell (j := 5) hat_ rfl)
    have HEk6 := Lib.hid (show W.cell? ⟨ab, ao + k * 8 + 6, none⟩ = some (.int .i64 xk.f6) from at_cell (j := 6) hat_ rfl)
    have HEk7 := Lib.hid (show W.cell? ⟨ab, ao + k * 8 + 7, none⟩ = some (.slice pk nk ck) from at_cell (j := 7) hat_ rfl)
    clear hat_ r7_ hx_ hq_
    have ek0_ := (G10_.out).cell HEk0.out (by simp)
    have ek1_ := (G10_.out).cell HEk1.out (by simp)
    have ek2_ := (G10_.out).cell HEk2.out (by simp)
    have ek3_ := (G10_.out).cell HEk3.out (by simp)
    have ek4_ := (G10_.out).cell HEk4.out (by simp)
    have ek5_ := (G10_.out).cell HEk5.out (by simp)
    have ek6_ := (G10_.out).cell HEk6.out (by simp)
    have ek7_ := (G10_.out).cell HEk7.out (by simp)
    by_cases hkq : k = q
    · have HSA := Lib.hid (show true = sameD xk xy from by rw [HXk.out, hkq]; exact (HQ.out.2.2 (by have := HE.out; omega)).symm)
      subst hkq
      have HGT := Lib.hid (gby_refl (wr) none)
      go_wp2_with fail
      refine wp_region_held_drew (S := fun w' => w'.cell? ⟨ab, ao + k * 8, none⟩ = some (.int .i64 xk.f0) ∧ w'.cell? ⟨ab, ao + k * 8 + 1, none⟩ = some (.int .i64 xk.f1) ∧ w'.cell? ⟨ab, ao + k * 8 + 2, none⟩ = some (.int .i64 xk.f2) ∧ w'.cell? ⟨ab, ao + k * 8 + 3, none⟩ = some (.int .i64 xk.f3) ∧ w'.cell? ⟨ab, ao + k * 8 + 4, none⟩ = some (.int .i64 xk.f4) ∧ w'.cell? ⟨ab, ao + k * 8 + 5, none⟩ = some (.int .i64 xk.f5) ∧ w'.cell? ⟨ab, ao + k * 8 + 6, none⟩ = some (.int .i64 xk.f6) ∧ w'.cell? ⟨ab, ao + k * 8 + 7, none⟩ = some (.slice pk nk ck) ∧ w'.cell? ⟨W.heap.size, 0, none⟩ = some (.int .i64 xy.f0) ∧ w'.cell? ⟨W.heap.size, 1, none⟩ = some (.int .i64 xy.f1) ∧ w'.cell? ⟨W.heap.size, 2, none⟩ = some (.int .i64 xy.f2) ∧ w'.cell? ⟨W.heap.size, 3, none⟩ = some (.int .i64 xy.f3) ∧ w'.cell? ⟨W.heap.size, 4, none⟩ = some (.int .i64 xy.f4) ∧ w'.cell? ⟨W.heap.size, 5, none⟩ = some (.int .i64 xy.f5) ∧ w'.cell? ⟨W.heap.size, 6, none⟩ = some (.int .i64 xy.f6) ∧ w'.cell? ⟨W.heap.size, 7, none⟩ = some (.slice py ny cy)) (by kernel_rfl) (by (try dsimp only); exact ⟨ek0_, ek1_, ek2_, ek3_, ek4_, ek5_, ek6_, ek7_, Y_0_, Y_1_, Y_2_, Y_3_, Y_4_, Y_5_, Y_6_, Y_7_⟩) (fun hHeld => ?_)
      refine wpAnyH_take (i := 0) (oi := { dst := some 14, op := Op.move (Operand.tmp 0), type := 30, pos := "l31_producer.go:45", after := #[], guard := none }) (v := ?v0_r1_1) rfl (by kernel_rfl) (by kernel_rfl) (by kernel_rfl) (fun _ _ _ h => h) (Or.inl ⟨by rfl, ?y0_r1_1⟩) (by assumption) ?r0_r1_1
      case y0_r1_1 => (intro w hSw; (try dsimp only at hSw); go_simp; all_goals (with_reducible rfl))
      try simp only [Act.put, List.setIfInBounds_toArray, List.set_cons_zero, List.set_cons_succ]
      refine wpAnyH_take (i := 1) (oi := { dst := some 15, op := Op.move (Operand.tmp 6), type := 3, pos := "l31_producer.go:45", after := #[], guard := none }) (v := ?v1_r1_2) rfl (by kernel_rfl) (by kernel_rfl) (by kernel_rfl) (fun _ _ _ h => h) (Or.inl ⟨by rfl, ?y1_r1_2⟩) (by assumption) ?r1_r1_2
      case y1_r1_2 => (intro w hSw; (try dsimp only at hSw); go_simp; all_goals (with_reducible rfl))
      try simp only [Act.put, List.setIfInBounds_toArray, List.set_cons_zero, List.set_cons_succ]
      refine wpAnyH_take (i := 2) (oi := { dst := some 16, op := Op.indexAddr 30 (Operand.tmp 14) (Operand.tmp 15), type := 0, pos := "l31_producer.go:45", after := #[{ on := 0, ground := Ground.data }, { on := 1, ground := Ground.data }], guard := none }) (v := ?v2_r1_3) rfl (by kernel_rfl) (by kernel_rfl) (by kernel_rfl) (fun _ _ _ h => h) (Or.inl ⟨by rfl, ?y2_r1_3⟩) (by assumption) ?r2_r1_3
      case y2_r1_3 => (intro w hSw; (try dsimp only at hSw); go_simp; all_goals (with_reducible rfl))
      try simp only [Act.put, List.setIfInBounds_toArray, List.set_cons_zero, List.set_cons_succ]
      refine wpAnyH_take (i := 3) (oi := { dst := some 17, op := Op.load 60 (Operand.tmp 16), type := 60, pos := "l31_producer.go:45", after := #[{ on := 2, ground := Ground.data }], guard := none }) (v := ?v3_r1_4) rfl (by kernel_rfl) (by kernel_rfl) (by kernel_rfl) (fun _ _ _ h => h) (Or.inl ⟨by rfl, ?y3_r1_4⟩) (by assumption) ?r3_r1_4
      case y3_r1_4 => (intro w hSw; (try dsimp only at hSw); go_simp; all_goals (with_reducible rfl))
      try simp only [Act.put, List.setIfInBounds_toArray, List.set_cons_zero, List.set_cons_succ]
      refine wpAnyH_take (i := 4) (oi := { dst := some 18, op := Op.load 60 (Operand.tmp 3), type := 60, pos := "l31_producer.go:45", after := #[], guard := none }) (v := ?v4_r1_5) rfl (by kernel_rfl) (by kernel_rfl) (by kernel_rfl) (fun _ _ _ h => h) (Or.inl ⟨by rfl, ?y4_r1_5⟩) (by assumption) ?r4_r1_5
      case y4_r1_5 => (intro w hSw; (try dsimp only at hSw); go_simp; all_goals (with_reducible rfl))
      try simp only [Act.put, List.setIfInBounds_toArray, List.set_cons_zero, List.set_cons_succ]
      refine wpAnyH_ready (rs := [5]) (by kernel_rfl) (by simp) ?_
      refine AllReadyH.cons (o := { dst := some 19, op := Op.call { callee := Callee.value (Operand.func 102), args := #[Operand.tmp 17, Operand.tmp 18], argTypes := #[60, 60] }, type := 4, pos := "l31_producer.go:45", after := #[{ on := 3, ground := Ground.data }, { on := 4, ground := Ground.data }], guard := none }) rfl (fun K hK => ?_) AllReadyH.nil
      go_simp
      go_at_call 102
      refine (specSameD _ xk xy _ _ (Rk.out.grow (gby_trans G10_.out (gby_drew (gby_refl _ none)))) (Ry.out.grow (gby_trans G10_.out (gby_drew (gby_refl _ none)))) hzk_ hzy_ true HSA.out).mono ?_
      rintro e wH6_r1 ⟨rfl, gH6_r1⟩
      have m6_ek0_ : wH6_r1.cell? _ = some _ := gH6_r1.cell ek0_ (by simp); have m6_ek1_ : wH6_r1.cell? _ = some _ := gH6_r1.cell ek1_ (by simp); have m6_ek2_ : wH6_r1.cell? _ = some _ := gH6_r1.cell ek2_ (by simp); have m6_ek3_ : wH6_r1.cell? _ = some _ := gH6_r1.cell ek3_ (by simp); have m6_ek4_ : wH6_r1.cell? _ = some _ := gH6_r1.cell ek4_ (by simp); have m6_ek5_ : wH6_r1.cell? _ = some _ := gH6_r1.cell ek5_ (by simp); have m6_ek6_ : wH6_r1.cell? _ = some _ := gH6_r1.cell ek6_ (by simp); have m6_ek7_ : wH6_r1.cell? _ = some _ := gH6_r1.cell ek7_ (by simp); have m6_Y_0_ : wH6_r1.cell? _ = some _ := gH6_r1.cell Y_0_ (by simp); have m6_Y_1_ : wH6_r1.cell? _ = some _ := gH6_r1.cell Y_1_ (by simp); have m6_Y_2_ : wH6_r1.cell? _ = some _ := gH6_r1.cell Y_2_ (by simp); have m6_Y_3_ : wH6_r1.cell? _ = some _ := gH6_r1.cell Y_3_ (by simp); have m6_Y_4_ : wH6_r1.cell? _ = some _ := gH6_r1.cell Y_4_ (by simp); have m6_Y_5_ : wH6_r1.cell? _ = some _ := gH6_r1.cell Y_5_ (by simp); have m6_Y_6_ : wH6_r1.cell? _ = some _ := gH6_r1.cell Y_6_ (by simp); have m6_Y_7_ : wH6_r1.cell? _ = some _ := gH6_r1.cell Y_7_ (by simp)
      go_wp2_with fail
      clear hHeld
      refine hK.out _ _ ?s5_r1_6 (fun hHeld => ?_)
      case s5_r1_6 => exact ⟨m6_ek0_, m6_ek1_, m6_ek2_, m6_ek3_, m6_ek4_, m6_ek5_, m6_ek6_, m6_ek7_, m6_Y_0_, m6_Y_1_, m6_Y_2_, m6_Y_3_, m6_Y_4_, m6_Y_5_, m6_Y_6_, m6_Y_7_⟩
      clear hK K
      try simp only [Act.put, List.setIfInBounds_toArray, List.set_cons_zero, List.set_cons_succ]
      refine wpAnyH_done (by kernel_rfl) ?_ _
      have gR_ : (wr).grownBy (wH6_r1) none := (gby_trans (gby_drew (gby_refl _ none)) gH6_r1)
      have szwH6_r1 := gR_.size
      try simp only [World.size_alloc] at szwH6_r1
      clear Y_0_ Y_1_ Y_2_ Y_3_ Y_4_ Y_5_ Y_6_ Y_7_ ek0_ ek1_ ek2_ ek3_ ek4_ ek5_ ek6_ ek7_
      have rY13_ := Lib.hid (show (wH6_r1).heap[W.heap.size]? = some (.cells #[.int .i64 xy.f0, .int .i64 xy.f1, .int .i64 xy.f2, .int .i64 xy.f3, .int .i64 xy.f4, .int .i64 xy.f5, .int .i64 xy.f6, .slice py ny cy] 60 (0, 0)) from row_held gR_ rY11_.out)
      clear rY11_
      have G14_ := Lib.hid (show (W).grownBy (wH6_r1) none from gby_trans G10_.out gR_)
      have HTM15_ := Lib.hid (show ((W.alloc (.cells #[.int .i64 xy.f0, .int .i64 xy.f1, .int .i64 xy.f2, .int .i64 xy.f3, .int .i64 xy.f4, .int .i64 xy.f5, .int .i64 xy.f6, .slice py ny cy] 60))).grownBy (wH6_r1) none from gby_trans HTM12_.out gR_)
      clear HTM12_
      have HTT16_ := Lib.hid (show (wr).grownBy (wH6_r1) none from gby_trans HGT.out gR_)
      clear HGT
      clear gR_
      have HOX := Lib.hid (HOR.out.grow HTT16_.out)
      go_wp2
      go_ret
      exact ⟨_, rfl, HOX.out, G14_.out⟩
    · have HSA := Lib.hid (show false = sameD xk xy from by rw [HXk.out]; exact (HQ.out.2.1 k (by omega)).symm)
      have HGT := Lib.hid (gby_refl (wr) none)
      go_wp2_with fail
      refine wp_region_held_drew (S := fun w' => w'.cell? ⟨ab, ao + k * 8, none⟩ = some (.int .i64 xk.f0) ∧ w'.cell? ⟨ab, ao + k * 8 + 1, none⟩ = some (.int .i64 xk.f1) ∧ w'.cell? ⟨ab, ao + k * 8 + 2, none⟩ = some (.int .i64 xk.f2) ∧ w'.cell? ⟨ab, ao + k * 8 + 3, none⟩ = some (.int .i64 xk.f3) ∧ w'.cell? ⟨ab, ao + k * 8 + 4, none⟩ = some (.int .i64 xk.f4) ∧ w'.cell? ⟨ab, ao + k * 8 + 5, none⟩ = some (.int .i64 xk.f5) ∧ w'.cell? ⟨ab, ao + k * 8 + 6, none⟩ = some (.int .i64 xk.f6) ∧ w'.cell? ⟨ab, ao + k * 8 + 7, none⟩ = some (.slice pk nk ck) ∧ w'.cell? ⟨W.heap.size, 0, none⟩ = some (.int .i64 xy.f0) ∧ w'.cell? ⟨W.heap.size, 1, none⟩ = some (.int .i64 xy.f1) ∧ w'.cell? ⟨W.heap.size, 2, none⟩ = some (.int .i64 xy.f2) ∧ w'.cell? ⟨W.heap.size, 3, none⟩ = some (.int .i64 xy.f3) ∧ w'.cell? ⟨W.heap.size, 4, none⟩ = some (.int .i64 xy.f4) ∧ w'.cell? ⟨W.heap.size, 5, none⟩ = some (.int .i64 xy.f5) ∧ w'.cell? ⟨W.heap.size, 6, none⟩ = some (.int .i64 xy.f6) ∧ w'.cell? ⟨W.heap.size, 7, none⟩ = some (.slice py ny cy)) (by kernel_rfl) (by (try dsimp only); exact ⟨ek0_, ek1_, ek2_, ek3_, ek4_, ek5_, ek6_, ek7_, Y_0_, Y_1_, Y_2_, Y_3_, Y_4_, Y_5_, Y_6_, Y_7_⟩) (fun hHeld => ?_)
      refine wpAnyH_take (i := 0) (oi := { dst := some 14, op := Op.move (Operand.tmp 0), type := 30, pos := "l31_producer.go:45", after := #[], guard := none }) (v := ?v0_r2_1) rfl (by kernel_rfl) (by kernel_rfl) (by kernel_rfl) (fun _ _ _ h => h) (Or.inl ⟨by rfl, ?y0_r2_1⟩) (by assumption) ?r0_r2_1
      case y0_r2_1 => (intro w hSw; (try dsimp only at hSw); go_simp; all_goals (with_reducible rfl))
      try simp only [Act.put, List.setIfInBounds_toArray, List.set_cons_zero, List.set_cons_succ]
      refine wpAnyH_take (i := 1) (oi := { dst := some 15, op := Op.move (Operand.tmp 6), type := 3, pos := "l31_producer.go:45", after := #[], guard := none }) (v := ?v1_r2_2) rfl (by kernel_rfl) (by kernel_rfl) (by kernel_rfl) (fun _ _ _ h => h) (Or.inl ⟨by rfl, ?y1_r2_2⟩) (by assumption) ?r1_r2_2
      case y1_r2_2 => (intro w hSw; (try dsimp only at hSw); go_simp; all_goals (with_reducible rfl))
      try simp only [Act.put, List.setIfInBounds_toArray, List.set_cons_zero, List.set_cons_succ]
      refine wpAnyH_take (i := 2) (oi := { dst := some 16, op := Op.indexAddr 30 (Operand.tmp 14) (Operand.tmp 15), type := 0, pos := "l31_producer.go:45", after := #[{ on := 0, ground := Ground.data }, { on := 1, ground := Ground.data }], guard := none }) (v := ?v2_r2_3) rfl (by kernel_rfl) (by kernel_rfl) (by kernel_rfl) (fun _ _ _ h => h) (Or.inl ⟨by rfl, ?y2_r2_3⟩) (by assumption) ?r2_r2_3
      case y2_r2_3 => (intro w hSw; (try dsimp only at hSw); go_simp; all_goals (with_reducible rfl))
      try simp only [Act.put, List.setIfInBounds_toArray, List.set_cons_zero, List.set_cons_succ]
      refine wpAnyH_take (i := 3) (oi := { dst := some 17, op := Op.load 60 (Operand.tmp 16), type := 60, pos := "l31_producer.go:45", after := #[{ on := 2, ground := Ground.data }], guard := none }) (v := ?v3_r2_4) rfl (by kernel_rfl) (by kernel_rfl) (by kernel_rfl) (fun _ _ _ h => h) (Or.inl ⟨by rfl, ?y3_r2_4⟩) (by assumption) ?r3_r2_4
      case y3_r2_4 => (intro w hSw; (try dsimp only at hSw); go_simp; all_goals (with_reducible rfl))
      try simp only [Act.put, List.setIfInBounds_toArray, List.set_cons_zero, List.set_cons_succ]
      refine wpAnyH_take (i := 4) (oi := { dst := some 18, op := Op.load 60 (Operand.tmp 3), type := 60, pos := "l31_producer.go:45", after := #[], guard := none }) (v := ?v4_r2_5) rfl (by kernel_rfl) (by kernel_rfl) (by kernel_rfl) (fun _ _ _ h => h) (Or.inl ⟨by rfl, ?y4_r2_5⟩) (by assumption) ?r4_r2_5
      case y4_r2_5 => (intro w hSw; (try dsimp only at hSw); go_simp; all_goals (with_reducible rfl))
      try simp only [Act.put, List.setIfInBounds_toArray, List.set_cons_zero, List.set_cons_succ]
      refine wpAnyH_ready (rs := [5]) (by kernel_rfl) (by simp) ?_
      refine AllReadyH.cons (o := { dst := some 19, op := Op.call { callee := Callee.value (Operand.func 102), args := #[Operand.tmp 17, Operand.tmp 18], argTypes := #[60, 60] }, type := 4, pos := "l31_producer.go:45", after := #[{ on := 3, ground := Ground.data }, { on := 4, ground := Ground.data }], guard := none }) rfl (fun K hK => ?_) AllReadyH.nil
      go_simp
      go_at_call 102
      refine (specSameD _ xk xy _ _ (Rk.out.grow (gby_trans G10_.out (gby_drew (gby_refl _ none)))) (Ry.out.grow (gby_trans G10_.out (gby_drew (gby_refl _ none)))) hzk_ hzy_ false HSA.out).mono ?_
      rintro e wH6_r2 ⟨rfl, gH6_r2⟩
      have m6_ek0_ : wH6_r2.cell? _ = some _ := gH6_r2.cell ek0_ (by simp); have m6_ek1_ : wH6_r2.cell? _ = some _ := gH6_r2.cell ek1_ (by simp); have m6_ek2_ : wH6_r2.cell? _ = some _ := gH6_r2.cell ek2_ (by simp); have m6_ek3_ : wH6_r2.cell? _ = some _ := gH6_r2.cell ek3_ (by simp); have m6_ek4_ : wH6_r2.cell? _ = some _ := gH6_r2.cell ek4_ (by simp); have m6_ek5_ : wH6_r2.cell? _ = some _ := gH6_r2.cell ek5_ (by simp); have m6_ek6_ : wH6_r2.cell? _ = some _ := gH6_r2.cell ek6_ (by simp); have m6_ek7_ : wH6_r2.cell? _ = some _ := gH6_r2.cell ek7_ (by simp); have m6_Y_0_ : wH6_r2.cell? _ = some _ := gH6_r2.cell Y_0_ (by simp); have m6_Y_1_ : wH6_r2.cell? _ = some _ := gH6_r2.cell Y_1_ (by simp); have m6_Y_2_ : wH6_r2.cell? _ = some _ := gH6_r2.cell Y_2_ (by simp); have m6_Y_3_ : wH6_r2.cell? _ = some _ := gH6_r2.cell Y_3_ (by simp); have m6_Y_4_ : wH6_r2.cell? _ = some _ := gH6_r2.cell Y_4_ (by simp); have m6_Y_5_ : wH6_r2.cell? _ = some _ := gH6_r2.cell Y_5_ (by simp); have m6_Y_6_ : wH6_r2.cell? _ = some _ := gH6_r2.cell Y_6_ (by simp); have m6_Y_7_ : wH6_r2.cell? _ = some _ := gH6_r2.cell Y_7_ (by simp)
      go_wp2_with fail
      clear hHeld
      refine hK.out _ _ ?s5_r2_6 (fun hHeld => ?_)
      case s5_r2_6 => exact ⟨m6_ek0_, m6_ek1_, m6_ek2_, m6_ek3_, m6_ek4_, m6_ek5_, m6_ek6_, m6_ek7_, m6_Y_0_, m6_Y_1_, m6_Y_2_, m6_Y_3_, m6_Y_4_, m6_Y_5_, m6_Y_6_, m6_Y_7_⟩
      clear hK K
      try simp only [Act.put, List.setIfInBounds_toArray, List.set_cons_zero, List.set_cons_succ]
      refine wpAnyH_done (by kernel_rfl) ?_ _
      have gR_ : (wr).grownBy (wH6_r2) none := (gby_trans (gby_drew (gby_refl _ none)) gH6_r2)
      have szwH6_r2 := gR_.size
      try simp only [World.size_alloc] at szwH6_r2
      clear Y_0_ Y_1_ Y_2_ Y_3_ Y_4_ Y_5_ Y_6_ Y_7_ ek0_ ek1_ ek2_ ek3_ ek4_ ek5_ ek6_ ek7_
      have rY13_ := Lib.hid (show (wH6_r2).heap[W.heap.size]? = some (.cells #[.int .i64 xy.f0, .int .i64 xy.f1, .int .i64 xy.f2, .int .i64 xy.f3, .int .i64 xy.f4, .int .i64 xy.f5, .int .i64 xy.f6, .slice py ny cy] 60 (0, 0)) from row_held gR_ rY11_.out)
      clear rY11_
      have G14_ := Lib.hid (show (W).grownBy (wH6_r2) none from gby_trans G10_.out gR_)
      have HTM15_ := Lib.hid (show ((W.alloc (.cells #[.int .i64 xy.f0, .int .i64 xy.f1, .int .i64 xy.f2, .int .i64 xy.f3, .int .i64 xy.f4, .int .i64 xy.f5, .int .i64 xy.f6, .slice py ny cy] 60))).grownBy (wH6_r2) none from gby_trans HTM12_.out gR_)
      clear HTM12_
      have HTT16_ := Lib.hid (show (wr).grownBy (wH6_r2) none from gby_trans HGT.out gR_)
      clear HGT
      clear gR_
      have HOR2 := Lib.hid (HOR.out.grow HTT16_.out)
      clear HOR
      have HOR := HOR2
      obtain ⟨cs, P, Q, hr_, hel_⟩ := HOR.out
      rw [hlk_] at hr_
      have HR1 := Lib.hid hr_
      have HEL := Lib.hid hel_
      have HLK := Lib.hid hlk_
      clear hr_ hel_ hlk_
      obtain ⟨i1_, hi1_, hz0_, hz1_, hz2_⟩ := info_parts infoPacketS
      have HGZ := Lib.hid (gby_refl (wH6_r2) none)
      go_wp2_with fail
      go_at_call 92
      refine (l04Copy_d _ xk.f0 xk.f1 xk.f2 xk.f3 xk.f4 xk.f5 xk.f6 _ xk.f7 (Rk.out.grow G14_.out) hzk_).mono ?_
      rintro e w1 ⟨d7, rfl, oA, g⟩
      have szw1 := g.size
      try simp only [World.size_alloc] at szw1
      try simp only [World.size_setCell] at szw1
      have rY17_ := Lib.hid (show (w1).heap[W.heap.size]? = some (.cells #[.int .i64 xy.f0, .int .i64 xy.f1, .int .i64 xy.f2, .int .i64 xy.f3, .int .i64 xy.f4, .int .i64 xy.f5, .int .i64 xy.f6, .slice py ny cy] 60 (0, 0)) from row_held g rY13_.out)
      clear rY13_
      have G18_ := Lib.hid (show (W).grownBy (w1) none from gby_trans G14_.out g)
      have HTM19_ := Lib.hid (show ((W.alloc (.cells #[.int .i64 xy.f0, .int .i64 xy.f1, .int .i64 xy.f2, .int .i64 xy.f3, .int .i64 xy.f4, .int .i64 xy.f5, .int .i64 xy.f6, .slice py ny cy] 60))).grownBy (w1) none from gby_trans HTM15_.out g)
      clear HTM15_
      have HTT20_ := Lib.hid (show (wr).grownBy (w1) none from gby_trans HTT16_.out g)
      clear HTT16_
      have HTZ21_ := Lib.hid (show (wH6_r2).grownBy (w1) none from gby_trans HGZ.out g)
      clear HGZ
      clear g
      have Y_0_ : (w1).cell? ⟨W.heap.size, 0, none⟩ = some (.int .i64 xy.f0) := cell_of_row _ _ 0 _ _ _ rY17_.out
      have Y_1_ : (w1).cell? ⟨W.heap.size, 1, none⟩ = some (.int .i64 xy.f1) := cell_of_row _ _ 1 _ _ _ rY17_.out
      have Y_2_ : (w1).cell? ⟨W.heap.size, 2, none⟩ = some (.int .i64 xy.f2) := cell_of_row _ _ 2 _ _ _ rY17_.out
      have Y_3_ : (w1).cell? ⟨W.heap.size, 3, none⟩ = some (.int .i64 xy.f3) := cell_of_row _ _ 3 _ _ _ rY17_.out
      have Y_4_ : (w1).cell? ⟨W.heap.size, 4, none⟩ = some (.int .i64 xy.f4) := cell_of_row _ _ 4 _ _ _ rY17_.out
      have Y_5_ : (w1).cell? ⟨W.heap.size, 5, none⟩ = some (.int .i64 xy.f5) := cell_of_row _ _ 5 _ _ _ rY17_.out
      have Y_6_ : (w1).cell? ⟨W.heap.size, 6, none⟩ = some (.int .i64 xy.f6) := cell_of_row _ _ 6 _ _ _ rY17_.out
      have Y_7_ : (w1).cell? ⟨W.heap.size, 7, none⟩ = some (.slice py ny cy) := cell_of_row _ _ 7 _ _ _ rY17_.out
      have ek0_ := (G18_.out).cell HEk0.out (by simp)
      have ek1_ := (G18_.out).cell HEk1.out (by simp)
      have ek2_ := (G18_.out).cell HEk2.out (by simp)
      have ek3_ := (G18_.out).cell HEk3.out (by simp)
      have ek4_ := (G18_.out).cell HEk4.out (by simp)
      have ek5_ := (G18_.out).cell HEk5.out (by simp)
      have ek6_ := (G18_.out).cell HEk6.out (by simp)
      have ek7_ := (G18_.out).cell HEk7.out (by simp)
      obtain ⟨pf, nf, cf, hv_⟩ := RdL.form (OwU.rd oA)
      subst hv_
      unfold vPacket
      have HOA := Lib.hid oA
      clear oA
      have HR2 := Lib.hid (HR1.out.grown HTZ21_.out)
      have szz_ := (HTZ21_.out).size
      have szm_ := gby_sizeC (MG4_.out)
      try simp only [World.size_alloc] at szm_
      go_wp2_with (at_builtin; refine wpList_append_lies _ (by rfl) _ _ _ (by rfl) (W.heap.size + 1) 60 i1_ _ 8 80 Try.underlying30 hi1_ hz0_ hz1_ hz2_ rfl (by omega) _ k (flatN cs k) (by rfl) (HR2.out.alloc _) ⟨(w1).heap.size, 0, none⟩ 1 1 _ (by rfl) (by rfl) (World.news_of_block (t := 60) (fr := (0, 0)) (heap_alloc_new (w1) _)) (by simp [Value.oneCell']) (by omega) (by unfold maxLen; omega) (by omega) (by simp; omega) ((w1).heap.size + 1) (by simp) ?_; intro gg cap3 wB hown_ hgr_ hat_ hlt_; have HPo := Lib.hid hown_; have HPg := Lib.hid hgr_; have HPa := Lib.hid hat_; clear hown_ hgr_ hat_ hlt_)
      have HOB := Lib.hid (show OwR shPacket 60 wB (W.heap.size + 1) (.slice (some ⟨gg, 0, none⟩) (k + 1) cap3) (xs.take (k + 1)) from by
        rw [take_nextP xs k (by have := HE.out; omega), show xs.getD k default = xk from HXk.out.symm]
        refine owR_app (own_blockP HR1.out) HEL.out (gby_alloc HTZ21_.out (.cells #[.int .i64 xk.f0, .int .i64 xk.f1, .int .i64 xk.f2, .int .i64 xk.f3, .int .i64 xk.f4, .int .i64 xk.f5, .int .i64 xk.f6, .slice pf nf cf] 60)) (a := (wH6_r2).heap.size) (b := w1.heap.size) ⟨_, rfl, OwU.grow HOA.out (gby_alloc (gby_refl w1 none) _)⟩ (Nat.le_refl _) (by omega) (by simp only [World.size_alloc]; omega) (by rw [HLK.out]; exact HPo.out) HPg.out (fun i hi => ?_)
        have hi2 : gg = i := Option.some.inj hi
        rcases HPa.out with q | q
        · exact .inl (by rw [← hi2]; exact q)
        · exact .inr (by rw [← hi2, q]; simp only [World.size_alloc]; omega))
      have HGB := Lib.hid (show ((W.alloc (.cells #[.int .i64 xy.f0, .int .i64 xy.f1, .int .i64 xy.f2, .int .i64 xy.f3, .int .i64 xy.f4, .int .i64 xy.f5, .int .i64 xy.f6, .slice py ny cy] 60))).grownBy wB none from gby_new (gby_alloc HTM19_.out (.cells #[.int .i64 xk.f0, .int .i64 xk.f1, .int .i64 xk.f2, .int .i64 xk.f3, .int .i64 xk.f4, .int .i64 xk.f5, .int .i64 xk.f6, .slice pf nf cf] 60)) HPg.out (fun i hi => by have := own_from HR2.out i hi; (try simp only [World.size_alloc]); omega))
      refine ⟨⟨k + 1, by go_num, by omega, HOB.out, HGB.out⟩, by simp [intOf]; omega⟩

end Go.Proofs.Ytnighnkkeiegnaa
