/-
  SeenBefore, the program.
-/
import Derived.Test.YtnighnkkeiegnaaSeenMath
import Derived.Deep.RegionHeld3
namespace Go.Proofs.Ytnighnkkeiegnaa
open Go Go.RowKit
set_option linter.unusedVariables false

set_option maxRecDepth 8000 in
set_option maxHeartbeats 1000000 in
theorem seenClo (W : World) (xk xy : DPacket) (pk : Option Addr) (nk ck : Nat) (py : Option Addr) (ny cy : Nat) (H : RdL shI W (.slice pk nk ck) xk.f7) (Hy : RdL shI W (.slice py ny cy) xy.f7) (hzk_ : szL shI xk.f7 ≤ 1048576) (hzy_ : szL shI xy.f7 ≤ 1048576) (gs : Nat) (hb : W.heap[gs]? = some (.cells #[.int .i64 xy.f0, .int .i64 xy.f1, .int .i64 xy.f2, .int .i64 xy.f3, .int .i64 xy.f4, .int .i64 xy.f5, .int .i64 xy.f6, .slice py ny cy] 60 (0, 0))) (b : Bool) (hs : b = sameD xk xy) : Calls Try.prog 104 #[.agg #[.int .i64 xk.f0, .int .i64 xk.f1, .int .i64 xk.f2, .int .i64 xk.f3, .int .i64 xk.f4, .int .i64 xk.f5, .int .i64 xk.f6, .slice pk nk ck], .pointer (some ⟨gs, 0, none⟩)] W (AnsN (.bool b) W) := by
  have HB := Lib.hid hb
  have HSA := Lib.hid hs
  have Rk := Lib.hid H
  have Ry := Lib.hid Hy
  clear hb hs H Hy
  go_enter Try.func104, Try.ntmps104
  have rA1_ := Lib.hid (show ((W.alloc (.cells #[.int .i64 xk.f0, .int .i64 xk.f1, .int .i64 xk.f2, .int .i64 xk.f3, .int .i64 xk.f4, .int .i64 xk.f5, .int .i64 xk.f6, .slice pk nk ck] 60))).heap[W.heap.size]? = some (.cells #[.int .i64 xk.f0, .int .i64 xk.f1, .int .i64 xk.f2, .int .i64 xk.f3, .int .i64 xk.f4, .int .i64 xk.f5, .int .i64 xk.f6, .slice pk nk ck] 60 (0, 0)) from by exact heap_alloc_new _ _)
  have G2_ := Lib.hid (show (W).grownBy ((W.alloc (.cells #[.int .i64 xk.f0, .int .i64 xk.f1, .int .i64 xk.f2, .int .i64 xk.f3, .int .i64 xk.f4, .int .i64 xk.f5, .int .i64 xk.f6, .slice pk nk ck] 60))) none from (gby_alloc (gby_refl _ _) _))
  have A_0_ : ((W.alloc (.cells #[.int .i64 xk.f0, .int .i64 xk.f1, .int .i64 xk.f2, .int .i64 xk.f3, .int .i64 xk.f4, .int .i64 xk.f5, .int .i64 xk.f6, .slice pk nk ck] 60))).cell? ⟨W.heap.size, 0, none⟩ = some (.int .i64 xk.f0) := cell_of_row _ _ 0 _ _ _ rA1_.out
  have A_1_ : ((W.alloc (.cells #[.int .i64 xk.f0, .int .i64 xk.f1, .int .i64 xk.f2, .int .i64 xk.f3, .int .i64 xk.f4, .int .i64 xk.f5, .int .i64 xk.f6, .slice pk nk ck] 60))).cell? ⟨W.heap.size, 1, none⟩ = some (.int .i64 xk.f1) := cell_of_row _ _ 1 _ _ _ rA1_.out
  have A_2_ : ((W.alloc (.cells #[.int .i64 xk.f0, .int .i64 xk.f1, .int .i64 xk.f2, .int .i64 xk.f3, .int .i64 xk.f4, .int .i64 xk.f5, .int .i64 xk.f6, .slice pk nk ck] 60))).cell? ⟨W.heap.size, 2, none⟩ = some (.int .i64 xk.f2) := cell_of_row _ _ 2 _ _ _ rA1_.out
  have A_3_ : ((W.alloc (.cells #[.int .i64 xk.f0, .int .i64 xk.f1, .int .i64 xk.f2, .int .i64 xk.f3, .int .i64 xk.f4, .int .i64 xk.f5, .int .i64 xk.f6, .slice pk nk ck] 60))).cell? ⟨W.heap.size, 3, none⟩ = some (.int .i64 xk.f3) := cell_of_row _ _ 3 _ _ _ rA1_.out
  have A_4_ : ((W.alloc (.cells #[.int .i64 xk.f0, .int .i64 xk.f1, .int .i64 xk.f2, .int .i64 xk.f3, .int .i64 xk.f4, .int .i64 xk.f5, .int .i64 xk.f6, .slice pk nk ck] 60))).cell? ⟨W.heap.size, 4, none⟩ = some (.int .i64 xk.f4) := cell_of_row _ _ 4 _ _ _ rA1_.out
  have A_5_ : ((W.alloc (.cells #[.int .i64 xk.f0, .int .i64 xk.f1, .int .i64 xk.f2, .int .i64 xk.f3, .int .i64 xk.f4, .int .i64 xk.f5, .int .i64 xk.f6, .slice pk nk ck] 60))).cell? ⟨W.heap.size, 5, none⟩ = some (.int .i64 xk.f5) := cell_of_row _ _ 5 _ _ _ rA1_.out
  have A_6_ : ((W.alloc (.cells #[.int .i64 xk.f0, .int .i64 xk.f1, .int .i64 xk.f2, .int .i64 xk.f3, .int .i64 xk.f4, .int .i64 xk.f5, .int .i64 xk.f6, .slice pk nk ck] 60))).cell? ⟨W.heap.size, 6, none⟩ = some (.int .i64 xk.f6) := cell_of_row _ _ 6 _ _ _ rA1_.out
  have A_7_ : ((W.alloc (.cells #[.int .i64 xk.f0, .int .i64 xk.f1, .int .i64 xk.f2, .int .i64 xk.f3, .int .i64 xk.f4, .int .i64 xk.f5, .int .i64 xk.f6, .slice pk nk ck] 60))).cell? ⟨W.heap.size, 7, none⟩ = some (.slice pk nk ck) := cell_of_row _ _ 7 _ _ _ rA1_.out
  have hq_ := row_held G2_.out HB.out
  have y0_ := cell_of_row _ _ 0 _ _ _ hq_
  have y1_ := cell_of_row _ _ 1 _ _ _ hq_
  have y2_ := cell_of_row _ _ 2 _ _ _ hq_
  have y3_ := cell_of_row _ _ 3 _ _ _ hq_
  have y4_ := cell_of_row _ _ 4 _ _ _ hq_
  have y5_ := cell_of_row _ _ 5 _ _ _ hq_
  have y6_ := cell_of_row _ _ 6 _ _ _ hq_
  have y7_ := cell_of_row _ _ 7 _ _ _ hq_
  clear hq_
  go_wp2_with fail
  go_at_call 105
  refine (implSameD _ xk xy _ _ (Rk.out.grow G2_.out) (Ry.out.grow G2_.out) hzk_ hzy_ b HSA.out).mono ?_
  rintro e w1 ⟨rfl, g⟩
  have szw1 := g.size
  try simp only [World.size_alloc] at szw1
  try simp only [World.size_setCell] at szw1
  clear A_0_ A_1_ A_2_ A_3_ A_4_ A_5_ A_6_ A_7_ y0_ y1_ y2_ y3_ y4_ y5_ y6_ y7_
  have rA3_ := Lib.hid (show (w1).heap[W.heap.size]? = some (.cells #[.int .i64 xk.f0, .int .i64 xk.f1, .int .i64 xk.f2, .int .i64 xk.f3, .int .i64 xk.f4, .int .i64 xk.f5, .int .i64 xk.f6, .slice pk nk ck] 60 (0, 0)) from row_held g rA1_.out)
  clear rA1_
  have G4_ := Lib.hid (show (W).grownBy (w1) none from gby_trans G2_.out g)
  clear g
  have A_0_ : (w1).cell? ⟨W.heap.size, 0, none⟩ = some (.int .i64 xk.f0) := cell_of_row _ _ 0 _ _ _ rA3_.out
  have A_1_ : (w1).cell? ⟨W.heap.size, 1, none⟩ = some (.int .i64 xk.f1) := cell_of_row _ _ 1 _ _ _ rA3_.out
  have A_2_ : (w1).cell? ⟨W.heap.size, 2, none⟩ = some (.int .i64 xk.f2) := cell_of_row _ _ 2 _ _ _ rA3_.out
  have A_3_ : (w1).cell? ⟨W.heap.size, 3, none⟩ = some (.int .i64 xk.f3) := cell_of_row _ _ 3 _ _ _ rA3_.out
  have A_4_ : (w1).cell? ⟨W.heap.size, 4, none⟩ = some (.int .i64 xk.f4) := cell_of_row _ _ 4 _ _ _ rA3_.out
  have A_5_ : (w1).cell? ⟨W.heap.size, 5, none⟩ = some (.int .i64 xk.f5) := cell_of_row _ _ 5 _ _ _ rA3_.out
  have A_6_ : (w1).cell? ⟨W.heap.size, 6, none⟩ = some (.int .i64 xk.f6) := cell_of_row _ _ 6 _ _ _ rA3_.out
  have A_7_ : (w1).cell? ⟨W.heap.size, 7, none⟩ = some (.slice pk nk ck) := cell_of_row _ _ 7 _ _ _ rA3_.out
  go_wp2
  go_ret
  exact ⟨rfl, G4_.out⟩

set_option maxRecDepth 8000 in
set_option maxHeartbeats 2000000 in
theorem seenIdx (W : World) (a0 : Option Addr) (n0 cap0 : Nat) (xs : List DPacket) (H : RdL shPacket W (.slice a0 n0 cap0) xs) (hl : szL shPacket xs ≤ 1048576) (xy : DPacket) (py : Option Addr) (ny cy : Nat) (Hy : RdL shI W (.slice py ny cy) xy.f7) (hzy_ : szL shI xy.f7 ≤ 1048576) (gs : Nat) (hb : W.heap[gs]? = some (.cells #[.int .i64 xy.f0, .int .i64 xy.f1, .int .i64 xy.f2, .int .i64 xy.f3, .int .i64 xy.f4, .int .i64 xy.f5, .int .i64 xy.f6, .slice py ny cy] 60 (0, 0))) (q : Nat) (hq : SeenAt xs xy q) (r : Int) (hr : (q < n0 → r = (q : Int)) ∧ (¬ q < n0 → r = -1)) : Calls Try.prog 103 #[.slice a0 n0 cap0, .func (.func 104) #[] #[.pointer (some ⟨gs, 0, none⟩)]] W (AnsN (.int .i64 r) W) := by
  have HR := Lib.hid hr
  clear hr
  have HB := Lib.hid hb
  have Ry := Lib.hid Hy
  have HQ := Lib.hid hq
  have hq0_ := hq.1
  have HS := Lib.hid hl
  obtain ⟨a0', cap0', e_, hcap, _, H⟩ := H
  injection e_ with e1_ e2_ e3_
  subst e1_ e3_
  have HC := Lib.hid H
  have HE := Lib.hid e2_
  have hlx : n0 ≤ 1048576 := by have := szL_len shPacket xs; omega
  rw [← HE.out] at HC hq0_
  clear H hcap hl e2_ hb Hy hq
  go_enter Try.func103, Try.ntmps103
  go_wp2
  go_loopw [8] (fun i wr => ∃ k : Nat, i = .int .i64 (k : Int) ∧ k ≤ q ∧ (W).grownBy wr none) (fun i _ => n0 - (intOf i).toNat)
  case atStart => exact ⟨0, rfl, by omega, gby_refl _ _⟩
  case round =>
    obtain ⟨k, rfl, hk, hg⟩ := hrel
    have szrwr := hg.size
    try simp only [World.size_alloc] at szrwr
    try simp only [World.size_setCell] at szrwr
    have szr_ := szrwr
    have G1_ := Lib.hid (show (W).grownBy (wr) none from gby_trans (gby_refl _ _) hg)
    have HTB_ := Lib.hid hg
    clear hg
    have hk0 : (0 : Int) ≤ (k : Int) := by omega
    have htk : ((k : Int)).toNat = k := by omega
    by_cases hlt : k < n0
    rotate_left
    · have hki : ¬ (k : Int) < (n0 : Int) := by omega
      go_wp2
      go_ret
      exact ⟨ret_i64 (HR.out.2 (by omega)).symm, G1_.out⟩
    have hki : (k : Int) < (n0 : Int) := by omega
    obtain ⟨ab, ao, rfl, hcell_⟩ := HC.out.resolve_left (by omega)
    have HCE := Lib.hid hcell_
    clear hcell_
    have hq_ : k < n0 := hlt
    obtain ⟨cs_, hat_, hrd_⟩ := HCE.out k (by omega)
    obtain ⟨xk, hx_⟩ : ∃ x, x = xs.getD k default := ⟨_, rfl⟩
    rw [← hx_] at hrd_
    have hzk_ : szL shI xk.f7 ≤ 1048576 := by have q1 := szL_at shPacket xs k (by have := HE.out; omega); rw [← hx_] at q1; exact Nat.le_trans q1 HS.out
    have HXk := Lib.hid hx_
    obtain ⟨v7_, rfl, r7_⟩ := hrd_
    obtain ⟨pk, nk, ck, hv_⟩ := RdL.form r7_
    subst hv_
    have Rk := Lib.hid r7_
    have HEk0 := Lib.hid (show W.cell? ⟨ab, ao + k * 8, none⟩ = some (.int .i64 xk.f0) from at_cell (j := 0) hat_ rfl)
    have HEk1 := Lib.hid (show W.cell? ⟨ab, ao + k * 8 + 1, none⟩ = some (.int .i64 xk.f1) from at_cell (j := 1) hat_ rfl)
    have HEk2 := Lib.hid (show W.cell? ⟨ab, ao + k * 8 + 2, none⟩ = some (.int .i64 xk.f2) from at_cell (j := 2) hat_ rfl)
    have HEk3 := Lib.hid (show W.cell? ⟨ab, ao + k * 8 + 3, none⟩ = some (.int .i64 xk.f3) from at_cell (j := 3) hat_ rfl)
    have HEk4 := Lib.hid (show W.cell? ⟨ab, ao + k * 8 + 4, none⟩ = some (.int .i64 xk.f4) from at_cell (j := 4) hat_ rfl)
    have HEk5 := Lib.hid (show W.cell? ⟨ab, ao + k * 8 + 5, none⟩ = some (.int .i64 xk.f5) from at_cell (j := 5) hat_ rfl)
    have HEk6 := Lib.hid (show W.cell? ⟨ab, ao + k * 8 + 6, none⟩ = some (.int .i64 xk.f6) from at_cell (j := 6) hat_ rfl)
    have HEk7 := Lib.hid (show W.cell? ⟨ab, ao + k * 8 + 7, none⟩ = some (.slice pk nk ck) from at_cell (j := 7) hat_ rfl)
    clear hat_ r7_ hx_ hq_
    have ek0_ := (G1_.out).cell HEk0.out (by simp)
    have ek1_ := (G1_.out).cell HEk1.out (by simp)
    have ek2_ := (G1_.out).cell HEk2.out (by simp)
    have ek3_ := (G1_.out).cell HEk3.out (by simp)
    have ek4_ := (G1_.out).cell HEk4.out (by simp)
    have ek5_ := (G1_.out).cell HEk5.out (by simp)
    have ek6_ := (G1_.out).cell HEk6.out (by simp)
    have ek7_ := (G1_.out).cell HEk7.out (by simp)
    have HGS := Lib.hid (row_held G1_.out HB.out)
    by_cases hkq : k = q
    · have HSA := Lib.hid (show true = sameD xk xy from by rw [HXk.out, hkq]; exact (HQ.out.2.2 (by have := HE.out; omega)).symm)
      subst hkq
      go_wp2_with fail
      go_at_call 104
      refine (seenClo _ xk xy _ _ _ _ _ _ (Rk.out.grow G1_.out) (Ry.out.grow G1_.out) hzk_ hzy_ gs (HGS.out) true HSA.out).mono ?_
      rintro e w1 ⟨rfl, g⟩
      have szw1 := g.size
      try simp only [World.size_alloc] at szw1
      try simp only [World.size_setCell] at szw1
      clear ek0_ ek1_ ek2_ ek3_ ek4_ ek5_ ek6_ ek7_
      have G2_ := Lib.hid (show (W).grownBy (w1) none from gby_trans G1_.out g)
      have HTB3_ := Lib.hid (show (W).grownBy (w1) none from gby_trans HTB_.out g)
      clear HTB_
      clear g
      have ek0_ := (G2_.out).cell HEk0.out (by simp)
      have ek1_ := (G2_.out).cell HEk1.out (by simp)
      have ek2_ := (G2_.out).cell HEk2.out (by simp)
      have ek3_ := (G2_.out).cell HEk3.out (by simp)
      have ek4_ := (G2_.out).cell HEk4.out (by simp)
      have ek5_ := (G2_.out).cell HEk5.out (by simp)
      have ek6_ := (G2_.out).cell HEk6.out (by simp)
      have ek7_ := (G2_.out).cell HEk7.out (by simp)
      go_wp2
      go_ret
      exact ⟨ret_i64 (HR.out.1 hlt).symm, G2_.out⟩
    · have HSA := Lib.hid (show false = sameD xk xy from by rw [HXk.out]; exact (HQ.out.2.1 k (by omega)).symm)
      go_wp2_with fail
      go_at_call 104
      refine (seenClo _ xk xy _ _ _ _ _ _ (Rk.out.grow G1_.out) (Ry.out.grow G1_.out) hzk_ hzy_ gs (HGS.out) false HSA.out).mono ?_
      rintro e w1 ⟨rfl, g⟩
      have szw1 := g.size
      try simp only [World.size_alloc] at szw1
      try simp only [World.size_setCell] at szw1
      clear ek0_ ek1_ ek2_ ek3_ ek4_ ek5_ ek6_ ek7_
      have G2_ := Lib.hid (show (W).grownBy (w1) none from gby_trans G1_.out g)
      have HTB3_ := Lib.hid (show (W).grownBy (w1) none from gby_trans HTB_.out g)
      clear HTB_
      clear g
      have ek0_ := (G2_.out).cell HEk0.out (by simp)
      have ek1_ := (G2_.out).cell HEk1.out (by simp)
      have ek2_ := (G2_.out).cell HEk2.out (by simp)
      have ek3_ := (G2_.out).cell HEk3.out (by simp)
      have ek4_ := (G2_.out).cell HEk4.out (by simp)
      have ek5_ := (G2_.out).cell HEk5.out (by simp)
      have ek6_ := (G2_.out).cell HEk6.out (by simp)
      have ek7_ := (G2_.out).cell HEk7.out (by simp)
      go_wp2
      refine ⟨⟨k + 1, by go_num, by omega, HTB3_.out⟩, by simp [intOf]; omega⟩

set_option maxRecDepth 8000 in
set_option maxHeartbeats 2000000 in
theorem implSeen (W : World) (v u : Value) (xs : List DPacket) (xy : DPacket) (H : RdL shPacket W v xs) (Hy : RdL shI W u xy.f7) (hl : szL shPacket xs ≤ 1048576) (hzy_ : szL shI xy.f7 ≤ 1048576) (q : Nat) (hq : SeenAt xs xy q) : Calls Try.prog 55 #[v, vPacket xy.f0 xy.f1 xy.f2 xy.f3 xy.f4 xy.f5 xy.f6 u] W (fun e w' => ∃ v', e = .returned v' ∧ OwL shPacket w' W.heap.size w'.heap.size v' (xs.take q) ∧ W.grownBy w' none) := by
  have HQ := Lib.hid hq
  have hq0_ := hq.1
  clear hq
  have HS := Lib.hid hl
  have HRD := Lib.hid H
  obtain ⟨a0, cap0, rfl, hcap, _, H⟩ := H
  have HC := Lib.hid H
  have hcap2 := hcap.2
  obtain ⟨n0, hn0⟩ : ∃ n, n = xs.length := ⟨_, rfl⟩
  have HE := Lib.hid hn0
  have hlx : n0 ≤ 1048576 := by have := szL_len shPacket xs; omega
  rw [← hn0] at hcap2 hq0_ ⊢
  rw [← hn0] at HRD HC
  clear H hcap hl hn0
  obtain ⟨py, ny, cy, rfl⟩ := RdL.form Hy
  have Ry := Lib.hid Hy
  clear Hy
  unfold vPacket
  go_enter Try.func55, Try.ntmps55
  have rY1_ := Lib.hid (show ((W.alloc (.cells #[.int .i64 xy.f0, .int .i64 xy.f1, .int .i64 xy.f2, .int .i64 xy.f3, .int .i64 xy.f4, .int .i64 xy.f5, .int .i64 xy.f6, .slice py ny cy] 60))).heap[W.heap.size]? = some (.cells #[.int .i64 xy.f0, .int .i64 xy.f1, .int .i64 xy.f2, .int .i64 xy.f3, .int .i64 xy.f4, .int .i64 xy.f5, .int .i64 xy.f6, .slice py ny cy] 60 (0, 0)) from by exact heap_alloc_new _ _)
  have G2_ := Lib.hid (show (W).grownBy ((W.alloc (.cells #[.int .i64 xy.f0, .int .i64 xy.f1, .int .i64 xy.f2, .int .i64 xy.f3, .int .i64 xy.f4, .int .i64 xy.f5, .int .i64 xy.f6, .slice py ny cy] 60))) none from (gby_alloc (gby_refl _ _) _))
  have Y_0_ : ((W.alloc (.cells #[.int .i64 xy.f0, .int .i64 xy.f1, .int .i64 xy.f2, .int .i64 xy.f3, .int .i64 xy.f4, .int .i64 xy.f5, .int .i64 xy.f6, .slice py ny cy] 60))).cell? ⟨W.heap.size, 0, none⟩ = some (.int .i64 xy.f0) := cell_of_row _ _ 0 _ _ _ rY1_.out
  have Y_1_ : ((W.alloc (.cells #[.int .i64 xy.f0, .int .i64 xy.f1, .int .i64 xy.f2, .int .i64 xy.f3, .int .i64 xy.f4, .int .i64 xy.f5, .int .i64 xy.f6, .slice py ny cy] 60))).cell? ⟨W.heap.size, 1, none⟩ = some (.int .i64 xy.f1) := cell_of_row _ _ 1 _ _ _ rY1_.out
  have Y_2_ : ((W.alloc (.cells #[.int .i64 xy.f0, .int .i64 xy.f1, .int .i64 xy.f2, .int .i64 xy.f3, .int .i64 xy.f4, .int .i64 xy.f5, .int .i64 xy.f6, .slice py ny cy] 60))).cell? ⟨W.heap.size, 2, none⟩ = some (.int .i64 xy.f2) := cell_of_row _ _ 2 _ _ _ rY1_.out
  have Y_3_ : ((W.alloc (.cells #[.int .i64 xy.f0, .int .i64 xy.f1, .int .i64 xy.f2, .int .i64 xy.f3, .int .i64 xy.f4, .int .i64 xy.f5, .int .i64 xy.f6, .slice py ny cy] 60))).cell? ⟨W.heap.size, 3, none⟩ = some (.int .i64 xy.f3) := cell_of_row _ _ 3 _ _ _ rY1_.out
  have Y_4_ : ((W.alloc (.cells #[.int .i64 xy.f0, .int .i64 xy.f1, .int .i64 xy.f2, .int .i64 xy.f3, .int .i64 xy.f4, .int .i64 xy.f5, .int .i64 xy.f6, .slice py ny cy] 60))).cell? ⟨W.heap.size, 4, none⟩ = some (.int .i64 xy.f4) := cell_of_row _ _ 4 _ _ _ rY1_.out
  have Y_5_ : ((W.alloc (.cells #[.int .i64 xy.f0, .int .i64 xy.f1, .int .i64 xy.f2, .int .i64 xy.f3, .int .i64 xy.f4, .int .i64 xy.f5, .int .i64 xy.f6, .slice py ny cy] 60))).cell? ⟨W.heap.size, 5, none⟩ = some (.int .i64 xy.f5) := cell_of_row _ _ 5 _ _ _ rY1_.out
  have Y_6_ : ((W.alloc (.cells #[.int .i64 xy.f0, .int .i64 xy.f1, .int .i64 xy.f2, .int .i64 xy.f3, .int .i64 xy.f4, .int .i64 xy.f5, .int .i64 xy.f6, .slice py ny cy] 60))).cell? ⟨W.heap.size, 6, none⟩ = some (.int .i64 xy.f6) := cell_of_row _ _ 6 _ _ _ rY1_.out
  have Y_7_ : ((W.alloc (.cells #[.int .i64 xy.f0, .int .i64 xy.f1, .int .i64 xy.f2, .int .i64 xy.f3, .int .i64 xy.f4, .int .i64 xy.f5, .int .i64 xy.f6, .slice py ny cy] 60))).cell? ⟨W.heap.size, 7, none⟩ = some (.slice py ny cy) := cell_of_row _ _ 7 _ _ _ rY1_.out
  by_cases hqn : q < n0
  · skip
    have HIX := Lib.hid (fun (w : World) (g : ((W.alloc (.cells #[.int .i64 xy.f0, .int .i64 xy.f1, .int .i64 xy.f2, .int .i64 xy.f3, .int .i64 xy.f4, .int .i64 xy.f5, .int .i64 xy.f6, .slice py ny cy] 60))).grownBy w none) => seenIdx w a0 n0 cap0 xs (HRD.out.grow (gby_trans G2_.out g)) HS.out xy py ny cy (Ry.out.grow (gby_trans G2_.out g)) hzy_ _ (row_held g rY1_.out) q HQ.out (q : Int) ⟨fun _ => rfl, fun h => absurd hqn h⟩)
    go_wp2_with fail
    go_at_call 103
    refine (HIX.out _ (gby_refl _ none)).mono ?_
    rintro e w1 ⟨rfl, g⟩
    have szw1 := g.size
    try simp only [World.size_alloc] at szw1
    try simp only [World.size_setCell] at szw1
    clear Y_0_ Y_1_ Y_2_ Y_3_ Y_4_ Y_5_ Y_6_ Y_7_
    have rY3_ := Lib.hid (show (w1).heap[W.heap.size]? = some (.cells #[.int .i64 xy.f0, .int .i64 xy.f1, .int .i64 xy.f2, .int .i64 xy.f3, .int .i64 xy.f4, .int .i64 xy.f5, .int .i64 xy.f6, .slice py ny cy] 60 (0, 0)) from row_held g rY1_.out)
    clear rY1_
    have G4_ := Lib.hid (show (W).grownBy (w1) none from gby_trans G2_.out g)
    clear g
    have Y_0_ : (w1).cell? ⟨W.heap.size, 0, none⟩ = some (.int .i64 xy.f0) := cell_of_row _ _ 0 _ _ _ rY3_.out
    have Y_1_ : (w1).cell? ⟨W.heap.size, 1, none⟩ = some (.int .i64 xy.f1) := cell_of_row _ _ 1 _ _ _ rY3_.out
    have Y_2_ : (w1).cell? ⟨W.heap.size, 2, none⟩ = some (.int .i64 xy.f2) := cell_of_row _ _ 2 _ _ _ rY3_.out
    have Y_3_ : (w1).cell? ⟨W.heap.size, 3, none⟩ = some (.int .i64 xy.f3) := cell_of_row _ _ 3 _ _ _ rY3_.out
    have Y_4_ : (w1).cell? ⟨W.heap.size, 4, none⟩ = some (.int .i64 xy.f4) := cell_of_row _ _ 4 _ _ _ rY3_.out
    have Y_5_ : (w1).cell? ⟨W.heap.size, 5, none⟩ = some (.int .i64 xy.f5) := cell_of_row _ _ 5 _ _ _ rY3_.out
    have Y_6_ : (w1).cell? ⟨W.heap.size, 6, none⟩ = some (.int .i64 xy.f6) := cell_of_row _ _ 6 _ _ _ rY3_.out
    have Y_7_ : (w1).cell? ⟨W.heap.size, 7, none⟩ = some (.slice py ny cy) := cell_of_row _ _ 7 _ _ _ rY3_.out
    have hq1_ : ¬ (q : Int) < 0 := by omega
    have hq2_ : (0 : Int) ≤ (q : Int) := by omega
    have hq3_ : (q : Int) ≤ (cap0 : Int) := by omega
    have hq4_ : ((q : Int)).toNat = q := by omega
    go_wp2_with fail
    go_at_call 106
    refine (copyPks_d _ (.slice a0 q cap0) (xs.take q) ((rdL_take HRD.out q (by have := HE.out; omega)).grow G4_.out) (Nat.le_trans (szL_take_le _ _ _) HS.out)).mono ?_
    rintro e w2 ⟨v9, rfl, o9, g⟩
    have szw2 := g.size
    try simp only [World.size_alloc] at szw2
    try simp only [World.size_setCell] at szw2
    clear Y_0_ Y_1_ Y_2_ Y_3_ Y_4_ Y_5_ Y_6_ Y_7_
    have rY5_ := Lib.hid (show (w2).heap[W.heap.size]? = some (.cells #[.int .i64 xy.f0, .int .i64 xy.f1, .int .i64 xy.f2, .int .i64 xy.f3, .int .i64 xy.f4, .int .i64 xy.f5, .int .i64 xy.f6, .slice py ny cy] 60 (0, 0)) from row_held g rY3_.out)
    clear rY3_
    have G6_ := Lib.hid (show (W).grownBy (w2) none from gby_trans G4_.out g)
    clear g
    have Y_0_ : (w2).cell? ⟨W.heap.size, 0, none⟩ = some (.int .i64 xy.f0) := cell_of_row _ _ 0 _ _ _ rY5_.out
    have Y_1_ : (w2).cell? ⟨W.heap.size, 1, none⟩ = some (.int .i64 xy.f1) := cell_of_row _ _ 1 _ _ _ rY5_.out
    have Y_2_ : (w2).cell? ⟨W.heap.size, 2, none⟩ = some (.int .i64 xy.f2) := cell_of_row _ _ 2 _ _ _ rY5_.out
    have Y_3_ : (w2).cell? ⟨W.heap.size, 3, none⟩ = some (.int .i64 xy.f3) := cell_of_row _ _ 3 _ _ _ rY5_.out
    have Y_4_ : (w2).cell? ⟨W.heap.size, 4, none⟩ = some (.int .i64 xy.f4) := cell_of_row _ _ 4 _ _ _ rY5_.out
    have Y_5_ : (w2).cell? ⟨W.heap.size, 5, none⟩ = some (.int .i64 xy.f5) := cell_of_row _ _ 5 _ _ _ rY5_.out
    have Y_6_ : (w2).cell? ⟨W.heap.size, 6, none⟩ = some (.int .i64 xy.f6) := cell_of_row _ _ 6 _ _ _ rY5_.out
    have Y_7_ : (w2).cell? ⟨W.heap.size, 7, none⟩ = some (.slice py ny cy) := cell_of_row _ _ 7 _ _ _ rY5_.out
    go_wp2
    go_ret
    exact ⟨_, rfl, OwL.wide (OwR.own o9 (by rw [List.length_take]; have := HE.out; omega)) (by omega) (Nat.le_refl _), G6_.out⟩
  · skip
    have hqe_ : n0 = q := by omega
    subst hqe_
    have HIX := Lib.hid (fun (w : World) (g : ((W.alloc (.cells #[.int .i64 xy.f0, .int .i64 xy.f1, .int .i64 xy.f2, .int .i64 xy.f3, .int .i64 xy.f4, .int .i64 xy.f5, .int .i64 xy.f6, .slice py ny cy] 60))).grownBy w none) => seenIdx w a0 n0 cap0 xs (HRD.out.grow (gby_trans G2_.out g)) HS.out xy py ny cy (Ry.out.grow (gby_trans G2_.out g)) hzy_ _ (row_held g rY1_.out) n0 HQ.out (-1) ⟨fun h => absurd h hqn, fun _ => rfl⟩)
    go_wp2_with fail
    go_at_call 103
    refine (HIX.out _ (gby_refl _ none)).mono ?_
    rintro e w1 ⟨rfl, g⟩
    have szw1 := g.size
    try simp only [World.size_alloc] at szw1
    try simp only [World.size_setCell] at szw1
    clear Y_0_ Y_1_ Y_2_ Y_3_ Y_4_ Y_5_ Y_6_ Y_7_
    have rY3_ := Lib.hid (show (w1).heap[W.heap.size]? = some (.cells #[.int .i64 xy.f0, .int .i64 xy.f1, .int .i64 xy.f2, .int .i64 xy.f3, .int .i64 xy.f4, .int .i64 xy.f5, .int .i64 xy.f6, .slice py ny cy] 60 (0, 0)) from row_held g rY1_.out)
    clear rY1_
    have G4_ := Lib.hid (show (W).grownBy (w1) none from gby_trans G2_.out g)
    clear g
    have Y_0_ : (w1).cell? ⟨W.heap.size, 0, none⟩ = some (.int .i64 xy.f0) := cell_of_row _ _ 0 _ _ _ rY3_.out
    have Y_1_ : (w1).cell? ⟨W.heap.size, 1, none⟩ = some (.int .i64 xy.f1) := cell_of_row _ _ 1 _ _ _ rY3_.out
    have Y_2_ : (w1).cell? ⟨W.heap.size, 2, none⟩ = some (.int .i64 xy.f2) := cell_of_row _ _ 2 _ _ _ rY3_.out
    have Y_3_ : (w1).cell? ⟨W.heap.size, 3, none⟩ = some (.int .i64 xy.f3) := cell_of_row _ _ 3 _ _ _ rY3_.out
    have Y_4_ : (w1).cell? ⟨W.heap.size, 4, none⟩ = some (.int .i64 xy.f4) := cell_of_row _ _ 4 _ _ _ rY3_.out
    have Y_5_ : (w1).cell? ⟨W.heap.size, 5, none⟩ = some (.int .i64 xy.f5) := cell_of_row _ _ 5 _ _ _ rY3_.out
    have Y_6_ : (w1).cell? ⟨W.heap.size, 6, none⟩ = some (.int .i64 xy.f6) := cell_of_row _ _ 6 _ _ _ rY3_.out
    have Y_7_ : (w1).cell? ⟨W.heap.size, 7, none⟩ = some (.slice py ny cy) := cell_of_row _ _ 7 _ _ _ rY3_.out
    have hq2_ : (0 : Int) ≤ (n0 : Int) := by omega
    have hq3_ : (n0 : Int) ≤ (cap0 : Int) := by omega
    have hq4_ : ((n0 : Int)).toNat = n0 := by omega
    go_wp2_with fail
    go_at_call 106
    refine (copyPks_d _ (.slice a0 n0 cap0) (xs.take n0) ((rdL_take HRD.out n0 (by have := HE.out; omega)).grow G4_.out) (Nat.le_trans (szL_take_le _ _ _) HS.out)).mono ?_
    rintro e w2 ⟨v9, rfl, o9, g⟩
    have szw2 := g.size
    try simp only [World.size_alloc] at szw2
    try simp only [World.size_setCell] at szw2
    clear Y_0_ Y_1_ Y_2_ Y_3_ Y_4_ Y_5_ Y_6_ Y_7_
    have rY5_ := Lib.hid (show (w2).heap[W.heap.size]? = some (.cells #[.int .i64 xy.f0, .int .i64 xy.f1, .int .i64 xy.f2, .int .i64 xy.f3, .int .i64 xy.f4, .int .i64 xy.f5, .int .i64 xy.f6, .slice py ny cy] 60 (0, 0)) from row_held g rY3_.out)
    clear rY3_
    have G6_ := Lib.hid (show (W).grownBy (w2) none from gby_trans G4_.out g)
    clear g
    have Y_0_ : (w2).cell? ⟨W.heap.size, 0, none⟩ = some (.int .i64 xy.f0) := cell_of_row _ _ 0 _ _ _ rY5_.out
    have Y_1_ : (w2).cell? ⟨W.heap.size, 1, none⟩ = some (.int .i64 xy.f1) := cell_of_row _ _ 1 _ _ _ rY5_.out
    have Y_2_ : (w2).cell? ⟨W.heap.size, 2, none⟩ = some (.int .i64 xy.f2) := cell_of_row _ _ 2 _ _ _ rY5_.out
    have Y_3_ : (w2).cell? ⟨W.heap.size, 3, none⟩ = some (.int .i64 xy.f3) := cell_of_row _ _ 3 _ _ _ rY5_.out
    have Y_4_ : (w2).cell? ⟨W.heap.size, 4, none⟩ = some (.int .i64 xy.f4) := cell_of_row _ _ 4 _ _ _ rY5_.out
    have Y_5_ : (w2).cell? ⟨W.heap.size, 5, none⟩ = some (.int .i64 xy.f5) := cell_of_row _ _ 5 _ _ _ rY5_.out
    have Y_6_ : (w2).cell? ⟨W.heap.size, 6, none⟩ = some (.int .i64 xy.f6) := cell_of_row _ _ 6 _ _ _ rY5_.out
    have Y_7_ : (w2).cell? ⟨W.heap.size, 7, none⟩ = some (.slice py ny cy) := cell_of_row _ _ 7 _ _ _ rY5_.out
    go_wp2
    go_ret
    exact ⟨_, rfl, OwL.wide (OwR.own o9 (by rw [List.length_take]; have := HE.out; omega)) (by omega) (Nat.le_refl _), G6_.out⟩

end Go.Proofs.Ytnighnkkeiegnaa
