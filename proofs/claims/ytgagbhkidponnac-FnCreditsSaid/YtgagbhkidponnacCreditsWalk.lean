/-
  The walk of FnCredits.
-/
import Derived.Test.YtgagbhkidponnacDrawCr
import Derived.Test.YtgagbhkidponnacDrawPacketA
import Derived.Test.YtgagbhkidponnacCrImpl
import Derived.Test.YtgagbhkidponnacBig
import Derived.Deep.QuietTactic
namespace Go.Proofs.Ytgagbhkidponnac
open Go Go.RowKit
set_option linter.unusedVariables false

theorem sameCrD (W : World) (v0 v1 v2 v3 : Value) (xs ys : List Int) (H0 : RdL shI W v0 xs) (H1 : RdL shI W v1 ys) (H2 : RdL shI W v2 xs) (H3 : RdL shI W v3 ys) (hl0 : szL shI xs ≤ 1048576) (hl1 : szL shI ys ≤ 1048576) : Calls Try.prog 46 #[.agg #[v0, v1], .agg #[v2, v3]] W (AnsN (.bool true) W) := by
  rw [szL_I] at hl0 hl1
  obtain ⟨a0, c0, rfl, i0, _⟩ := rdI_in H0
  obtain ⟨a1, c1, rfl, i1, _⟩ := rdI_in H1
  obtain ⟨a2, c2, rfl, i2, _⟩ := rdI_in H2
  obtain ⟨a3, c3, rfl, i3, _⟩ := rdI_in H3
  have q := implSameCr_any W a0 _ c0 a1 _ c1 a2 _ c2 a3 _ c3 xs ys xs ys i0 i1 i2 i3 hl0 hl1 hl0 hl1
  rw [decide_eq_true rfl, decide_eq_true rfl] at q
  exact q
theorem cnt_set {xs : List Int} {k : Nat} {y : Int} (h : CntOk xs) (h0 : 0 ≤ y) (h1 : y ≤ 30) : CntOk (xs.set k y) := by
  refine ⟨by rw [List.length_set]; exact h.1, fun x hx => ?_⟩
  rcases List.mem_or_eq_of_mem_set hx with q | q
  · exact h.2 x q
  · subst q; exact ⟨h0, h1⟩
theorem set_getI {xs : List Int} {k : Nat} {a : Int} (hk : k < xs.length) : (xs.set k a).getD k 0 = a := by
  rw [List.getD_eq_getElem?_getD, List.getElem?_set, if_pos rfl, if_pos hk]; rfl
theorem set_sameI {xs : List Int} {k : Nat} (hk : k < xs.length) : xs.set k (xs.getD k 0) = xs := by
  refine List.ext_getElem (by simp) fun i h1 h2 => ?_
  rw [List.getElem_set]
  split
  · next e => subst e; rw [List.getD_eq_getElem?_getD, List.getElem?_eq_getElem hk]; rfl
  · rfl
theorem szs {xs : List Int} (h : CntOk xs) : szL shI xs ≤ 1048576 := by rw [szL_I, h.1]; omega
set_option maxRecDepth 8000 in
set_option maxHeartbeats 8000000 in
theorem walk_credits (a : Option Addr) (len cap : Nat) (zs : List Int) (W : World) (hB : Bytes W a len zs) :
    Calls Try.prog 8 #[.slice a len cap] W fun e w' => e = .returned (.bool true) ∧ Below W.heap.size W w' := by
  have HB := Lib.hid hB
  clear hB
  by_cases hbig : (1048576 : Int) < (len : Int)
  · go_enter Try.func8, Try.ntmps8
    go_wp2
    go_ret
    exact ⟨rfl, Below.refl _ _⟩
  · skip
    go_enter Try.func8, Try.ntmps8
    go_wp2_with fail
    go_at_call 23
    refine (big_any _ _ _ _).mono ?_
    rintro e w1 ⟨rfl, rfl⟩
    go_wp2_with fail
    go_at_call 43
    refine (drawCr_any _ _ _ _ _ (bytes_grow HB.out (gby_refl _ _)) (by omega)).mono ?_
    rintro e w2 ⟨v1_, v2_, xs, ys, rfl, hok, o, g⟩
    have HOK := Lib.hid hok
    obtain ⟨a1, n1, c1, hv_⟩ := RdL.form (OwU.rd o)
    subst hv_
    obtain ⟨a2, n2, c2, hv_⟩ := RdL.form (OwU.rd (OwU.tail o))
    subst hv_
    have HXv := Lib.hid (OwU.rd o)
    have HYv := Lib.hid (OwU.rd (OwU.tail o))
    clear o hok
    have szw2 := g.size
    try simp only [World.size_alloc] at szw2
    have G1_ := Lib.hid (show (W).grownBy (w2) none from gby_trans (gby_refl _ _) g)
    clear g
    have HTt2_ := Lib.hid (gby_refl (w2) none)
    have MG3_ := Lib.hid (show (W).grownBy (w2) none from G1_.out)
    have al_ : (w2).grownBy ((w2).alloc (.cells #[.slice a1 n1 c1, .slice a2 n2 c2] 54)) none := gby_alloc (gby_refl _ _) _
    have G4_ := Lib.hid (show (W).grownBy ((w2.alloc (.cells #[.slice a1 n1 c1, .slice a2 n2 c2] 54))) none from gby_trans G1_.out al_)
    have HTt5_ := Lib.hid (show (w2).grownBy ((w2.alloc (.cells #[.slice a1 n1 c1, .slice a2 n2 c2] 54))) none from gby_trans HTt2_.out al_)
    clear HTt2_
    have rC6_ := Lib.hid (show ((w2.alloc (.cells #[.slice a1 n1 c1, .slice a2 n2 c2] 54))).heap[w2.heap.size]? = some (.cells #[.slice a1 n1 c1, .slice a2 n2 c2] 54 (0, 0)) from by first | exact heap_alloc_new _ _ | exact heap_pair _ _ _ | exact heap_trip _ _ _ _)
    clear al_
    have C_0_ : ((w2.alloc (.cells #[.slice a1 n1 c1, .slice a2 n2 c2] 54))).cell? ⟨w2.heap.size, 0, none⟩ = some (.slice a1 n1 c1) := cell_of_row _ _ 0 _ _ _ rC6_.out
    have C_1_ : ((w2.alloc (.cells #[.slice a1 n1 c1, .slice a2 n2 c2] 54))).cell? ⟨w2.heap.size, 1, none⟩ = some (.slice a2 n2 c2) := cell_of_row _ _ 1 _ _ _ rC6_.out
    go_wp2_with fail
    go_at_call 44
    refine (drawPacket_any _ _ _ _ _ (bytes_grow HB.out G4_.out) (by omega)).mono ?_
    rintro e w3 ⟨q0, q1, q2, q3, q4, q5, q6, da, dn, dc, zs, rfl, hpk, hdi, hd8, g⟩
    obtain ⟨p, hp⟩ : ∃ p : DPacket, p = ⟨q0, q1, q2, q3, q4, q5, q6, zs⟩ := ⟨_, rfl⟩
    have f7 : zs = p.f7 := by rw [hp]
    have f0 : q0 = p.f0 := by rw [hp]
    have f1 : q1 = p.f1 := by rw [hp]
    have f2 : q2 = p.f2 := by rw [hp]
    have f3 : q3 = p.f3 := by rw [hp]
    have f4 : q4 = p.f4 := by rw [hp]
    have f5 : q5 = p.f5 := by rw [hp]
    have f6 : q6 = p.f6 := by rw [hp]
    clear hp
    subst f0 f1 f2 f3 f4 f5 f6 f7
    have hdn : dn = p.f7.length := hdi.1
    subst hdn
    have HP := Lib.hid (show RdL shI w3 (.slice da p.f7.length dc) p.f7 from rdI_out (by omega) ⟨da, dc, rfl, hdi, hpk.2⟩)
    have HPL := Lib.hid (show szL shI p.f7 ≤ 1048576 by rw [szL_I]; omega)
    have hcl : clsD p = clsI p.f0 := by unfold clsD; rw [if_pos hpk.1]
    have hci := clsI_in p.f0
    obtain ⟨k, hk⟩ : ∃ k : Nat, clsD p = (k : Int) := ⟨(clsD p).toNat, by omega⟩
    have hk3 : k < 3 := by omega
    obtain ⟨u, hu⟩ : ∃ u, untD p = u := ⟨_, rfl⟩
    have hu0 : 0 ≤ u ∧ u ≤ 1000000 := by rw [← hu]; unfold untD; omega
    have HK := Lib.hid hk
    have HU := Lib.hid hu
    have HDN := Lib.hid hd8
    clear hpk hdi hd8 hcl hci hk hu
    obtain ⟨dn, hdn⟩ : ∃ n, n = p.f7.length := ⟨_, rfl⟩
    rw [← hdn] at HP ⊢
    clear hdn
    unfold pkV
    have szw3 := g.size
    try simp only [World.size_alloc] at szw3
    clear C_0_ C_1_
    have rC7_ := Lib.hid (show (w3).heap[w2.heap.size]? = some (.cells #[.slice a1 n1 c1, .slice a2 n2 c2] 54 (0, 0)) from row_held g rC6_.out)
    clear rC6_
    have G8_ := Lib.hid (show (W).grownBy (w3) none from gby_trans G4_.out g)
    have HTt9_ := Lib.hid (show (w2).grownBy (w3) none from gby_trans HTt5_.out g)
    clear HTt5_
    clear g
    have C_0_ : (w3).cell? ⟨w2.heap.size, 0, none⟩ = some (.slice a1 n1 c1) := cell_of_row _ _ 0 _ _ _ rC7_.out
    have C_1_ : (w3).cell? ⟨w2.heap.size, 1, none⟩ = some (.slice a2 n2 c2) := cell_of_row _ _ 1 _ _ _ rC7_.out
    have HTp10_ := Lib.hid (gby_refl (w3) none)
    have MG11_ := Lib.hid (show (W).grownBy (w3) none from G8_.out)
    have MR12_ := Lib.hid rC7_.out
    clear C_0_ C_1_
    have al_ : (w3).grownBy ((w3).alloc (.cells #[.int .i64 p.f0, .int .i64 p.f1, .int .i64 p.f2, .int .i64 p.f3, .int .i64 p.f4, .int .i64 p.f5, .int .i64 p.f6, .slice da dn dc] 29)) none := gby_alloc (gby_refl _ _) _
    have rC13_ := Lib.hid (show ((w3.alloc (.cells #[.int .i64 p.f0, .int .i64 p.f1, .int .i64 p.f2, .int .i64 p.f3, .int .i64 p.f4, .int .i64 p.f5, .int .i64 p.f6, .slice da dn dc] 29))).heap[w2.heap.size]? = some (.cells #[.slice a1 n1 c1, .slice a2 n2 c2] 54 (0, 0)) from row_held al_ rC7_.out)
    clear rC7_
    have G14_ := Lib.hid (show (W).grownBy ((w3.alloc (.cells #[.int .i64 p.f0, .int .i64 p.f1, .int .i64 p.f2, .int .i64 p.f3, .int .i64 p.f4, .int .i64 p.f5, .int .i64 p.f6, .slice da dn dc] 29))) none from gby_trans G8_.out al_)
    have HTt15_ := Lib.hid (show (w2).grownBy ((w3.alloc (.cells #[.int .i64 p.f0, .int .i64 p.f1, .int .i64 p.f2, .int .i64 p.f3, .int .i64 p.f4, .int .i64 p.f5, .int .i64 p.f6, .slice da dn dc] 29))) none from gby_trans HTt9_.out al_)
    clear HTt9_
    have HTp16_ := Lib.hid (show (w3).grownBy ((w3.alloc (.cells #[.int .i64 p.f0, .int .i64 p.f1, .int .i64 p.f2, .int .i64 p.f3, .int .i64 p.f4, .int .i64 p.f5, .int .i64 p.f6, .slice da dn dc] 29))) none from gby_trans HTp10_.out al_)
    clear HTp10_
    have rK17_ := Lib.hid (show ((w3.alloc (.cells #[.int .i64 p.f0, .int .i64 p.f1, .int .i64 p.f2, .int .i64 p.f3, .int .i64 p.f4, .int .i64 p.f5, .int .i64 p.f6, .slice da dn dc] 29))).heap[w3.heap.size]? = some (.cells #[.int .i64 p.f0, .int .i64 p.f1, .int .i64 p.f2, .int .i64 p.f3, .int .i64 p.f4, .int .i64 p.f5, .int .i64 p.f6, .slice da dn dc] 29 (0, 0)) from by first | exact heap_alloc_new _ _ | exact heap_pair _ _ _ | exact heap_trip _ _ _ _)
    clear al_
    have C_0_ : ((w3.alloc (.cells #[.int .i64 p.f0, .int .i64 p.f1, .int .i64 p.f2, .int .i64 p.f3, .int .i64 p.f4, .int .i64 p.f5, .int .i64 p.f6, .slice da dn dc] 29))).cell? ⟨w2.heap.size, 0, none⟩ = some (.slice a1 n1 c1) := cell_of_row _ _ 0 _ _ _ rC13_.out
    have C_1_ : ((w3.alloc (.cells #[.int .i64 p.f0, .int .i64 p.f1, .int .i64 p.f2, .int .i64 p.f3, .int .i64 p.f4, .int .i64 p.f5, .int .i64 p.f6, .slice da dn dc] 29))).cell? ⟨w2.heap.size, 1, none⟩ = some (.slice a2 n2 c2) := cell_of_row _ _ 1 _ _ _ rC13_.out
    have K_0_ : ((w3.alloc (.cells #[.int .i64 p.f0, .int .i64 p.f1, .int .i64 p.f2, .int .i64 p.f3, .int .i64 p.f4, .int .i64 p.f5, .int .i64 p.f6, .slice da dn dc] 29))).cell? ⟨w3.heap.size, 0, none⟩ = some (.int .i64 p.f0) := cell_of_row _ _ 0 _ _ _ rK17_.out
    have K_1_ : ((w3.alloc (.cells #[.int .i64 p.f0, .int .i64 p.f1, .int .i64 p.f2, .int .i64 p.f3, .int .i64 p.f4, .int .i64 p.f5, .int .i64 p.f6, .slice da dn dc] 29))).cell? ⟨w3.heap.size, 1, none⟩ = some (.int .i64 p.f1) := cell_of_row _ _ 1 _ _ _ rK17_.out
    have K_2_ : ((w3.alloc (.cells #[.int .i64 p.f0, .int .i64 p.f1, .int .i64 p.f2, .int .i64 p.f3, .int .i64 p.f4, .int .i64 p.f5, .int .i64 p.f6, .slice da dn dc] 29))).cell? ⟨w3.heap.size, 2, none⟩ = some (.int .i64 p.f2) := cell_of_row _ _ 2 _ _ _ rK17_.out
    have K_3_ : ((w3.alloc (.cells #[.int .i64 p.f0, .int .i64 p.f1, .int .i64 p.f2, .int .i64 p.f3, .int .i64 p.f4, .int .i64 p.f5, .int .i64 p.f6, .slice da dn dc] 29))).cell? ⟨w3.heap.size, 3, none⟩ = some (.int .i64 p.f3) := cell_of_row _ _ 3 _ _ _ rK17_.out
    have K_4_ : ((w3.alloc (.cells #[.int .i64 p.f0, .int .i64 p.f1, .int .i64 p.f2, .int .i64 p.f3, .int .i64 p.f4, .int .i64 p.f5, .int .i64 p.f6, .slice da dn dc] 29))).cell? ⟨w3.heap.size, 4, none⟩ = some (.int .i64 p.f4) := cell_of_row _ _ 4 _ _ _ rK17_.out
    have K_5_ : ((w3.alloc (.cells #[.int .i64 p.f0, .int .i64 p.f1, .int .i64 p.f2, .int .i64 p.f3, .int .i64 p.f4, .int .i64 p.f5, .int .i64 p.f6, .slice da dn dc] 29))).cell? ⟨w3.heap.size, 5, none⟩ = some (.int .i64 p.f5) := cell_of_row _ _ 5 _ _ _ rK17_.out
    have K_6_ : ((w3.alloc (.cells #[.int .i64 p.f0, .int .i64 p.f1, .int .i64 p.f2, .int .i64 p.f3, .int .i64 p.f4, .int .i64 p.f5, .int .i64 p.f6, .slice da dn dc] 29))).cell? ⟨w3.heap.size, 6, none⟩ = some (.int .i64 p.f6) := cell_of_row _ _ 6 _ _ _ rK17_.out
    have K_7_ : ((w3.alloc (.cells #[.int .i64 p.f0, .int .i64 p.f1, .int .i64 p.f2, .int .i64 p.f3, .int .i64 p.f4, .int .i64 p.f5, .int .i64 p.f6, .slice da dn dc] 29))).cell? ⟨w3.heap.size, 7, none⟩ = some (.slice da dn dc) := cell_of_row _ _ 7 _ _ _ rK17_.out
    have HX1 := Lib.hid (szs HOK.out.1)
    have HY1 := Lib.hid (szs HOK.out.2)
    by_cases hw : CanP xs ys (k : Int) u
    rotate_left
    · have HCAN := Lib.hid (show ∀ (W : World) (z0 z1 z2 : Value), RdL shI W z0 xs → RdL shI W z1 ys → RdL shI W z2 p.f7 → Calls Try.prog 45 #[.agg #[z0, z1], .agg #[.int .i64 p.f0, .int .i64 p.f1, .int .i64 p.f2, .int .i64 p.f3, .int .i64 p.f4, .int .i64 p.f5, .int .i64 p.f6, z2]] W (AnsN (.bool false) W) from fun W z0 z1 z2 h0 h1 h2 => by
        have q := implCanD W z0 z1 z2 xs ys p h0 h1 h2 HX1.out HY1.out HPL.out
        rw [HK.out, HU.out, decide_eq_false hw] at q
        exact q)
      go_wp2_with fail
      go_at_call 37
      refine (implSpendCredits_no _ _ _ _ xs ys p (HXv.out.grow HTt15_.out) (HYv.out.grow HTt15_.out) (HP.out.grow HTp16_.out) HX1.out HY1.out HPL.out k u HK.out hk3 HOK.out HU.out hu0.1 hu0.2 hw).mono ?_
      rintro e w4 ⟨d1_, d2_, rfl, o, g⟩
      have szw4 := g.size
      try simp only [World.size_alloc] at szw4
      obtain ⟨e1, m1, b1, hv_⟩ := RdL.form (OwU.rd o)
      subst hv_
      obtain ⟨e2, m2, b2, hv_⟩ := RdL.form (OwU.rd (OwU.tail o))
      subst hv_
      have HD1 := Lib.hid (OwU.rd o)
      have HD2 := Lib.hid (OwU.rd (OwU.tail o))
      clear o
      clear C_0_ C_1_ K_0_ K_1_ K_2_ K_3_ K_4_ K_5_ K_6_ K_7_
      have rC18_ := Lib.hid (show (w4).heap[w2.heap.size]? = some (.cells #[.slice a1 n1 c1, .slice a2 n2 c2] 54 (0, 0)) from row_held g rC13_.out)
      clear rC13_
      have rK19_ := Lib.hid (show (w4).heap[w3.heap.size]? = some (.cells #[.int .i64 p.f0, .int .i64 p.f1, .int .i64 p.f2, .int .i64 p.f3, .int .i64 p.f4, .int .i64 p.f5, .int .i64 p.f6, .slice da dn dc] 29 (0, 0)) from row_held g rK17_.out)
      clear rK17_
      have G20_ := Lib.hid (show (W).grownBy (w4) none from gby_trans G14_.out g)
      have HTt21_ := Lib.hid (show (w2).grownBy (w4) none from gby_trans HTt15_.out g)
      clear HTt15_
      have HTp22_ := Lib.hid (show (w3).grownBy (w4) none from gby_trans HTp16_.out g)
      clear HTp16_
      clear g
      have C_0_ : (w4).cell? ⟨w2.heap.size, 0, none⟩ = some (.slice a1 n1 c1) := cell_of_row _ _ 0 _ _ _ rC18_.out
      have C_1_ : (w4).cell? ⟨w2.heap.size, 1, none⟩ = some (.slice a2 n2 c2) := cell_of_row _ _ 1 _ _ _ rC18_.out
      have K_0_ : (w4).cell? ⟨w3.heap.size, 0, none⟩ = some (.int .i64 p.f0) := cell_of_row _ _ 0 _ _ _ rK19_.out
      have K_1_ : (w4).cell? ⟨w3.heap.size, 1, none⟩ = some (.int .i64 p.f1) := cell_of_row _ _ 1 _ _ _ rK19_.out
      have K_2_ : (w4).cell? ⟨w3.heap.size, 2, none⟩ = some (.int .i64 p.f2) := cell_of_row _ _ 2 _ _ _ rK19_.out
      have K_3_ : (w4).cell? ⟨w3.heap.size, 3, none⟩ = some (.int .i64 p.f3) := cell_of_row _ _ 3 _ _ _ rK19_.out
      have K_4_ : (w4).cell? ⟨w3.heap.size, 4, none⟩ = some (.int .i64 p.f4) := cell_of_row _ _ 4 _ _ _ rK19_.out
      have K_5_ : (w4).cell? ⟨w3.heap.size, 5, none⟩ = some (.int .i64 p.f5) := cell_of_row _ _ 5 _ _ _ rK19_.out
      have K_6_ : (w4).cell? ⟨w3.heap.size, 6, none⟩ = some (.int .i64 p.f6) := cell_of_row _ _ 6 _ _ _ rK19_.out
      have K_7_ : (w4).cell? ⟨w3.heap.size, 7, none⟩ = some (.slice da dn dc) := cell_of_row _ _ 7 _ _ _ rK19_.out
      have HTd23_ := Lib.hid (gby_refl (w4) none)
      have MG24_ := Lib.hid (show (W).grownBy (w4) none from G20_.out)
      have MR25_ := Lib.hid rC18_.out
      have MR26_ := Lib.hid rK19_.out
      clear C_0_ C_1_ K_0_ K_1_ K_2_ K_3_ K_4_ K_5_ K_6_ K_7_
      have al_ : (w4).grownBy ((w4).alloc (.cells #[.slice e1 m1 b1, .slice e2 m2 b2] 54)) none := gby_alloc (gby_refl _ _) _
      have rC27_ := Lib.hid (show ((w4.alloc (.cells #[.slice e1 m1 b1, .slice e2 m2 b2] 54))).heap[w2.heap.size]? = some (.cells #[.slice a1 n1 c1, .slice a2 n2 c2] 54 (0, 0)) from row_held al_ rC18_.out)
      clear rC18_
      have rK28_ := Lib.hid (show ((w4.alloc (.cells #[.slice e1 m1 b1, .slice e2 m2 b2] 54))).heap[w3.heap.size]? = some (.cells #[.int .i64 p.f0, .int .i64 p.f1, .int .i64 p.f2, .int .i64 p.f3, .int .i64 p.f4, .int .i64 p.f5, .int .i64 p.f6, .slice da dn dc] 29 (0, 0)) from row_held al_ rK19_.out)
      clear rK19_
      have G29_ := Lib.hid (show (W).grownBy ((w4.alloc (.cells #[.slice e1 m1 b1, .slice e2 m2 b2] 54))) none from gby_trans G20_.out al_)
      have HTt30_ := Lib.hid (show (w2).grownBy ((w4.alloc (.cells #[.slice e1 m1 b1, .slice e2 m2 b2] 54))) none from gby_trans HTt21_.out al_)
      clear HTt21_
      have HTp31_ := Lib.hid (show (w3).grownBy ((w4.alloc (.cells #[.slice e1 m1 b1, .slice e2 m2 b2] 54))) none from gby_trans HTp22_.out al_)
      clear HTp22_
      have HTd32_ := Lib.hid (show (w4).grownBy ((w4.alloc (.cells #[.slice e1 m1 b1, .slice e2 m2 b2] 54))) none from gby_trans HTd23_.out al_)
      clear HTd23_
      have rD33_ := Lib.hid (show ((w4.alloc (.cells #[.slice e1 m1 b1, .slice e2 m2 b2] 54))).heap[w4.heap.size]? = some (.cells #[.slice e1 m1 b1, .slice e2 m2 b2] 54 (0, 0)) from by first | exact heap_alloc_new _ _ | exact heap_pair _ _ _ | exact heap_trip _ _ _ _)
      clear al_
      have C_0_ : ((w4.alloc (.cells #[.slice e1 m1 b1, .slice e2 m2 b2] 54))).cell? ⟨w2.heap.size, 0, none⟩ = some (.slice a1 n1 c1) := cell_of_row _ _ 0 _ _ _ rC27_.out
      have C_1_ : ((w4.alloc (.cells #[.slice e1 m1 b1, .slice e2 m2 b2] 54))).cell? ⟨w2.heap.size, 1, none⟩ = some (.slice a2 n2 c2) := cell_of_row _ _ 1 _ _ _ rC27_.out
      have K_0_ : ((w4.alloc (.cells #[.slice e1 m1 b1, .slice e2 m2 b2] 54))).cell? ⟨w3.heap.size, 0, none⟩ = some (.int .i64 p.f0) := cell_of_row _ _ 0 _ _ _ rK28_.out
      have K_1_ : ((w4.alloc (.cells #[.slice e1 m1 b1, .slice e2 m2 b2] 54))).cell? ⟨w3.heap.size, 1, none⟩ = some (.int .i64 p.f1) := cell_of_row _ _ 1 _ _ _ rK28_.out
      have K_2_ : ((w4.alloc (.cells #[.slice e1 m1 b1, .slice e2 m2 b2] 54))).cell? ⟨w3.heap.size, 2, none⟩ = some (.int .i64 p.f2) := cell_of_row _ _ 2 _ _ _ rK28_.out
      have K_3_ : ((w4.alloc (.cells #[.slice e1 m1 b1, .slice e2 m2 b2] 54))).cell? ⟨w3.heap.size, 3, none⟩ = some (.int .i64 p.f3) := cell_of_row _ _ 3 _ _ _ rK28_.out
      have K_4_ : ((w4.alloc (.cells #[.slice e1 m1 b1, .slice e2 m2 b2] 54))).cell? ⟨w3.heap.size, 4, none⟩ = some (.int .i64 p.f4) := cell_of_row _ _ 4 _ _ _ rK28_.out
      have K_5_ : ((w4.alloc (.cells #[.slice e1 m1 b1, .slice e2 m2 b2] 54))).cell? ⟨w3.heap.size, 5, none⟩ = some (.int .i64 p.f5) := cell_of_row _ _ 5 _ _ _ rK28_.out
      have K_6_ : ((w4.alloc (.cells #[.slice e1 m1 b1, .slice e2 m2 b2] 54))).cell? ⟨w3.heap.size, 6, none⟩ = some (.int .i64 p.f6) := cell_of_row _ _ 6 _ _ _ rK28_.out
      have K_7_ : ((w4.alloc (.cells #[.slice e1 m1 b1, .slice e2 m2 b2] 54))).cell? ⟨w3.heap.size, 7, none⟩ = some (.slice da dn dc) := cell_of_row _ _ 7 _ _ _ rK28_.out
      have D_0_ : ((w4.alloc (.cells #[.slice e1 m1 b1, .slice e2 m2 b2] 54))).cell? ⟨w4.heap.size, 0, none⟩ = some (.slice e1 m1 b1) := cell_of_row _ _ 0 _ _ _ rD33_.out
      have D_1_ : ((w4.alloc (.cells #[.slice e1 m1 b1, .slice e2 m2 b2] 54))).cell? ⟨w4.heap.size, 1, none⟩ = some (.slice e2 m2 b2) := cell_of_row _ _ 1 _ _ _ rD33_.out
      go_wp2_with fail
      go_at_call 45
      refine (HCAN.out _ _ _ _ (HXv.out.grow HTt30_.out) (HYv.out.grow HTt30_.out) (HP.out.grow HTp31_.out)).mono ?_
      rintro e w5 ⟨rfl, g⟩
      have szw5 := g.size
      try simp only [World.size_alloc] at szw5
      try simp only [World.size_setCell] at szw5
      clear C_0_ C_1_ K_0_ K_1_ K_2_ K_3_ K_4_ K_5_ K_6_ K_7_ D_0_ D_1_
      have rC34_ := Lib.hid (show (w5).heap[w2.heap.size]? = some (.cells #[.slice a1 n1 c1, .slice a2 n2 c2] 54 (0, 0)) from row_held g rC27_.out)
      clear rC27_
      have rK35_ := Lib.hid (show (w5).heap[w3.heap.size]? = some (.cells #[.int .i64 p.f0, .int .i64 p.f1, .int .i64 p.f2, .int .i64 p.f3, .int .i64 p.f4, .int .i64 p.f5, .int .i64 p.f6, .slice da dn dc] 29 (0, 0)) from row_held g rK28_.out)
      clear rK28_
      have rD36_ := Lib.hid (show (w5).heap[w4.heap.size]? = some (.cells #[.slice e1 m1 b1, .slice e2 m2 b2] 54 (0, 0)) from row_held g rD33_.out)
      clear rD33_
      have G37_ := Lib.hid (show (W).grownBy (w5) none from gby_trans G29_.out g)
      have HTt38_ := Lib.hid (show (w2).grownBy (w5) none from gby_trans HTt30_.out g)
      clear HTt30_
      have HTp39_ := Lib.hid (show (w3).grownBy (w5) none from gby_trans HTp31_.out g)
      clear HTp31_
      have HTd40_ := Lib.hid (show (w4).grownBy (w5) none from gby_trans HTd32_.out g)
      clear HTd32_
      clear g
      have C_0_ : (w5).cell? ⟨w2.heap.size, 0, none⟩ = some (.slice a1 n1 c1) := cell_of_row _ _ 0 _ _ _ rC34_.out
      have C_1_ : (w5).cell? ⟨w2.heap.size, 1, none⟩ = some (.slice a2 n2 c2) := cell_of_row _ _ 1 _ _ _ rC34_.out
      have K_0_ : (w5).cell? ⟨w3.heap.size, 0, none⟩ = some (.int .i64 p.f0) := cell_of_row _ _ 0 _ _ _ rK35_.out
      have K_1_ : (w5).cell? ⟨w3.heap.size, 1, none⟩ = some (.int .i64 p.f1) := cell_of_row _ _ 1 _ _ _ rK35_.out
      have K_2_ : (w5).cell? ⟨w3.heap.size, 2, none⟩ = some (.int .i64 p.f2) := cell_of_row _ _ 2 _ _ _ rK35_.out
      have K_3_ : (w5).cell? ⟨w3.heap.size, 3, none⟩ = some (.int .i64 p.f3) := cell_of_row _ _ 3 _ _ _ rK35_.out
      have K_4_ : (w5).cell? ⟨w3.heap.size, 4, none⟩ = some (.int .i64 p.f4) := cell_of_row _ _ 4 _ _ _ rK35_.out
      have K_5_ : (w5).cell? ⟨w3.heap.size, 5, none⟩ = some (.int .i64 p.f5) := cell_of_row _ _ 5 _ _ _ rK35_.out
      have K_6_ : (w5).cell? ⟨w3.heap.size, 6, none⟩ = some (.int .i64 p.f6) := cell_of_row _ _ 6 _ _ _ rK35_.out
      have K_7_ : (w5).cell? ⟨w3.heap.size, 7, none⟩ = some (.slice da dn dc) := cell_of_row _ _ 7 _ _ _ rK35_.out
      have D_0_ : (w5).cell? ⟨w4.heap.size, 0, none⟩ = some (.slice e1 m1 b1) := cell_of_row _ _ 0 _ _ _ rD36_.out
      have D_1_ : (w5).cell? ⟨w4.heap.size, 1, none⟩ = some (.slice e2 m2 b2) := cell_of_row _ _ 1 _ _ _ rD36_.out
      go_wp2_with fail
      go_at_call 46
      refine (sameCrD _ _ _ _ _ xs ys (HXv.out.grow HTt38_.out) (HYv.out.grow HTt38_.out) (HD1.out.grow HTd40_.out) (HD2.out.grow HTd40_.out) HX1.out HY1.out).mono ?_
      rintro e w6 ⟨rfl, g⟩
      have szw6 := g.size
      try simp only [World.size_alloc] at szw6
      try simp only [World.size_setCell] at szw6
      clear C_0_ C_1_ K_0_ K_1_ K_2_ K_3_ K_4_ K_5_ K_6_ K_7_ D_0_ D_1_
      have rC41_ := Lib.hid (show (w6).heap[w2.heap.size]? = some (.cells #[.slice a1 n1 c1, .slice a2 n2 c2] 54 (0, 0)) from row_held g rC34_.out)
      clear rC34_
      have rK42_ := Lib.hid (show (w6).heap[w3.heap.size]? = some (.cells #[.int .i64 p.f0, .int .i64 p.f1, .int .i64 p.f2, .int .i64 p.f3, .int .i64 p.f4, .int .i64 p.f5, .int .i64 p.f6, .slice da dn dc] 29 (0, 0)) from row_held g rK35_.out)
      clear rK35_
      have rD43_ := Lib.hid (show (w6).heap[w4.heap.size]? = some (.cells #[.slice e1 m1 b1, .slice e2 m2 b2] 54 (0, 0)) from row_held g rD36_.out)
      clear rD36_
      have G44_ := Lib.hid (show (W).grownBy (w6) none from gby_trans G37_.out g)
      have HTt45_ := Lib.hid (show (w2).grownBy (w6) none from gby_trans HTt38_.out g)
      clear HTt38_
      have HTp46_ := Lib.hid (show (w3).grownBy (w6) none from gby_trans HTp39_.out g)
      clear HTp39_
      have HTd47_ := Lib.hid (show (w4).grownBy (w6) none from gby_trans HTd40_.out g)
      clear HTd40_
      clear g
      have C_0_ : (w6).cell? ⟨w2.heap.size, 0, none⟩ = some (.slice a1 n1 c1) := cell_of_row _ _ 0 _ _ _ rC41_.out
      have C_1_ : (w6).cell? ⟨w2.heap.size, 1, none⟩ = some (.slice a2 n2 c2) := cell_of_row _ _ 1 _ _ _ rC41_.out
      have K_0_ : (w6).cell? ⟨w3.heap.size, 0, none⟩ = some (.int .i64 p.f0) := cell_of_row _ _ 0 _ _ _ rK42_.out
      have K_1_ : (w6).cell? ⟨w3.heap.size, 1, none⟩ = some (.int .i64 p.f1) := cell_of_row _ _ 1 _ _ _ rK42_.out
      have K_2_ : (w6).cell? ⟨w3.heap.size, 2, none⟩ = some (.int .i64 p.f2) := cell_of_row _ _ 2 _ _ _ rK42_.out
      have K_3_ : (w6).cell? ⟨w3.heap.size, 3, none⟩ = some (.int .i64 p.f3) := cell_of_row _ _ 3 _ _ _ rK42_.out
      have K_4_ : (w6).cell? ⟨w3.heap.size, 4, none⟩ = some (.int .i64 p.f4) := cell_of_row _ _ 4 _ _ _ rK42_.out
      have K_5_ : (w6).cell? ⟨w3.heap.size, 5, none⟩ = some (.int .i64 p.f5) := cell_of_row _ _ 5 _ _ _ rK42_.out
      have K_6_ : (w6).cell? ⟨w3.heap.size, 6, none⟩ = some (.int .i64 p.f6) := cell_of_row _ _ 6 _ _ _ rK42_.out
      have K_7_ : (w6).cell? ⟨w3.heap.size, 7, none⟩ = some (.slice da dn dc) := cell_of_row _ _ 7 _ _ _ rK42_.out
      have D_0_ : (w6).cell? ⟨w4.heap.size, 0, none⟩ = some (.slice e1 m1 b1) := cell_of_row _ _ 0 _ _ _ rD43_.out
      have D_1_ : (w6).cell? ⟨w4.heap.size, 1, none⟩ = some (.slice e2 m2 b2) := cell_of_row _ _ 1 _ _ _ rD43_.out
      go_wp2
      go_ret
      exact ⟨rfl, gby_below G44_.out⟩
    have HCAN := Lib.hid (show ∀ (W : World) (z0 z1 z2 : Value), RdL shI W z0 xs → RdL shI W z1 ys → RdL shI W z2 p.f7 → Calls Try.prog 45 #[.agg #[z0, z1], .agg #[.int .i64 p.f0, .int .i64 p.f1, .int .i64 p.f2, .int .i64 p.f3, .int .i64 p.f4, .int .i64 p.f5, .int .i64 p.f6, z2]] W (AnsN (.bool true) W) from fun W z0 z1 z2 h0 h1 h2 => by
      have q := implCanD W z0 z1 z2 xs ys p h0 h1 h2 HX1.out HY1.out HPL.out
      rw [HK.out, HU.out, decide_eq_true hw] at q
      exact q)
    have hux := can_at hw
    obtain ⟨hxl, hyl, hx0, hx30, hy0, hy30⟩ := crd_at HOK.out hk3
    have HC2 := Lib.hid (show CrdOk (xs.set k (xs.getD k 0 - 1)) (ys.set k (ys.getD k 0 - u)) from ⟨cnt_set HOK.out.1 (by omega) (by omega), cnt_set HOK.out.2 (by omega) (by omega)⟩)
    have B1 := Lib.hid (set_getI (xs := xs) (k := k) (a := xs.getD k 0 - 1) (by omega))
    have B2 := Lib.hid (set_getI (xs := ys) (k := k) (a := ys.getD k 0 - u) (by omega))
    have B3 := Lib.hid (show (xs.set k (xs.getD k 0 - 1)).set k (xs.getD k 0 - 1 + 1) = xs by rw [List.set_set, show xs.getD k 0 - 1 + 1 = xs.getD k 0 by omega]; exact set_sameI (by omega))
    have B4 := Lib.hid (show (ys.set k (ys.getD k 0 - u)).set k (ys.getD k 0 - u + u) = ys by rw [List.set_set, show ys.getD k 0 - u + u = ys.getD k 0 by omega]; exact set_sameI (by omega))
    have HSP := Lib.hid (fun (W : World) (z0 z1 z2 : Value) h0 h1 h2 => implSpendCredits_yes W z0 z1 z2 xs ys p h0 h1 h2 HX1.out HY1.out HPL.out k u HK.out hk3 HOK.out HU.out hu0.1 hu0.2 hw hux.2)
    obtain ⟨x2, hx2⟩ : ∃ x, x = xs.set k (xs.getD k 0 - 1) := ⟨_, rfl⟩
    obtain ⟨y2, hy2⟩ : ∃ y, y = ys.set k (ys.getD k 0 - u) := ⟨_, rfl⟩
    have HRT := Lib.hid (show ∀ (W : World) (z0 z1 z2 : Value), RdL shI W z0 x2 → RdL shI W z1 y2 → RdL shI W z2 p.f7 → Calls Try.prog 42 #[.agg #[z0, z1], .agg #[.int .i64 p.f0, .int .i64 p.f1, .int .i64 p.f2, .int .i64 p.f3, .int .i64 p.f4, .int .i64 p.f5, .int .i64 p.f6, z2]] W (ResIReturnCredits xs ys true W) from fun W z0 z1 z2 h0 h1 h2 => by
      have q := implReturnCredits_yes W z0 z1 z2 x2 y2 p h0 h1 h2 (by rw [hx2]; exact szs HC2.out.1) (by rw [hy2]; exact szs HC2.out.2) HPL.out k u HK.out hk3 (by rw [hx2, hy2]; exact HC2.out) HU.out hu0.1 hu0.2 (by rw [hx2, B1.out]; omega) (by rw [hy2, B2.out]; omega)
      rw [hx2, hy2, B1.out, B2.out, B3.out, B4.out] at q
      exact q)
    rw [← hx2, ← hy2] at HSP HC2
    have HX2 := Lib.hid (szs HC2.out.1)
    have HY2 := Lib.hid (szs HC2.out.2)
    clear hux hxl hyl hx0 hx30 hy0 hy30 hx2 hy2 B1 B2 B3 B4
    go_wp2_with fail
    go_at_call 37
    refine (HSP.out _ _ _ _ (HXv.out.grow HTt15_.out) (HYv.out.grow HTt15_.out) (HP.out.grow HTp16_.out)).mono ?_
    rintro e w4 ⟨d1_, d2_, rfl, o, g⟩
    have szw4 := g.size
    try simp only [World.size_alloc] at szw4
    obtain ⟨e1, m1, b1, hv_⟩ := RdL.form (OwU.rd o)
    subst hv_
    obtain ⟨e2, m2, b2, hv_⟩ := RdL.form (OwU.rd (OwU.tail o))
    subst hv_
    have HD1 := Lib.hid (OwU.rd o)
    have HD2 := Lib.hid (OwU.rd (OwU.tail o))
    clear o
    clear C_0_ C_1_ K_0_ K_1_ K_2_ K_3_ K_4_ K_5_ K_6_ K_7_
    have rC18_ := Lib.hid (show (w4).heap[w2.heap.size]? = some (.cells #[.slice a1 n1 c1, .slice a2 n2 c2] 54 (0, 0)) from row_held g rC13_.out)
    clear rC13_
    have rK19_ := Lib.hid (show (w4).heap[w3.heap.size]? = some (.cells #[.int .i64 p.f0, .int .i64 p.f1, .int .i64 p.f2, .int .i64 p.f3, .int .i64 p.f4, .int .i64 p.f5, .int .i64 p.f6, .slice da dn dc] 29 (0, 0)) from row_held g rK17_.out)
    clear rK17_
    have G20_ := Lib.hid (show (W).grownBy (w4) none from gby_trans G14_.out g)
    have HTt21_ := Lib.hid (show (w2).grownBy (w4) none from gby_trans HTt15_.out g)
    clear HTt15_
    have HTp22_ := Lib.hid (show (w3).grownBy (w4) none from gby_trans HTp16_.out g)
    clear HTp16_
    clear g
    have C_0_ : (w4).cell? ⟨w2.heap.size, 0, none⟩ = some (.slice a1 n1 c1) := cell_of_row _ _ 0 _ _ _ rC18_.out
    have C_1_ : (w4).cell? ⟨w2.heap.size, 1, none⟩ = some (.slice a2 n2 c2) := cell_of_row _ _ 1 _ _ _ rC18_.out
    have K_0_ : (w4).cell? ⟨w3.heap.size, 0, none⟩ = some (.int .i64 p.f0) := cell_of_row _ _ 0 _ _ _ rK19_.out
    have K_1_ : (w4).cell? ⟨w3.heap.size, 1, none⟩ = some (.int .i64 p.f1) := cell_of_row _ _ 1 _ _ _ rK19_.out
    have K_2_ : (w4).cell? ⟨w3.heap.size, 2, none⟩ = some (.int .i64 p.f2) := cell_of_row _ _ 2 _ _ _ rK19_.out
    have K_3_ : (w4).cell? ⟨w3.heap.size, 3, none⟩ = some (.int .i64 p.f3) := cell_of_row _ _ 3 _ _ _ rK19_.out
    have K_4_ : (w4).cell? ⟨w3.heap.size, 4, none⟩ = some (.int .i64 p.f4) := cell_of_row _ _ 4 _ _ _ rK19_.out
    have K_5_ : (w4).cell? ⟨w3.heap.size, 5, none⟩ = some (.int .i64 p.f5) := cell_of_row _ _ 5 _ _ _ rK19_.out
    have K_6_ : (w4).cell? ⟨w3.heap.size, 6, none⟩ = some (.int .i64 p.f6) := cell_of_row _ _ 6 _ _ _ rK19_.out
    have K_7_ : (w4).cell? ⟨w3.heap.size, 7, none⟩ = some (.slice da dn dc) := cell_of_row _ _ 7 _ _ _ rK19_.out
    have HTd23_ := Lib.hid (gby_refl (w4) none)
    have MG24_ := Lib.hid (show (W).grownBy (w4) none from G20_.out)
    have MR25_ := Lib.hid rC18_.out
    have MR26_ := Lib.hid rK19_.out
    clear C_0_ C_1_ K_0_ K_1_ K_2_ K_3_ K_4_ K_5_ K_6_ K_7_
    have al_ : (w4).grownBy ((w4).alloc (.cells #[.slice e1 m1 b1, .slice e2 m2 b2] 54)) none := gby_alloc (gby_refl _ _) _
    have rC27_ := Lib.hid (show ((w4.alloc (.cells #[.slice e1 m1 b1, .slice e2 m2 b2] 54))).heap[w2.heap.size]? = some (.cells #[.slice a1 n1 c1, .slice a2 n2 c2] 54 (0, 0)) from row_held al_ rC18_.out)
    clear rC18_
    have rK28_ := Lib.hid (show ((w4.alloc (.cells #[.slice e1 m1 b1, .slice e2 m2 b2] 54))).heap[w3.heap.size]? = some (.cells #[.int .i64 p.f0, .int .i64 p.f1, .int .i64 p.f2, .int .i64 p.f3, .int .i64 p.f4, .int .i64 p.f5, .int .i64 p.f6, .slice da dn dc] 29 (0, 0)) from row_held al_ rK19_.out)
    clear rK19_
    have G29_ := Lib.hid (show (W).grownBy ((w4.alloc (.cells #[.slice e1 m1 b1, .slice e2 m2 b2] 54))) none from gby_trans G20_.out al_)
    have HTt30_ := Lib.hid (show (w2).grownBy ((w4.alloc (.cells #[.slice e1 m1 b1, .slice e2 m2 b2] 54))) none from gby_trans HTt21_.out al_)
    clear HTt21_
    have HTp31_ := Lib.hid (show (w3).grownBy ((w4.alloc (.cells #[.slice e1 m1 b1, .slice e2 m2 b2] 54))) none from gby_trans HTp22_.out al_)
    clear HTp22_
    have HTd32_ := Lib.hid (show (w4).grownBy ((w4.alloc (.cells #[.slice e1 m1 b1, .slice e2 m2 b2] 54))) none from gby_trans HTd23_.out al_)
    clear HTd23_
    have rD33_ := Lib.hid (show ((w4.alloc (.cells #[.slice e1 m1 b1, .slice e2 m2 b2] 54))).heap[w4.heap.size]? = some (.cells #[.slice e1 m1 b1, .slice e2 m2 b2] 54 (0, 0)) from by first | exact heap_alloc_new _ _ | exact heap_pair _ _ _ | exact heap_trip _ _ _ _)
    clear al_
    have C_0_ : ((w4.alloc (.cells #[.slice e1 m1 b1, .slice e2 m2 b2] 54))).cell? ⟨w2.heap.size, 0, none⟩ = some (.slice a1 n1 c1) := cell_of_row _ _ 0 _ _ _ rC27_.out
    have C_1_ : ((w4.alloc (.cells #[.slice e1 m1 b1, .slice e2 m2 b2] 54))).cell? ⟨w2.heap.size, 1, none⟩ = some (.slice a2 n2 c2) := cell_of_row _ _ 1 _ _ _ rC27_.out
    have K_0_ : ((w4.alloc (.cells #[.slice e1 m1 b1, .slice e2 m2 b2] 54))).cell? ⟨w3.heap.size, 0, none⟩ = some (.int .i64 p.f0) := cell_of_row _ _ 0 _ _ _ rK28_.out
    have K_1_ : ((w4.alloc (.cells #[.slice e1 m1 b1, .slice e2 m2 b2] 54))).cell? ⟨w3.heap.size, 1, none⟩ = some (.int .i64 p.f1) := cell_of_row _ _ 1 _ _ _ rK28_.out
    have K_2_ : ((w4.alloc (.cells #[.slice e1 m1 b1, .slice e2 m2 b2] 54))).cell? ⟨w3.heap.size, 2, none⟩ = some (.int .i64 p.f2) := cell_of_row _ _ 2 _ _ _ rK28_.out
    have K_3_ : ((w4.alloc (.cells #[.slice e1 m1 b1, .slice e2 m2 b2] 54))).cell? ⟨w3.heap.size, 3, none⟩ = some (.int .i64 p.f3) := cell_of_row _ _ 3 _ _ _ rK28_.out
    have K_4_ : ((w4.alloc (.cells #[.slice e1 m1 b1, .slice e2 m2 b2] 54))).cell? ⟨w3.heap.size, 4, none⟩ = some (.int .i64 p.f4) := cell_of_row _ _ 4 _ _ _ rK28_.out
    have K_5_ : ((w4.alloc (.cells #[.slice e1 m1 b1, .slice e2 m2 b2] 54))).cell? ⟨w3.heap.size, 5, none⟩ = some (.int .i64 p.f5) := cell_of_row _ _ 5 _ _ _ rK28_.out
    have K_6_ : ((w4.alloc (.cells #[.slice e1 m1 b1, .slice e2 m2 b2] 54))).cell? ⟨w3.heap.size, 6, none⟩ = some (.int .i64 p.f6) := cell_of_row _ _ 6 _ _ _ rK28_.out
    have K_7_ : ((w4.alloc (.cells #[.slice e1 m1 b1, .slice e2 m2 b2] 54))).cell? ⟨w3.heap.size, 7, none⟩ = some (.slice da dn dc) := cell_of_row _ _ 7 _ _ _ rK28_.out
    have D_0_ : ((w4.alloc (.cells #[.slice e1 m1 b1, .slice e2 m2 b2] 54))).cell? ⟨w4.heap.size, 0, none⟩ = some (.slice e1 m1 b1) := cell_of_row _ _ 0 _ _ _ rD33_.out
    have D_1_ : ((w4.alloc (.cells #[.slice e1 m1 b1, .slice e2 m2 b2] 54))).cell? ⟨w4.heap.size, 1, none⟩ = some (.slice e2 m2 b2) := cell_of_row _ _ 1 _ _ _ rD33_.out
    go_wp2_with fail
    go_at_call 45
    refine (HCAN.out _ _ _ _ (HXv.out.grow HTt30_.out) (HYv.out.grow HTt30_.out) (HP.out.grow HTp31_.out)).mono ?_
    rintro e w5 ⟨rfl, g⟩
    have szw5 := g.size
    try simp only [World.size_alloc] at szw5
    try simp only [World.size_setCell] at szw5
    clear C_0_ C_1_ K_0_ K_1_ K_2_ K_3_ K_4_ K_5_ K_6_ K_7_ D_0_ D_1_
    have rC34_ := Lib.hid (show (w5).heap[w2.heap.size]? = some (.cells #[.slice a1 n1 c1, .slice a2 n2 c2] 54 (0, 0)) from row_held g rC27_.out)
    clear rC27_
    have rK35_ := Lib.hid (show (w5).heap[w3.heap.size]? = some (.cells #[.int .i64 p.f0, .int .i64 p.f1, .int .i64 p.f2, .int .i64 p.f3, .int .i64 p.f4, .int .i64 p.f5, .int .i64 p.f6, .slice da dn dc] 29 (0, 0)) from row_held g rK28_.out)
    clear rK28_
    have rD36_ := Lib.hid (show (w5).heap[w4.heap.size]? = some (.cells #[.slice e1 m1 b1, .slice e2 m2 b2] 54 (0, 0)) from row_held g rD33_.out)
    clear rD33_
    have G37_ := Lib.hid (show (W).grownBy (w5) none from gby_trans G29_.out g)
    have HTt38_ := Lib.hid (show (w2).grownBy (w5) none from gby_trans HTt30_.out g)
    clear HTt30_
    have HTp39_ := Lib.hid (show (w3).grownBy (w5) none from gby_trans HTp31_.out g)
    clear HTp31_
    have HTd40_ := Lib.hid (show (w4).grownBy (w5) none from gby_trans HTd32_.out g)
    clear HTd32_
    clear g
    have C_0_ : (w5).cell? ⟨w2.heap.size, 0, none⟩ = some (.slice a1 n1 c1) := cell_of_row _ _ 0 _ _ _ rC34_.out
    have C_1_ : (w5).cell? ⟨w2.heap.size, 1, none⟩ = some (.slice a2 n2 c2) := cell_of_row _ _ 1 _ _ _ rC34_.out
    have K_0_ : (w5).cell? ⟨w3.heap.size, 0, none⟩ = some (.int .i64 p.f0) := cell_of_row _ _ 0 _ _ _ rK35_.out
    have K_1_ : (w5).cell? ⟨w3.heap.size, 1, none⟩ = some (.int .i64 p.f1) := cell_of_row _ _ 1 _ _ _ rK35_.out
    have K_2_ : (w5).cell? ⟨w3.heap.size, 2, none⟩ = some (.int .i64 p.f2) := cell_of_row _ _ 2 _ _ _ rK35_.out
    have K_3_ : (w5).cell? ⟨w3.heap.size, 3, none⟩ = some (.int .i64 p.f3) := cell_of_row _ _ 3 _ _ _ rK35_.out
    have K_4_ : (w5).cell? ⟨w3.heap.size, 4, none⟩ = some (.int .i64 p.f4) := cell_of_row _ _ 4 _ _ _ rK35_.out
    have K_5_ : (w5).cell? ⟨w3.heap.size, 5, none⟩ = some (.int .i64 p.f5) := cell_of_row _ _ 5 _ _ _ rK35_.out
    have K_6_ : (w5).cell? ⟨w3.heap.size, 6, none⟩ = some (.int .i64 p.f6) := cell_of_row _ _ 6 _ _ _ rK35_.out
    have K_7_ : (w5).cell? ⟨w3.heap.size, 7, none⟩ = some (.slice da dn dc) := cell_of_row _ _ 7 _ _ _ rK35_.out
    have D_0_ : (w5).cell? ⟨w4.heap.size, 0, none⟩ = some (.slice e1 m1 b1) := cell_of_row _ _ 0 _ _ _ rD36_.out
    have D_1_ : (w5).cell? ⟨w4.heap.size, 1, none⟩ = some (.slice e2 m2 b2) := cell_of_row _ _ 1 _ _ _ rD36_.out
    go_wp2_with fail
    go_at_call 42
    refine (HRT.out _ _ _ _ (HD1.out.grow HTd40_.out) (HD2.out.grow HTd40_.out) (HP.out.grow HTp39_.out)).mono ?_
    rintro e w6 ⟨r1_, r2_, rfl, o, g⟩
    have szw6 := g.size
    try simp only [World.size_alloc] at szw6
    obtain ⟨t1, l1, s1, hv_⟩ := RdL.form (OwU.rd o)
    subst hv_
    obtain ⟨t2, l2, s2, hv_⟩ := RdL.form (OwU.rd (OwU.tail o))
    subst hv_
    have HE1 := Lib.hid (OwU.rd o)
    have HE2 := Lib.hid (OwU.rd (OwU.tail o))
    clear o
    clear C_0_ C_1_ K_0_ K_1_ K_2_ K_3_ K_4_ K_5_ K_6_ K_7_ D_0_ D_1_
    have rC41_ := Lib.hid (show (w6).heap[w2.heap.size]? = some (.cells #[.slice a1 n1 c1, .slice a2 n2 c2] 54 (0, 0)) from row_held g rC34_.out)
    clear rC34_
    have rK42_ := Lib.hid (show (w6).heap[w3.heap.size]? = some (.cells #[.int .i64 p.f0, .int .i64 p.f1, .int .i64 p.f2, .int .i64 p.f3, .int .i64 p.f4, .int .i64 p.f5, .int .i64 p.f6, .slice da dn dc] 29 (0, 0)) from row_held g rK35_.out)
    clear rK35_
    have rD43_ := Lib.hid (show (w6).heap[w4.heap.size]? = some (.cells #[.slice e1 m1 b1, .slice e2 m2 b2] 54 (0, 0)) from row_held g rD36_.out)
    clear rD36_
    have G44_ := Lib.hid (show (W).grownBy (w6) none from gby_trans G37_.out g)
    have HTt45_ := Lib.hid (show (w2).grownBy (w6) none from gby_trans HTt38_.out g)
    clear HTt38_
    have HTp46_ := Lib.hid (show (w3).grownBy (w6) none from gby_trans HTp39_.out g)
    clear HTp39_
    have HTd47_ := Lib.hid (show (w4).grownBy (w6) none from gby_trans HTd40_.out g)
    clear HTd40_
    clear g
    have C_0_ : (w6).cell? ⟨w2.heap.size, 0, none⟩ = some (.slice a1 n1 c1) := cell_of_row _ _ 0 _ _ _ rC41_.out
    have C_1_ : (w6).cell? ⟨w2.heap.size, 1, none⟩ = some (.slice a2 n2 c2) := cell_of_row _ _ 1 _ _ _ rC41_.out
    have K_0_ : (w6).cell? ⟨w3.heap.size, 0, none⟩ = some (.int .i64 p.f0) := cell_of_row _ _ 0 _ _ _ rK42_.out
    have K_1_ : (w6).cell? ⟨w3.heap.size, 1, none⟩ = some (.int .i64 p.f1) := cell_of_row _ _ 1 _ _ _ rK42_.out
    have K_2_ : (w6).cell? ⟨w3.heap.size, 2, none⟩ = some (.int .i64 p.f2) := cell_of_row _ _ 2 _ _ _ rK42_.out
    have K_3_ : (w6).cell? ⟨w3.heap.size, 3, none⟩ = some (.int .i64 p.f3) := cell_of_row _ _ 3 _ _ _ rK42_.out
    have K_4_ : (w6).cell? ⟨w3.heap.size, 4, none⟩ = some (.int .i64 p.f4) := cell_of_row _ _ 4 _ _ _ rK42_.out
    have K_5_ : (w6).cell? ⟨w3.heap.size, 5, none⟩ = some (.int .i64 p.f5) := cell_of_row _ _ 5 _ _ _ rK42_.out
    have K_6_ : (w6).cell? ⟨w3.heap.size, 6, none⟩ = some (.int .i64 p.f6) := cell_of_row _ _ 6 _ _ _ rK42_.out
    have K_7_ : (w6).cell? ⟨w3.heap.size, 7, none⟩ = some (.slice da dn dc) := cell_of_row _ _ 7 _ _ _ rK42_.out
    have D_0_ : (w6).cell? ⟨w4.heap.size, 0, none⟩ = some (.slice e1 m1 b1) := cell_of_row _ _ 0 _ _ _ rD43_.out
    have D_1_ : (w6).cell? ⟨w4.heap.size, 1, none⟩ = some (.slice e2 m2 b2) := cell_of_row _ _ 1 _ _ _ rD43_.out
    have HTe48_ := Lib.hid (gby_refl (w6) none)
    have MG49_ := Lib.hid (show (W).grownBy (w6) none from G44_.out)
    have MR50_ := Lib.hid rC41_.out
    have MR51_ := Lib.hid rK42_.out
    have MR52_ := Lib.hid rD43_.out
    clear C_0_ C_1_ K_0_ K_1_ K_2_ K_3_ K_4_ K_5_ K_6_ K_7_ D_0_ D_1_
    have al_ : (w6).grownBy ((w6).alloc (.cells #[.slice t1 l1 s1, .slice t2 l2 s2] 54)) none := gby_alloc (gby_refl _ _) _
    have rC53_ := Lib.hid (show ((w6.alloc (.cells #[.slice t1 l1 s1, .slice t2 l2 s2] 54))).heap[w2.heap.size]? = some (.cells #[.slice a1 n1 c1, .slice a2 n2 c2] 54 (0, 0)) from row_held al_ rC41_.out)
    clear rC41_
    have rK54_ := Lib.hid (show ((w6.alloc (.cells #[.slice t1 l1 s1, .slice t2 l2 s2] 54))).heap[w3.heap.size]? = some (.cells #[.int .i64 p.f0, .int .i64 p.f1, .int .i64 p.f2, .int .i64 p.f3, .int .i64 p.f4, .int .i64 p.f5, .int .i64 p.f6, .slice da dn dc] 29 (0, 0)) from row_held al_ rK42_.out)
    clear rK42_
    have rD55_ := Lib.hid (show ((w6.alloc (.cells #[.slice t1 l1 s1, .slice t2 l2 s2] 54))).heap[w4.heap.size]? = some (.cells #[.slice e1 m1 b1, .slice e2 m2 b2] 54 (0, 0)) from row_held al_ rD43_.out)
    clear rD43_
    have G56_ := Lib.hid (show (W).grownBy ((w6.alloc (.cells #[.slice t1 l1 s1, .slice t2 l2 s2] 54))) none from gby_trans G44_.out al_)
    have HTt57_ := Lib.hid (show (w2).grownBy ((w6.alloc (.cells #[.slice t1 l1 s1, .slice t2 l2 s2] 54))) none from gby_trans HTt45_.out al_)
    clear HTt45_
    have HTp58_ := Lib.hid (show (w3).grownBy ((w6.alloc (.cells #[.slice t1 l1 s1, .slice t2 l2 s2] 54))) none from gby_trans HTp46_.out al_)
    clear HTp46_
    have HTd59_ := Lib.hid (show (w4).grownBy ((w6.alloc (.cells #[.slice t1 l1 s1, .slice t2 l2 s2] 54))) none from gby_trans HTd47_.out al_)
    clear HTd47_
    have HTe60_ := Lib.hid (show (w6).grownBy ((w6.alloc (.cells #[.slice t1 l1 s1, .slice t2 l2 s2] 54))) none from gby_trans HTe48_.out al_)
    clear HTe48_
    have rE61_ := Lib.hid (show ((w6.alloc (.cells #[.slice t1 l1 s1, .slice t2 l2 s2] 54))).heap[w6.heap.size]? = some (.cells #[.slice t1 l1 s1, .slice t2 l2 s2] 54 (0, 0)) from by first | exact heap_alloc_new _ _ | exact heap_pair _ _ _ | exact heap_trip _ _ _ _)
    clear al_
    have C_0_ : ((w6.alloc (.cells #[.slice t1 l1 s1, .slice t2 l2 s2] 54))).cell? ⟨w2.heap.size, 0, none⟩ = some (.slice a1 n1 c1) := cell_of_row _ _ 0 _ _ _ rC53_.out
    have C_1_ : ((w6.alloc (.cells #[.slice t1 l1 s1, .slice t2 l2 s2] 54))).cell? ⟨w2.heap.size, 1, none⟩ = some (.slice a2 n2 c2) := cell_of_row _ _ 1 _ _ _ rC53_.out
    have K_0_ : ((w6.alloc (.cells #[.slice t1 l1 s1, .slice t2 l2 s2] 54))).cell? ⟨w3.heap.size, 0, none⟩ = some (.int .i64 p.f0) := cell_of_row _ _ 0 _ _ _ rK54_.out
    have K_1_ : ((w6.alloc (.cells #[.slice t1 l1 s1, .slice t2 l2 s2] 54))).cell? ⟨w3.heap.size, 1, none⟩ = some (.int .i64 p.f1) := cell_of_row _ _ 1 _ _ _ rK54_.out
    have K_2_ : ((w6.alloc (.cells #[.slice t1 l1 s1, .slice t2 l2 s2] 54))).cell? ⟨w3.heap.size, 2, none⟩ = some (.int .i64 p.f2) := cell_of_row _ _ 2 _ _ _ rK54_.out
    have K_3_ : ((w6.alloc (.cells #[.slice t1 l1 s1, .slice t2 l2 s2] 54))).cell? ⟨w3.heap.size, 3, none⟩ = some (.int .i64 p.f3) := cell_of_row _ _ 3 _ _ _ rK54_.out
    have K_4_ : ((w6.alloc (.cells #[.slice t1 l1 s1, .slice t2 l2 s2] 54))).cell? ⟨w3.heap.size, 4, none⟩ = some (.int .i64 p.f4) := cell_of_row _ _ 4 _ _ _ rK54_.out
    have K_5_ : ((w6.alloc (.cells #[.slice t1 l1 s1, .slice t2 l2 s2] 54))).cell? ⟨w3.heap.size, 5, none⟩ = some (.int .i64 p.f5) := cell_of_row _ _ 5 _ _ _ rK54_.out
    have K_6_ : ((w6.alloc (.cells #[.slice t1 l1 s1, .slice t2 l2 s2] 54))).cell? ⟨w3.heap.size, 6, none⟩ = some (.int .i64 p.f6) := cell_of_row _ _ 6 _ _ _ rK54_.out
    have K_7_ : ((w6.alloc (.cells #[.slice t1 l1 s1, .slice t2 l2 s2] 54))).cell? ⟨w3.heap.size, 7, none⟩ = some (.slice da dn dc) := cell_of_row _ _ 7 _ _ _ rK54_.out
    have D_0_ : ((w6.alloc (.cells #[.slice t1 l1 s1, .slice t2 l2 s2] 54))).cell? ⟨w4.heap.size, 0, none⟩ = some (.slice e1 m1 b1) := cell_of_row _ _ 0 _ _ _ rD55_.out
    have D_1_ : ((w6.alloc (.cells #[.slice t1 l1 s1, .slice t2 l2 s2] 54))).cell? ⟨w4.heap.size, 1, none⟩ = some (.slice e2 m2 b2) := cell_of_row _ _ 1 _ _ _ rD55_.out
    have E_0_ : ((w6.alloc (.cells #[.slice t1 l1 s1, .slice t2 l2 s2] 54))).cell? ⟨w6.heap.size, 0, none⟩ = some (.slice t1 l1 s1) := cell_of_row _ _ 0 _ _ _ rE61_.out
    have E_1_ : ((w6.alloc (.cells #[.slice t1 l1 s1, .slice t2 l2 s2] 54))).cell? ⟨w6.heap.size, 1, none⟩ = some (.slice t2 l2 s2) := cell_of_row _ _ 1 _ _ _ rE61_.out
    go_wp2_with fail
    go_at_call 47
    refine (implCrD _ _ _ x2 y2 (HD1.out.grow HTd59_.out) (HD2.out.grow HTd59_.out) HX2.out HY2.out true (by rw [decide_eq_true HC2.out])).mono ?_
    rintro e w7 ⟨rfl, g⟩
    have szw7 := g.size
    try simp only [World.size_alloc] at szw7
    try simp only [World.size_setCell] at szw7
    clear C_0_ C_1_ K_0_ K_1_ K_2_ K_3_ K_4_ K_5_ K_6_ K_7_ D_0_ D_1_ E_0_ E_1_
    have rC62_ := Lib.hid (show (w7).heap[w2.heap.size]? = some (.cells #[.slice a1 n1 c1, .slice a2 n2 c2] 54 (0, 0)) from row_held g rC53_.out)
    clear rC53_
    have rK63_ := Lib.hid (show (w7).heap[w3.heap.size]? = some (.cells #[.int .i64 p.f0, .int .i64 p.f1, .int .i64 p.f2, .int .i64 p.f3, .int .i64 p.f4, .int .i64 p.f5, .int .i64 p.f6, .slice da dn dc] 29 (0, 0)) from row_held g rK54_.out)
    clear rK54_
    have rD64_ := Lib.hid (show (w7).heap[w4.heap.size]? = some (.cells #[.slice e1 m1 b1, .slice e2 m2 b2] 54 (0, 0)) from row_held g rD55_.out)
    clear rD55_
    have rE65_ := Lib.hid (show (w7).heap[w6.heap.size]? = some (.cells #[.slice t1 l1 s1, .slice t2 l2 s2] 54 (0, 0)) from row_held g rE61_.out)
    clear rE61_
    have G66_ := Lib.hid (show (W).grownBy (w7) none from gby_trans G56_.out g)
    have HTt67_ := Lib.hid (show (w2).grownBy (w7) none from gby_trans HTt57_.out g)
    clear HTt57_
    have HTp68_ := Lib.hid (show (w3).grownBy (w7) none from gby_trans HTp58_.out g)
    clear HTp58_
    have HTd69_ := Lib.hid (show (w4).grownBy (w7) none from gby_trans HTd59_.out g)
    clear HTd59_
    have HTe70_ := Lib.hid (show (w6).grownBy (w7) none from gby_trans HTe60_.out g)
    clear HTe60_
    clear g
    have C_0_ : (w7).cell? ⟨w2.heap.size, 0, none⟩ = some (.slice a1 n1 c1) := cell_of_row _ _ 0 _ _ _ rC62_.out
    have C_1_ : (w7).cell? ⟨w2.heap.size, 1, none⟩ = some (.slice a2 n2 c2) := cell_of_row _ _ 1 _ _ _ rC62_.out
    have K_0_ : (w7).cell? ⟨w3.heap.size, 0, none⟩ = some (.int .i64 p.f0) := cell_of_row _ _ 0 _ _ _ rK63_.out
    have K_1_ : (w7).cell? ⟨w3.heap.size, 1, none⟩ = some (.int .i64 p.f1) := cell_of_row _ _ 1 _ _ _ rK63_.out
    have K_2_ : (w7).cell? ⟨w3.heap.size, 2, none⟩ = some (.int .i64 p.f2) := cell_of_row _ _ 2 _ _ _ rK63_.out
    have K_3_ : (w7).cell? ⟨w3.heap.size, 3, none⟩ = some (.int .i64 p.f3) := cell_of_row _ _ 3 _ _ _ rK63_.out
    have K_4_ : (w7).cell? ⟨w3.heap.size, 4, none⟩ = some (.int .i64 p.f4) := cell_of_row _ _ 4 _ _ _ rK63_.out
    have K_5_ : (w7).cell? ⟨w3.heap.size, 5, none⟩ = some (.int .i64 p.f5) := cell_of_row _ _ 5 _ _ _ rK63_.out
    have K_6_ : (w7).cell? ⟨w3.heap.size, 6, none⟩ = some (.int .i64 p.f6) := cell_of_row _ _ 6 _ _ _ rK63_.out
    have K_7_ : (w7).cell? ⟨w3.heap.size, 7, none⟩ = some (.slice da dn dc) := cell_of_row _ _ 7 _ _ _ rK63_.out
    have D_0_ : (w7).cell? ⟨w4.heap.size, 0, none⟩ = some (.slice e1 m1 b1) := cell_of_row _ _ 0 _ _ _ rD64_.out
    have D_1_ : (w7).cell? ⟨w4.heap.size, 1, none⟩ = some (.slice e2 m2 b2) := cell_of_row _ _ 1 _ _ _ rD64_.out
    have E_0_ : (w7).cell? ⟨w6.heap.size, 0, none⟩ = some (.slice t1 l1 s1) := cell_of_row _ _ 0 _ _ _ rE65_.out
    have E_1_ : (w7).cell? ⟨w6.heap.size, 1, none⟩ = some (.slice t2 l2 s2) := cell_of_row _ _ 1 _ _ _ rE65_.out
    go_wp2_with fail
    go_at_call 46
    refine (sameCrD _ _ _ _ _ xs ys (HE1.out.grow HTe70_.out) (HE2.out.grow HTe70_.out) (HXv.out.grow HTt67_.out) (HYv.out.grow HTt67_.out) HX1.out HY1.out).mono ?_
    rintro e w8 ⟨rfl, g⟩
    have szw8 := g.size
    try simp only [World.size_alloc] at szw8
    try simp only [World.size_setCell] at szw8
    clear C_0_ C_1_ K_0_ K_1_ K_2_ K_3_ K_4_ K_5_ K_6_ K_7_ D_0_ D_1_ E_0_ E_1_
    have rC71_ := Lib.hid (show (w8).heap[w2.heap.size]? = some (.cells #[.slice a1 n1 c1, .slice a2 n2 c2] 54 (0, 0)) from row_held g rC62_.out)
    clear rC62_
    have rK72_ := Lib.hid (show (w8).heap[w3.heap.size]? = some (.cells #[.int .i64 p.f0, .int .i64 p.f1, .int .i64 p.f2, .int .i64 p.f3, .int .i64 p.f4, .int .i64 p.f5, .int .i64 p.f6, .slice da dn dc] 29 (0, 0)) from row_held g rK63_.out)
    clear rK63_
    have rD73_ := Lib.hid (show (w8).heap[w4.heap.size]? = some (.cells #[.slice e1 m1 b1, .slice e2 m2 b2] 54 (0, 0)) from row_held g rD64_.out)
    clear rD64_
    have rE74_ := Lib.hid (show (w8).heap[w6.heap.size]? = some (.cells #[.slice t1 l1 s1, .slice t2 l2 s2] 54 (0, 0)) from row_held g rE65_.out)
    clear rE65_
    have G75_ := Lib.hid (show (W).grownBy (w8) none from gby_trans G66_.out g)
    have HTt76_ := Lib.hid (show (w2).grownBy (w8) none from gby_trans HTt67_.out g)
    clear HTt67_
    have HTp77_ := Lib.hid (show (w3).grownBy (w8) none from gby_trans HTp68_.out g)
    clear HTp68_
    have HTd78_ := Lib.hid (show (w4).grownBy (w8) none from gby_trans HTd69_.out g)
    clear HTd69_
    have HTe79_ := Lib.hid (show (w6).grownBy (w8) none from gby_trans HTe70_.out g)
    clear HTe70_
    clear g
    have C_0_ : (w8).cell? ⟨w2.heap.size, 0, none⟩ = some (.slice a1 n1 c1) := cell_of_row _ _ 0 _ _ _ rC71_.out
    have C_1_ : (w8).cell? ⟨w2.heap.size, 1, none⟩ = some (.slice a2 n2 c2) := cell_of_row _ _ 1 _ _ _ rC71_.out
    have K_0_ : (w8).cell? ⟨w3.heap.size, 0, none⟩ = some (.int .i64 p.f0) := cell_of_row _ _ 0 _ _ _ rK72_.out
    have K_1_ : (w8).cell? ⟨w3.heap.size, 1, none⟩ = some (.int .i64 p.f1) := cell_of_row _ _ 1 _ _ _ rK72_.out
    have K_2_ : (w8).cell? ⟨w3.heap.size, 2, none⟩ = some (.int .i64 p.f2) := cell_of_row _ _ 2 _ _ _ rK72_.out
    have K_3_ : (w8).cell? ⟨w3.heap.size, 3, none⟩ = some (.int .i64 p.f3) := cell_of_row _ _ 3 _ _ _ rK72_.out
    have K_4_ : (w8).cell? ⟨w3.heap.size, 4, none⟩ = some (.int .i64 p.f4) := cell_of_row _ _ 4 _ _ _ rK72_.out
    have K_5_ : (w8).cell? ⟨w3.heap.size, 5, none⟩ = some (.int .i64 p.f5) := cell_of_row _ _ 5 _ _ _ rK72_.out
    have K_6_ : (w8).cell? ⟨w3.heap.size, 6, none⟩ = some (.int .i64 p.f6) := cell_of_row _ _ 6 _ _ _ rK72_.out
    have K_7_ : (w8).cell? ⟨w3.heap.size, 7, none⟩ = some (.slice da dn dc) := cell_of_row _ _ 7 _ _ _ rK72_.out
    have D_0_ : (w8).cell? ⟨w4.heap.size, 0, none⟩ = some (.slice e1 m1 b1) := cell_of_row _ _ 0 _ _ _ rD73_.out
    have D_1_ : (w8).cell? ⟨w4.heap.size, 1, none⟩ = some (.slice e2 m2 b2) := cell_of_row _ _ 1 _ _ _ rD73_.out
    have E_0_ : (w8).cell? ⟨w6.heap.size, 0, none⟩ = some (.slice t1 l1 s1) := cell_of_row _ _ 0 _ _ _ rE74_.out
    have E_1_ : (w8).cell? ⟨w6.heap.size, 1, none⟩ = some (.slice t2 l2 s2) := cell_of_row _ _ 1 _ _ _ rE74_.out
    go_wp2
    go_ret
    exact ⟨rfl, gby_below G75_.out⟩

end Go.Proofs.Ytgagbhkidponnac
