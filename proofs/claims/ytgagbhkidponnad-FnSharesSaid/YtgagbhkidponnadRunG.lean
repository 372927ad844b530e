/-
  RunGrants, on both sides.
-/
import Derived.Test.YtgagbhkidponnadGrantMath
import Derived.Test.YtgagbhkidponnadRRunGrants
namespace Go.Proofs.Ytgagbhkidponnad
open Go Go.RowKit
set_option linter.unusedVariables false

theorem own_chg {w w' : World} {base size n lo hi : Nat} {e : TypeId} {v : Value} {xs : List Value} (h : w.ownsRow base e size v n xs) (g : Chg w w' lo hi) (hb : hi ≤ base) : w'.ownsRow base e size v n xs := by
  obtain ⟨h1, h2⟩ := h
  rcases h2 with ⟨a, b⟩ | ⟨gg, cap, cur, hv, hbase, hg, r⟩
  · exact ⟨h1, .inl ⟨a, b⟩⟩
  · exact ⟨h1, .inr ⟨gg, cap, cur, hv, hbase, Chg.keep g hg (.inr (by omega)), r⟩⟩
theorem gok_data {xs : List Int} {ask : List Bool} {s : Int × Int} (h : GOkS xs ask s) : ∃ (tn : Nat) (l : Int), s = ((tn : Int), l) ∧ tn < xs.length ∧ xs.length ≤ 4 ∧ 0 ≤ l ∧ l ≤ 9 := by
  obtain ⟨⟨a1, a2, a3, a4, a5, a6, a7⟩, _, _⟩ := h
  obtain ⟨t, l⟩ := s
  dsimp only at *
  have h2 := (a1 (xs.getD t.toNat 0) (by rw [List.getD_eq_getElem?_getD, List.getElem?_eq_getElem (by omega)]; exact List.getElem_mem _)).2
  exact ⟨t.toNat, l, by rw [show ((t.toNat : Nat) : Int) = t by omega], by omega, a3, a6, by omega⟩

set_option maxRecDepth 8000 in
set_option maxHeartbeats 2000000 in
theorem specRun_out (W : World) (t l : Int) (v u : Value) (xs : List Int) (ask : List Bool) (H : RdL shI W v xs) (Hu : RdL shB W u ask) (hl : szL shI xs ≤ 1048576) (hlu : szL shB ask ≤ 1048576) (ct : Int) (hc : ct < 1 ∨ 200 < ct) : Calls Try.prog 35 #[vArbiter v t l, u, .int .i64 ct] W (ResIRunGrants [] W) := by
  have HSL := Lib.hid H
  have HSU := Lib.hid Hu
  have HL := Lib.hid hl
  obtain ⟨a1, n1, c1, rfl⟩ := RdL.form H
  have hn1 : n1 = xs.length := by obtain ⟨_, _, e, _⟩ := H; injection e
  have hnb : n1 ≤ 1048576 := by rw [szL_I] at hl; omega
  obtain ⟨b1, m1, d1, rfl⟩ := RdL.form Hu
  have hm1 : m1 = ask.length := by obtain ⟨_, _, e, _⟩ := Hu; injection e
  have HE1 := Lib.hid hn1
  have HE2 := Lib.hid hm1
  have HLU := Lib.hid hlu
  clear H Hu hl hlu hn1 hm1
  unfold vArbiter
  go_enter Try.func35, Try.ntmps35
  have rA1_ := Lib.hid (show ((W.alloc (.cells #[.slice a1 n1 c1, .int .i64 t, .int .i64 l] 44))).heap[W.heap.size]? = some (.cells #[.slice a1 n1 c1, .int .i64 t, .int .i64 l] 44 (0, 0)) from by exact heap_alloc_new _ _)
  have G2_ := Lib.hid (show (W).grownBy ((W.alloc (.cells #[.slice a1 n1 c1, .int .i64 t, .int .i64 l] 44))) none from (gby_alloc (gby_refl _ _) _))
  have A_0_ : ((W.alloc (.cells #[.slice a1 n1 c1, .int .i64 t, .int .i64 l] 44))).cell? ⟨W.heap.size, 0, none⟩ = some (.slice a1 n1 c1) := cell_of_row _ _ 0 _ _ _ rA1_.out
  have A_1_ : ((W.alloc (.cells #[.slice a1 n1 c1, .int .i64 t, .int .i64 l] 44))).cell? ⟨W.heap.size, 1, none⟩ = some (.int .i64 t) := cell_of_row _ _ 1 _ _ _ rA1_.out
  have A_2_ : ((W.alloc (.cells #[.slice a1 n1 c1, .int .i64 t, .int .i64 l] 44))).cell? ⟨W.heap.size, 2, none⟩ = some (.int .i64 l) := cell_of_row _ _ 2 _ _ _ rA1_.out
  have HTM0 := Lib.hid (show W.grownBy ((W.alloc (.cells #[.slice a1 n1 c1, .int .i64 t, .int .i64 l] 44))) none from G2_.out)
  have MG0 := Lib.hid (gby_refl W none)
  go_wp2_with fail
  clear A_0_ A_1_ A_2_
  have al_ : ((W.alloc (.cells #[.slice a1 n1 c1, .int .i64 t, .int .i64 l] 44))).grownBy (((W.alloc (.cells #[.slice a1 n1 c1, .int .i64 t, .int .i64 l] 44))).alloc (.cells #[] 3)) none := gby_alloc (gby_refl _ _) _
  have rA3_ := Lib.hid (show (((W.alloc (.cells #[.slice a1 n1 c1, .int .i64 t, .int .i64 l] 44)).alloc (.cells #[] 3))).heap[W.heap.size]? = some (.cells #[.slice a1 n1 c1, .int .i64 t, .int .i64 l] 44 (0, 0)) from row_held al_ rA1_.out)
  clear rA1_
  have G4_ := Lib.hid (show (W).grownBy (((W.alloc (.cells #[.slice a1 n1 c1, .int .i64 t, .int .i64 l] 44)).alloc (.cells #[] 3))) none from gby_trans G2_.out al_)
  have HTM5_ := Lib.hid (show (W).grownBy (((W.alloc (.cells #[.slice a1 n1 c1, .int .i64 t, .int .i64 l] 44)).alloc (.cells #[] 3))) none from gby_trans HTM0.out al_)
  clear HTM0
  have rO6_ := Lib.hid (show (((W.alloc (.cells #[.slice a1 n1 c1, .int .i64 t, .int .i64 l] 44)).alloc (.cells #[] 3))).heap[W.heap.size + 1]? = some (.cells #[] 3 (0, 0)) from by first | exact heap_alloc_new _ _ | exact heap_pair _ _ _ | exact heap_trip _ _ _ _)
  clear al_
  have A_0_ : (((W.alloc (.cells #[.slice a1 n1 c1, .int .i64 t, .int .i64 l] 44)).alloc (.cells #[] 3))).cell? ⟨W.heap.size, 0, none⟩ = some (.slice a1 n1 c1) := cell_of_row _ _ 0 _ _ _ rA3_.out
  have A_1_ : (((W.alloc (.cells #[.slice a1 n1 c1, .int .i64 t, .int .i64 l] 44)).alloc (.cells #[] 3))).cell? ⟨W.heap.size, 1, none⟩ = some (.int .i64 t) := cell_of_row _ _ 1 _ _ _ rA3_.out
  have A_2_ : (((W.alloc (.cells #[.slice a1 n1 c1, .int .i64 t, .int .i64 l] 44)).alloc (.cells #[] 3))).cell? ⟨W.heap.size, 2, none⟩ = some (.int .i64 l) := cell_of_row _ _ 2 _ _ _ rA3_.out
  go_wp2_with fail
  go_at_call 47
  refine (in_no _ _ _ _ hc).mono ?_
  rintro e w1_ ⟨rfl, rfl⟩
  go_wp2
  go_ret
  exact ⟨_, rfl, OwU.one (owL_empty (by omega) (by simp only [World.size_alloc]; omega)), G4_.out⟩

set_option maxRecDepth 8000 in
set_option maxHeartbeats 2000000 in
theorem specRun_none (W : World) (t l : Int) (v u : Value) (xs : List Int) (ask : List Bool) (H : RdL shI W v xs) (Hu : RdL shB W u ask) (hl : szL shI xs ≤ 1048576) (hlu : szL shB ask ≤ 1048576) (ct : Int) (hc1 : 1 ≤ ct) (hc2 : ct ≤ 200) (hrf : ∀ (w : World) (v u : Value), RdL shI w v xs → RdL shB w u ask → Calls Try.prog 26 #[vArbiter v t l, u] w (ResIGrant xs t l (-1) w)) : Calls Try.prog 35 #[vArbiter v t l, u, .int .i64 ct] W (ResIRunGrants [] W) := by
  have HSL := Lib.hid H
  have HSU := Lib.hid Hu
  have HL := Lib.hid hl
  obtain ⟨a1, n1, c1, rfl⟩ := RdL.form H
  have hn1 : n1 = xs.length := by obtain ⟨_, _, e, _⟩ := H; injection e
  have hnb : n1 ≤ 1048576 := by rw [szL_I] at hl; omega
  obtain ⟨b1, m1, d1, rfl⟩ := RdL.form Hu
  have hm1 : m1 = ask.length := by obtain ⟨_, _, e, _⟩ := Hu; injection e
  have HE1 := Lib.hid hn1
  have HE2 := Lib.hid hm1
  have HLU := Lib.hid hlu
  clear H Hu hl hlu hn1 hm1
  have HRF := Lib.hid hrf
  clear hrf
  unfold vArbiter
  go_enter Try.func35, Try.ntmps35
  have rA1_ := Lib.hid (show ((W.alloc (.cells #[.slice a1 n1 c1, .int .i64 t, .int .i64 l] 44))).heap[W.heap.size]? = some (.cells #[.slice a1 n1 c1, .int .i64 t, .int .i64 l] 44 (0, 0)) from by exact heap_alloc_new _ _)
  have G2_ := Lib.hid (show (W).grownBy ((W.alloc (.cells #[.slice a1 n1 c1, .int .i64 t, .int .i64 l] 44))) none from (gby_alloc (gby_refl _ _) _))
  have A_0_ : ((W.alloc (.cells #[.slice a1 n1 c1, .int .i64 t, .int .i64 l] 44))).cell? ⟨W.heap.size, 0, none⟩ = some (.slice a1 n1 c1) := cell_of_row _ _ 0 _ _ _ rA1_.out
  have A_1_ : ((W.alloc (.cells #[.slice a1 n1 c1, .int .i64 t, .int .i64 l] 44))).cell? ⟨W.heap.size, 1, none⟩ = some (.int .i64 t) := cell_of_row _ _ 1 _ _ _ rA1_.out
  have A_2_ : ((W.alloc (.cells #[.slice a1 n1 c1, .int .i64 t, .int .i64 l] 44))).cell? ⟨W.heap.size, 2, none⟩ = some (.int .i64 l) := cell_of_row _ _ 2 _ _ _ rA1_.out
  have HTM0 := Lib.hid (show W.grownBy ((W.alloc (.cells #[.slice a1 n1 c1, .int .i64 t, .int .i64 l] 44))) none from G2_.out)
  have MG0 := Lib.hid (gby_refl W none)
  go_wp2_with fail
  clear A_0_ A_1_ A_2_
  have al_ : ((W.alloc (.cells #[.slice a1 n1 c1, .int .i64 t, .int .i64 l] 44))).grownBy (((W.alloc (.cells #[.slice a1 n1 c1, .int .i64 t, .int .i64 l] 44))).alloc (.cells #[] 3)) none := gby_alloc (gby_refl _ _) _
  have rA3_ := Lib.hid (show (((W.alloc (.cells #[.slice a1 n1 c1, .int .i64 t, .int .i64 l] 44)).alloc (.cells #[] 3))).heap[W.heap.size]? = some (.cells #[.slice a1 n1 c1, .int .i64 t, .int .i64 l] 44 (0, 0)) from row_held al_ rA1_.out)
  clear rA1_
  have G4_ := Lib.hid (show (W).grownBy (((W.alloc (.cells #[.slice a1 n1 c1, .int .i64 t, .int .i64 l] 44)).alloc (.cells #[] 3))) none from gby_trans G2_.out al_)
  have HTM5_ := Lib.hid (show (W).grownBy (((W.alloc (.cells #[.slice a1 n1 c1, .int .i64 t, .int .i64 l] 44)).alloc (.cells #[] 3))) none from gby_trans HTM0.out al_)
  clear HTM0
  have rO6_ := Lib.hid (show (((W.alloc (.cells #[.slice a1 n1 c1, .int .i64 t, .int .i64 l] 44)).alloc (.cells #[] 3))).heap[W.heap.size + 1]? = some (.cells #[] 3 (0, 0)) from by first | exact heap_alloc_new _ _ | exact heap_pair _ _ _ | exact heap_trip _ _ _ _)
  clear al_
  have A_0_ : (((W.alloc (.cells #[.slice a1 n1 c1, .int .i64 t, .int .i64 l] 44)).alloc (.cells #[] 3))).cell? ⟨W.heap.size, 0, none⟩ = some (.slice a1 n1 c1) := cell_of_row _ _ 0 _ _ _ rA3_.out
  have A_1_ : (((W.alloc (.cells #[.slice a1 n1 c1, .int .i64 t, .int .i64 l] 44)).alloc (.cells #[] 3))).cell? ⟨W.heap.size, 1, none⟩ = some (.int .i64 t) := cell_of_row _ _ 1 _ _ _ rA3_.out
  have A_2_ : (((W.alloc (.cells #[.slice a1 n1 c1, .int .i64 t, .int .i64 l] 44)).alloc (.cells #[] 3))).cell? ⟨W.heap.size, 2, none⟩ = some (.int .i64 l) := cell_of_row _ _ 2 _ _ _ rA3_.out
  go_wp2_with fail
  go_at_call 47
  refine (in_yes _ _ _ _ hc1 hc2).mono ?_
  rintro e w1_ ⟨rfl, rfl⟩
  have HOS := Lib.hid rO6_.out
  go_wp2
  go_loopw [8, 7, 9, 10] (fun k v z9 z10 wr => k = .int .i64 0 ∧ (∃ q, z9 = q) ∧ (∃ q, z10 = q) ∧ wr.heap[W.heap.size]? = some (.cells #[.slice a1 n1 c1, .int .i64 t, .int .i64 l] 44 (0, 0)) ∧ v = .slice (some ⟨W.heap.size + 1, 0, none⟩) 0 0 ∧ W.heap.size + 1 < wr.heap.size ∧ (W).grownBy wr none) (fun k _ _ _ _ => 1 - (intOf k).toNat)
  case atStart => exact ⟨rfl, ⟨_, rfl⟩, ⟨_, rfl⟩, rA3_.out, rfl, lt_of_block HOS.out, HTM5_.out⟩
  case round =>
    clear A_0_ A_1_ A_2_
    clear rA3_
    clear rO6_
    clear HTM5_
    obtain ⟨rfl, ⟨z9, rfl⟩, ⟨z10, rfl⟩, hA, rfl, hsz, hg⟩ := hrel
    have szr_ := hg.size
    try simp only [World.size_alloc, World.size_setCell] at szr_
    have G7_ := Lib.hid (show (W).grownBy (wr) none from gby_trans MG0.out hg)
    have HTM8_ := Lib.hid hg
    clear hg
    have rA9_ := Lib.hid (show (wr).heap[W.heap.size]? = some (.cells #[.slice a1 n1 c1, .int .i64 t, .int .i64 l] 44 (0, 0)) from hA)
    clear hA
    have A_0_ : (wr).cell? ⟨W.heap.size, 0, none⟩ = some (.slice a1 n1 c1) := cell_of_row _ _ 0 _ _ _ rA9_.out
    have A_1_ : (wr).cell? ⟨W.heap.size, 1, none⟩ = some (.int .i64 t) := cell_of_row _ _ 1 _ _ _ rA9_.out
    have A_2_ : (wr).cell? ⟨W.heap.size, 2, none⟩ = some (.int .i64 l) := cell_of_row _ _ 2 _ _ _ rA9_.out
    have hki : (0 : Int) < ct := by omega
    go_wp2_with fail
    go_at_call 26
    refine (HRF.out _ _ _ (HSL.out.grow G7_.out) (HSU.out.grow G7_.out)).mono ?_
    rintro e w2 ⟨d_, rfl, o, g⟩
    have sz_ := g.size
    clear A_0_ A_1_ A_2_
    have rA10_ := Lib.hid (show (w2).heap[W.heap.size]? = some (.cells #[.slice a1 n1 c1, .int .i64 t, .int .i64 l] 44 (0, 0)) from row_held g rA9_.out)
    clear rA9_
    have G11_ := Lib.hid (show (W).grownBy (w2) none from gby_trans G7_.out g)
    have HTM12_ := Lib.hid (show (W).grownBy (w2) none from gby_trans HTM8_.out g)
    clear HTM8_
    clear g
    obtain ⟨qp, qn, qc, hv_⟩ := RdL.form (OwU.rd o)
    subst hv_
    clear o
    have hm1 : (-1 : Int) < 0 := by omega
    have A_0_ : (w2).cell? ⟨W.heap.size, 0, none⟩ = some (.slice a1 n1 c1) := cell_of_row _ _ 0 _ _ _ rA10_.out
    have A_1_ : (w2).cell? ⟨W.heap.size, 1, none⟩ = some (.int .i64 t) := cell_of_row _ _ 1 _ _ _ rA10_.out
    have A_2_ : (w2).cell? ⟨W.heap.size, 2, none⟩ = some (.int .i64 l) := cell_of_row _ _ 2 _ _ _ rA10_.out
    go_wp2
    go_ret
    exact ⟨_, rfl, OwU.one (owL_empty (by omega) (by simp; omega)), by first | exact G11_.out | exact gby_alloc G11_.out _⟩

set_option maxRecDepth 8000 in
set_option maxHeartbeats 4000000 in
theorem specRun_good (W : World) (t l : Int) (v u : Value) (xs : List Int) (ask : List Bool) (H : RdL shI W v xs) (Hu : RdL shB W u ask) (hl : szL shI xs ≤ 1048576) (hlu : szL shB ask ≤ 1048576) (ct : Int) (cn : Nat) (hcn : ct = (cn : Int)) (hc1 : 1 ≤ ct) (hc2 : ct ≤ 200) (hg : GOkS xs ask (t, l)) : Calls Try.prog 35 #[vArbiter v t l, u, .int .i64 ct] W (ResIRunGrants (gports xs ask (t, l) cn) W) := by
  have HSL := Lib.hid H
  have HSU := Lib.hid Hu
  have HL := Lib.hid hl
  obtain ⟨a1, n1, c1, rfl⟩ := RdL.form H
  have hn1 : n1 = xs.length := by obtain ⟨_, _, e, _⟩ := H; injection e
  have hnb : n1 ≤ 1048576 := by rw [szL_I] at hl; omega
  obtain ⟨b1, m1, d1, rfl⟩ := RdL.form Hu
  have hm1 : m1 = ask.length := by obtain ⟨_, _, e, _⟩ := Hu; injection e
  have HE1 := Lib.hid hn1
  have HE2 := Lib.hid hm1
  have HLU := Lib.hid hlu
  clear H Hu hl hlu hn1 hm1
  have HG := Lib.hid hg
  clear hg
  subst hcn
  obtain ⟨i1_, hi1_, hz0_, hz1_, hz2_⟩ := info_parts infoInt
  unfold vArbiter
  go_enter Try.func35, Try.ntmps35
  have rA1_ := Lib.hid (show ((W.alloc (.cells #[.slice a1 n1 c1, .int .i64 t, .int .i64 l] 44))).heap[W.heap.size]? = some (.cells #[.slice a1 n1 c1, .int .i64 t, .int .i64 l] 44 (0, 0)) from by exact heap_alloc_new _ _)
  have G2_ := Lib.hid (show (W).grownBy ((W.alloc (.cells #[.slice a1 n1 c1, .int .i64 t, .int .i64 l] 44))) none from (gby_alloc (gby_refl _ _) _))
  have A_0_ : ((W.alloc (.cells #[.slice a1 n1 c1, .int .i64 t, .int .i64 l] 44))).cell? ⟨W.heap.size, 0, none⟩ = some (.slice a1 n1 c1) := cell_of_row _ _ 0 _ _ _ rA1_.out
  have A_1_ : ((W.alloc (.cells #[.slice a1 n1 c1, .int .i64 t, .int .i64 l] 44))).cell? ⟨W.heap.size, 1, none⟩ = some (.int .i64 t) := cell_of_row _ _ 1 _ _ _ rA1_.out
  have A_2_ : ((W.alloc (.cells #[.slice a1 n1 c1, .int .i64 t, .int .i64 l] 44))).cell? ⟨W.heap.size, 2, none⟩ = some (.int .i64 l) := cell_of_row _ _ 2 _ _ _ rA1_.out
  have HTM0 := Lib.hid (show W.grownBy ((W.alloc (.cells #[.slice a1 n1 c1, .int .i64 t, .int .i64 l] 44))) none from G2_.out)
  have MG0 := Lib.hid (gby_refl W none)
  go_wp2_with fail
  clear A_0_ A_1_ A_2_
  have al_ : ((W.alloc (.cells #[.slice a1 n1 c1, .int .i64 t, .int .i64 l] 44))).grownBy (((W.alloc (.cells #[.slice a1 n1 c1, .int .i64 t, .int .i64 l] 44))).alloc (.cells #[] 3)) none := gby_alloc (gby_refl _ _) _
  have rA3_ := Lib.hid (show (((W.alloc (.cells #[.slice a1 n1 c1, .int .i64 t, .int .i64 l] 44)).alloc (.cells #[] 3))).heap[W.heap.size]? = some (.cells #[.slice a1 n1 c1, .int .i64 t, .int .i64 l] 44 (0, 0)) from row_held al_ rA1_.out)
  clear rA1_
  have G4_ := Lib.hid (show (W).grownBy (((W.alloc (.cells #[.slice a1 n1 c1, .int .i64 t, .int .i64 l] 44)).alloc (.cells #[] 3))) none from gby_trans G2_.out al_)
  have HTM5_ := Lib.hid (show (W).grownBy (((W.alloc (.cells #[.slice a1 n1 c1, .int .i64 t, .int .i64 l] 44)).alloc (.cells #[] 3))) none from gby_trans HTM0.out al_)
  clear HTM0
  have rO6_ := Lib.hid (show (((W.alloc (.cells #[.slice a1 n1 c1, .int .i64 t, .int .i64 l] 44)).alloc (.cells #[] 3))).heap[W.heap.size + 1]? = some (.cells #[] 3 (0, 0)) from by first | exact heap_alloc_new _ _ | exact heap_pair _ _ _ | exact heap_trip _ _ _ _)
  clear al_
  have A_0_ : (((W.alloc (.cells #[.slice a1 n1 c1, .int .i64 t, .int .i64 l] 44)).alloc (.cells #[] 3))).cell? ⟨W.heap.size, 0, none⟩ = some (.slice a1 n1 c1) := cell_of_row _ _ 0 _ _ _ rA3_.out
  have A_1_ : (((W.alloc (.cells #[.slice a1 n1 c1, .int .i64 t, .int .i64 l] 44)).alloc (.cells #[] 3))).cell? ⟨W.heap.size, 1, none⟩ = some (.int .i64 t) := cell_of_row _ _ 1 _ _ _ rA3_.out
  have A_2_ : (((W.alloc (.cells #[.slice a1 n1 c1, .int .i64 t, .int .i64 l] 44)).alloc (.cells #[] 3))).cell? ⟨W.heap.size, 2, none⟩ = some (.int .i64 l) := cell_of_row _ _ 2 _ _ _ rA3_.out
  go_wp2_with fail
  go_at_call 47
  refine (in_yes _ _ _ _ hc1 hc2).mono ?_
  rintro e w1_ ⟨rfl, rfl⟩
  have hst_ : (((W.alloc (.cells #[.slice a1 n1 c1, .int .i64 t, .int .i64 l] 44)).alloc (.cells #[] 3))).ownsRow (W.heap.size + 1) 3 1 (.slice (some ⟨W.heap.size + 1, 0, none⟩) 0 0) 0 (i64s (gports xs ask (t, l) 0)) := own_emptyP (e := 3) (n := 1) rO6_.out (Nat.le_refl _)
  have hrd0 : ∀ w, (((W.alloc (.cells #[.slice a1 n1 c1, .int .i64 t, .int .i64 l] 44)).alloc (.cells #[] 3))).grownBy w (some W.heap.size) → RdL shI w (.slice a1 n1 c1) xs := fun w g => HSL.out.grow (gby_own G4_.out g (Nat.le_refl _))
  go_wp2
  go_loopw [8, 7, 9, 10] (fun k v z9 z10 wr => ∃ (m : Nat) (wv : Value), m ≤ cn ∧ k = .int .i64 (m : Int) ∧ (∃ q, z9 = q) ∧ (∃ q, z10 = q) ∧ wr.heap[W.heap.size]? = some (.cells #[wv, .int .i64 (giter xs ask (t, l) m).1, .int .i64 (giter xs ask (t, l) m).2] 44 (0, 0)) ∧ (∀ w, wr.grownBy w (some W.heap.size) → RdL shI w wv xs) ∧ wr.ownsRow (W.heap.size + 1) 3 1 v m (i64s (gports xs ask (t, l) m)) ∧ (W).grownBy wr none) (fun k _ _ _ _ => cn - (intOf k).toNat)
  case atStart => exact ⟨0, _, by omega, rfl, ⟨_, rfl⟩, ⟨_, rfl⟩, rA3_.out, hrd0, hst_, HTM5_.out⟩
  case round =>
    clear A_0_ A_1_ A_2_
    clear rA3_
    clear rO6_
    clear HTM5_
    obtain ⟨m, wv, hm, rfl, ⟨z9, rfl⟩, ⟨z10, rfl⟩, hA, hrd, hown, hg⟩ := hrel
    have szr_ := hg.size
    try simp only [World.size_alloc, World.size_setCell] at szr_
    have G7_ := Lib.hid (show (W).grownBy (wr) none from gby_trans MG0.out hg)
    have HTM8_ := Lib.hid hg
    clear hg
    try clear hst_ hrd0
    have HO_ := Lib.hid hown
    have HRD := Lib.hid hrd
    clear hown hrd
    obtain ⟨va, vn, vc, hv_⟩ := RdL.form (HRD.out wr (gby_refl _ _))
    subst hv_
    obtain ⟨s1, hs1⟩ : ∃ s1, s1 = giter xs ask (t, l) m := ⟨_, rfl⟩
    have HGO := Lib.hid (show GOkS xs ask s1 from by rw [hs1]; exact gok_iter HG.out m)
    have HS1 := Lib.hid hs1
    rw [← hs1] at hA
    clear hs1
    obtain ⟨t1, l1, hs1, ht1, hx4, hl0, hl9⟩ := gok_data HGO.out
    subst hs1
    dsimp only at hA
    have hwA_ : W.heap.size < wr.heap.size := lt_of_block hA
    have rA9_ := Lib.hid (show (wr).heap[W.heap.size]? = some (.cells #[.slice va vn vc, .int .i64 (t1 : Int), .int .i64 l1] 44 (0, 0)) from hA)
    clear hA
    have A_0_ : (wr).cell? ⟨W.heap.size, 0, none⟩ = some (.slice va vn vc) := cell_of_row _ _ 0 _ _ _ rA9_.out
    have A_1_ : (wr).cell? ⟨W.heap.size, 1, none⟩ = some (.int .i64 (t1 : Int)) := cell_of_row _ _ 1 _ _ _ rA9_.out
    have A_2_ : (wr).cell? ⟨W.heap.size, 2, none⟩ = some (.int .i64 l1) := cell_of_row _ _ 2 _ _ _ rA9_.out
    have hn0 : (0 : Int) ≤ (m : Int) := by omega
    have htn : ((m : Int)).toNat = m := by omega
    by_cases hlt : m < cn
    rotate_left
    · obtain rfl : m = cn := by omega
      have hki : ¬ (m : Int) < (m : Int) := by omega
      go_wp2
      go_ret
      exact ⟨_, rfl, OwU.one (OwL.wide (owI_out (by rw [gports_len]; omega) (owI_row HO_.out)) (by omega) (Nat.le_refl _)), G7_.out⟩
    have hki : (m : Int) < (cn : Int) := by omega
    obtain ⟨s2, hs2⟩ : ∃ s2, s2 = giter xs ask (t, l) (m + 1) := ⟨_, rfl⟩
    have HS2 := Lib.hid hs2
    have HG2 := Lib.hid (show GOkS xs ask s2 from by rw [hs2]; exact gok_iter HG.out (m + 1))
    have HST := Lib.hid (show gstep xs ask ((t1 : Int), l1) = s2 from by rw [hs2, HS1.out]; rfl)
    clear hs2
    obtain ⟨t2, l2, hs2, ht2, _, hl20, hl29⟩ := gok_data HG2.out
    subst hs2
    have HGC := Lib.hid (show ∀ (w : World) (v u : Value), RdL shI w v xs → RdL shB w u ask → Calls Try.prog 26 #[.agg #[v, .int .i64 (t1 : Int), .int .i64 l1], u] w (ResIGrant xs (t2 : Int) l2 (t2 : Int) w) from fun w v u h1 h2 => by
      have q := specGrant_step w (t1 : Int) l1 v u xs ask h1 h2 HL.out HLU.out HGO.out
      rw [HST.out] at q
      exact q)
    go_wp2_with fail
    go_at_call 26
    refine (HGC.out _ _ _ (HRD.out _ (by repeat (first | exact gby_refl _ _ | (with_reducible refine gby_drew ?_)))) (HSU.out.grow G7_.out)).mono ?_
    rintro e w2 ⟨d_, rfl, o, g⟩
    have gN_ := Lib.hid g
    have sz_ := g.size
    clear A_0_ A_1_ A_2_
    have rA10_ := Lib.hid (show (w2).heap[W.heap.size]? = some (.cells #[.slice va vn vc, .int .i64 (t1 : Int), .int .i64 l1] 44 (0, 0)) from row_held g rA9_.out)
    clear rA9_
    have G11_ := Lib.hid (show (W).grownBy (w2) none from gby_trans G7_.out g)
    have HTM12_ := Lib.hid (show (W).grownBy (w2) none from gby_trans HTM8_.out g)
    clear HTM8_
    clear g
    obtain ⟨qp, qn, qc, hv_⟩ := RdL.form (OwU.rd o)
    subst hv_
    have oC13_ := Lib.hid (show OwU (w2) (wr.heap.size) (w2.heap.size) [] [own shI (.slice qp qn qc) xs] from o)
    clear o
    have h20 : ¬ (t2 : Int) < 0 := by omega
    have al_ : (w2).grownBy ((w2).alloc (.cells #[.slice qp qn qc, .int .i64 (t2 : Int), .int .i64 l2] 44)) none := gby_alloc (gby_refl _ _) _
    have rA14_ := Lib.hid (show ((w2.alloc (.cells #[.slice qp qn qc, .int .i64 (t2 : Int), .int .i64 l2] 44))).heap[W.heap.size]? = some (.cells #[.slice va vn vc, .int .i64 (t1 : Int), .int .i64 l1] 44 (0, 0)) from row_held al_ rA10_.out)
    clear rA10_
    have oC15_ := Lib.hid (show OwU ((w2.alloc (.cells #[.slice qp qn qc, .int .i64 (t2 : Int), .int .i64 l2] 44))) (wr.heap.size) (w2.heap.size) [] [own shI (.slice qp qn qc) xs] from OwU.grow oC13_.out al_)
    clear oC13_
    have G16_ := Lib.hid (show (W).grownBy ((w2.alloc (.cells #[.slice qp qn qc, .int .i64 (t2 : Int), .int .i64 l2] 44))) none from gby_trans G11_.out al_)
    have HTM17_ := Lib.hid (show (W).grownBy ((w2.alloc (.cells #[.slice qp qn qc, .int .i64 (t2 : Int), .int .i64 l2] 44))) none from gby_trans HTM12_.out al_)
    clear HTM12_
    have rX18_ := Lib.hid (show ((w2.alloc (.cells #[.slice qp qn qc, .int .i64 (t2 : Int), .int .i64 l2] 44))).heap[w2.heap.size]? = some (.cells #[.slice qp qn qc, .int .i64 (t2 : Int), .int .i64 l2] 44 (0, 0)) from by first | exact heap_alloc_new _ _ | exact heap_pair _ _ _ | exact heap_trip _ _ _ _)
    clear al_
    have A_0_ : ((w2.alloc (.cells #[.slice qp qn qc, .int .i64 (t2 : Int), .int .i64 l2] 44))).cell? ⟨W.heap.size, 0, none⟩ = some (.slice va vn vc) := cell_of_row _ _ 0 _ _ _ rA14_.out
    have A_1_ : ((w2.alloc (.cells #[.slice qp qn qc, .int .i64 (t2 : Int), .int .i64 l2] 44))).cell? ⟨W.heap.size, 1, none⟩ = some (.int .i64 (t1 : Int)) := cell_of_row _ _ 1 _ _ _ rA14_.out
    have A_2_ : ((w2.alloc (.cells #[.slice qp qn qc, .int .i64 (t2 : Int), .int .i64 l2] 44))).cell? ⟨W.heap.size, 2, none⟩ = some (.int .i64 l1) := cell_of_row _ _ 2 _ _ _ rA14_.out
    have X_0_ : ((w2.alloc (.cells #[.slice qp qn qc, .int .i64 (t2 : Int), .int .i64 l2] 44))).cell? ⟨w2.heap.size, 0, none⟩ = some (.slice qp qn qc) := cell_of_row _ _ 0 _ _ _ rX18_.out
    have X_1_ : ((w2.alloc (.cells #[.slice qp qn qc, .int .i64 (t2 : Int), .int .i64 l2] 44))).cell? ⟨w2.heap.size, 1, none⟩ = some (.int .i64 (t2 : Int)) := cell_of_row _ _ 1 _ _ _ rX18_.out
    have X_2_ : ((w2.alloc (.cells #[.slice qp qn qc, .int .i64 (t2 : Int), .int .i64 l2] 44))).cell? ⟨w2.heap.size, 2, none⟩ = some (.int .i64 l2) := cell_of_row _ _ 2 _ _ _ rX18_.out
    have nax_ : ¬ W.heap.size = w2.heap.size := by omega
    have nxa_ : ¬ w2.heap.size = W.heap.size := by omega
    clear A_0_ A_1_ A_2_ X_0_ X_1_ X_2_
    have A_0_ : ((w2.alloc (.cells #[.slice qp qn qc, .int .i64 (t2 : Int), .int .i64 l2] 44))).cell? ⟨W.heap.size, 0, none⟩ = some (.slice va vn vc) := cell_of_row _ _ 0 _ _ _ rA14_.out
    have A_1_ : ((w2.alloc (.cells #[.slice qp qn qc, .int .i64 (t2 : Int), .int .i64 l2] 44))).cell? ⟨W.heap.size, 1, none⟩ = some (.int .i64 (t1 : Int)) := cell_of_row _ _ 1 _ _ _ rA14_.out
    have A_2_ : ((w2.alloc (.cells #[.slice qp qn qc, .int .i64 (t2 : Int), .int .i64 l2] 44))).cell? ⟨W.heap.size, 2, none⟩ = some (.int .i64 l1) := cell_of_row _ _ 2 _ _ _ rA14_.out
    have Af0_ : ((w2.alloc (.cells #[.slice qp qn qc, .int .i64 (t2 : Int), .int .i64 l2] 44))).frozen? ⟨W.heap.size, 0, none⟩ = false := frozen_of_row _ _ 0 _ _ rA14_.out
    have Af1_ : ((w2.alloc (.cells #[.slice qp qn qc, .int .i64 (t2 : Int), .int .i64 l2] 44))).frozen? ⟨W.heap.size, 1, none⟩ = false := frozen_of_row _ _ 1 _ _ rA14_.out
    have Af2_ : ((w2.alloc (.cells #[.slice qp qn qc, .int .i64 (t2 : Int), .int .i64 l2] 44))).frozen? ⟨W.heap.size, 2, none⟩ = false := frozen_of_row _ _ 2 _ _ rA14_.out
    have X_0_ : ((w2.alloc (.cells #[.slice qp qn qc, .int .i64 (t2 : Int), .int .i64 l2] 44))).cell? ⟨w2.heap.size, 0, none⟩ = some (.slice qp qn qc) := cell_of_row _ _ 0 _ _ _ rX18_.out
    have X_1_ : ((w2.alloc (.cells #[.slice qp qn qc, .int .i64 (t2 : Int), .int .i64 l2] 44))).cell? ⟨w2.heap.size, 1, none⟩ = some (.int .i64 (t2 : Int)) := cell_of_row _ _ 1 _ _ _ rX18_.out
    have X_2_ : ((w2.alloc (.cells #[.slice qp qn qc, .int .i64 (t2 : Int), .int .i64 l2] 44))).cell? ⟨w2.heap.size, 2, none⟩ = some (.int .i64 l2) := cell_of_row _ _ 2 _ _ _ rX18_.out
    have rX19_ := Lib.hid (show (((((w2.alloc (.cells #[.slice qp qn qc, .int .i64 (t2 : Int), .int .i64 l2] 44)).setCell ⟨W.heap.size, 0, none⟩ (.slice qp qn qc)).setCell ⟨W.heap.size, 1, none⟩ (.int .i64 (t2 : Int))).setCell ⟨W.heap.size, 2, none⟩ (.int .i64 l2))).heap[w2.heap.size]? = some (.cells #[.slice qp qn qc, .int .i64 (t2 : Int), .int .i64 l2] 44 (0, 0)) from (set_far (set_far (set_far rX18_.out (by dsimp only; omega)) (by dsimp only; omega)) (by dsimp only; omega)))
    clear rX18_
    have rA20_ := Lib.hid (show (((((w2.alloc (.cells #[.slice qp qn qc, .int .i64 (t2 : Int), .int .i64 l2] 44)).setCell ⟨W.heap.size, 0, none⟩ (.slice qp qn qc)).setCell ⟨W.heap.size, 1, none⟩ (.int .i64 (t2 : Int))).setCell ⟨W.heap.size, 2, none⟩ (.int .i64 l2))).heap[W.heap.size]? = some (.cells #[.slice qp qn qc, .int .i64 (t2 : Int), .int .i64 l2] 44 (0, 0)) from (heap_setCell_same _ _ 2 _ _ _ (heap_setCell_same _ _ 1 _ _ _ (heap_setCell_same _ _ 0 _ _ _ rA14_.out))))
    clear rA14_
    have oC21_ := Lib.hid (show OwU (((((w2.alloc (.cells #[.slice qp qn qc, .int .i64 (t2 : Int), .int .i64 l2] 44)).setCell ⟨W.heap.size, 0, none⟩ (.slice qp qn qc)).setCell ⟨W.heap.size, 1, none⟩ (.int .i64 (t2 : Int))).setCell ⟨W.heap.size, 2, none⟩ (.int .i64 l2))) (wr.heap.size) (w2.heap.size) [] [own shI (.slice qp qn qc) xs] from (OwU.keep (chg_one _ _ _ _) (by omega) (OwU.keep (chg_one _ _ _ _) (by omega) (OwU.keep (chg_one _ _ _ _) (by omega) oC15_.out))))
    clear oC15_
    have G22_ := Lib.hid (show (W).grownBy (((((w2.alloc (.cells #[.slice qp qn qc, .int .i64 (t2 : Int), .int .i64 l2] 44)).setCell ⟨W.heap.size, 0, none⟩ (.slice qp qn qc)).setCell ⟨W.heap.size, 1, none⟩ (.int .i64 (t2 : Int))).setCell ⟨W.heap.size, 2, none⟩ (.int .i64 l2))) none from (gby_setnew (gby_setnew (gby_setnew G16_.out _ (by dsimp only; omega) _) _ (by dsimp only; omega) _) _ (by dsimp only; omega) _))
    have HO2_ := Lib.hid (show (((((w2.alloc (.cells #[.slice qp qn qc, .int .i64 (t2 : Int), .int .i64 l2] 44)).setCell ⟨W.heap.size, 0, none⟩ (.slice qp qn qc)).setCell ⟨W.heap.size, 1, none⟩ (.int .i64 (t2 : Int))).setCell ⟨W.heap.size, 2, none⟩ (.int .i64 l2))).ownsRow (W.heap.size + 1) 3 1 _ m (i64s (gports xs ask (t, l) m)) from (ownsRow_setCell_below (ownsRow_setCell_below (ownsRow_setCell_below ((HO_.out.grown gN_).alloc _) (by first | omega | (dsimp only; omega)) _) (by first | omega | (dsimp only; omega)) _) (by first | omega | (dsimp only; omega)) _))
    have hlt_ := World.ownsRow.lt HO_.out
    have HLT := Lib.hid hlt_
    clear hlt_
    obtain ⟨gp, hgp⟩ : ∃ gp, gp = gports xs ask (t, l) m := ⟨_, rfl⟩
    have hb_ : gp.length ≤ 1000000 := by rw [hgp, gports_len]; omega
    have hgl : gp.length = m := by rw [hgp, gports_len]
    have HGP := Lib.hid hgp
    rw [← hgp] at HO2_
    clear hgp
    have HNB := Lib.hid (show ((((((w2.alloc (.cells #[.slice qp qn qc, .int .i64 (t2 : Int), .int .i64 l2] 44)).setCell ⟨W.heap.size, 0, none⟩ (.slice qp qn qc)).setCell ⟨W.heap.size, 1, none⟩ (.int .i64 (t2 : Int))).setCell ⟨W.heap.size, 2, none⟩ (.int .i64 l2))).alloc (.cells #[.int .i64 (t2 : Int)] 3)).heap[w2.heap.size + 1]? = some (.cells #[.int .i64 (t2 : Int)] 3 (0, 0)) from by have q := heap_alloc_new (((((w2.alloc (.cells #[.slice qp qn qc, .int .i64 (t2 : Int), .int .i64 l2] 44)).setCell ⟨W.heap.size, 0, none⟩ (.slice qp qn qc)).setCell ⟨W.heap.size, 1, none⟩ (.int .i64 (t2 : Int))).setCell ⟨W.heap.size, 2, none⟩ (.int .i64 l2))) (.cells #[.int .i64 (t2 : Int)] 3); simp only [World.size_setCell, World.size_alloc] at q; exact q)
    go_wp2_with (at_builtin; refine wpList_append_lies _ (by rfl) _ _ _ (by rfl) (W.heap.size + 1) 3 i1_ _ 1 8 Try.underlying22 hi1_ hz0_ hz1_ hz2_ rfl (by omega) _ m (i64s gp) (by rfl) (HO2_.out.alloc _) ⟨w2.heap.size + 1, 0, none⟩ 1 1 [.int .i64 (t2 : Int)] (by rfl) (by rfl) (World.news_of_block (t := 3) (fr := (0, 0)) HNB.out) (by simp [Value.oneCell']) (by omega) (by unfold maxLen; omega) (by omega) (by simp; omega) _ (by rfl) ?_; intro gg cap2 wa hown_ hgr_ hat_ hlt2_; have HP := Lib.hid hown_; have HQ := Lib.hid hgr_; clear hown_ hgr_ hat_ hlt2_ A_0_ A_1_ A_2_ Af0_ Af1_ Af2_ X_0_ X_1_ X_2_)
    refine ⟨⟨m + 1, .slice qp qn qc, by omega, by go_num, ⟨_, rfl⟩, ⟨_, rfl⟩, ?_, ?_, ?_, ?_⟩, by simp [intOf]; omega⟩
    · rw [← HS2.out]
      exact (HQ.out.block W.heap.size (by simp only [World.size_alloc, World.size_setCell]; omega) (fun e => by have := own_from HO2_.out _ e.symm; omega)).trans (row_held (gby_alloc (gby_refl _ none) _) rA20_.out)
    · intro w g
      exact OwU.rd (OwU.keep (chg_row (lo := W.heap.size) (hi := W.heap.size + 1) g (fun i h => by obtain rfl := Option.some.inj h; omega)) (.inr (by omega)) (OwU.keep (chg_row (lo := W.heap.size + 1) (hi := wr.heap.size) HQ.out (fun i h => HLT.out i h)) (.inr (Nat.le_refl _)) (OwU.grow oC21_.out (gby_alloc (gby_refl _ none) _))))
    · have q := HP.out
      rw [HGP.out] at q
      show World.ownsRow wa (W.heap.size + 1) 3 1 _ (m + 1) (i64s (gports xs ask (t, l) m ++ [(giter xs ask (t, l) (m + 1)).1]))
      rw [← HS2.out, i64s_append]
      exact q
    · exact gby_new (gby_alloc G22_.out _) HQ.out (fun b hb => by have := (HLT.out b hb).1; omega)

set_option maxRecDepth 8000 in
set_option maxHeartbeats 2000000 in
theorem implRun_refused (W : World) (t l : Int) (v u : Value) (xs : List Int) (ask : List Bool) (H : RdL shI W v xs) (Hu : RdL shB W u ask) (hl : szL shI xs ≤ 1048576) (hlu : szL shB ask ≤ 1048576) (ct : Int) (hcg : ∀ (w : World) (v u : Value), RdL shI w v xs → RdL shB w u ask → Calls Try.prog 60 #[vArbiter v t l, u] w (AnsN (.bool false) w)) : Calls Try.prog 36 #[vArbiter v t l, u, .int .i64 ct] W (ResIRunGrants [] W) := by
  have HSL := Lib.hid H
  have HSU := Lib.hid Hu
  have HL := Lib.hid hl
  obtain ⟨a1, n1, c1, rfl⟩ := RdL.form H
  have hn1 : n1 = xs.length := by obtain ⟨_, _, e, _⟩ := H; injection e
  have hnb : n1 ≤ 1048576 := by rw [szL_I] at hl; omega
  obtain ⟨b1, m1, d1, rfl⟩ := RdL.form Hu
  have hm1 : m1 = ask.length := by obtain ⟨_, _, e, _⟩ := Hu; injection e
  have HE1 := Lib.hid hn1
  have HE2 := Lib.hid hm1
  have HLU := Lib.hid hlu
  clear H Hu hl hlu hn1 hm1
  have HCG := Lib.hid hcg
  clear hcg
  unfold vArbiter
  go_enter Try.func36, Try.ntmps36
  have rA1_ := Lib.hid (show ((W.alloc (.cells #[.slice a1 n1 c1, .int .i64 t, .int .i64 l] 44))).heap[W.heap.size]? = some (.cells #[.slice a1 n1 c1, .int .i64 t, .int .i64 l] 44 (0, 0)) from by exact heap_alloc_new _ _)
  have G2_ := Lib.hid (show (W).grownBy ((W.alloc (.cells #[.slice a1 n1 c1, .int .i64 t, .int .i64 l] 44))) none from (gby_alloc (gby_refl _ _) _))
  have A_0_ : ((W.alloc (.cells #[.slice a1 n1 c1, .int .i64 t, .int .i64 l] 44))).cell? ⟨W.heap.size, 0, none⟩ = some (.slice a1 n1 c1) := cell_of_row _ _ 0 _ _ _ rA1_.out
  have A_1_ : ((W.alloc (.cells #[.slice a1 n1 c1, .int .i64 t, .int .i64 l] 44))).cell? ⟨W.heap.size, 1, none⟩ = some (.int .i64 t) := cell_of_row _ _ 1 _ _ _ rA1_.out
  have A_2_ : ((W.alloc (.cells #[.slice a1 n1 c1, .int .i64 t, .int .i64 l] 44))).cell? ⟨W.heap.size, 2, none⟩ = some (.int .i64 l) := cell_of_row _ _ 2 _ _ _ rA1_.out
  go_wp2_with fail
  go_at_call 60
  refine (HCG.out _ _ _ (HSL.out.grow G2_.out) (HSU.out.grow G2_.out)).mono ?_
  rintro e w1 ⟨rfl, g⟩
  have szw1 := g.size
  try simp only [World.size_alloc] at szw1
  try simp only [World.size_setCell] at szw1
  clear A_0_ A_1_ A_2_
  have rA3_ := Lib.hid (show (w1).heap[W.heap.size]? = some (.cells #[.slice a1 n1 c1, .int .i64 t, .int .i64 l] 44 (0, 0)) from row_held g rA1_.out)
  clear rA1_
  have G4_ := Lib.hid (show (W).grownBy (w1) none from gby_trans G2_.out g)
  clear g
  have A_0_ : (w1).cell? ⟨W.heap.size, 0, none⟩ = some (.slice a1 n1 c1) := cell_of_row _ _ 0 _ _ _ rA3_.out
  have A_1_ : (w1).cell? ⟨W.heap.size, 1, none⟩ = some (.int .i64 t) := cell_of_row _ _ 1 _ _ _ rA3_.out
  have A_2_ : (w1).cell? ⟨W.heap.size, 2, none⟩ = some (.int .i64 l) := cell_of_row _ _ 2 _ _ _ rA3_.out
  go_wp2
  go_ret
  exact ⟨_, rfl, OwU.one owL_nil, G4_.out⟩

set_option maxRecDepth 8000 in
set_option maxHeartbeats 2000000 in
theorem implRun_out (W : World) (t l : Int) (v u : Value) (xs : List Int) (ask : List Bool) (H : RdL shI W v xs) (Hu : RdL shB W u ask) (hl : szL shI xs ≤ 1048576) (hlu : szL shB ask ≤ 1048576) (ct : Int) (hcg : ∀ (w : World) (v u : Value), RdL shI w v xs → RdL shB w u ask → Calls Try.prog 60 #[vArbiter v t l, u] w (AnsN (.bool true) w)) (hc : ct < 1 ∨ 200 < ct) : Calls Try.prog 36 #[vArbiter v t l, u, .int .i64 ct] W (ResIRunGrants [] W) := by
  have HSL := Lib.hid H
  have HSU := Lib.hid Hu
  have HL := Lib.hid hl
  obtain ⟨a1, n1, c1, rfl⟩ := RdL.form H
  have hn1 : n1 = xs.length := by obtain ⟨_, _, e, _⟩ := H; injection e
  have hnb : n1 ≤ 1048576 := by rw [szL_I] at hl; omega
  obtain ⟨b1, m1, d1, rfl⟩ := RdL.form Hu
  have hm1 : m1 = ask.length := by obtain ⟨_, _, e, _⟩ := Hu; injection e
  have HE1 := Lib.hid hn1
  have HE2 := Lib.hid hm1
  have HLU := Lib.hid hlu
  clear H Hu hl hlu hn1 hm1
  have HCG := Lib.hid hcg
  clear hcg
  unfold vArbiter
  go_enter Try.func36, Try.ntmps36
  have rA1_ := Lib.hid (show ((W.alloc (.cells #[.slice a1 n1 c1, .int .i64 t, .int .i64 l] 44))).heap[W.heap.size]? = some (.cells #[.slice a1 n1 c1, .int .i64 t, .int .i64 l] 44 (0, 0)) from by exact heap_alloc_new _ _)
  have G2_ := Lib.hid (show (W).grownBy ((W.alloc (.cells #[.slice a1 n1 c1, .int .i64 t, .int .i64 l] 44))) none from (gby_alloc (gby_refl _ _) _))
  have A_0_ : ((W.alloc (.cells #[.slice a1 n1 c1, .int .i64 t, .int .i64 l] 44))).cell? ⟨W.heap.size, 0, none⟩ = some (.slice a1 n1 c1) := cell_of_row _ _ 0 _ _ _ rA1_.out
  have A_1_ : ((W.alloc (.cells #[.slice a1 n1 c1, .int .i64 t, .int .i64 l] 44))).cell? ⟨W.heap.size, 1, none⟩ = some (.int .i64 t) := cell_of_row _ _ 1 _ _ _ rA1_.out
  have A_2_ : ((W.alloc (.cells #[.slice a1 n1 c1, .int .i64 t, .int .i64 l] 44))).cell? ⟨W.heap.size, 2, none⟩ = some (.int .i64 l) := cell_of_row _ _ 2 _ _ _ rA1_.out
  go_wp2_with fail
  go_at_call 60
  refine (HCG.out _ _ _ (HSL.out.grow G2_.out) (HSU.out.grow G2_.out)).mono ?_
  rintro e w1 ⟨rfl, g⟩
  have szw1 := g.size
  try simp only [World.size_alloc] at szw1
  try simp only [World.size_setCell] at szw1
  clear A_0_ A_1_ A_2_
  have rA3_ := Lib.hid (show (w1).heap[W.heap.size]? = some (.cells #[.slice a1 n1 c1, .int .i64 t, .int .i64 l] 44 (0, 0)) from row_held g rA1_.out)
  clear rA1_
  have G4_ := Lib.hid (show (W).grownBy (w1) none from gby_trans G2_.out g)
  clear g
  have A_0_ : (w1).cell? ⟨W.heap.size, 0, none⟩ = some (.slice a1 n1 c1) := cell_of_row _ _ 0 _ _ _ rA3_.out
  have A_1_ : (w1).cell? ⟨W.heap.size, 1, none⟩ = some (.int .i64 t) := cell_of_row _ _ 1 _ _ _ rA3_.out
  have A_2_ : (w1).cell? ⟨W.heap.size, 2, none⟩ = some (.int .i64 l) := cell_of_row _ _ 2 _ _ _ rA3_.out
  go_wp2_with fail
  go_at_call 50
  refine (rng_no _ _ _ _ hc).mono ?_
  rintro e w2_ ⟨rfl, rfl⟩
  go_wp2
  go_ret
  exact ⟨_, rfl, OwU.one owL_nil, G4_.out⟩

set_option maxRecDepth 8000 in
set_option maxHeartbeats 4000000 in
theorem implRun_good (W : World) (t l : Int) (v u : Value) (xs : List Int) (ask : List Bool) (H : RdL shI W v xs) (Hu : RdL shB W u ask) (hl : szL shI xs ≤ 1048576) (hlu : szL shB ask ≤ 1048576) (ct : Int) (cn : Nat) (hcn : ct = (cn : Int)) (hc1 : 1 ≤ ct) (hc2 : ct ≤ 200) (hg : GOkS xs ask (t, l)) (hcg : ∀ (w : World) (v u : Value), RdL shI w v xs → RdL shB w u ask → Calls Try.prog 60 #[vArbiter v t l, u] w (AnsN (.bool true) w)) : Calls Try.prog 36 #[vArbiter v t l, u, .int .i64 ct] W (ResIRunGrants (gports xs ask (t, l) cn) W) := by
  have HG := Lib.hid hg
  have hx1 : 1 ≤ xs.length := hg.1.2.1
  have hx4 : xs.length ≤ 4 := hg.1.2.2.1
  have hxa : ask.length = xs.length := hg.2.1
  obtain ⟨b2, o2, k2, hv2, hc2⟩ := rdB_at Hu (by omega)
  obtain ⟨b3, o3, k3, hv3, hc3⟩ := rdI1_at H (by omega)
  subst hv2 hv3
  have HSL := Lib.hid H
  have HSU := Lib.hid Hu
  have HL := Lib.hid hl
  have HLU := Lib.hid hlu
  have hb2 : b2 < W.heap.size := World.block_lt_of_cell? _ _ (hc2 0 (by omega))
  have hb3 : b3 < W.heap.size := World.block_lt_of_cell? _ _ (hc3 0 (by omega))
  obtain ⟨n, hn⟩ : ∃ n, n = xs.length := ⟨_, rfl⟩
  have HE := Lib.hid hn
  rw [hxa, ← hn] at hc2 HSU ⊢
  rw [← hn] at hc3 HSL
  have HCA := Lib.hid hc2
  have HCW := Lib.hid hc3
  have HCG := Lib.hid hcg
  clear H Hu hl hlu hc2 hc3 hn hg hcg hx1 hx4 hxa
  subst hcn
  obtain ⟨i1_, hi1_, hz0_, hz1_, hz2_⟩ := info_parts infoInt
  unfold vArbiter
  go_enter Try.func36, Try.ntmps36
  have rA1_ := Lib.hid (show ((W.alloc (.cells #[.slice (some ⟨b3, o3, none⟩) n k3, .int .i64 t, .int .i64 l] 44))).heap[W.heap.size]? = some (.cells #[.slice (some ⟨b3, o3, none⟩) n k3, .int .i64 t, .int .i64 l] 44 (0, 0)) from by exact heap_alloc_new _ _)
  have G2_ := Lib.hid (show (W).grownBy ((W.alloc (.cells #[.slice (some ⟨b3, o3, none⟩) n k3, .int .i64 t, .int .i64 l] 44))) none from (gby_alloc (gby_refl _ _) _))
  have A_0_ : ((W.alloc (.cells #[.slice (some ⟨b3, o3, none⟩) n k3, .int .i64 t, .int .i64 l] 44))).cell? ⟨W.heap.size, 0, none⟩ = some (.slice (some ⟨b3, o3, none⟩) n k3) := cell_of_row _ _ 0 _ _ _ rA1_.out
  have A_1_ : ((W.alloc (.cells #[.slice (some ⟨b3, o3, none⟩) n k3, .int .i64 t, .int .i64 l] 44))).cell? ⟨W.heap.size, 1, none⟩ = some (.int .i64 t) := cell_of_row _ _ 1 _ _ _ rA1_.out
  have A_2_ : ((W.alloc (.cells #[.slice (some ⟨b3, o3, none⟩) n k3, .int .i64 t, .int .i64 l] 44))).cell? ⟨W.heap.size, 2, none⟩ = some (.int .i64 l) := cell_of_row _ _ 2 _ _ _ rA1_.out
  go_wp2_with fail
  go_at_call 60
  refine (HCG.out _ _ _ (HSL.out.grow G2_.out) (HSU.out.grow G2_.out)).mono ?_
  rintro e w1 ⟨rfl, g⟩
  have szw1 := g.size
  try simp only [World.size_alloc] at szw1
  try simp only [World.size_setCell] at szw1
  clear A_0_ A_1_ A_2_
  have rA3_ := Lib.hid (show (w1).heap[W.heap.size]? = some (.cells #[.slice (some ⟨b3, o3, none⟩) n k3, .int .i64 t, .int .i64 l] 44 (0, 0)) from row_held g rA1_.out)
  clear rA1_
  have G4_ := Lib.hid (show (W).grownBy (w1) none from gby_trans G2_.out g)
  clear g
  have A_0_ : (w1).cell? ⟨W.heap.size, 0, none⟩ = some (.slice (some ⟨b3, o3, none⟩) n k3) := cell_of_row _ _ 0 _ _ _ rA3_.out
  have A_1_ : (w1).cell? ⟨W.heap.size, 1, none⟩ = some (.int .i64 t) := cell_of_row _ _ 1 _ _ _ rA3_.out
  have A_2_ : (w1).cell? ⟨W.heap.size, 2, none⟩ = some (.int .i64 l) := cell_of_row _ _ 2 _ _ _ rA3_.out
  go_wp2_with fail
  go_at_call 50
  refine (rng_yes _ _ _ _ hc1 hc2).mono ?_
  rintro e w2_ ⟨rfl, rfl⟩
  have HTM0 := Lib.hid (show W.grownBy (w1) none from G4_.out)
  have MG0 := Lib.hid (gby_refl W none)
  obtain ⟨BW, hBW⟩ : ∃ b, b = w1.heap.size := ⟨_, rfl⟩
  have hBW1 : W.heap.size + 1 ≤ BW := by have := szw1; omega
  go_wp2_with (at_make; refine wpList_make_full _ rfl _ _ 22 rfl w1.heap.size 3 i1_ (.int .i64 0) 1 Try.underlying22 hi1_ hz0_ hz1_ .i64 .i64 _ _ cn rfl rfl rfl rfl (by rw [hz2_]; omega) (by unfold maxLen; omega) (Nat.le_refl _) ?_; intro w0 hown0 hgrow0; have HO0 := Lib.hid hown0; have HG0 := Lib.hid hgrow0; clear hown0 hgrow0)
  have hsz0 := HG0.out.size
  clear A_0_ A_1_ A_2_
  have rA5_ := Lib.hid (show (w0).heap[W.heap.size]? = some (.cells #[.slice (some ⟨b3, o3, none⟩) n k3, .int .i64 t, .int .i64 l] 44 (0, 0)) from row_held HG0.out rA3_.out)
  clear rA3_
  have G6_ := Lib.hid (show (W).grownBy (w0) none from gby_trans G4_.out HG0.out)
  have HTM7_ := Lib.hid (show (W).grownBy (w0) none from gby_trans HTM0.out HG0.out)
  clear HTM0
  have A_0_ : (w0).cell? ⟨W.heap.size, 0, none⟩ = some (.slice (some ⟨b3, o3, none⟩) n k3) := cell_of_row _ _ 0 _ _ _ rA5_.out
  have A_1_ : (w0).cell? ⟨W.heap.size, 1, none⟩ = some (.int .i64 t) := cell_of_row _ _ 1 _ _ _ rA5_.out
  have A_2_ : (w0).cell? ⟨W.heap.size, 2, none⟩ = some (.int .i64 l) := cell_of_row _ _ 2 _ _ _ rA5_.out
  have hst_ : w0.ownsRow BW 3 1 (.slice (some ⟨BW, 0, none⟩) cn cn) cn (i64s (List.replicate cn 0)) := by
    have := HO0.out
    rw [show (Value.int .i64 0).cells = #[Value.int .i64 0] from rfl, Nat.mul_one, toList_madeCells_one, ← hBW] at this
    simpa [i64s] using this
  rw [← hBW]
  clear hBW
  go_wp2
  go_loopw [8, 22] (fun z8 i wr => ∃ (m : Nat) (ys : List Int), m ≤ cn ∧ (∃ q, z8 = q) ∧ i = .int .i64 (m : Int) ∧ ys.length = cn ∧ (∀ j : Nat, j < m → ys.getD j 0 = (giter xs ask (t, l) (j + 1)).1) ∧ wr.heap[W.heap.size]? = some (.cells #[.slice (some ⟨b3, o3, none⟩) n k3, .int .i64 (giter xs ask (t, l) m).1, .int .i64 (giter xs ask (t, l) m).2] 44 (0, 0)) ∧ wr.ownsRow BW 3 1 (.slice (some ⟨BW, 0, none⟩) cn cn) cn (i64s ys) ∧ (W).grownBy wr none) (fun _ i _ => cn - (intOf i).toNat)
  case atStart => exact ⟨0, _, by omega, ⟨_, rfl⟩, rfl, by simp, fun j hj => absurd hj (Nat.not_lt_zero _), rA5_.out, hst_, HTM7_.out⟩
  case round =>
    clear A_0_ A_1_ A_2_
    clear rA5_
    clear HTM7_
    obtain ⟨m, ys, hm, ⟨z8, rfl⟩, rfl, hlen, hys, hA, hown, hg⟩ := hrel
    have szr_ := hg.size
    try simp only [World.size_alloc, World.size_setCell] at szr_
    have G8_ := Lib.hid (show (W).grownBy (wr) none from gby_trans MG0.out hg)
    have HTM9_ := Lib.hid hg
    clear hg
    try clear hst_
    have HO_ := Lib.hid hown
    have HL_ := Lib.hid hlen
    have HY_ := Lib.hid hys
    clear hown hlen hys
    obtain ⟨s1, hs1⟩ : ∃ s1, s1 = giter xs ask (t, l) m := ⟨_, rfl⟩
    have HGO := Lib.hid (show GOkS xs ask s1 from by rw [hs1]; exact gok_iter HG.out m)
    have HS1 := Lib.hid hs1
    rw [← hs1] at hA
    clear hs1
    obtain ⟨t1, l1, hs1, ht1, _, hl0, hl9⟩ := gok_data HGO.out
    subst hs1
    dsimp only at hA
    have hwA_ : W.heap.size < wr.heap.size := lt_of_block hA
    have rA10_ := Lib.hid (show (wr).heap[W.heap.size]? = some (.cells #[.slice (some ⟨b3, o3, none⟩) n k3, .int .i64 (t1 : Int), .int .i64 l1] 44 (0, 0)) from hA)
    clear hA
    have A_0_ : (wr).cell? ⟨W.heap.size, 0, none⟩ = some (.slice (some ⟨b3, o3, none⟩) n k3) := cell_of_row _ _ 0 _ _ _ rA10_.out
    have A_1_ : (wr).cell? ⟨W.heap.size, 1, none⟩ = some (.int .i64 (t1 : Int)) := cell_of_row _ _ 1 _ _ _ rA10_.out
    have A_2_ : (wr).cell? ⟨W.heap.size, 2, none⟩ = some (.int .i64 l1) := cell_of_row _ _ 2 _ _ _ rA10_.out
    have hn0 : (0 : Int) ≤ (m : Int) := by omega
    have htn : ((m : Int)).toNat = m := by omega
    by_cases hlt : m < cn
    rotate_left
    · obtain rfl : m = cn := by omega
      have hki : ¬ (m : Int) < (m : Int) := by omega
      have ey : ys = gports xs ask (t, l) m := lists_eq (by rw [gports_len]; exact HL_.out) (fun j hj => by rw [HL_.out] at hj; rw [HY_.out j hj, gports_at xs ask (t, l) m j hj])
      have hq := HO_.out
      rw [ey] at hq
      have HQ_ := Lib.hid hq
      clear hq ey
      go_wp2
      go_ret
      refine ⟨_, rfl, OwU.one (OwL.wide (owI_out (by rw [gports_len]; omega) (owI_row HQ_.out)) (by omega) (Nat.le_refl _)), G8_.out⟩
    have hki : (m : Int) < (cn : Int) := by omega
    obtain ⟨s2, hs2⟩ : ∃ s2, s2 = giter xs ask (t, l) (m + 1) := ⟨_, rfl⟩
    have HS2 := Lib.hid hs2
    have HG2 := Lib.hid (show GOkS xs ask s2 from by rw [hs2]; exact gok_iter HG.out (m + 1))
    have HST := Lib.hid (show gstep xs ask ((t1 : Int), l1) = s2 from by rw [hs2, HS1.out]; rfl)
    clear hs2
    obtain ⟨t2, l2, hs2, ht2, _, hl20, hl29⟩ := gok_data HG2.out
    subst hs2
    have HGC := Lib.hid (show ∀ (w : World), w.heap[W.heap.size]? = some (.cells #[.slice (some ⟨b3, o3, none⟩) n k3, .int .i64 (t1 : Int), .int .i64 l1] 44 (0, 0)) → W.grownBy w none → Calls Try.prog 61 #[.pointer (some ⟨W.heap.size, 0, none⟩), .slice (some ⟨b2, o2, none⟩) n k2] w (GrPost W.heap.size (.slice (some ⟨b3, o3, none⟩) n k3) (t2 : Int) l2 w) from fun w h1 h2 => by
      have q := grant_step w W.heap.size b3 o3 k3 b2 o2 k2 n (t1 : Int) l1 xs ask h1 (fun k hk => h2.cell (HCW.out k hk) (by simp)) (fun k hk => h2.cell (HCA.out k hk) (by simp)) (by omega) (by omega) HE.out HGO.out
      rw [HST.out] at q
      exact q)
    go_wp2_with fail
    go_at_call 61
    refine (HGC.out _ rA10_.out G8_.out).mono ?_
    rintro e w3 ⟨rfl, hrow, gc⟩
    have szv_ := gc.size
    have NA_ := Lib.hid hrow
    have HO2_ := Lib.hid (own_chg HO_.out gc hBW1)
    have NG_ := Lib.hid (gby_chg G8_.out gc (Nat.le_refl _))
    clear hrow gc
    have hf_ := HO2_.out.frozenAt m
    have hc_ := HO2_.out.cellAt m (by omega)
    rw [i64s, List.getElem?_map, List.getElem?_eq_getElem (by have := HL_.out; omega)] at hc_
    generalize ys[m]'(by have := HL_.out; omega) = y_ at hc_
    clear A_0_ A_1_ A_2_
    go_wp2
    refine ⟨⟨m + 1, ys.set m (t2 : Int), by omega, ⟨_, rfl⟩, by go_num, by simp [HL_.out], ?_, ?_, ?_, ?_⟩, by simp [intOf]; omega⟩
    · intro j hj
      rw [List.getD_eq_getElem?_getD, List.getElem?_set]
      by_cases e : m = j
      · subst e
        have := HL_.out
        rw [if_pos rfl, if_pos (by omega), ← HS2.out]; rfl
      · rw [if_neg e, ← List.getD_eq_getElem?_getD]
        exact HY_.out j (by omega)
    · rw [← HS2.out]
      exact set_far NA_.out (by dsimp only; omega)
    · have := HO2_.out.stored m (.int .i64 (t2 : Int))
      rw [i64s, ← List.map_set] at this
      exact this.1
    · exact gby_setnew NG_.out _ (by dsimp only; omega) _

end Go.Proofs.Ytgagbhkidponnad
