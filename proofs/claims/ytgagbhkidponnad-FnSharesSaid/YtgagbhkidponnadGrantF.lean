/-
  Grant of the model, where the next port is looked for.
-/
import Derived.Test.YtgagbhkidponnadGrantS
namespace Go.Proofs.Ytgagbhkidponnad
open Go Go.RowKit
set_option linter.unusedVariables false

set_option maxRecDepth 8000 in
set_option maxHeartbeats 4000000 in
theorem specGrant_found (W : World) (t l : Int) (v u : Value) (xs : List Int) (ask : List Bool) (H : RdL shI W v xs) (Hu : RdL shB W u ask) (hl : szL shI xs ≤ 1048576) (hlu : szL shB ask ≤ 1048576) (hok : ArbOk xs t l) (hq : ask.length = xs.length) (hd : ak ask t.toNat = false ∨ ¬ 0 < l) (k pr : Nat) (yr : Int) (hN : NextAt ask t.toNat xs.length k) (hP : (t.toNat + k) % xs.length = pr ∧ xs.getD ((t.toNat + k) % xs.length) 0 = yr) : Calls Try.prog 26 #[vArbiter v t l, u] W (ResIGrant xs (pr : Int) (yr - 1) (pr : Int) W) := by
  have HOK := Lib.hid hok
  have HQ := Lib.hid hq
  have h14 : 1 ≤ xs.length ∧ xs.length ≤ 4 := ⟨hok.2.1, hok.2.2.1⟩
  obtain ⟨tn, htn⟩ : ∃ n : Nat, t = (n : Int) := ⟨t.toNat, by have := hok.2.2.2.1; omega⟩
  subst htn
  have htl : tn < xs.length := by have := hok.2.2.2.2.1; omega
  have hl0 := hok.2.2.2.2.2.1
  have hl9 : l ≤ 9 := by
    have h1 := hok.2.2.2.2.2.2
    rw [Int.toNat_natCast] at h1
    have h2 := (hok.1 (xs.getD tn 0) (by rw [List.getD_eq_getElem?_getD, List.getElem?_eq_getElem htl]; exact List.getElem_mem _)).2
    omega
  obtain ⟨b2, o2, k2, hv2, hc2⟩ := rdB_at Hu (by omega)
  obtain ⟨b3, o3, k3, hv3, hc3⟩ := rdI1_at H (by omega)
  subst hv2 hv3
  have HSL := Lib.hid H
  have HL := Lib.hid hl
  obtain ⟨n, hn⟩ : ∃ n, n = xs.length := ⟨_, rfl⟩
  have HE := Lib.hid hn
  rw [hq, ← hn] at hc2 ⊢
  rw [← hn] at hc3 HSL
  have HCA := Lib.hid hc2
  have HCW := Lib.hid hc3
  have hn1 : 1 ≤ n := by omega
  have hn4 : n ≤ 4 := by omega
  have htn : tn < n := by omega
  have hnb : n ≤ 1048576 := by omega
  have hti : (tn : Int) < (n : Int) := by omega
  have ht0 : (0 : Int) ≤ (tn : Int) := by omega
  have htt : ((tn : Int)).toNat = tn := by omega
  have e1_ : ((n : Int) != (n : Int)) = false := by simp
  have e2_ : ((n : Int) == (n : Int)) = true := by simp
  have HD := Lib.hid (show ak ask tn = false ∨ ¬ 0 < l by simpa using hd)
  clear hd
  have HN := Lib.hid (show NextAt ask tn n k by rw [hn]; simpa using hN)
  have HP := Lib.hid (show (tn + k) % n = pr ∧ xs.getD ((tn + k) % n) 0 = yr by rw [hn]; simpa using hP)
  have hk1 := hN.1
  have hkn : k ≤ n := by have := hN.2.1; omega
  clear hN hP
  clear H Hu hl hlu hc2 hc3 hn hok hq h14 htl
  unfold vArbiter
  go_enter Try.func26, Try.ntmps26
  have rA1_ := Lib.hid (show (((W.alloc (.cells #[.slice (some ⟨b3, o3, none⟩) n k3, .int .i64 (tn : Int), .int .i64 l] 44)).alloc (.cells #[.slice none 0 0, .int .i64 0, .int .i64 0] 44))).heap[W.heap.size]? = some (.cells #[.slice (some ⟨b3, o3, none⟩) n k3, .int .i64 (tn : Int), .int .i64 l] 44 (0, 0)) from by rw [heap_alloc_old _ _ (by simp only [World.size_alloc]; omega)]; exact heap_alloc_new _ _)
  have rR2_ := Lib.hid (show (((W.alloc (.cells #[.slice (some ⟨b3, o3, none⟩) n k3, .int .i64 (tn : Int), .int .i64 l] 44)).alloc (.cells #[.slice none 0 0, .int .i64 0, .int .i64 0] 44))).heap[W.heap.size + 1]? = some (.cells #[.slice none 0 0, .int .i64 0, .int .i64 0] 44 (0, 0)) from by exact heap_pair _ _ _)
  have G3_ := Lib.hid (show (W).grownBy (((W.alloc (.cells #[.slice (some ⟨b3, o3, none⟩) n k3, .int .i64 (tn : Int), .int .i64 l] 44)).alloc (.cells #[.slice none 0 0, .int .i64 0, .int .i64 0] 44))) none from (gby_alloc (gby_alloc (gby_refl _ _) _) _))
  have A_0_ : (((W.alloc (.cells #[.slice (some ⟨b3, o3, none⟩) n k3, .int .i64 (tn : Int), .int .i64 l] 44)).alloc (.cells #[.slice none 0 0, .int .i64 0, .int .i64 0] 44))).cell? ⟨W.heap.size, 0, none⟩ = some (.slice (some ⟨b3, o3, none⟩) n k3) := cell_of_row _ _ 0 _ _ _ rA1_.out
  have A_1_ : (((W.alloc (.cells #[.slice (some ⟨b3, o3, none⟩) n k3, .int .i64 (tn : Int), .int .i64 l] 44)).alloc (.cells #[.slice none 0 0, .int .i64 0, .int .i64 0] 44))).cell? ⟨W.heap.size, 1, none⟩ = some (.int .i64 (tn : Int)) := cell_of_row _ _ 1 _ _ _ rA1_.out
  have A_2_ : (((W.alloc (.cells #[.slice (some ⟨b3, o3, none⟩) n k3, .int .i64 (tn : Int), .int .i64 l] 44)).alloc (.cells #[.slice none 0 0, .int .i64 0, .int .i64 0] 44))).cell? ⟨W.heap.size, 2, none⟩ = some (.int .i64 l) := cell_of_row _ _ 2 _ _ _ rA1_.out
  have R_0_ : (((W.alloc (.cells #[.slice (some ⟨b3, o3, none⟩) n k3, .int .i64 (tn : Int), .int .i64 l] 44)).alloc (.cells #[.slice none 0 0, .int .i64 0, .int .i64 0] 44))).cell? ⟨W.heap.size + 1, 0, none⟩ = some (.slice none 0 0) := cell_of_row _ _ 0 _ _ _ rR2_.out
  have R_1_ : (((W.alloc (.cells #[.slice (some ⟨b3, o3, none⟩) n k3, .int .i64 (tn : Int), .int .i64 l] 44)).alloc (.cells #[.slice none 0 0, .int .i64 0, .int .i64 0] 44))).cell? ⟨W.heap.size + 1, 1, none⟩ = some (.int .i64 0) := cell_of_row _ _ 1 _ _ _ rR2_.out
  have R_2_ : (((W.alloc (.cells #[.slice (some ⟨b3, o3, none⟩) n k3, .int .i64 (tn : Int), .int .i64 l] 44)).alloc (.cells #[.slice none 0 0, .int .i64 0, .int .i64 0] 44))).cell? ⟨W.heap.size + 1, 2, none⟩ = some (.int .i64 0) := cell_of_row _ _ 2 _ _ _ rR2_.out
  go_wp2_with fail
  go_at_call 57
  refine (l18Copy_d _ (tn : Int) l _ xs (HSL.out.grow G3_.out) HL.out).mono ?_
  rintro e w1 ⟨d_, rfl, o, g⟩
  have sz_ := g.size
  try simp only [World.size_alloc] at sz_ o
  clear A_0_ A_1_ A_2_ R_0_ R_1_ R_2_
  have rA4_ := Lib.hid (show (w1).heap[W.heap.size]? = some (.cells #[.slice (some ⟨b3, o3, none⟩) n k3, .int .i64 (tn : Int), .int .i64 l] 44 (0, 0)) from row_held g rA1_.out)
  clear rA1_
  have rR5_ := Lib.hid (show (w1).heap[W.heap.size + 1]? = some (.cells #[.slice none 0 0, .int .i64 0, .int .i64 0] 44 (0, 0)) from row_held g rR2_.out)
  clear rR2_
  have G6_ := Lib.hid (show (W).grownBy (w1) none from gby_trans G3_.out g)
  clear g
  obtain ⟨qp, qn, qc, hv_⟩ := RdL.form (OwU.rd o)
  subst hv_
  unfold vArbiter
  have oC7_ := Lib.hid (show OwU (w1) ((W.heap.size + 1 + 1)) (w1.heap.size) [] [own shI (.slice qp qn qc) xs] from o)
  clear o
  have al_ : (w1).grownBy ((w1).alloc (.cells #[.slice qp qn qc, .int .i64 (tn : Int), .int .i64 l] 44)) none := gby_alloc (gby_refl _ _) _
  have rA8_ := Lib.hid (show ((w1.alloc (.cells #[.slice qp qn qc, .int .i64 (tn : Int), .int .i64 l] 44))).heap[W.heap.size]? = some (.cells #[.slice (some ⟨b3, o3, none⟩) n k3, .int .i64 (tn : Int), .int .i64 l] 44 (0, 0)) from row_held al_ rA4_.out)
  clear rA4_
  have rR9_ := Lib.hid (show ((w1.alloc (.cells #[.slice qp qn qc, .int .i64 (tn : Int), .int .i64 l] 44))).heap[W.heap.size + 1]? = some (.cells #[.slice none 0 0, .int .i64 0, .int .i64 0] 44 (0, 0)) from row_held al_ rR5_.out)
  clear rR5_
  have oC10_ := Lib.hid (show OwU ((w1.alloc (.cells #[.slice qp qn qc, .int .i64 (tn : Int), .int .i64 l] 44))) ((W.heap.size + 1 + 1)) (w1.heap.size) [] [own shI (.slice qp qn qc) xs] from OwU.grow oC7_.out al_)
  clear oC7_
  have G11_ := Lib.hid (show (W).grownBy ((w1.alloc (.cells #[.slice qp qn qc, .int .i64 (tn : Int), .int .i64 l] 44))) none from gby_trans G6_.out al_)
  have rX12_ := Lib.hid (show ((w1.alloc (.cells #[.slice qp qn qc, .int .i64 (tn : Int), .int .i64 l] 44))).heap[w1.heap.size]? = some (.cells #[.slice qp qn qc, .int .i64 (tn : Int), .int .i64 l] 44 (0, 0)) from by first | exact heap_alloc_new _ _ | exact heap_pair _ _ _ | exact heap_trip _ _ _ _)
  clear al_
  have A_0_ : ((w1.alloc (.cells #[.slice qp qn qc, .int .i64 (tn : Int), .int .i64 l] 44))).cell? ⟨W.heap.size, 0, none⟩ = some (.slice (some ⟨b3, o3, none⟩) n k3) := cell_of_row _ _ 0 _ _ _ rA8_.out
  have A_1_ : ((w1.alloc (.cells #[.slice qp qn qc, .int .i64 (tn : Int), .int .i64 l] 44))).cell? ⟨W.heap.size, 1, none⟩ = some (.int .i64 (tn : Int)) := cell_of_row _ _ 1 _ _ _ rA8_.out
  have A_2_ : ((w1.alloc (.cells #[.slice qp qn qc, .int .i64 (tn : Int), .int .i64 l] 44))).cell? ⟨W.heap.size, 2, none⟩ = some (.int .i64 l) := cell_of_row _ _ 2 _ _ _ rA8_.out
  have R_0_ : ((w1.alloc (.cells #[.slice qp qn qc, .int .i64 (tn : Int), .int .i64 l] 44))).cell? ⟨W.heap.size + 1, 0, none⟩ = some (.slice none 0 0) := cell_of_row _ _ 0 _ _ _ rR9_.out
  have R_1_ : ((w1.alloc (.cells #[.slice qp qn qc, .int .i64 (tn : Int), .int .i64 l] 44))).cell? ⟨W.heap.size + 1, 1, none⟩ = some (.int .i64 0) := cell_of_row _ _ 1 _ _ _ rR9_.out
  have R_2_ : ((w1.alloc (.cells #[.slice qp qn qc, .int .i64 (tn : Int), .int .i64 l] 44))).cell? ⟨W.heap.size + 1, 2, none⟩ = some (.int .i64 0) := cell_of_row _ _ 2 _ _ _ rR9_.out
  have X_0_ : ((w1.alloc (.cells #[.slice qp qn qc, .int .i64 (tn : Int), .int .i64 l] 44))).cell? ⟨w1.heap.size, 0, none⟩ = some (.slice qp qn qc) := cell_of_row _ _ 0 _ _ _ rX12_.out
  have X_1_ : ((w1.alloc (.cells #[.slice qp qn qc, .int .i64 (tn : Int), .int .i64 l] 44))).cell? ⟨w1.heap.size, 1, none⟩ = some (.int .i64 (tn : Int)) := cell_of_row _ _ 1 _ _ _ rX12_.out
  have X_2_ : ((w1.alloc (.cells #[.slice qp qn qc, .int .i64 (tn : Int), .int .i64 l] 44))).cell? ⟨w1.heap.size, 2, none⟩ = some (.int .i64 l) := cell_of_row _ _ 2 _ _ _ rX12_.out
  go_wp2_with fail
  go_at_call 58
  refine (specArb_yes _ _ _ _ xs _ _ (HSL.out.grow G11_.out) hnb HOK.out).mono ?_
  rintro e w2 ⟨rfl, g⟩
  have szw2 := g.size
  try simp only [World.size_alloc] at szw2
  try simp only [World.size_setCell] at szw2
  clear A_0_ A_1_ A_2_ R_0_ R_1_ R_2_ X_0_ X_1_ X_2_
  have rA13_ := Lib.hid (show (w2).heap[W.heap.size]? = some (.cells #[.slice (some ⟨b3, o3, none⟩) n k3, .int .i64 (tn : Int), .int .i64 l] 44 (0, 0)) from row_held g rA8_.out)
  clear rA8_
  have rR14_ := Lib.hid (show (w2).heap[W.heap.size + 1]? = some (.cells #[.slice none 0 0, .int .i64 0, .int .i64 0] 44 (0, 0)) from row_held g rR9_.out)
  clear rR9_
  have rX15_ := Lib.hid (show (w2).heap[w1.heap.size]? = some (.cells #[.slice qp qn qc, .int .i64 (tn : Int), .int .i64 l] 44 (0, 0)) from row_held g rX12_.out)
  clear rX12_
  have oC16_ := Lib.hid (show OwU (w2) ((W.heap.size + 1 + 1)) (w1.heap.size) [] [own shI (.slice qp qn qc) xs] from OwU.grow oC10_.out g)
  clear oC10_
  have G17_ := Lib.hid (show (W).grownBy (w2) none from gby_trans G11_.out g)
  clear g
  have A_0_ : (w2).cell? ⟨W.heap.size, 0, none⟩ = some (.slice (some ⟨b3, o3, none⟩) n k3) := cell_of_row _ _ 0 _ _ _ rA13_.out
  have A_1_ : (w2).cell? ⟨W.heap.size, 1, none⟩ = some (.int .i64 (tn : Int)) := cell_of_row _ _ 1 _ _ _ rA13_.out
  have A_2_ : (w2).cell? ⟨W.heap.size, 2, none⟩ = some (.int .i64 l) := cell_of_row _ _ 2 _ _ _ rA13_.out
  have R_0_ : (w2).cell? ⟨W.heap.size + 1, 0, none⟩ = some (.slice none 0 0) := cell_of_row _ _ 0 _ _ _ rR14_.out
  have R_1_ : (w2).cell? ⟨W.heap.size + 1, 1, none⟩ = some (.int .i64 0) := cell_of_row _ _ 1 _ _ _ rR14_.out
  have R_2_ : (w2).cell? ⟨W.heap.size + 1, 2, none⟩ = some (.int .i64 0) := cell_of_row _ _ 2 _ _ _ rR14_.out
  have X_0_ : (w2).cell? ⟨w1.heap.size, 0, none⟩ = some (.slice qp qn qc) := cell_of_row _ _ 0 _ _ _ rX15_.out
  have X_1_ : (w2).cell? ⟨w1.heap.size, 1, none⟩ = some (.int .i64 (tn : Int)) := cell_of_row _ _ 1 _ _ _ rX15_.out
  have X_2_ : (w2).cell? ⟨w1.heap.size, 2, none⟩ = some (.int .i64 l) := cell_of_row _ _ 2 _ _ _ rX15_.out
  have at_ := (G17_.out).cell (HCA.out tn htn) (by simp)
  generalize hak : ak ask tn = av at at_
  have hcond : av = false ∨ ¬ 0 < l := by
    rw [← hak]
    rcases HD.out with h | h
    · exact .inl h
    · exact .inr (by omega)
  clear hak
  by_cases hlp : 0 < l
  · obtain rfl : av = false := hcond.resolve_right (fun q => q hlp)
    have g1_ : decide (0 < l) = true := decide_eq_true hlp
    clear hcond hlp
    go_wp2
    clear A_0_ A_1_ A_2_ R_0_ R_1_ R_2_ X_0_ X_1_ X_2_
    have HTM218_ := Lib.hid (gby_refl (w2) none)
    have MG19_ := Lib.hid (show (W).grownBy (w2) none from G17_.out)
    have MR20_ := Lib.hid rA13_.out
    have MR21_ := Lib.hid rR14_.out
    have MR22_ := Lib.hid rX15_.out
    have HOWN := Lib.hid oC16_.out
    have hwX_ : w1.heap.size < w2.heap.size := lt_of_block (rX15_.out)
    go_loopw [8, 9] (fun i z9 wr => ∃ j : Nat, i = .int .i64 (j : Int) ∧ (∃ q, z9 = q) ∧ 1 ≤ j ∧ j ≤ k ∧ (w2).grownBy wr none) (fun i _ _ => n + 1 - (intOf i).toNat)
    case atStart => exact ⟨1, rfl, ⟨_, rfl⟩, by omega, by omega, gby_refl _ _⟩
    case round =>
      obtain ⟨j, rfl, ⟨z9, rfl⟩, hj1, hj2, hg⟩ := hrel
      have szrwr := hg.size
      try simp only [World.size_alloc] at szrwr
      try simp only [World.size_setCell] at szrwr
      have szr_ := szrwr
      have rA23_ := Lib.hid (show (wr).heap[W.heap.size]? = some (.cells #[.slice (some ⟨b3, o3, none⟩) n k3, .int .i64 (tn : Int), .int .i64 l] 44 (0, 0)) from row_held hg rA13_.out)
      clear rA13_
      have rR24_ := Lib.hid (show (wr).heap[W.heap.size + 1]? = some (.cells #[.slice none 0 0, .int .i64 0, .int .i64 0] 44 (0, 0)) from row_held hg rR14_.out)
      clear rR14_
      have rX25_ := Lib.hid (show (wr).heap[w1.heap.size]? = some (.cells #[.slice qp qn qc, .int .i64 (tn : Int), .int .i64 l] 44 (0, 0)) from row_held hg rX15_.out)
      clear rX15_
      have oC26_ := Lib.hid (show OwU (wr) ((W.heap.size + 1 + 1)) (w1.heap.size) [] [own shI (.slice qp qn qc) xs] from OwU.grow oC16_.out hg)
      clear oC16_
      have G27_ := Lib.hid (show (W).grownBy (wr) none from gby_trans G17_.out hg)
      have HTM228_ := Lib.hid (show (w2).grownBy (wr) none from gby_trans HTM218_.out hg)
      clear HTM218_
      have HTB_ := Lib.hid hg
      clear hg
      have A_0_ : (wr).cell? ⟨W.heap.size, 0, none⟩ = some (.slice (some ⟨b3, o3, none⟩) n k3) := cell_of_row _ _ 0 _ _ _ rA23_.out
      have A_1_ : (wr).cell? ⟨W.heap.size, 1, none⟩ = some (.int .i64 (tn : Int)) := cell_of_row _ _ 1 _ _ _ rA23_.out
      have A_2_ : (wr).cell? ⟨W.heap.size, 2, none⟩ = some (.int .i64 l) := cell_of_row _ _ 2 _ _ _ rA23_.out
      have R_0_ : (wr).cell? ⟨W.heap.size + 1, 0, none⟩ = some (.slice none 0 0) := cell_of_row _ _ 0 _ _ _ rR24_.out
      have R_1_ : (wr).cell? ⟨W.heap.size + 1, 1, none⟩ = some (.int .i64 0) := cell_of_row _ _ 1 _ _ _ rR24_.out
      have R_2_ : (wr).cell? ⟨W.heap.size + 1, 2, none⟩ = some (.int .i64 0) := cell_of_row _ _ 2 _ _ _ rR24_.out
      have X_0_ : (wr).cell? ⟨w1.heap.size, 0, none⟩ = some (.slice qp qn qc) := cell_of_row _ _ 0 _ _ _ rX25_.out
      have X_1_ : (wr).cell? ⟨w1.heap.size, 1, none⟩ = some (.int .i64 (tn : Int)) := cell_of_row _ _ 1 _ _ _ rX25_.out
      have X_2_ : (wr).cell? ⟨w1.heap.size, 2, none⟩ = some (.int .i64 l) := cell_of_row _ _ 2 _ _ _ rX25_.out
      have hj0 : (0 : Int) ≤ (j : Int) := by omega
      have htj : ((j : Int)).toNat = j := by omega
      have hlt : j ≤ n := by omega
      have hji : (j : Int) ≤ (n : Int) := by omega
      have hjd : decide ((j : Int) ≤ (n : Int)) = true := decide_eq_true hji
      obtain ⟨r, hr⟩ : ∃ r, r = (tn + j) % n := ⟨_, rfl⟩
      have hrn : r < n := by rw [hr]; exact Nat.mod_lt _ (by omega)
      have w1_ : IntKind.i64.wrap ((tn : Int) + (j : Int)) = (tn : Int) + (j : Int) := IntWalk.i64_in _ (by omega)
      have w2_ : ((tn : Int) + (j : Int)).tmod (n : Int) = (r : Int) := by rw [hr, ← tmod_nat]; rfl
      have w3_ : ((tn : Int) + (j : Int)) % (n : Int) = (r : Int) := by rw [hr, Int.natCast_emod]; rfl
      have w4_ : ¬ (n : Int) = 0 := by omega
      have w5_ : ((n : Int) == 0) = false := beq_eq_false_iff_ne.2 w4_
      have hr0 : (0 : Int) ≤ (r : Int) := by omega
      have hri : (r : Int) < (n : Int) := by omega
      have htr : ((r : Int)).toNat = r := by omega
      have HR := Lib.hid hr
      clear hr
      by_cases he : j = k
      · have HE9 := Lib.hid he
        clear he
        have ca_ := (G27_.out).cell (HCA.out r hrn) (by simp)
        rw [show ak ask r = true from by rw [HR.out, HE9.out]; exact HN.out.2.2.1] at ca_
        obtain ⟨y, hy⟩ : ∃ y, y = xs.getD r 0 := ⟨_, rfl⟩
        have cw_ := (G27_.out).cell (HCW.out r hrn) (by simp)
        have hy9 := HOK.out.1 (xs.getD r 0) (by rw [List.getD_eq_getElem?_getD, List.getElem?_eq_getElem (by rw [← HE.out]; exact hrn)]; exact List.getElem_mem _)
        rw [← hy] at cw_ hy9
        have w6_ : IntKind.i64.wrap (y - 1) = y - 1 := IntWalk.i64_in _ (by omega)
        have HPR := Lib.hid (show (r = pr ∧ y = yr) from ⟨by rw [HR.out, HE9.out]; exact HP.out.1, by rw [hy, HR.out, HE9.out]; exact HP.out.2⟩)
        clear hy
        obtain ⟨rfl, rfl⟩ := HPR.out
        have hb3_ : b3 < W.heap.size := World.block_lt_of_cell? _ _ (HCW.out r hrn)
        have n1_ : ¬ w1.heap.size = b3 := by omega
        have n2_ : ¬ b3 = w1.heap.size := by omega
        have n3_ : ¬ w1.heap.size = W.heap.size := by omega
        have n4_ : ¬ W.heap.size = w1.heap.size := by omega
        clear A_0_ A_1_ A_2_ R_0_ R_1_ R_2_ X_0_ X_1_ X_2_
        have A_0_ : (wr).cell? ⟨W.heap.size, 0, none⟩ = some (.slice (some ⟨b3, o3, none⟩) n k3) := cell_of_row _ _ 0 _ _ _ rA23_.out
        have A_1_ : (wr).cell? ⟨W.heap.size, 1, none⟩ = some (.int .i64 (tn : Int)) := cell_of_row _ _ 1 _ _ _ rA23_.out
        have A_2_ : (wr).cell? ⟨W.heap.size, 2, none⟩ = some (.int .i64 l) := cell_of_row _ _ 2 _ _ _ rA23_.out
        have R_0_ : (wr).cell? ⟨W.heap.size + 1, 0, none⟩ = some (.slice none 0 0) := cell_of_row _ _ 0 _ _ _ rR24_.out
        have R_1_ : (wr).cell? ⟨W.heap.size + 1, 1, none⟩ = some (.int .i64 0) := cell_of_row _ _ 1 _ _ _ rR24_.out
        have R_2_ : (wr).cell? ⟨W.heap.size + 1, 2, none⟩ = some (.int .i64 0) := cell_of_row _ _ 2 _ _ _ rR24_.out
        have Rf0_ : (wr).frozen? ⟨W.heap.size + 1, 0, none⟩ = false := frozen_of_row _ _ 0 _ _ rR24_.out
        have Rf1_ : (wr).frozen? ⟨W.heap.size + 1, 1, none⟩ = false := frozen_of_row _ _ 1 _ _ rR24_.out
        have Rf2_ : (wr).frozen? ⟨W.heap.size + 1, 2, none⟩ = false := frozen_of_row _ _ 2 _ _ rR24_.out
        have X_0_ : (wr).cell? ⟨w1.heap.size, 0, none⟩ = some (.slice qp qn qc) := cell_of_row _ _ 0 _ _ _ rX25_.out
        have X_1_ : (wr).cell? ⟨w1.heap.size, 1, none⟩ = some (.int .i64 (tn : Int)) := cell_of_row _ _ 1 _ _ _ rX25_.out
        have X_2_ : (wr).cell? ⟨w1.heap.size, 2, none⟩ = some (.int .i64 l) := cell_of_row _ _ 2 _ _ _ rX25_.out
        have Xf0_ : (wr).frozen? ⟨w1.heap.size, 0, none⟩ = false := frozen_of_row _ _ 0 _ _ rX25_.out
        have Xf1_ : (wr).frozen? ⟨w1.heap.size, 1, none⟩ = false := frozen_of_row _ _ 1 _ _ rX25_.out
        have Xf2_ : (wr).frozen? ⟨w1.heap.size, 2, none⟩ = false := frozen_of_row _ _ 2 _ _ rX25_.out
        have nbx_ : ¬ w1.heap.size = W.heap.size + 1 := by omega
        have nxb_ : ¬ W.heap.size + 1 = w1.heap.size := by omega
        have zr_ := Lib.hid (show ((((((wr.setCell ⟨w1.heap.size, 1, none⟩ (.int .i64 (r : Int))).setCell ⟨w1.heap.size, 2, none⟩ (.int .i64 (y - 1))).setCell ⟨W.heap.size + 1, 0, none⟩ (.slice qp qn qc)).setCell ⟨W.heap.size + 1, 1, none⟩ (.int .i64 (r : Int))).setCell ⟨W.heap.size + 1, 2, none⟩ (.int .i64 (y - 1)))).heap[W.heap.size + 1]? = some (.cells #[.slice qp qn qc, .int .i64 (r : Int), .int .i64 (y - 1)] 44 (0, 0)) from (heap_setCell_same _ _ 2 _ _ _ (heap_setCell_same _ _ 1 _ _ _ (heap_setCell_same _ _ 0 _ _ _ (set_far (set_far rR24_.out (by dsimp only; omega)) (by dsimp only; omega))))))
        have z0_ : ((((((wr.setCell ⟨w1.heap.size, 1, none⟩ (.int .i64 (r : Int))).setCell ⟨w1.heap.size, 2, none⟩ (.int .i64 (y - 1))).setCell ⟨W.heap.size + 1, 0, none⟩ (.slice qp qn qc)).setCell ⟨W.heap.size + 1, 1, none⟩ (.int .i64 (r : Int))).setCell ⟨W.heap.size + 1, 2, none⟩ (.int .i64 (y - 1)))).cell? ⟨W.heap.size + 1, 0, none⟩ = some (.slice qp qn qc) := cell_of_row _ _ 0 _ _ _ zr_.out
        have z1_ : ((((((wr.setCell ⟨w1.heap.size, 1, none⟩ (.int .i64 (r : Int))).setCell ⟨w1.heap.size, 2, none⟩ (.int .i64 (y - 1))).setCell ⟨W.heap.size + 1, 0, none⟩ (.slice qp qn qc)).setCell ⟨W.heap.size + 1, 1, none⟩ (.int .i64 (r : Int))).setCell ⟨W.heap.size + 1, 2, none⟩ (.int .i64 (y - 1)))).cell? ⟨W.heap.size + 1, 1, none⟩ = some (.int .i64 (r : Int)) := cell_of_row _ _ 1 _ _ _ zr_.out
        have z2_ : ((((((wr.setCell ⟨w1.heap.size, 1, none⟩ (.int .i64 (r : Int))).setCell ⟨w1.heap.size, 2, none⟩ (.int .i64 (y - 1))).setCell ⟨W.heap.size + 1, 0, none⟩ (.slice qp qn qc)).setCell ⟨W.heap.size + 1, 1, none⟩ (.int .i64 (r : Int))).setCell ⟨W.heap.size + 1, 2, none⟩ (.int .i64 (y - 1)))).cell? ⟨W.heap.size + 1, 2, none⟩ = some (.int .i64 (y - 1)) := cell_of_row _ _ 2 _ _ _ zr_.out
        go_wp2
        refine bodyPost_ret (v := .tuple #[.agg #[.slice qp qn qc, .int .i64 (r : Int), .int .i64 (y - 1)], .int .i64 (r : Int)]) (by simp [results, go_sem, z0_, z1_, z2_]) rfl ⟨_, rfl, ?_, ?_⟩
        · exact OwU.wide (lo := (W.heap.size + 1 + 1)) (by omega) (by simp only [World.size_setCell]; omega) (OwU.keep (chg_one _ _ _ _) (by omega) (OwU.keep (chg_one _ _ _ _) (by omega) (OwU.keep (chg_one _ _ _ _) (by omega) (OwU.keep (chg_one _ _ _ _) (by omega) (OwU.keep (chg_one _ _ _ _) (by omega) oC26_.out)))))
        · exact (gby_setnew (gby_setnew (gby_setnew (gby_setnew (gby_setnew G27_.out _ (by dsimp only; omega) _) _ (by dsimp only; omega) _) _ (by dsimp only; omega) _) _ (by dsimp only; omega) _) _ (by dsimp only; omega) _)
      have ca_ := (G27_.out).cell (HCA.out r hrn) (by simp)
      rw [show ak ask r = false from by rw [HR.out]; exact HN.out.2.2.2 _ (by omega) (by omega)] at ca_
      go_wp2
      refine ⟨⟨j + 1, by go_num, ⟨_, rfl⟩, by omega, by omega, HTB_.out⟩, by simp [intOf]; omega⟩
  have g1_ : decide (0 < l) = false := decide_eq_false hlp
  clear hcond hlp
  cases av
  · skip
    go_wp2
    clear A_0_ A_1_ A_2_ R_0_ R_1_ R_2_ X_0_ X_1_ X_2_
    have HTM218_ := Lib.hid (gby_refl (w2) none)
    have MG19_ := Lib.hid (show (W).grownBy (w2) none from G17_.out)
    have MR20_ := Lib.hid rA13_.out
    have MR21_ := Lib.hid rR14_.out
    have MR22_ := Lib.hid rX15_.out
    have HOWN := Lib.hid oC16_.out
    have hwX_ : w1.heap.size < w2.heap.size := lt_of_block (rX15_.out)
    go_loopw [8, 9] (fun i z9 wr => ∃ j : Nat, i = .int .i64 (j : Int) ∧ (∃ q, z9 = q) ∧ 1 ≤ j ∧ j ≤ k ∧ (w2).grownBy wr none) (fun i _ _ => n + 1 - (intOf i).toNat)
    case atStart => exact ⟨1, rfl, ⟨_, rfl⟩, by omega, by omega, gby_refl _ _⟩
    case round =>
      obtain ⟨j, rfl, ⟨z9, rfl⟩, hj1, hj2, hg⟩ := hrel
      have szrwr := hg.size
      try simp only [World.size_alloc] at szrwr
      try simp only [World.size_setCell] at szrwr
      have szr_ := szrwr
      have rA23_ := Lib.hid (show (wr).heap[W.heap.size]? = some (.cells #[.slice (some ⟨b3, o3, none⟩) n k3, .int .i64 (tn : Int), .int .i64 l] 44 (0, 0)) from row_held hg rA13_.out)
      clear rA13_
      have rR24_ := Lib.hid (show (wr).heap[W.heap.size + 1]? = some (.cells #[.slice none 0 0, .int .i64 0, .int .i64 0] 44 (0, 0)) from row_held hg rR14_.out)
      clear rR14_
      have rX25_ := Lib.hid (show (wr).heap[w1.heap.size]? = some (.cells #[.slice qp qn qc, .int .i64 (tn : Int), .int .i64 l] 44 (0, 0)) from row_held hg rX15_.out)
      clear rX15_
      have oC26_ := Lib.hid (show OwU (wr) ((W.heap.size + 1 + 1)) (w1.heap.size) [] [own shI (.slice qp qn qc) xs] from OwU.grow oC16_.out hg)
      clear oC16_
      have G27_ := Lib.hid (show (W).grownBy (wr) none from gby_trans G17_.out hg)
      have HTM228_ := Lib.hid (show (w2).grownBy (wr) none from gby_trans HTM218_.out hg)
      clear HTM218_
      have HTB_ := Lib.hid hg
      clear hg
      have A_0_ : (wr).cell? ⟨W.heap.size, 0, none⟩ = some (.slice (some ⟨b3, o3, none⟩) n k3) := cell_of_row _ _ 0 _ _ _ rA23_.out
      have A_1_ : (wr).cell? ⟨W.heap.size, 1, none⟩ = some (.int .i64 (tn : Int)) := cell_of_row _ _ 1 _ _ _ rA23_.out
      have A_2_ : (wr).cell? ⟨W.heap.size, 2, none⟩ = some (.int .i64 l) := cell_of_row _ _ 2 _ _ _ rA23_.out
      have R_0_ : (wr).cell? ⟨W.heap.size + 1, 0, none⟩ = some (.slice none 0 0) := cell_of_row _ _ 0 _ _ _ rR24_.out
      have R_1_ : (wr).cell? ⟨W.heap.size + 1, 1, none⟩ = some (.int .i64 0) := cell_of_row _ _ 1 _ _ _ rR24_.out
      have R_2_ : (wr).cell? ⟨W.heap.size + 1, 2, none⟩ = some (.int .i64 0) := cell_of_row _ _ 2 _ _ _ rR24_.out
      have X_0_ : (wr).cell? ⟨w1.heap.size, 0, none⟩ = some (.slice qp qn qc) := cell_of_row _ _ 0 _ _ _ rX25_.out
      have X_1_ : (wr).cell? ⟨w1.heap.size, 1, none⟩ = some (.int .i64 (tn : Int)) := cell_of_row _ _ 1 _ _ _ rX25_.out
      have X_2_ : (wr).cell? ⟨w1.heap.size, 2, none⟩ = some (.int .i64 l) := cell_of_row _ _ 2 _ _ _ rX25_.out
      have hj0 : (0 : Int) ≤ (j : Int) := by omega
      have htj : ((j : Int)).toNat = j := by omega
      have hlt : j ≤ n := by omega
      have hji : (j : Int) ≤ (n : Int) := by omega
      have hjd : decide ((j : Int) ≤ (n : Int)) = true := decide_eq_true hji
      obtain ⟨r, hr⟩ : ∃ r, r = (tn + j) % n := ⟨_, rfl⟩
      have hrn : r < n := by rw [hr]; exact Nat.mod_lt _ (by omega)
      have w1_ : IntKind.i64.wrap ((tn : Int) + (j : Int)) = (tn : Int) + (j : Int) := IntWalk.i64_in _ (by omega)
      have w2_ : ((tn : Int) + (j : Int)).tmod (n : Int) = (r : Int) := by rw [hr, ← tmod_nat]; rfl
      have w3_ : ((tn : Int) + (j : Int)) % (n : Int) = (r : Int) := by rw [hr, Int.natCast_emod]; rfl
      have w4_ : ¬ (n : Int) = 0 := by omega
      have w5_ : ((n : Int) == 0) = false := beq_eq_false_iff_ne.2 w4_
      have hr0 : (0 : Int) ≤ (r : Int) := by omega
      have hri : (r : Int) < (n : Int) := by omega
      have htr : ((r : Int)).toNat = r := by omega
      have HR := Lib.hid hr
      clear hr
      by_cases he : j = k
      · have HE9 := Lib.hid he
        clear he
        have ca_ := (G27_.out).cell (HCA.out r hrn) (by simp)
        rw [show ak ask r = true from by rw [HR.out, HE9.out]; exact HN.out.2.2.1] at ca_
        obtain ⟨y, hy⟩ : ∃ y, y = xs.getD r 0 := ⟨_, rfl⟩
        have cw_ := (G27_.out).cell (HCW.out r hrn) (by simp)
        have hy9 := HOK.out.1 (xs.getD r 0) (by rw [List.getD_eq_getElem?_getD, List.getElem?_eq_getElem (by rw [← HE.out]; exact hrn)]; exact List.getElem_mem _)
        rw [← hy] at cw_ hy9
        have w6_ : IntKind.i64.wrap (y - 1) = y - 1 := IntWalk.i64_in _ (by omega)
        have HPR := Lib.hid (show (r = pr ∧ y = yr) from ⟨by rw [HR.out, HE9.out]; exact HP.out.1, by rw [hy, HR.out, HE9.out]; exact HP.out.2⟩)
        clear hy
        obtain ⟨rfl, rfl⟩ := HPR.out
        have hb3_ : b3 < W.heap.size := World.block_lt_of_cell? _ _ (HCW.out r hrn)
        have n1_ : ¬ w1.heap.size = b3 := by omega
        have n2_ : ¬ b3 = w1.heap.size := by omega
        have n3_ : ¬ w1.heap.size = W.heap.size := by omega
        have n4_ : ¬ W.heap.size = w1.heap.size := by omega
        clear A_0_ A_1_ A_2_ R_0_ R_1_ R_2_ X_0_ X_1_ X_2_
        have A_0_ : (wr).cell? ⟨W.heap.size, 0, none⟩ = some (.slice (some ⟨b3, o3, none⟩) n k3) := cell_of_row _ _ 0 _ _ _ rA23_.out
        have A_1_ : (wr).cell? ⟨W.heap.size, 1, none⟩ = some (.int .i64 (tn : Int)) := cell_of_row _ _ 1 _ _ _ rA23_.out
        have A_2_ : (wr).cell? ⟨W.heap.size, 2, none⟩ = some (.int .i64 l) := cell_of_row _ _ 2 _ _ _ rA23_.out
        have R_0_ : (wr).cell? ⟨W.heap.size + 1, 0, none⟩ = some (.slice none 0 0) := cell_of_row _ _ 0 _ _ _ rR24_.out
        have R_1_ : (wr).cell? ⟨W.heap.size + 1, 1, none⟩ = some (.int .i64 0) := cell_of_row _ _ 1 _ _ _ rR24_.out
        have R_2_ : (wr).cell? ⟨W.heap.size + 1, 2, none⟩ = some (.int .i64 0) := cell_of_row _ _ 2 _ _ _ rR24_.out
        have Rf0_ : (wr).frozen? ⟨W.heap.size + 1, 0, none⟩ = false := frozen_of_row _ _ 0 _ _ rR24_.out
        have Rf1_ : (wr).frozen? ⟨W.heap.size + 1, 1, none⟩ = false := frozen_of_row _ _ 1 _ _ rR24_.out
        have Rf2_ : (wr).frozen? ⟨W.heap.size + 1, 2, none⟩ = false := frozen_of_row _ _ 2 _ _ rR24_.out
        have X_0_ : (wr).cell? ⟨w1.heap.size, 0, none⟩ = some (.slice qp qn qc) := cell_of_row _ _ 0 _ _ _ rX25_.out
        have X_1_ : (wr).cell? ⟨w1.heap.size, 1, none⟩ = some (.int .i64 (tn : Int)) := cell_of_row _ _ 1 _ _ _ rX25_.out
        have X_2_ : (wr).cell? ⟨w1.heap.size, 2, none⟩ = some (.int .i64 l) := cell_of_row _ _ 2 _ _ _ rX25_.out
        have Xf0_ : (wr).frozen? ⟨w1.heap.size, 0, none⟩ = false := frozen_of_row _ _ 0 _ _ rX25_.out
        have Xf1_ : (wr).frozen? ⟨w1.heap.size, 1, none⟩ = false := frozen_of_row _ _ 1 _ _ rX25_.out
        have Xf2_ : (wr).frozen? ⟨w1.heap.size, 2, none⟩ = false := frozen_of_row _ _ 2 _ _ rX25_.out
        have nbx_ : ¬ w1.heap.size = W.heap.size + 1 := by omega
        have nxb_ : ¬ W.heap.size + 1 = w1.heap.size := by omega
        have zr_ := Lib.hid (show ((((((wr.setCell ⟨w1.heap.size, 1, none⟩ (.int .i64 (r : Int))).setCell ⟨w1.heap.size, 2, none⟩ (.int .i64 (y - 1))).setCell ⟨W.heap.size + 1, 0, none⟩ (.slice qp qn qc)).setCell ⟨W.heap.size + 1, 1, none⟩ (.int .i64 (r : Int))).setCell ⟨W.heap.size + 1, 2, none⟩ (.int .i64 (y - 1)))).heap[W.heap.size + 1]? = some (.cells #[.slice qp qn qc, .int .i64 (r : Int), .int .i64 (y - 1)] 44 (0, 0)) from (heap_setCell_same _ _ 2 _ _ _ (heap_setCell_same _ _ 1 _ _ _ (heap_setCell_same _ _ 0 _ _ _ (set_far (set_far rR24_.out (by dsimp only; omega)) (by dsimp only; omega))))))
        have z0_ : ((((((wr.setCell ⟨w1.heap.size, 1, none⟩ (.int .i64 (r : Int))).setCell ⟨w1.heap.size, 2, none⟩ (.int .i64 (y - 1))).setCell ⟨W.heap.size + 1, 0, none⟩ (.slice qp qn qc)).setCell ⟨W.heap.size + 1, 1, none⟩ (.int .i64 (r : Int))).setCell ⟨W.heap.size + 1, 2, none⟩ (.int .i64 (y - 1)))).cell? ⟨W.heap.size + 1, 0, none⟩ = some (.slice qp qn qc) := cell_of_row _ _ 0 _ _ _ zr_.out
        have z1_ : ((((((wr.setCell ⟨w1.heap.size, 1, none⟩ (.int .i64 (r : Int))).setCell ⟨w1.heap.size, 2, none⟩ (.int .i64 (y - 1))).setCell ⟨W.heap.size + 1, 0, none⟩ (.slice qp qn qc)).setCell ⟨W.heap.size + 1, 1, none⟩ (.int .i64 (r : Int))).setCell ⟨W.heap.size + 1, 2, none⟩ (.int .i64 (y - 1)))).cell? ⟨W.heap.size + 1, 1, none⟩ = some (.int .i64 (r : Int)) := cell_of_row _ _ 1 _ _ _ zr_.out
        have z2_ : ((((((wr.setCell ⟨w1.heap.size, 1, none⟩ (.int .i64 (r : Int))).setCell ⟨w1.heap.size, 2, none⟩ (.int .i64 (y - 1))).setCell ⟨W.heap.size + 1, 0, none⟩ (.slice qp qn qc)).setCell ⟨W.heap.size + 1, 1, none⟩ (.int .i64 (r : Int))).setCell ⟨W.heap.size + 1, 2, none⟩ (.int .i64 (y - 1)))).cell? ⟨W.heap.size + 1, 2, none⟩ = some (.int .i64 (y - 1)) := cell_of_row _ _ 2 _ _ _ zr_.out
        go_wp2
        refine bodyPost_ret (v := .tuple #[.agg #[.slice qp qn qc, .int .i64 (r : Int), .int .i64 (y - 1)], .int .i64 (r : Int)]) (by simp [results, go_sem, z0_, z1_, z2_]) rfl ⟨_, rfl, ?_, ?_⟩
        · exact OwU.wide (lo := (W.heap.size + 1 + 1)) (by omega) (by simp only [World.size_setCell]; omega) (OwU.keep (chg_one _ _ _ _) (by omega) (OwU.keep (chg_one _ _ _ _) (by omega) (OwU.keep (chg_one _ _ _ _) (by omega) (OwU.keep (chg_one _ _ _ _) (by omega) (OwU.keep (chg_one _ _ _ _) (by omega) oC26_.out)))))
        · exact (gby_setnew (gby_setnew (gby_setnew (gby_setnew (gby_setnew G27_.out _ (by dsimp only; omega) _) _ (by dsimp only; omega) _) _ (by dsimp only; omega) _) _ (by dsimp only; omega) _) _ (by dsimp only; omega) _)
      have ca_ := (G27_.out).cell (HCA.out r hrn) (by simp)
      rw [show ak ask r = false from by rw [HR.out]; exact HN.out.2.2.2 _ (by omega) (by omega)] at ca_
      go_wp2
      refine ⟨⟨j + 1, by go_num, ⟨_, rfl⟩, by omega, by omega, HTB_.out⟩, by simp [intOf]; omega⟩
  · skip
    go_wp2
    clear A_0_ A_1_ A_2_ R_0_ R_1_ R_2_ X_0_ X_1_ X_2_
    have HTM218_ := Lib.hid (gby_refl (w2) none)
    have MG19_ := Lib.hid (show (W).grownBy (w2) none from G17_.out)
    have MR20_ := Lib.hid rA13_.out
    have MR21_ := Lib.hid rR14_.out
    have MR22_ := Lib.hid rX15_.out
    have HOWN := Lib.hid oC16_.out
    have hwX_ : w1.heap.size < w2.heap.size := lt_of_block (rX15_.out)
    go_loopw [8, 9] (fun i z9 wr => ∃ j : Nat, i = .int .i64 (j : Int) ∧ (∃ q, z9 = q) ∧ 1 ≤ j ∧ j ≤ k ∧ (w2).grownBy wr none) (fun i _ _ => n + 1 - (intOf i).toNat)
    case atStart => exact ⟨1, rfl, ⟨_, rfl⟩, by omega, by omega, gby_refl _ _⟩
    case round =>
      obtain ⟨j, rfl, ⟨z9, rfl⟩, hj1, hj2, hg⟩ := hrel
      have szrwr := hg.size
      try simp only [World.size_alloc] at szrwr
      try simp only [World.size_setCell] at szrwr
      have szr_ := szrwr
      have rA23_ := Lib.hid (show (wr).heap[W.heap.size]? = some (.cells #[.slice (some ⟨b3, o3, none⟩) n k3, .int .i64 (tn : Int), .int .i64 l] 44 (0, 0)) from row_held hg rA13_.out)
      clear rA13_
      have rR24_ := Lib.hid (show (wr).heap[W.heap.size + 1]? = some (.cells #[.slice none 0 0, .int .i64 0, .int .i64 0] 44 (0, 0)) from row_held hg rR14_.out)
      clear rR14_
      have rX25_ := Lib.hid (show (wr).heap[w1.heap.size]? = some (.cells #[.slice qp qn qc, .int .i64 (tn : Int), .int .i64 l] 44 (0, 0)) from row_held hg rX15_.out)
      clear rX15_
      have oC26_ := Lib.hid (show OwU (wr) ((W.heap.size + 1 + 1)) (w1.heap.size) [] [own shI (.slice qp qn qc) xs] from OwU.grow oC16_.out hg)
      clear oC16_
      have G27_ := Lib.hid (show (W).grownBy (wr) none from gby_trans G17_.out hg)
      have HTM228_ := Lib.hid (show (w2).grownBy (wr) none from gby_trans HTM218_.out hg)
      clear HTM218_
      have HTB_ := Lib.hid hg
      clear hg
      have A_0_ : (wr).cell? ⟨W.heap.size, 0, none⟩ = some (.slice (some ⟨b3, o3, none⟩) n k3) := cell_of_row _ _ 0 _ _ _ rA23_.out
      have A_1_ : (wr).cell? ⟨W.heap.size, 1, none⟩ = some (.int .i64 (tn : Int)) := cell_of_row _ _ 1 _ _ _ rA23_.out
      have A_2_ : (wr).cell? ⟨W.heap.size, 2, none⟩ = some (.int .i64 l) := cell_of_row _ _ 2 _ _ _ rA23_.out
      have R_0_ : (wr).cell? ⟨W.heap.size + 1, 0, none⟩ = some (.slice none 0 0) := cell_of_row _ _ 0 _ _ _ rR24_.out
      have R_1_ : (wr).cell? ⟨W.heap.size + 1, 1, none⟩ = some (.int .i64 0) := cell_of_row _ _ 1 _ _ _ rR24_.out
      have R_2_ : (wr).cell? ⟨W.heap.size + 1, 2, none⟩ = some (.int .i64 0) := cell_of_row _ _ 2 _ _ _ rR24_.out
      have X_0_ : (wr).cell? ⟨w1.heap.size, 0, none⟩ = some (.slice qp qn qc) := cell_of_row _ _ 0 _ _ _ rX25_.out
      have X_1_ : (wr).cell? ⟨w1.heap.size, 1, none⟩ = some (.int .i64 (tn : Int)) := cell_of_row _ _ 1 _ _ _ rX25_.out
      have X_2_ : (wr).cell? ⟨w1.heap.size, 2, none⟩ = some (.int .i64 l) := cell_of_row _ _ 2 _ _ _ rX25_.out
      have hj0 : (0 : Int) ≤ (j : Int) := by omega
      have htj : ((j : Int)).toNat = j := by omega
      have hlt : j ≤ n := by omega
      have hji : (j : Int) ≤ (n : Int) := by omega
      have hjd : decide ((j : Int) ≤ (n : Int)) = true := decide_eq_true hji
      obtain ⟨r, hr⟩ : ∃ r, r = (tn + j) % n := ⟨_, rfl⟩
      have hrn : r < n := by rw [hr]; exact Nat.mod_lt _ (by omega)
      have w1_ : IntKind.i64.wrap ((tn : Int) + (j : Int)) = (tn : Int) + (j : Int) := IntWalk.i64_in _ (by omega)
      have w2_ : ((tn : Int) + (j : Int)).tmod (n : Int) = (r : Int) := by rw [hr, ← tmod_nat]; rfl
      have w3_ : ((tn : Int) + (j : Int)) % (n : Int) = (r : Int) := by rw [hr, Int.natCast_emod]; rfl
      have w4_ : ¬ (n : Int) = 0 := by omega
      have w5_ : ((n : Int) == 0) = false := beq_eq_false_iff_ne.2 w4_
      have hr0 : (0 : Int) ≤ (r : Int) := by omega
      have hri : (r : Int) < (n : Int) := by omega
      have htr : ((r : Int)).toNat = r := by omega
      have HR := Lib.hid hr
      clear hr
      by_cases he : j = k
      · have HE9 := Lib.hid he
        clear he
        have ca_ := (G27_.out).cell (HCA.out r hrn) (by simp)
        rw [show ak ask r = true from by rw [HR.out, HE9.out]; exact HN.out.2.2.1] at ca_
        obtain ⟨y, hy⟩ : ∃ y, y = xs.getD r 0 := ⟨_, rfl⟩
        have cw_ := (G27_.out).cell (HCW.out r hrn) (by simp)
        have hy9 := HOK.out.1 (xs.getD r 0) (by rw [List.getD_eq_getElem?_getD, List.getElem?_eq_getElem (by rw [← HE.out]; exact hrn)]; exact List.getElem_mem _)
        rw [← hy] at cw_ hy9
        have w6_ : IntKind.i64.wrap (y - 1) = y - 1 := IntWalk.i64_in _ (by omega)
        have HPR := Lib.hid (show (r = pr ∧ y = yr) from ⟨by rw [HR.out, HE9.out]; exact HP.out.1, by rw [hy, HR.out, HE9.out]; exact HP.out.2⟩)
        clear hy
        obtain ⟨rfl, rfl⟩ := HPR.out
        have hb3_ : b3 < W.heap.size := World.block_lt_of_cell? _ _ (HCW.out r hrn)
        have n1_ : ¬ w1.heap.size = b3 := by omega
        have n2_ : ¬ b3 = w1.heap.size := by omega
        have n3_ : ¬ w1.heap.size = W.heap.size := by omega
        have n4_ : ¬ W.heap.size = w1.heap.size := by omega
        clear A_0_ A_1_ A_2_ R_0_ R_1_ R_2_ X_0_ X_1_ X_2_
        have A_0_ : (wr).cell? ⟨W.heap.size, 0, none⟩ = some (.slice (some ⟨b3, o3, none⟩) n k3) := cell_of_row _ _ 0 _ _ _ rA23_.out
        have A_1_ : (wr).cell? ⟨W.heap.size, 1, none⟩ = some (.int .i64 (tn : Int)) := cell_of_row _ _ 1 _ _ _ rA23_.out
        have A_2_ : (wr).cell? ⟨W.heap.size, 2, none⟩ = some (.int .i64 l) := cell_of_row _ _ 2 _ _ _ rA23_.out
        have R_0_ : (wr).cell? ⟨W.heap.size + 1, 0, none⟩ = some (.slice none 0 0) := cell_of_row _ _ 0 _ _ _ rR24_.out
        have R_1_ : (wr).cell? ⟨W.heap.size + 1, 1, none⟩ = some (.int .i64 0) := cell_of_row _ _ 1 _ _ _ rR24_.out
        have R_2_ : (wr).cell? ⟨W.heap.size + 1, 2, none⟩ = some (.int .i64 0) := cell_of_row _ _ 2 _ _ _ rR24_.out
        have Rf0_ : (wr).frozen? ⟨W.heap.size + 1, 0, none⟩ = false := frozen_of_row _ _ 0 _ _ rR24_.out
        have Rf1_ : (wr).frozen? ⟨W.heap.size + 1, 1, none⟩ = false := frozen_of_row _ _ 1 _ _ rR24_.out
        have Rf2_ : (wr).frozen? ⟨W.heap.size + 1, 2, none⟩ = false := frozen_of_row _ _ 2 _ _ rR24_.out
        have X_0_ : (wr).cell? ⟨w1.heap.size, 0, none⟩ = some (.slice qp qn qc) := cell_of_row _ _ 0 _ _ _ rX25_.out
        have X_1_ : (wr).cell? ⟨w1.heap.size, 1, none⟩ = some (.int .i64 (tn : Int)) := cell_of_row _ _ 1 _ _ _ rX25_.out
        have X_2_ : (wr).cell? ⟨w1.heap.size, 2, none⟩ = some (.int .i64 l) := cell_of_row _ _ 2 _ _ _ rX25_.out
        have Xf0_ : (wr).frozen? ⟨w1.heap.size, 0, none⟩ = false := frozen_of_row _ _ 0 _ _ rX25_.out
        have Xf1_ : (wr).frozen? ⟨w1.heap.size, 1, none⟩ = false := frozen_of_row _ _ 1 _ _ rX25_.out
        have Xf2_ : (wr).frozen? ⟨w1.heap.size, 2, none⟩ = false := frozen_of_row _ _ 2 _ _ rX25_.out
        have nbx_ : ¬ w1.heap.size = W.heap.size + 1 := by omega
        have nxb_ : ¬ W.heap.size + 1 = w1.heap.size := by omega
        have zr_ := Lib.hid (show ((((((wr.setCell ⟨w1.heap.size, 1, none⟩ (.int .i64 (r : Int))).setCell ⟨w1.heap.size, 2, none⟩ (.int .i64 (y - 1))).setCell ⟨W.heap.size + 1, 0, none⟩ (.slice qp qn qc)).setCell ⟨W.heap.size + 1, 1, none⟩ (.int .i64 (r : Int))).setCell ⟨W.heap.size + 1, 2, none⟩ (.int .i64 (y - 1)))).heap[W.heap.size + 1]? = some (.cells #[.slice qp qn qc, .int .i64 (r : Int), .int .i64 (y - 1)] 44 (0, 0)) from (heap_setCell_same _ _ 2 _ _ _ (heap_setCell_same _ _ 1 _ _ _ (heap_setCell_same _ _ 0 _ _ _ (set_far (set_far rR24_.out (by dsimp only; omega)) (by dsimp only; omega))))))
        have z0_ : ((((((wr.setCell ⟨w1.heap.size, 1, none⟩ (.int .i64 (r : Int))).setCell ⟨w1.heap.size, 2, none⟩ (.int .i64 (y - 1))).setCell ⟨W.heap.size + 1, 0, none⟩ (.slice qp qn qc)).setCell ⟨W.heap.size + 1, 1, none⟩ (.int .i64 (r : Int))).setCell ⟨W.heap.size + 1, 2, none⟩ (.int .i64 (y - 1)))).cell? ⟨W.heap.size + 1, 0, none⟩ = some (.slice qp qn qc) := cell_of_row _ _ 0 _ _ _ zr_.out
        have z1_ : ((((((wr.setCell ⟨w1.heap.size, 1, none⟩ (.int .i64 (r : Int))).setCell ⟨w1.heap.size, 2, none⟩ (.int .i64 (y - 1))).setCell ⟨W.heap.size + 1, 0, none⟩ (.slice qp qn qc)).setCell ⟨W.heap.size + 1, 1, none⟩ (.int .i64 (r : Int))).setCell ⟨W.heap.size + 1, 2, none⟩ (.int .i64 (y - 1)))).cell? ⟨W.heap.size + 1, 1, none⟩ = some (.int .i64 (r : Int)) := cell_of_row _ _ 1 _ _ _ zr_.out
        have z2_ : ((((((wr.setCell ⟨w1.heap.size, 1, none⟩ (.int .i64 (r : Int))).setCell ⟨w1.heap.size, 2, none⟩ (.int .i64 (y - 1))).setCell ⟨W.heap.size + 1, 0, none⟩ (.slice qp qn qc)).setCell ⟨W.heap.size + 1, 1, none⟩ (.int .i64 (r : Int))).setCell ⟨W.heap.size + 1, 2, none⟩ (.int .i64 (y - 1)))).cell? ⟨W.heap.size + 1, 2, none⟩ = some (.int .i64 (y - 1)) := cell_of_row _ _ 2 _ _ _ zr_.out
        go_wp2
        refine bodyPost_ret (v := .tuple #[.agg #[.slice qp qn qc, .int .i64 (r : Int), .int .i64 (y - 1)], .int .i64 (r : Int)]) (by simp [results, go_sem, z0_, z1_, z2_]) rfl ⟨_, rfl, ?_, ?_⟩
        · exact OwU.wide (lo := (W.heap.size + 1 + 1)) (by omega) (by simp only [World.size_setCell]; omega) (OwU.keep (chg_one _ _ _ _) (by omega) (OwU.keep (chg_one _ _ _ _) (by omega) (OwU.keep (chg_one _ _ _ _) (by omega) (OwU.keep (chg_one _ _ _ _) (by omega) (OwU.keep (chg_one _ _ _ _) (by omega) oC26_.out)))))
        · exact (gby_setnew (gby_setnew (gby_setnew (gby_setnew (gby_setnew G27_.out _ (by dsimp only; omega) _) _ (by dsimp only; omega) _) _ (by dsimp only; omega) _) _ (by dsimp only; omega) _) _ (by dsimp only; omega) _)
      have ca_ := (G27_.out).cell (HCA.out r hrn) (by simp)
      rw [show ak ask r = false from by rw [HR.out]; exact HN.out.2.2.2 _ (by omega) (by omega)] at ca_
      go_wp2
      refine ⟨⟨j + 1, by go_num, ⟨_, rfl⟩, by omega, by omega, HTB_.out⟩, by simp [intOf]; omega⟩

end Go.Proofs.Ytgagbhkidponnad
