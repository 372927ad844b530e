/-
  Senders copied by the model.
-/
import Derived.Test.YtcenngekjopjpaaSndOk
import Derived.Test.YtcenngekjopjpaaOwR
import Derived.Test.YtcenngekjopjpaaFrCp
import Derived.Test.YtcenngekjopjpaaQSender
import Derived.Deep.AppendLies
import Derived.Deep.RegionLaw
namespace Go.Proofs.Ytcenngekjopjpaa
open Go Go.RowKit
set_option linter.unusedVariables false

theorem row_drewS {w : World} {b : Nat} {o : Obj} (h : w.heap[b]? = some o) : w.drew.heap[b]? = some o := h
theorem take_next (xs : List DFrame) (k : Nat) (hk : k < xs.length) : xs.take (k + 1) = xs.take k ++ [xs.getD k default] := by
  rw [List.take_succ_eq_append_getElem hk, List.getD_eq_getElem?_getD, List.getElem?_eq_getElem hk]; rfl
theorem own_blockS {a : Option Addr} {n c : Nat} {w : World} {base : Nat} {e : TypeId} {size m : Nat} {xs : List Value} (h : w.ownsRow base e size (.slice a n c) m xs) : ∀ i, (Value.slice a n c).ownBlock = some i → i < w.heap.size := fun i hi => (h.lt i hi).2

theorem gby_size1 {w w' : World} {r : Option Nat} (g : w.grownBy w' r) : w.heap.size ≤ w'.heap.size := g.size
set_option maxRecDepth 8000 in
set_option maxHeartbeats 4000000 in
theorem l08Copy_d (W : World) (m r : Int) (v : Value) (xs : List DFrame) (H : RdL shFrame W v xs) (hl : szL shFrame xs ≤ 1048576) : Calls Try.prog 40 #[vSender m v r] W (NewSender m xs r W) := by
  have HS := Lib.hid hl
  obtain ⟨a0, cap0, rfl, hcap, _, H⟩ := H
  have HC := Lib.hid H
  obtain ⟨n0, hn0⟩ : ∃ n, n = xs.length := ⟨_, rfl⟩
  have HE := Lib.hid hn0
  have hlx : n0 ≤ 1048576 := by have := szL_len shFrame xs; omega
  rw [← hn0]
  rw [← hn0] at HC
  clear H hcap hl hn0
  unfold vSender
  go_enter Try.func40, Try.ntmps40
  have rA1_ := Lib.hid (show (((W.alloc (.cells #[.int .i64 m, .slice a0 n0 cap0, .int .i64 r] 29)).alloc (.cells #[.int .i64 0, .slice none 0 0, .int .i64 0] 29))).heap[W.heap.size]? = some (.cells #[.int .i64 m, .slice a0 n0 cap0, .int .i64 r] 29 (0, 0)) from by rw [heap_alloc_old _ _ (by simp only [World.size_alloc]; omega)]; exact heap_alloc_new _ _)
  have rR2_ := Lib.hid (show (((W.alloc (.cells #[.int .i64 m, .slice a0 n0 cap0, .int .i64 r] 29)).alloc (.cells #[.int .i64 0, .slice none 0 0, .int .i64 0] 29))).heap[W.heap.size + 1]? = some (.cells #[.int .i64 0, .slice none 0 0, .int .i64 0] 29 (0, 0)) from by exact heap_pair _ _ _)
  have G3_ := Lib.hid (show (W).grownBy (((W.alloc (.cells #[.int .i64 m, .slice a0 n0 cap0, .int .i64 r] 29)).alloc (.cells #[.int .i64 0, .slice none 0 0, .int .i64 0] 29))) none from (gby_alloc (gby_alloc (gby_refl _ _) _) _))
  have A_0_ : (((W.alloc (.cells #[.int .i64 m, .slice a0 n0 cap0, .int .i64 r] 29)).alloc (.cells #[.int .i64 0, .slice none 0 0, .int .i64 0] 29))).cell? ⟨W.heap.size, 0, none⟩ = some (.int .i64 m) := cell_of_row _ _ 0 _ _ _ rA1_.out
  have A_1_ : (((W.alloc (.cells #[.int .i64 m, .slice a0 n0 cap0, .int .i64 r] 29)).alloc (.cells #[.int .i64 0, .slice none 0 0, .int .i64 0] 29))).cell? ⟨W.heap.size, 1, none⟩ = some (.slice a0 n0 cap0) := cell_of_row _ _ 1 _ _ _ rA1_.out
  have A_2_ : (((W.alloc (.cells #[.int .i64 m, .slice a0 n0 cap0, .int .i64 r] 29)).alloc (.cells #[.int .i64 0, .slice none 0 0, .int .i64 0] 29))).cell? ⟨W.heap.size, 2, none⟩ = some (.int .i64 r) := cell_of_row _ _ 2 _ _ _ rA1_.out
  have R_0_ : (((W.alloc (.cells #[.int .i64 m, .slice a0 n0 cap0, .int .i64 r] 29)).alloc (.cells #[.int .i64 0, .slice none 0 0, .int .i64 0] 29))).cell? ⟨W.heap.size + 1, 0, none⟩ = some (.int .i64 0) := cell_of_row _ _ 0 _ _ _ rR2_.out
  have R_1_ : (((W.alloc (.cells #[.int .i64 m, .slice a0 n0 cap0, .int .i64 r] 29)).alloc (.cells #[.int .i64 0, .slice none 0 0, .int .i64 0] 29))).cell? ⟨W.heap.size + 1, 1, none⟩ = some (.slice none 0 0) := cell_of_row _ _ 1 _ _ _ rR2_.out
  have R_2_ : (((W.alloc (.cells #[.int .i64 m, .slice a0 n0 cap0, .int .i64 r] 29)).alloc (.cells #[.int .i64 0, .slice none 0 0, .int .i64 0] 29))).cell? ⟨W.heap.size + 1, 2, none⟩ = some (.int .i64 0) := cell_of_row _ _ 2 _ _ _ rR2_.out
  have HTM4_ := Lib.hid (gby_refl (((W.alloc (.cells #[.int .i64 m, .slice a0 n0 cap0, .int .i64 r] 29)).alloc (.cells #[.int .i64 0, .slice none 0 0, .int .i64 0] 29))) none)
  have MG5_ := Lib.hid (show (W).grownBy (((W.alloc (.cells #[.int .i64 m, .slice a0 n0 cap0, .int .i64 r] 29)).alloc (.cells #[.int .i64 0, .slice none 0 0, .int .i64 0] 29))) none from G3_.out)
  have MR6_ := Lib.hid rA1_.out
  have MR7_ := Lib.hid rR2_.out
  clear A_0_ A_1_ A_2_ R_0_ R_1_ R_2_
  have al_ : (((W.alloc (.cells #[.int .i64 m, .slice a0 n0 cap0, .int .i64 r] 29)).alloc (.cells #[.int .i64 0, .slice none 0 0, .int .i64 0] 29))).grownBy ((((W.alloc (.cells #[.int .i64 m, .slice a0 n0 cap0, .int .i64 r] 29)).alloc (.cells #[.int .i64 0, .slice none 0 0, .int .i64 0] 29))).alloc (.cells #[.int .i64 m, .slice none 0 0, .int .i64 r] 29)) none := gby_alloc (gby_refl _ _) _
  have rA8_ := Lib.hid (show ((((W.alloc (.cells #[.int .i64 m, .slice a0 n0 cap0, .int .i64 r] 29)).alloc (.cells #[.int .i64 0, .slice none 0 0, .int .i64 0] 29)).alloc (.cells #[.int .i64 m, .slice none 0 0, .int .i64 r] 29))).heap[W.heap.size]? = some (.cells #[.int .i64 m, .slice a0 n0 cap0, .int .i64 r] 29 (0, 0)) from row_held al_ rA1_.out)
  clear rA1_
  have rR9_ := Lib.hid (show ((((W.alloc (.cells #[.int .i64 m, .slice a0 n0 cap0, .int .i64 r] 29)).alloc (.cells #[.int .i64 0, .slice none 0 0, .int .i64 0] 29)).alloc (.cells #[.int .i64 m, .slice none 0 0, .int .i64 r] 29))).heap[W.heap.size + 1]? = some (.cells #[.int .i64 0, .slice none 0 0, .int .i64 0] 29 (0, 0)) from row_held al_ rR2_.out)
  clear rR2_
  have G10_ := Lib.hid (show (W).grownBy ((((W.alloc (.cells #[.int .i64 m, .slice a0 n0 cap0, .int .i64 r] 29)).alloc (.cells #[.int .i64 0, .slice none 0 0, .int .i64 0] 29)).alloc (.cells #[.int .i64 m, .slice none 0 0, .int .i64 r] 29))) none from gby_trans G3_.out al_)
  have HTM11_ := Lib.hid (show (((W.alloc (.cells #[.int .i64 m, .slice a0 n0 cap0, .int .i64 r] 29)).alloc (.cells #[.int .i64 0, .slice none 0 0, .int .i64 0] 29))).grownBy ((((W.alloc (.cells #[.int .i64 m, .slice a0 n0 cap0, .int .i64 r] 29)).alloc (.cells #[.int .i64 0, .slice none 0 0, .int .i64 0] 29)).alloc (.cells #[.int .i64 m, .slice none 0 0, .int .i64 r] 29))) none from gby_trans HTM4_.out al_)
  clear HTM4_
  have rB12_ := Lib.hid (show ((((W.alloc (.cells #[.int .i64 m, .slice a0 n0 cap0, .int .i64 r] 29)).alloc (.cells #[.int .i64 0, .slice none 0 0, .int .i64 0] 29)).alloc (.cells #[.int .i64 m, .slice none 0 0, .int .i64 r] 29))).heap[W.heap.size + 1 + 1]? = some (.cells #[.int .i64 m, .slice none 0 0, .int .i64 r] 29 (0, 0)) from by first | exact heap_alloc_new _ _ | exact heap_pair _ _ _ | exact heap_trip _ _ _ _)
  clear al_
  have A_0_ : ((((W.alloc (.cells #[.int .i64 m, .slice a0 n0 cap0, .int .i64 r] 29)).alloc (.cells #[.int .i64 0, .slice none 0 0, .int .i64 0] 29)).alloc (.cells #[.int .i64 m, .slice none 0 0, .int .i64 r] 29))).cell? ⟨W.heap.size, 0, none⟩ = some (.int .i64 m) := cell_of_row _ _ 0 _ _ _ rA8_.out
  have A_1_ : ((((W.alloc (.cells #[.int .i64 m, .slice a0 n0 cap0, .int .i64 r] 29)).alloc (.cells #[.int .i64 0, .slice none 0 0, .int .i64 0] 29)).alloc (.cells #[.int .i64 m, .slice none 0 0, .int .i64 r] 29))).cell? ⟨W.heap.size, 1, none⟩ = some (.slice a0 n0 cap0) := cell_of_row _ _ 1 _ _ _ rA8_.out
  have A_2_ : ((((W.alloc (.cells #[.int .i64 m, .slice a0 n0 cap0, .int .i64 r] 29)).alloc (.cells #[.int .i64 0, .slice none 0 0, .int .i64 0] 29)).alloc (.cells #[.int .i64 m, .slice none 0 0, .int .i64 r] 29))).cell? ⟨W.heap.size, 2, none⟩ = some (.int .i64 r) := cell_of_row _ _ 2 _ _ _ rA8_.out
  have R_0_ : ((((W.alloc (.cells #[.int .i64 m, .slice a0 n0 cap0, .int .i64 r] 29)).alloc (.cells #[.int .i64 0, .slice none 0 0, .int .i64 0] 29)).alloc (.cells #[.int .i64 m, .slice none 0 0, .int .i64 r] 29))).cell? ⟨W.heap.size + 1, 0, none⟩ = some (.int .i64 0) := cell_of_row _ _ 0 _ _ _ rR9_.out
  have R_1_ : ((((W.alloc (.cells #[.int .i64 m, .slice a0 n0 cap0, .int .i64 r] 29)).alloc (.cells #[.int .i64 0, .slice none 0 0, .int .i64 0] 29)).alloc (.cells #[.int .i64 m, .slice none 0 0, .int .i64 r] 29))).cell? ⟨W.heap.size + 1, 1, none⟩ = some (.slice none 0 0) := cell_of_row _ _ 1 _ _ _ rR9_.out
  have R_2_ : ((((W.alloc (.cells #[.int .i64 m, .slice a0 n0 cap0, .int .i64 r] 29)).alloc (.cells #[.int .i64 0, .slice none 0 0, .int .i64 0] 29)).alloc (.cells #[.int .i64 m, .slice none 0 0, .int .i64 r] 29))).cell? ⟨W.heap.size + 1, 2, none⟩ = some (.int .i64 0) := cell_of_row _ _ 2 _ _ _ rR9_.out
  have B_0_ : ((((W.alloc (.cells #[.int .i64 m, .slice a0 n0 cap0, .int .i64 r] 29)).alloc (.cells #[.int .i64 0, .slice none 0 0, .int .i64 0] 29)).alloc (.cells #[.int .i64 m, .slice none 0 0, .int .i64 r] 29))).cell? ⟨W.heap.size + 1 + 1, 0, none⟩ = some (.int .i64 m) := cell_of_row _ _ 0 _ _ _ rB12_.out
  have B_1_ : ((((W.alloc (.cells #[.int .i64 m, .slice a0 n0 cap0, .int .i64 r] 29)).alloc (.cells #[.int .i64 0, .slice none 0 0, .int .i64 0] 29)).alloc (.cells #[.int .i64 m, .slice none 0 0, .int .i64 r] 29))).cell? ⟨W.heap.size + 1 + 1, 1, none⟩ = some (.slice none 0 0) := cell_of_row _ _ 1 _ _ _ rB12_.out
  have B_2_ : ((((W.alloc (.cells #[.int .i64 m, .slice a0 n0 cap0, .int .i64 r] 29)).alloc (.cells #[.int .i64 0, .slice none 0 0, .int .i64 0] 29)).alloc (.cells #[.int .i64 m, .slice none 0 0, .int .i64 r] 29))).cell? ⟨W.heap.size + 1 + 1, 2, none⟩ = some (.int .i64 r) := cell_of_row _ _ 2 _ _ _ rB12_.out
  have HB0 := Lib.hid rB12_.out
  go_wp2
  go_loopw [4] (fun i wr => ∃ (k : Nat) (zv : Value), i = .int .i64 (k : Int) ∧ k ≤ n0 ∧ wr.heap[W.heap.size + 1 + 1]? = some (.cells #[.int .i64 m, zv, .int .i64 r] 29 (0, 0)) ∧ OwR shFrame 37 wr (W.heap.size + 1 + 1 + 1) zv (xs.take k) ∧ (((W.alloc (.cells #[.int .i64 m, .slice a0 n0 cap0, .int .i64 r] 29)).alloc (.cells #[.int .i64 0, .slice none 0 0, .int .i64 0] 29))).grownBy wr none) (fun i _ => n0 - (intOf i).toNat)
  case atStart => exact ⟨0, _, rfl, by omega, HB0.out, (by rw [List.take_zero]; exact owR_nil), HTM11_.out⟩
  case round =>
    clear A_0_ A_1_ A_2_ R_0_ R_1_ R_2_ B_0_ B_1_ B_2_
    clear rA8_
    clear rR9_
    clear rB12_
    clear HTM11_
    obtain ⟨k, zv, rfl, hk, hb_, hor_, hg⟩ := hrel
    have szr_ := hg.size
    try simp only [World.size_alloc] at szr_
    try simp only [World.size_setCell] at szr_
    have G13_ := Lib.hid (show (W).grownBy (wr) none from gby_trans MG5_.out hg)
    have rA14_ := Lib.hid (show (wr).heap[W.heap.size]? = some (.cells #[.int .i64 m, .slice a0 n0 cap0, .int .i64 r] 29 (0, 0)) from row_held hg MR6_.out)
    have rR15_ := Lib.hid (show (wr).heap[W.heap.size + 1]? = some (.cells #[.int .i64 0, .slice none 0 0, .int .i64 0] 29 (0, 0)) from row_held hg MR7_.out)
    have HTM16_ := Lib.hid hg
    clear hg
    have A_0_ : (wr).cell? ⟨W.heap.size, 0, none⟩ = some (.int .i64 m) := cell_of_row _ _ 0 _ _ _ rA14_.out
    have A_1_ : (wr).cell? ⟨W.heap.size, 1, none⟩ = some (.slice a0 n0 cap0) := cell_of_row _ _ 1 _ _ _ rA14_.out
    have A_2_ : (wr).cell? ⟨W.heap.size, 2, none⟩ = some (.int .i64 r) := cell_of_row _ _ 2 _ _ _ rA14_.out
    have R_0_ : (wr).cell? ⟨W.heap.size + 1, 0, none⟩ = some (.int .i64 0) := cell_of_row _ _ 0 _ _ _ rR15_.out
    have R_1_ : (wr).cell? ⟨W.heap.size + 1, 1, none⟩ = some (.slice none 0 0) := cell_of_row _ _ 1 _ _ _ rR15_.out
    have R_2_ : (wr).cell? ⟨W.heap.size + 1, 2, none⟩ = some (.int .i64 0) := cell_of_row _ _ 2 _ _ _ rR15_.out
    have hsz_ := gby_size1 MG5_.out
    clear HB0
    have hlk_ : (xs.take k).length = k := by rw [List.length_take]; have := HE.out; omega
    obtain ⟨p1, d1, hv_⟩ := OwR.form hor_
    rw [hlk_] at hv_
    subst hv_
    have HOR := Lib.hid hor_
    clear hor_
    have hk0 : (0 : Int) ≤ (k : Int) := by omega
    have htk : ((k : Int)).toNat = k := by omega
    have rB17_ := Lib.hid (show (wr).heap[W.heap.size + 1 + 1]? = some (.cells #[.int .i64 m, .slice p1 k d1, .int .i64 r] 29 (0, 0)) from hb_)
    clear hb_
    have hbw_ : W.heap.size + 1 + 1 < wr.heap.size := lt_of_block (rB17_.out)
    by_cases hlt : k < n0
    rotate_left
    · obtain rfl : k = n0 := by omega
      have hki : ¬ (k : Int) < (k : Int) := by omega
      have ex_ : xs.take k = xs := by rw [HE.out, List.take_length]
      have HOX := Lib.hid (show OwL shFrame wr (W.heap.size + 1 + 1 + 1) wr.heap.size (.slice p1 k d1) xs from by have q := OwR.own HOR.out (by have := HE.out; rw [hlk_]; omega); rw [ex_] at q; exact q)
      clear hlk_ ex_
      clear A_0_ A_1_ A_2_ R_0_ R_1_ R_2_
      have A_0_ : (wr).cell? ⟨W.heap.size, 0, none⟩ = some (.int .i64 m) := cell_of_row _ _ 0 _ _ _ rA14_.out
      have A_1_ : (wr).cell? ⟨W.heap.size, 1, none⟩ = some (.slice a0 k cap0) := cell_of_row _ _ 1 _ _ _ rA14_.out
      have A_2_ : (wr).cell? ⟨W.heap.size, 2, none⟩ = some (.int .i64 r) := cell_of_row _ _ 2 _ _ _ rA14_.out
      have R_0_ : (wr).cell? ⟨W.heap.size + 1, 0, none⟩ = some (.int .i64 0) := cell_of_row _ _ 0 _ _ _ rR15_.out
      have R_1_ : (wr).cell? ⟨W.heap.size + 1, 1, none⟩ = some (.slice none 0 0) := cell_of_row _ _ 1 _ _ _ rR15_.out
      have R_2_ : (wr).cell? ⟨W.heap.size + 1, 2, none⟩ = some (.int .i64 0) := cell_of_row _ _ 2 _ _ _ rR15_.out
      have Rf0_ : (wr).frozen? ⟨W.heap.size + 1, 0, none⟩ = false := frozen_of_row _ _ 0 _ _ rR15_.out
      have Rf1_ : (wr).frozen? ⟨W.heap.size + 1, 1, none⟩ = false := frozen_of_row _ _ 1 _ _ rR15_.out
      have Rf2_ : (wr).frozen? ⟨W.heap.size + 1, 2, none⟩ = false := frozen_of_row _ _ 2 _ _ rR15_.out
      have B_0_ : (wr).cell? ⟨W.heap.size + 1 + 1, 0, none⟩ = some (.int .i64 m) := cell_of_row _ _ 0 _ _ _ rB17_.out
      have B_1_ : (wr).cell? ⟨W.heap.size + 1 + 1, 1, none⟩ = some (.slice p1 k d1) := cell_of_row _ _ 1 _ _ _ rB17_.out
      have B_2_ : (wr).cell? ⟨W.heap.size + 1 + 1, 2, none⟩ = some (.int .i64 r) := cell_of_row _ _ 2 _ _ _ rB17_.out
      have zr_ := Lib.hid (show ((((wr.setCell ⟨W.heap.size + 1, 0, none⟩ (.int .i64 m)).setCell ⟨W.heap.size + 1, 1, none⟩ (.slice p1 k d1)).setCell ⟨W.heap.size + 1, 2, none⟩ (.int .i64 r))).heap[W.heap.size + 1]? = some (.cells #[.int .i64 m, .slice p1 k d1, .int .i64 r] 29 (0, 0)) from (heap_setCell_same _ _ 2 _ _ _ (heap_setCell_same _ _ 1 _ _ _ (heap_setCell_same _ _ 0 _ _ _ rR15_.out))))
      have z0_ : ((((wr.setCell ⟨W.heap.size + 1, 0, none⟩ (.int .i64 m)).setCell ⟨W.heap.size + 1, 1, none⟩ (.slice p1 k d1)).setCell ⟨W.heap.size + 1, 2, none⟩ (.int .i64 r))).cell? ⟨W.heap.size + 1, 0, none⟩ = some (.int .i64 m) := cell_of_row _ _ 0 _ _ _ zr_.out
      have z1_ : ((((wr.setCell ⟨W.heap.size + 1, 0, none⟩ (.int .i64 m)).setCell ⟨W.heap.size + 1, 1, none⟩ (.slice p1 k d1)).setCell ⟨W.heap.size + 1, 2, none⟩ (.int .i64 r))).cell? ⟨W.heap.size + 1, 1, none⟩ = some (.slice p1 k d1) := cell_of_row _ _ 1 _ _ _ zr_.out
      have z2_ : ((((wr.setCell ⟨W.heap.size + 1, 0, none⟩ (.int .i64 m)).setCell ⟨W.heap.size + 1, 1, none⟩ (.slice p1 k d1)).setCell ⟨W.heap.size + 1, 2, none⟩ (.int .i64 r))).cell? ⟨W.heap.size + 1, 2, none⟩ = some (.int .i64 r) := cell_of_row _ _ 2 _ _ _ zr_.out
      go_wp2
      refine bodyPost_ret (v := .agg #[.int .i64 m, .slice p1 k d1, .int .i64 r]) (by simp [results, go_sem, z0_, z1_, z2_]) rfl ⟨_, rfl, ?_, ?_⟩
      · exact OwU.wide (by omega) (by simp only [World.size_setCell]; omega) (OwU.keep (chg_one _ _ _ _) (.inr (by omega)) (OwU.keep (chg_one _ _ _ _) (.inr (by omega)) (OwU.keep (chg_one _ _ _ _) (.inr (by omega)) (OwU.one HOX.out))))
      · exact (gby_setnew (gby_setnew (gby_setnew G13_.out _ (by dsimp only; omega) _) _ (by dsimp only; omega) _) _ (by dsimp only; omega) _)
    have hki : (k : Int) < (n0 : Int) := by omega
    obtain ⟨ab, ao, rfl, hcell_⟩ := HC.out.resolve_left (by omega)
    have HCE := Lib.hid hcell_
    clear hcell_
    have hq_ : k < n0 := hlt
    obtain ⟨cs_, hat_, hrd_⟩ := HCE.out k (by omega)
    obtain ⟨xk, hx_⟩ : ∃ x, x = xs.getD k default := ⟨_, rfl⟩
    rw [← hx_] at hrd_
    have hzk_ : szL shI xk.f1 ≤ 1048576 := by have q1 := szL_at shFrame xs k (by have := HE.out; omega); rw [← hx_] at q1; exact Nat.le_trans q1 HS.out
    have HXk := Lib.hid (show xk = fr xs k from hx_)
    obtain ⟨v1_, rfl, r1_⟩ := hrd_
    obtain ⟨pk, nk, ck, hv_⟩ := RdL.form r1_
    subst hv_
    have Rk := Lib.hid r1_
    have HEk0 := Lib.hid (show W.cell? ⟨ab, ao + k * 2, none⟩ = some (.int .i64 xk.f0) from at_cell (j := 0) hat_ rfl)
    have HEk1 := Lib.hid (show W.cell? ⟨ab, ao + k * 2 + 1, none⟩ = some (.slice pk nk ck) from at_cell (j := 1) hat_ rfl)
    clear hat_ r1_ hx_ hq_
    have ek0_ := (G13_.out).cell HEk0.out (by simp)
    have ek1_ := (G13_.out).cell HEk1.out (by simp)
    clear A_0_ A_1_ A_2_ R_0_ R_1_ R_2_ ek0_ ek1_
    have ek0_ := (G13_.out).cell HEk0.out (by simp)
    have ek1_ := (G13_.out).cell HEk1.out (by simp)
    have A_0_ : (wr).cell? ⟨W.heap.size, 0, none⟩ = some (.int .i64 m) := cell_of_row _ _ 0 _ _ _ rA14_.out
    have A_1_ : (wr).cell? ⟨W.heap.size, 1, none⟩ = some (.slice (some ⟨ab, ao, none⟩) n0 cap0) := cell_of_row _ _ 1 _ _ _ rA14_.out
    have A_2_ : (wr).cell? ⟨W.heap.size, 2, none⟩ = some (.int .i64 r) := cell_of_row _ _ 2 _ _ _ rA14_.out
    have R_0_ : (wr).cell? ⟨W.heap.size + 1, 0, none⟩ = some (.int .i64 0) := cell_of_row _ _ 0 _ _ _ rR15_.out
    have R_1_ : (wr).cell? ⟨W.heap.size + 1, 1, none⟩ = some (.slice none 0 0) := cell_of_row _ _ 1 _ _ _ rR15_.out
    have R_2_ : (wr).cell? ⟨W.heap.size + 1, 2, none⟩ = some (.int .i64 0) := cell_of_row _ _ 2 _ _ _ rR15_.out
    have B_0_ : (wr).cell? ⟨W.heap.size + 1 + 1, 0, none⟩ = some (.int .i64 m) := cell_of_row _ _ 0 _ _ _ rB17_.out
    have B_1_ : (wr).cell? ⟨W.heap.size + 1 + 1, 1, none⟩ = some (.slice p1 k d1) := cell_of_row _ _ 1 _ _ _ rB17_.out
    have B_2_ : (wr).cell? ⟨W.heap.size + 1 + 1, 2, none⟩ = some (.int .i64 r) := cell_of_row _ _ 2 _ _ _ rB17_.out
    have Bf0_ : (wr).frozen? ⟨W.heap.size + 1 + 1, 0, none⟩ = false := frozen_of_row _ _ 0 _ _ rB17_.out
    have Bf1_ : (wr).frozen? ⟨W.heap.size + 1 + 1, 1, none⟩ = false := frozen_of_row _ _ 1 _ _ rB17_.out
    have Bf2_ : (wr).frozen? ⟨W.heap.size + 1 + 1, 2, none⟩ = false := frozen_of_row _ _ 2 _ _ rB17_.out
    have ek0_ := (G13_.out).cell HEk0.out (by simp)
    have ek1_ := (G13_.out).cell HEk1.out (by simp)
    have HRd := Lib.hid (show RdL shI wr.drew (.slice pk nk ck) xk.f1 from Rk.out.grow (gby_drew G13_.out))
    obtain ⟨cs, P, Q, hr_, hel_⟩ := HOR.out
    rw [hlk_] at hr_
    have HR1 := Lib.hid hr_
    have HEL := Lib.hid hel_
    have HLK := Lib.hid hlk_
    clear hr_ hel_ hlk_
    obtain ⟨i1_, hi1_, hz0_, hz1_, hz2_⟩ := info_parts infoFrameS
    have hwd_ : wr.drew.heap.size = wr.heap.size := rfl
    go_wp2_with fail
    go_region_law (first
      | (go_simp; go_at_call 45; refine (l08Frame_d _ xk.f0 _ xk.f1 HRd.out hzk_).mono ?_; rintro e wA ⟨vf, rfl, oA, gA⟩; unfold vFrame; obtain ⟨pf, nf, cf, hv_⟩ := RdL.form (OwU.rd oA); subst hv_; have sA := gA.size; (try simp only [World.size_drew] at sA); have ZA := row_held gA (row_drewS rB17_.out); have a1 := cell_of_row wA _ 1 _ _ _ ZA; have ZC := row_held (gby_alloc (gby_refl wA none) (.cells #[.int .i64 xk.f0, .slice pf nf cf] 37)) ZA; have a1c := cell_of_row _ _ 1 _ _ _ ZC; have OA1 := (World.ownsRow.drew HR1.out).grown gA)
      | (refine step_append_lies _ (by rfl) _ _ _ (by rfl) (W.heap.size + 1 + 1 + 1) 37 i1_ _ 2 32 Try.underlying27 hi1_ hz0_ hz1_ hz2_ rfl (by omega) _ k (flatN cs k) (by rfl) (OA1.alloc _) ⟨wA.heap.size, 0, none⟩ 1 1 _ (by rfl) (by rfl) (World.news_of_block (t := 37) (fr := (0, 0)) (heap_alloc_new wA _)) (by simp [Value.oneCell']) (by omega) (by unfold maxLen; omega) (by omega) (by simp; omega) _ (by rfl) ?_; intro g3 cap3 wB hownB hgB hatB hltB; have ZB : wB.heap[W.heap.size + 1 + 1]? = some (.cells #[.int .i64 m, (.slice p1 k d1), .int .i64 r] 29 (0, 0)) := (hgB.block (W.heap.size + 1 + 1) (by (try simp only [World.size_alloc]); omega) (fun e => by have := own_from OA1 _ e.symm; omega)).trans ZC; have b1 := cell_of_row wB _ 1 _ _ _ ZB; have f1 := frozen_of_row wB _ 1 _ _ ZB)
      | fail)
    all_goals
      have HGB := Lib.hid (show (((W.alloc (.cells #[.int .i64 m, .slice (some ⟨ab, ao, none⟩) n0 cap0, .int .i64 r] 29)).alloc (.cells #[.int .i64 0, .slice none 0 0, .int .i64 0] 29))).grownBy wB none from gby_new (gby_alloc (gby_trans (gby_drew HTM16_.out) gA) _) hgB (fun i hi => by have := own_from OA1 i hi; (try simp only [World.size_alloc]); omega))
      have HZB := Lib.hid ZB
      have oC := OwU.grow oA (gby_alloc (gby_refl wA none) (.cells #[.int .i64 xk.f0, .slice pf nf cf] 37))
      have HOB := Lib.hid (show OwR shFrame 37 wB (W.heap.size + 1 + 1 + 1) (.slice (some ⟨g3, 0, none⟩) (k + 1) cap3) (xs.take (k + 1)) from by
        rw [take_next xs k (by have := HE.out; omega), show xs.getD k default = xk from HXk.out.symm]
        refine owR_app (own_blockS HR1.out) HEL.out (gby_alloc (gby_trans (gby_drew (gby_refl wr none)) gA) _) (a := wr.heap.size) (b := wA.heap.size) ⟨_, rfl, oC⟩ (Nat.le_refl _) (by omega) (by simp only [World.size_alloc]; omega) (by rw [HLK.out]; exact hownB) hgB (fun i hi => ?_)
        have hi2 : g3 = i := Option.some.inj hi
        rcases hatB with q | q
        · exact .inl (by rw [← hi2]; exact q)
        · exact .inr (by rw [← hi2, q]; exact Nat.le_refl _))
      have sB := hgB.size
      (try simp only [World.size_alloc, World.size_drew] at sB)
      clear oC hownB hgB hatB hltB ZB OA1 oA gA ZA ZC
      try clear a1
      try clear a1c
      have zr_ := Lib.hid (show (wB.setCell ⟨W.heap.size + 1 + 1, 1, none⟩ (.slice (some ⟨g3, 0, none⟩) (k + 1) cap3)).heap[W.heap.size + 1 + 1]? = some (.cells #[.int .i64 m, (.slice (some ⟨g3, 0, none⟩) (k + 1) cap3), .int .i64 r] 29 (0, 0)) from heap_setCell_same _ _ 1 _ _ _ HZB.out)
      go_wp2
      refine ⟨⟨k + 1, _, by go_num, by omega, zr_.out, HOB.out.kept (gby_set (gby_refl _ _) _ _) (fun i hi => by have h2 := Option.some.inj hi; omega), gby_setnew HGB.out _ (by dsimp only; (try simp only [World.size_alloc]); omega) _⟩, by simp [intOf]; omega⟩

end Go.Proofs.Ytcenngekjopjpaa
