/-
  LinkOk, the model.
-/
import Derived.Test.YtnighnkkeiegnabLinkD
import Derived.Test.YtnighnkkeiegnabRLinkOk
import Derived.Deep.RegionHeld3
namespace Go.Proofs.Ytnighnkkeiegnab
open Go Go.RowKit
set_option linter.unusedVariables false

set_option maxRecDepth 8000 in
set_option maxHeartbeats 4000000 in
theorem specLnk_s (W : World) (m r e : Int) (v vl vf va : Value) (xs : List DFrame) (L fl : List (List Int)) (zs : List Int) (H : RdL shFrame W v xs) (HL_ : RdL (shL shI) W vl L) (HF_ : RdL (shL shI) W vf fl) (HA_ : RdL shI W va zs) (hl : szL shFrame xs ≤ 1048576) (hlL : szL (shL shI) L ≤ 1048576) (hlf : szL (shL shI) fl ≤ 1048576) (hla : szL shI zs ≤ 1048576) (hs : ¬ SndP m r xs) : Calls Try.prog 16 #[.agg #[.int .i64 m, v, .int .i64 r, .int .i64 e, vl, vf, va]] W (BPost (LnkP m r xs e L fl zs) W) := by
  have HSN := Lib.hid hs
  clear hs
  have HX := Lib.hid H
  have HLX := Lib.hid hl
  have HLL := Lib.hid HL_
  have HLB := Lib.hid hlL
  have HFL := Lib.hid HF_
  have HFB := Lib.hid hlf
  have HAL := Lib.hid HA_
  have HAB := Lib.hid hla
  obtain ⟨a2, cap2, rfl, _, hr2⟩ := rll_in HF_
  have HA2 := Lib.hid hr2.2
  have hbf := szLL_len hlf
  obtain ⟨n2, hn2⟩ : ∃ n, n = fl.length := ⟨_, rfl⟩
  have HE2 := Lib.hid hn2
  rw [← hn2] at HA2 hbf ⊢
  clear H HL_ HF_ hl hlL hlf hr2 hn2
  rw [szL_I] at hla
  obtain ⟨a1, cap1, rfl, _, hi1⟩ := rdI1_in HA_
  have HA1 := Lib.hid hi1
  obtain ⟨n1, hn1⟩ : ∃ n, n = zs.length := ⟨_, rfl⟩
  have HE1 := Lib.hid hn1
  unfold RdN1 at HA1
  rw [← hn1] at hla HA1 ⊢
  clear HA_ hi1 hn1
  rw [HE2.out.symm] at HFL
  rw [HE1.out.symm] at HAL
  go_enter Try.func16, Try.ntmps16
  have rA1_ := Lib.hid (show ((W.alloc (.cells #[.int .i64 m, v, .int .i64 r, .int .i64 e, vl, .slice a2 n2 cap2, .slice a1 n1 cap1] 54))).heap[W.heap.size]? = some (.cells #[.int .i64 m, v, .int .i64 r, .int .i64 e, vl, .slice a2 n2 cap2, .slice a1 n1 cap1] 54 (0, 0)) from by exact heap_alloc_new _ _)
  have G2_ := Lib.hid (show (W).grownBy ((W.alloc (.cells #[.int .i64 m, v, .int .i64 r, .int .i64 e, vl, .slice a2 n2 cap2, .slice a1 n1 cap1] 54))) none from (gby_alloc (gby_refl _ _) _))
  have A_0_ : ((W.alloc (.cells #[.int .i64 m, v, .int .i64 r, .int .i64 e, vl, .slice a2 n2 cap2, .slice a1 n1 cap1] 54))).cell? ⟨W.heap.size, 0, none⟩ = some (.int .i64 m) := cell_of_row _ _ 0 _ _ _ rA1_.out
  have A_1_ : ((W.alloc (.cells #[.int .i64 m, v, .int .i64 r, .int .i64 e, vl, .slice a2 n2 cap2, .slice a1 n1 cap1] 54))).cell? ⟨W.heap.size, 1, none⟩ = some (v) := cell_of_row _ _ 1 _ _ _ rA1_.out
  have A_2_ : ((W.alloc (.cells #[.int .i64 m, v, .int .i64 r, .int .i64 e, vl, .slice a2 n2 cap2, .slice a1 n1 cap1] 54))).cell? ⟨W.heap.size, 2, none⟩ = some (.int .i64 r) := cell_of_row _ _ 2 _ _ _ rA1_.out
  have A_3_ : ((W.alloc (.cells #[.int .i64 m, v, .int .i64 r, .int .i64 e, vl, .slice a2 n2 cap2, .slice a1 n1 cap1] 54))).cell? ⟨W.heap.size, 3, none⟩ = some (.int .i64 e) := cell_of_row _ _ 3 _ _ _ rA1_.out
  have A_4_ : ((W.alloc (.cells #[.int .i64 m, v, .int .i64 r, .int .i64 e, vl, .slice a2 n2 cap2, .slice a1 n1 cap1] 54))).cell? ⟨W.heap.size, 4, none⟩ = some (vl) := cell_of_row _ _ 4 _ _ _ rA1_.out
  have A_5_ : ((W.alloc (.cells #[.int .i64 m, v, .int .i64 r, .int .i64 e, vl, .slice a2 n2 cap2, .slice a1 n1 cap1] 54))).cell? ⟨W.heap.size, 5, none⟩ = some (.slice a2 n2 cap2) := cell_of_row _ _ 5 _ _ _ rA1_.out
  have A_6_ : ((W.alloc (.cells #[.int .i64 m, v, .int .i64 r, .int .i64 e, vl, .slice a2 n2 cap2, .slice a1 n1 cap1] 54))).cell? ⟨W.heap.size, 6, none⟩ = some (.slice a1 n1 cap1) := cell_of_row _ _ 6 _ _ _ rA1_.out
  go_wp2_with fail
  go_at_call 62
  refine ((specSnd _ m r _ xs (HX.out.grow G2_.out) HLX.out).mono (bpost_no HSN.out)).mono ?_
  rintro e w1 ⟨rfl, g⟩
  have szw1 := g.size
  try simp only [World.size_alloc] at szw1
  try simp only [World.size_setCell] at szw1
  clear A_0_ A_1_ A_2_ A_3_ A_4_ A_5_ A_6_
  have rA3_ := Lib.hid (show (w1).heap[W.heap.size]? = some (.cells #[.int .i64 m, v, .int .i64 r, .int .i64 e, vl, .slice a2 n2 cap2, .slice a1 n1 cap1] 54 (0, 0)) from row_held g rA1_.out)
  clear rA1_
  have G4_ := Lib.hid (show (W).grownBy (w1) none from gby_trans G2_.out g)
  clear g
  have A_0_ : (w1).cell? ⟨W.heap.size, 0, none⟩ = some (.int .i64 m) := cell_of_row _ _ 0 _ _ _ rA3_.out
  have A_1_ : (w1).cell? ⟨W.heap.size, 1, none⟩ = some (v) := cell_of_row _ _ 1 _ _ _ rA3_.out
  have A_2_ : (w1).cell? ⟨W.heap.size, 2, none⟩ = some (.int .i64 r) := cell_of_row _ _ 2 _ _ _ rA3_.out
  have A_3_ : (w1).cell? ⟨W.heap.size, 3, none⟩ = some (.int .i64 e) := cell_of_row _ _ 3 _ _ _ rA3_.out
  have A_4_ : (w1).cell? ⟨W.heap.size, 4, none⟩ = some (vl) := cell_of_row _ _ 4 _ _ _ rA3_.out
  have A_5_ : (w1).cell? ⟨W.heap.size, 5, none⟩ = some (.slice a2 n2 cap2) := cell_of_row _ _ 5 _ _ _ rA3_.out
  have A_6_ : (w1).cell? ⟨W.heap.size, 6, none⟩ = some (.slice a1 n1 cap1) := cell_of_row _ _ 6 _ _ _ rA3_.out
  go_wp2
  go_ret
  exact ⟨false, rfl, iff_noK (fun q => HSN.out q.1), G4_.out⟩

set_option maxRecDepth 8000 in
set_option maxHeartbeats 4000000 in
theorem specLnk_r (W : World) (m r e : Int) (v vl vf va : Value) (xs : List DFrame) (L fl : List (List Int)) (zs : List Int) (H : RdL shFrame W v xs) (HL_ : RdL (shL shI) W vl L) (HF_ : RdL (shL shI) W vf fl) (HA_ : RdL shI W va zs) (hl : szL shFrame xs ≤ 1048576) (hlL : szL (shL shI) L ≤ 1048576) (hlf : szL (shL shI) fl ≤ 1048576) (hla : szL shI zs ≤ 1048576) (hs : SndP m r xs) (hr : ¬ ROk e L) : Calls Try.prog 16 #[.agg #[.int .i64 m, v, .int .i64 r, .int .i64 e, vl, vf, va]] W (BPost (LnkP m r xs e L fl zs) W) := by
  have HSN := Lib.hid hs
  clear hs
  have HRO := Lib.hid (show false = decide (ROk e L) from (decide_eq_false hr).symm)
  clear hr
  have HX := Lib.hid H
  have HLX := Lib.hid hl
  have HLL := Lib.hid HL_
  have HLB := Lib.hid hlL
  have HFL := Lib.hid HF_
  have HFB := Lib.hid hlf
  have HAL := Lib.hid HA_
  have HAB := Lib.hid hla
  obtain ⟨a2, cap2, rfl, _, hr2⟩ := rll_in HF_
  have HA2 := Lib.hid hr2.2
  have hbf := szLL_len hlf
  obtain ⟨n2, hn2⟩ : ∃ n, n = fl.length := ⟨_, rfl⟩
  have HE2 := Lib.hid hn2
  rw [← hn2] at HA2 hbf ⊢
  clear H HL_ HF_ hl hlL hlf hr2 hn2
  rw [szL_I] at hla
  obtain ⟨a1, cap1, rfl, _, hi1⟩ := rdI1_in HA_
  have HA1 := Lib.hid hi1
  obtain ⟨n1, hn1⟩ : ∃ n, n = zs.length := ⟨_, rfl⟩
  have HE1 := Lib.hid hn1
  unfold RdN1 at HA1
  rw [← hn1] at hla HA1 ⊢
  clear HA_ hi1 hn1
  rw [HE2.out.symm] at HFL
  rw [HE1.out.symm] at HAL
  go_enter Try.func16, Try.ntmps16
  have rA1_ := Lib.hid (show ((W.alloc (.cells #[.int .i64 m, v, .int .i64 r, .int .i64 e, vl, .slice a2 n2 cap2, .slice a1 n1 cap1] 54))).heap[W.heap.size]? = some (.cells #[.int .i64 m, v, .int .i64 r, .int .i64 e, vl, .slice a2 n2 cap2, .slice a1 n1 cap1] 54 (0, 0)) from by exact heap_alloc_new _ _)
  have G2_ := Lib.hid (show (W).grownBy ((W.alloc (.cells #[.int .i64 m, v, .int .i64 r, .int .i64 e, vl, .slice a2 n2 cap2, .slice a1 n1 cap1] 54))) none from (gby_alloc (gby_refl _ _) _))
  have A_0_ : ((W.alloc (.cells #[.int .i64 m, v, .int .i64 r, .int .i64 e, vl, .slice a2 n2 cap2, .slice a1 n1 cap1] 54))).cell? ⟨W.heap.size, 0, none⟩ = some (.int .i64 m) := cell_of_row _ _ 0 _ _ _ rA1_.out
  have A_1_ : ((W.alloc (.cells #[.int .i64 m, v, .int .i64 r, .int .i64 e, vl, .slice a2 n2 cap2, .slice a1 n1 cap1] 54))).cell? ⟨W.heap.size, 1, none⟩ = some (v) := cell_of_row _ _ 1 _ _ _ rA1_.out
  have A_2_ : ((W.alloc (.cells #[.int .i64 m, v, .int .i64 r, .int .i64 e, vl, .slice a2 n2 cap2, .slice a1 n1 cap1] 54))).cell? ⟨W.heap.size, 2, none⟩ = some (.int .i64 r) := cell_of_row _ _ 2 _ _ _ rA1_.out
  have A_3_ : ((W.alloc (.cells #[.int .i64 m, v, .int .i64 r, .int .i64 e, vl, .slice a2 n2 cap2, .slice a1 n1 cap1] 54))).cell? ⟨W.heap.size, 3, none⟩ = some (.int .i64 e) := cell_of_row _ _ 3 _ _ _ rA1_.out
  have A_4_ : ((W.alloc (.cells #[.int .i64 m, v, .int .i64 r, .int .i64 e, vl, .slice a2 n2 cap2, .slice a1 n1 cap1] 54))).cell? ⟨W.heap.size, 4, none⟩ = some (vl) := cell_of_row _ _ 4 _ _ _ rA1_.out
  have A_5_ : ((W.alloc (.cells #[.int .i64 m, v, .int .i64 r, .int .i64 e, vl, .slice a2 n2 cap2, .slice a1 n1 cap1] 54))).cell? ⟨W.heap.size, 5, none⟩ = some (.slice a2 n2 cap2) := cell_of_row _ _ 5 _ _ _ rA1_.out
  have A_6_ : ((W.alloc (.cells #[.int .i64 m, v, .int .i64 r, .int .i64 e, vl, .slice a2 n2 cap2, .slice a1 n1 cap1] 54))).cell? ⟨W.heap.size, 6, none⟩ = some (.slice a1 n1 cap1) := cell_of_row _ _ 6 _ _ _ rA1_.out
  go_wp2_with fail
  go_at_call 62
  refine ((specSnd _ m r _ xs (HX.out.grow G2_.out) HLX.out).mono (bpost_yes HSN.out)).mono ?_
  rintro e w1 ⟨rfl, g⟩
  have szw1 := g.size
  try simp only [World.size_alloc] at szw1
  try simp only [World.size_setCell] at szw1
  clear A_0_ A_1_ A_2_ A_3_ A_4_ A_5_ A_6_
  have rA3_ := Lib.hid (show (w1).heap[W.heap.size]? = some (.cells #[.int .i64 m, v, .int .i64 r, .int .i64 e, vl, .slice a2 n2 cap2, .slice a1 n1 cap1] 54 (0, 0)) from row_held g rA1_.out)
  clear rA1_
  have G4_ := Lib.hid (show (W).grownBy (w1) none from gby_trans G2_.out g)
  clear g
  have A_0_ : (w1).cell? ⟨W.heap.size, 0, none⟩ = some (.int .i64 m) := cell_of_row _ _ 0 _ _ _ rA3_.out
  have A_1_ : (w1).cell? ⟨W.heap.size, 1, none⟩ = some (v) := cell_of_row _ _ 1 _ _ _ rA3_.out
  have A_2_ : (w1).cell? ⟨W.heap.size, 2, none⟩ = some (.int .i64 r) := cell_of_row _ _ 2 _ _ _ rA3_.out
  have A_3_ : (w1).cell? ⟨W.heap.size, 3, none⟩ = some (.int .i64 e) := cell_of_row _ _ 3 _ _ _ rA3_.out
  have A_4_ : (w1).cell? ⟨W.heap.size, 4, none⟩ = some (vl) := cell_of_row _ _ 4 _ _ _ rA3_.out
  have A_5_ : (w1).cell? ⟨W.heap.size, 5, none⟩ = some (.slice a2 n2 cap2) := cell_of_row _ _ 5 _ _ _ rA3_.out
  have A_6_ : (w1).cell? ⟨W.heap.size, 6, none⟩ = some (.slice a1 n1 cap1) := cell_of_row _ _ 6 _ _ _ rA3_.out
  go_wp2_with fail
  go_at_call 63
  refine (specROkD _ e _ L (HLL.out.grow G4_.out) HLB.out false HRO.out).mono ?_
  rintro e w2 ⟨rfl, g⟩
  have szw2 := g.size
  try simp only [World.size_alloc] at szw2
  try simp only [World.size_setCell] at szw2
  clear A_0_ A_1_ A_2_ A_3_ A_4_ A_5_ A_6_
  have rA5_ := Lib.hid (show (w2).heap[W.heap.size]? = some (.cells #[.int .i64 m, v, .int .i64 r, .int .i64 e, vl, .slice a2 n2 cap2, .slice a1 n1 cap1] 54 (0, 0)) from row_held g rA3_.out)
  clear rA3_
  have G6_ := Lib.hid (show (W).grownBy (w2) none from gby_trans G4_.out g)
  clear g
  have A_0_ : (w2).cell? ⟨W.heap.size, 0, none⟩ = some (.int .i64 m) := cell_of_row _ _ 0 _ _ _ rA5_.out
  have A_1_ : (w2).cell? ⟨W.heap.size, 1, none⟩ = some (v) := cell_of_row _ _ 1 _ _ _ rA5_.out
  have A_2_ : (w2).cell? ⟨W.heap.size, 2, none⟩ = some (.int .i64 r) := cell_of_row _ _ 2 _ _ _ rA5_.out
  have A_3_ : (w2).cell? ⟨W.heap.size, 3, none⟩ = some (.int .i64 e) := cell_of_row _ _ 3 _ _ _ rA5_.out
  have A_4_ : (w2).cell? ⟨W.heap.size, 4, none⟩ = some (vl) := cell_of_row _ _ 4 _ _ _ rA5_.out
  have A_5_ : (w2).cell? ⟨W.heap.size, 5, none⟩ = some (.slice a2 n2 cap2) := cell_of_row _ _ 5 _ _ _ rA5_.out
  have A_6_ : (w2).cell? ⟨W.heap.size, 6, none⟩ = some (.slice a1 n1 cap1) := cell_of_row _ _ 6 _ _ _ rA5_.out
  go_wp2
  go_ret
  exact ⟨false, rfl, iff_noK (fun q => by have := decide_eq_true q.2.1; rw [← HRO.out] at this; cases this), G6_.out⟩

set_option maxRecDepth 8000 in
set_option maxHeartbeats 4000000 in
theorem specLnk_y (W : World) (m r e : Int) (v vl vf va : Value) (xs : List DFrame) (L fl : List (List Int)) (zs : List Int) (H : RdL shFrame W v xs) (HL_ : RdL (shL shI) W vl L) (HF_ : RdL (shL shI) W vf fl) (HA_ : RdL shI W va zs) (hl : szL shFrame xs ≤ 1048576) (hlL : szL (shL shI) L ≤ 1048576) (hlf : szL (shL shI) fl ≤ 1048576) (hla : szL shI zs ≤ 1048576) (hs : SndP m r xs) (hr : ROk e L) : Calls Try.prog 16 #[.agg #[.int .i64 m, v, .int .i64 r, .int .i64 e, vl, vf, va]] W (BPost (LnkP m r xs e L fl zs) W) := by
  have HSN := Lib.hid hs
  clear hs
  have HRO := Lib.hid (show true = decide (ROk e L) from (decide_eq_true hr).symm)
  clear hr
  have HX := Lib.hid H
  have HLX := Lib.hid hl
  have HLL := Lib.hid HL_
  have HLB := Lib.hid hlL
  have HFL := Lib.hid HF_
  have HFB := Lib.hid hlf
  have HAL := Lib.hid HA_
  have HAB := Lib.hid hla
  obtain ⟨a2, cap2, rfl, _, hr2⟩ := rll_in HF_
  have HA2 := Lib.hid hr2.2
  have hbf := szLL_len hlf
  obtain ⟨n2, hn2⟩ : ∃ n, n = fl.length := ⟨_, rfl⟩
  have HE2 := Lib.hid hn2
  rw [← hn2] at HA2 hbf ⊢
  clear H HL_ HF_ hl hlL hlf hr2 hn2
  rw [szL_I] at hla
  obtain ⟨a1, cap1, rfl, _, hi1⟩ := rdI1_in HA_
  have HA1 := Lib.hid hi1
  obtain ⟨n1, hn1⟩ : ∃ n, n = zs.length := ⟨_, rfl⟩
  have HE1 := Lib.hid hn1
  unfold RdN1 at HA1
  rw [← hn1] at hla HA1 ⊢
  clear HA_ hi1 hn1
  rw [HE2.out.symm] at HFL
  rw [HE1.out.symm] at HAL
  go_enter Try.func16, Try.ntmps16
  have rA1_ := Lib.hid (show ((W.alloc (.cells #[.int .i64 m, v, .int .i64 r, .int .i64 e, vl, .slice a2 n2 cap2, .slice a1 n1 cap1] 54))).heap[W.heap.size]? = some (.cells #[.int .i64 m, v, .int .i64 r, .int .i64 e, vl, .slice a2 n2 cap2, .slice a1 n1 cap1] 54 (0, 0)) from by exact heap_alloc_new _ _)
  have G2_ := Lib.hid (show (W).grownBy ((W.alloc (.cells #[.int .i64 m, v, .int .i64 r, .int .i64 e, vl, .slice a2 n2 cap2, .slice a1 n1 cap1] 54))) none from (gby_alloc (gby_refl _ _) _))
  have A_0_ : ((W.alloc (.cells #[.int .i64 m, v, .int .i64 r, .int .i64 e, vl, .slice a2 n2 cap2, .slice a1 n1 cap1] 54))).cell? ⟨W.heap.size, 0, none⟩ = some (.int .i64 m) := cell_of_row _ _ 0 _ _ _ rA1_.out
  have A_1_ : ((W.alloc (.cells #[.int .i64 m, v, .int .i64 r, .int .i64 e, vl, .slice a2 n2 cap2, .slice a1 n1 cap1] 54))).cell? ⟨W.heap.size, 1, none⟩ = some (v) := cell_of_row _ _ 1 _ _ _ rA1_.out
  have A_2_ : ((W.alloc (.cells #[.int .i64 m, v, .int .i64 r, .int .i64 e, vl, .slice a2 n2 cap2, .slice a1 n1 cap1] 54))).cell? ⟨W.heap.size, 2, none⟩ = some (.int .i64 r) := cell_of_row _ _ 2 _ _ _ rA1_.out
  have A_3_ : ((W.alloc (.cells #[.int .i64 m, v, .int .i64 r, .int .i64 e, vl, .slice a2 n2 cap2, .slice a1 n1 cap1] 54))).cell? ⟨W.heap.size, 3, none⟩ = some (.int .i64 e) := cell_of_row _ _ 3 _ _ _ rA1_.out
  have A_4_ : ((W.alloc (.cells #[.int .i64 m, v, .int .i64 r, .int .i64 e, vl, .slice a2 n2 cap2, .slice a1 n1 cap1] 54))).cell? ⟨W.heap.size, 4, none⟩ = some (vl) := cell_of_row _ _ 4 _ _ _ rA1_.out
  have A_5_ : ((W.alloc (.cells #[.int .i64 m, v, .int .i64 r, .int .i64 e, vl, .slice a2 n2 cap2, .slice a1 n1 cap1] 54))).cell? ⟨W.heap.size, 5, none⟩ = some (.slice a2 n2 cap2) := cell_of_row _ _ 5 _ _ _ rA1_.out
  have A_6_ : ((W.alloc (.cells #[.int .i64 m, v, .int .i64 r, .int .i64 e, vl, .slice a2 n2 cap2, .slice a1 n1 cap1] 54))).cell? ⟨W.heap.size, 6, none⟩ = some (.slice a1 n1 cap1) := cell_of_row _ _ 6 _ _ _ rA1_.out
  go_wp2_with fail
  go_at_call 62
  refine ((specSnd _ m r _ xs (HX.out.grow G2_.out) HLX.out).mono (bpost_yes HSN.out)).mono ?_
  rintro e w1 ⟨rfl, g⟩
  have szw1 := g.size
  try simp only [World.size_alloc] at szw1
  try simp only [World.size_setCell] at szw1
  clear A_0_ A_1_ A_2_ A_3_ A_4_ A_5_ A_6_
  have rA3_ := Lib.hid (show (w1).heap[W.heap.size]? = some (.cells #[.int .i64 m, v, .int .i64 r, .int .i64 e, vl, .slice a2 n2 cap2, .slice a1 n1 cap1] 54 (0, 0)) from row_held g rA1_.out)
  clear rA1_
  have G4_ := Lib.hid (show (W).grownBy (w1) none from gby_trans G2_.out g)
  clear g
  have A_0_ : (w1).cell? ⟨W.heap.size, 0, none⟩ = some (.int .i64 m) := cell_of_row _ _ 0 _ _ _ rA3_.out
  have A_1_ : (w1).cell? ⟨W.heap.size, 1, none⟩ = some (v) := cell_of_row _ _ 1 _ _ _ rA3_.out
  have A_2_ : (w1).cell? ⟨W.heap.size, 2, none⟩ = some (.int .i64 r) := cell_of_row _ _ 2 _ _ _ rA3_.out
  have A_3_ : (w1).cell? ⟨W.heap.size, 3, none⟩ = some (.int .i64 e) := cell_of_row _ _ 3 _ _ _ rA3_.out
  have A_4_ : (w1).cell? ⟨W.heap.size, 4, none⟩ = some (vl) := cell_of_row _ _ 4 _ _ _ rA3_.out
  have A_5_ : (w1).cell? ⟨W.heap.size, 5, none⟩ = some (.slice a2 n2 cap2) := cell_of_row _ _ 5 _ _ _ rA3_.out
  have A_6_ : (w1).cell? ⟨W.heap.size, 6, none⟩ = some (.slice a1 n1 cap1) := cell_of_row _ _ 6 _ _ _ rA3_.out
  go_wp2_with fail
  go_at_call 63
  refine (specROkD _ e _ L (HLL.out.grow G4_.out) HLB.out true HRO.out).mono ?_
  rintro e w2 ⟨rfl, g⟩
  have szw2 := g.size
  try simp only [World.size_alloc] at szw2
  try simp only [World.size_setCell] at szw2
  clear A_0_ A_1_ A_2_ A_3_ A_4_ A_5_ A_6_
  have rA5_ := Lib.hid (show (w2).heap[W.heap.size]? = some (.cells #[.int .i64 m, v, .int .i64 r, .int .i64 e, vl, .slice a2 n2 cap2, .slice a1 n1 cap1] 54 (0, 0)) from row_held g rA3_.out)
  clear rA3_
  have G6_ := Lib.hid (show (W).grownBy (w2) none from gby_trans G4_.out g)
  clear g
  have A_0_ : (w2).cell? ⟨W.heap.size, 0, none⟩ = some (.int .i64 m) := cell_of_row _ _ 0 _ _ _ rA5_.out
  have A_1_ : (w2).cell? ⟨W.heap.size, 1, none⟩ = some (v) := cell_of_row _ _ 1 _ _ _ rA5_.out
  have A_2_ : (w2).cell? ⟨W.heap.size, 2, none⟩ = some (.int .i64 r) := cell_of_row _ _ 2 _ _ _ rA5_.out
  have A_3_ : (w2).cell? ⟨W.heap.size, 3, none⟩ = some (.int .i64 e) := cell_of_row _ _ 3 _ _ _ rA5_.out
  have A_4_ : (w2).cell? ⟨W.heap.size, 4, none⟩ = some (vl) := cell_of_row _ _ 4 _ _ _ rA5_.out
  have A_5_ : (w2).cell? ⟨W.heap.size, 5, none⟩ = some (.slice a2 n2 cap2) := cell_of_row _ _ 5 _ _ _ rA5_.out
  have A_6_ : (w2).cell? ⟨W.heap.size, 6, none⟩ = some (.slice a1 n1 cap1) := cell_of_row _ _ 6 _ _ _ rA5_.out
  by_cases h2_ : n2 ≤ 8
  rotate_left
  · have h2i_ : ¬ (n2 : Int) ≤ 8 := by omega
    have h2j_ : (8 : Int) < (n2 : Int) := by omega
    go_wp2
    go_ret
    exact ⟨false, rfl, iff_noK (fun q => by have := q.2.2.2.1; have := HE2.out; omega), G6_.out⟩
  have h2i_ : (n2 : Int) ≤ 8 := by omega
  have h2j_ : ¬ (8 : Int) < (n2 : Int) := by omega
  by_cases h1_ : n1 ≤ 8
  rotate_left
  · have h1i_ : ¬ (n1 : Int) ≤ 8 := by omega
    have h1j_ : (8 : Int) < (n1 : Int) := by omega
    go_wp2
    go_ret
    exact ⟨false, rfl, iff_noK (fun q => by have := q.2.2.2.2.1; have := HE1.out; omega), G6_.out⟩
  have h1i_ : (n1 : Int) ≤ 8 := by omega
  have h1j_ : ¬ (8 : Int) < (n1 : Int) := by omega
  go_wp2
  go_loopw [3] (fun i wr => ∃ n : Nat, i = .int .i64 (n : Int) ∧ n ≤ n2 ∧ (∀ j, j < n → AreB (fl.getD j [])) ∧ (w2).grownBy wr none) (fun i _ => n2 - (intOf i).toNat)
  case atStart => exact ⟨0, rfl, by omega, fun j hj => absurd hj (Nat.not_lt_zero _), gby_refl _ _⟩
  case round =>
    clear A_0_ A_1_ A_2_ A_3_ A_4_ A_5_ A_6_
    obtain ⟨wo, hwo_⟩ : ∃ w_, w_ = wr := ⟨_, rfl⟩
    subst hwo_
    obtain ⟨n, rfl, hn, hj_, hg⟩ := hrel
    have szrwo := hg.size
    try simp only [World.size_alloc] at szrwo
    try simp only [World.size_setCell] at szrwo
    have szr_ := szrwo
    have rA7_ := Lib.hid (show (wo).heap[W.heap.size]? = some (.cells #[.int .i64 m, v, .int .i64 r, .int .i64 e, vl, .slice a2 n2 cap2, .slice a1 n1 cap1] 54 (0, 0)) from row_held hg rA5_.out)
    clear rA5_
    have G8_ := Lib.hid (show (W).grownBy (wo) none from gby_trans G6_.out hg)
    have HTB_ := Lib.hid hg
    clear hg
    have A_0_ : (wo).cell? ⟨W.heap.size, 0, none⟩ = some (.int .i64 m) := cell_of_row _ _ 0 _ _ _ rA7_.out
    have A_1_ : (wo).cell? ⟨W.heap.size, 1, none⟩ = some (v) := cell_of_row _ _ 1 _ _ _ rA7_.out
    have A_2_ : (wo).cell? ⟨W.heap.size, 2, none⟩ = some (.int .i64 r) := cell_of_row _ _ 2 _ _ _ rA7_.out
    have A_3_ : (wo).cell? ⟨W.heap.size, 3, none⟩ = some (.int .i64 e) := cell_of_row _ _ 3 _ _ _ rA7_.out
    have A_4_ : (wo).cell? ⟨W.heap.size, 4, none⟩ = some (vl) := cell_of_row _ _ 4 _ _ _ rA7_.out
    have A_5_ : (wo).cell? ⟨W.heap.size, 5, none⟩ = some (.slice a2 n2 cap2) := cell_of_row _ _ 5 _ _ _ rA7_.out
    have A_6_ : (wo).cell? ⟨W.heap.size, 6, none⟩ = some (.slice a1 n1 cap1) := cell_of_row _ _ 6 _ _ _ rA7_.out
    have HJ2 := Lib.hid hj_
    clear hj_
    have hn0_ : (0 : Int) ≤ (n : Int) := by omega
    have htn : ((n : Int)).toNat = n := by omega
    by_cases hlt : n < n2
    rotate_left
    · have hnn_ : n2 = n := by omega
      subst hnn_
      have hki : ¬ (n2 : Int) < (n2 : Int) := by omega
      have HBL := Lib.hid (show AreBL fl from areBL_all (fun k hk => HJ2.out k (by have := HE2.out; omega)))
      go_wp2
      clear hki HJ2 htn hn0_ hlt hn
      go_loopw [4] (fun i wr => ∃ n : Nat, i = .int .i64 (n : Int) ∧ n ≤ n1 ∧ (∀ j, j < n → AnP (zs.getD j 0)) ∧ (wo).grownBy wr none) (fun i _ => n1 - (intOf i).toNat)
      case atStart => exact ⟨0, rfl, by omega, fun j hj => absurd hj (Nat.not_lt_zero _), gby_refl _ _⟩
      case round =>
        clear A_0_ A_1_ A_2_ A_3_ A_4_ A_5_ A_6_
        obtain ⟨n, rfl, hn, hj_, hg⟩ := hrel
        have szrwr := hg.size
        try simp only [World.size_alloc] at szrwr
        try simp only [World.size_setCell] at szrwr
        have szr_ := szrwr
        have rA9_ := Lib.hid (show (wr).heap[W.heap.size]? = some (.cells #[.int .i64 m, v, .int .i64 r, .int .i64 e, vl, .slice a2 n2 cap2, .slice a1 n1 cap1] 54 (0, 0)) from row_held hg rA7_.out)
        clear rA7_
        have G10_ := Lib.hid (show (W).grownBy (wr) none from gby_trans G8_.out hg)
        have HTI_ := Lib.hid hg
        clear hg
        have A_0_ : (wr).cell? ⟨W.heap.size, 0, none⟩ = some (.int .i64 m) := cell_of_row _ _ 0 _ _ _ rA9_.out
        have A_1_ : (wr).cell? ⟨W.heap.size, 1, none⟩ = some (v) := cell_of_row _ _ 1 _ _ _ rA9_.out
        have A_2_ : (wr).cell? ⟨W.heap.size, 2, none⟩ = some (.int .i64 r) := cell_of_row _ _ 2 _ _ _ rA9_.out
        have A_3_ : (wr).cell? ⟨W.heap.size, 3, none⟩ = some (.int .i64 e) := cell_of_row _ _ 3 _ _ _ rA9_.out
        have A_4_ : (wr).cell? ⟨W.heap.size, 4, none⟩ = some (vl) := cell_of_row _ _ 4 _ _ _ rA9_.out
        have A_5_ : (wr).cell? ⟨W.heap.size, 5, none⟩ = some (.slice a2 n2 cap2) := cell_of_row _ _ 5 _ _ _ rA9_.out
        have A_6_ : (wr).cell? ⟨W.heap.size, 6, none⟩ = some (.slice a1 n1 cap1) := cell_of_row _ _ 6 _ _ _ rA9_.out
        have HJ := Lib.hid hj_
        clear hj_
        have hn0_ : (0 : Int) ≤ (n : Int) := by omega
        have htn : ((n : Int)).toNat = n := by omega
        by_cases hlt : n < n1
        rotate_left
        · obtain rfl : n = n1 := by omega
          have hki : ¬ (n : Int) < (n : Int) := by omega
          go_wp2
          go_ret
          exact ⟨true, rfl, iff_yesK ⟨HSN.out, (of_decide_eq_true HRO.out.symm), HBL.out, by have := HE2.out; omega, by have := HE1.out; omega, fun k hk => HJ.out k (by have := HE1.out; omega)⟩, G10_.out⟩
        have hki : (n : Int) < (n1 : Int) := by omega
        obtain ⟨b1, o1, rfl, hc1_⟩ := HA1.out.resolve_left (by omega)
        have hy_ := hc1_ n hlt
        clear hc1_
        obtain ⟨y, hye_⟩ : ∃ y, y = zs.getD n 0 := ⟨_, rfl⟩
        rw [← hye_] at hy_
        have HY := Lib.hid hye_
        have HYC := Lib.hid hy_
        clear hye_ hy_
        obtain ⟨y2, hy2_⟩ : ∃ z, z = IntKind.i64.wrap (y - 100) := ⟨_, rfl⟩
        have hy2e_ := hy2_.symm
        have HY2 := Lib.hid hy2_
        clear hy2_
        obtain ⟨q1, hq1_⟩ : ∃ b, b = decide (IsQ y) := ⟨_, rfl⟩
        have HQ1 := Lib.hid hq1_
        clear hq1_
        obtain ⟨q2, hq2_⟩ : ∃ b, b = decide (IsQ y2) := ⟨_, rfl⟩
        have HQ2 := Lib.hid hq2_
        clear hq2_
        have HAN := Lib.hid (show AnP y ↔ (q1 || q2) = true from by unfold AnP; rw [← HY2.out, HQ1.out, HQ2.out, Bool.or_eq_true, decide_eq_true_iff, decide_eq_true_iff])
        have yc_ := (G10_.out).cell HYC.out (by simp)
        cases q1
        · cases q2
          · skip
            go_wp2_with fail
            go_at_call 65
            refine (specSeqD y false HQ1.out _).mono ?_
            rintro e w3 ⟨rfl, hd⟩
            have g := hd.gby none
            clear hd
            have szw3 := g.size
            try simp only [World.size_alloc] at szw3
            try simp only [World.size_setCell] at szw3
            clear A_0_ A_1_ A_2_ A_3_ A_4_ A_5_ A_6_ yc_
            have rA11_ := Lib.hid (show (w3).heap[W.heap.size]? = some (.cells #[.int .i64 m, v, .int .i64 r, .int .i64 e, vl, .slice a2 n2 cap2, .slice (some ⟨b1, o1, none⟩) n1 cap1] 54 (0, 0)) from row_held g rA9_.out)
            clear rA9_
            have G12_ := Lib.hid (show (W).grownBy (w3) none from gby_trans G10_.out g)
            have HTI13_ := Lib.hid (show (wo).grownBy (w3) none from gby_trans HTI_.out g)
            clear HTI_
            clear g
            have A_0_ : (w3).cell? ⟨W.heap.size, 0, none⟩ = some (.int .i64 m) := cell_of_row _ _ 0 _ _ _ rA11_.out
            have A_1_ : (w3).cell? ⟨W.heap.size, 1, none⟩ = some (v) := cell_of_row _ _ 1 _ _ _ rA11_.out
            have A_2_ : (w3).cell? ⟨W.heap.size, 2, none⟩ = some (.int .i64 r) := cell_of_row _ _ 2 _ _ _ rA11_.out
            have A_3_ : (w3).cell? ⟨W.heap.size, 3, none⟩ = some (.int .i64 e) := cell_of_row _ _ 3 _ _ _ rA11_.out
            have A_4_ : (w3).cell? ⟨W.heap.size, 4, none⟩ = some (vl) := cell_of_row _ _ 4 _ _ _ rA11_.out
            have A_5_ : (w3).cell? ⟨W.heap.size, 5, none⟩ = some (.slice a2 n2 cap2) := cell_of_row _ _ 5 _ _ _ rA11_.out
            have A_6_ : (w3).cell? ⟨W.heap.size, 6, none⟩ = some (.slice (some ⟨b1, o1, none⟩) n1 cap1) := cell_of_row _ _ 6 _ _ _ rA11_.out
            have yc_ := (G12_.out).cell HYC.out (by simp)
            go_wp2_with fail
            go_at_call 65
            refine (specSeqD y2 false HQ2.out _).mono ?_
            rintro e w4 ⟨rfl, hd⟩
            have g := hd.gby none
            clear hd
            have szw4 := g.size
            try simp only [World.size_alloc] at szw4
            try simp only [World.size_setCell] at szw4
            clear A_0_ A_1_ A_2_ A_3_ A_4_ A_5_ A_6_ yc_
            have rA14_ := Lib.hid (show (w4).heap[W.heap.size]? = some (.cells #[.int .i64 m, v, .int .i64 r, .int .i64 e, vl, .slice a2 n2 cap2, .slice (some ⟨b1, o1, none⟩) n1 cap1] 54 (0, 0)) from row_held g rA11_.out)
            clear rA11_
            have G15_ := Lib.hid (show (W).grownBy (w4) none from gby_trans G12_.out g)
            have HTI16_ := Lib.hid (show (wo).grownBy (w4) none from gby_trans HTI13_.out g)
            clear HTI13_
            clear g
            have A_0_ : (w4).cell? ⟨W.heap.size, 0, none⟩ = some (.int .i64 m) := cell_of_row _ _ 0 _ _ _ rA14_.out
            have A_1_ : (w4).cell? ⟨W.heap.size, 1, none⟩ = some (v) := cell_of_row _ _ 1 _ _ _ rA14_.out
            have A_2_ : (w4).cell? ⟨W.heap.size, 2, none⟩ = some (.int .i64 r) := cell_of_row _ _ 2 _ _ _ rA14_.out
            have A_3_ : (w4).cell? ⟨W.heap.size, 3, none⟩ = some (.int .i64 e) := cell_of_row _ _ 3 _ _ _ rA14_.out
            have A_4_ : (w4).cell? ⟨W.heap.size, 4, none⟩ = some (vl) := cell_of_row _ _ 4 _ _ _ rA14_.out
            have A_5_ : (w4).cell? ⟨W.heap.size, 5, none⟩ = some (.slice a2 n2 cap2) := cell_of_row _ _ 5 _ _ _ rA14_.out
            have A_6_ : (w4).cell? ⟨W.heap.size, 6, none⟩ = some (.slice (some ⟨b1, o1, none⟩) n1 cap1) := cell_of_row _ _ 6 _ _ _ rA14_.out
            have yc_ := (G15_.out).cell HYC.out (by simp)
            go_wp2
            go_ret
            exact ⟨false, rfl, iff_noK (fun q => absurd q.2.2.2.2.2 (fun h => absurd (HAN.out.1 (by rw [HY.out]; exact h n (by have := HE1.out; omega))) (by decide))), G15_.out⟩
          · skip
            go_wp2_with fail
            go_at_call 65
            refine (specSeqD y false HQ1.out _).mono ?_
            rintro e w3 ⟨rfl, hd⟩
            have g := hd.gby none
            clear hd
            have szw3 := g.size
            try simp only [World.size_alloc] at szw3
            try simp only [World.size_setCell] at szw3
            clear A_0_ A_1_ A_2_ A_3_ A_4_ A_5_ A_6_ yc_
            have rA11_ := Lib.hid (show (w3).heap[W.heap.size]? = some (.cells #[.int .i64 m, v, .int .i64 r, .int .i64 e, vl, .slice a2 n2 cap2, .slice (some ⟨b1, o1, none⟩) n1 cap1] 54 (0, 0)) from row_held g rA9_.out)
            clear rA9_
            have G12_ := Lib.hid (show (W).grownBy (w3) none from gby_trans G10_.out g)
            have HTI13_ := Lib.hid (show (wo).grownBy (w3) none from gby_trans HTI_.out g)
            clear HTI_
            clear g
            have A_0_ : (w3).cell? ⟨W.heap.size, 0, none⟩ = some (.int .i64 m) := cell_of_row _ _ 0 _ _ _ rA11_.out
            have A_1_ : (w3).cell? ⟨W.heap.size, 1, none⟩ = some (v) := cell_of_row _ _ 1 _ _ _ rA11_.out
            have A_2_ : (w3).cell? ⟨W.heap.size, 2, none⟩ = some (.int .i64 r) := cell_of_row _ _ 2 _ _ _ rA11_.out
            have A_3_ : (w3).cell? ⟨W.heap.size, 3, none⟩ = some (.int .i64 e) := cell_of_row _ _ 3 _ _ _ rA11_.out
            have A_4_ : (w3).cell? ⟨W.heap.size, 4, none⟩ = some (vl) := cell_of_row _ _ 4 _ _ _ rA11_.out
            have A_5_ : (w3).cell? ⟨W.heap.size, 5, none⟩ = some (.slice a2 n2 cap2) := cell_of_row _ _ 5 _ _ _ rA11_.out
            have A_6_ : (w3).cell? ⟨W.heap.size, 6, none⟩ = some (.slice (some ⟨b1, o1, none⟩) n1 cap1) := cell_of_row _ _ 6 _ _ _ rA11_.out
            have yc_ := (G12_.out).cell HYC.out (by simp)
            go_wp2_with fail
            go_at_call 65
            refine (specSeqD y2 true HQ2.out _).mono ?_
            rintro e w4 ⟨rfl, hd⟩
            have g := hd.gby none
            clear hd
            have szw4 := g.size
            try simp only [World.size_alloc] at szw4
            try simp only [World.size_setCell] at szw4
            clear A_0_ A_1_ A_2_ A_3_ A_4_ A_5_ A_6_ yc_
            have rA14_ := Lib.hid (show (w4).heap[W.heap.size]? = some (.cells #[.int .i64 m, v, .int .i64 r, .int .i64 e, vl, .slice a2 n2 cap2, .slice (some ⟨b1, o1, none⟩) n1 cap1] 54 (0, 0)) from row_held g rA11_.out)
            clear rA11_
            have G15_ := Lib.hid (show (W).grownBy (w4) none from gby_trans G12_.out g)
            have HTI16_ := Lib.hid (show (wo).grownBy (w4) none from gby_trans HTI13_.out g)
            clear HTI13_
            clear g
            have A_0_ : (w4).cell? ⟨W.heap.size, 0, none⟩ = some (.int .i64 m) := cell_of_row _ _ 0 _ _ _ rA14_.out
            have A_1_ : (w4).cell? ⟨W.heap.size, 1, none⟩ = some (v) := cell_of_row _ _ 1 _ _ _ rA14_.out
            have A_2_ : (w4).cell? ⟨W.heap.size, 2, none⟩ = some (.int .i64 r) := cell_of_row _ _ 2 _ _ _ rA14_.out
            have A_3_ : (w4).cell? ⟨W.heap.size, 3, none⟩ = some (.int .i64 e) := cell_of_row _ _ 3 _ _ _ rA14_.out
            have A_4_ : (w4).cell? ⟨W.heap.size, 4, none⟩ = some (vl) := cell_of_row _ _ 4 _ _ _ rA14_.out
            have A_5_ : (w4).cell? ⟨W.heap.size, 5, none⟩ = some (.slice a2 n2 cap2) := cell_of_row _ _ 5 _ _ _ rA14_.out
            have A_6_ : (w4).cell? ⟨W.heap.size, 6, none⟩ = some (.slice (some ⟨b1, o1, none⟩) n1 cap1) := cell_of_row _ _ 6 _ _ _ rA14_.out
            have yc_ := (G15_.out).cell HYC.out (by simp)
            go_wp2
            refine ⟨⟨n + 1, by go_num, by omega, fun j hj => ?_, HTI16_.out⟩, by simp [intOf]; omega⟩
            by_cases e : j = n
            · subst e; rw [← HY.out]; exact HAN.out.2 rfl
            · exact HJ.out j (by omega)
        · skip
          go_wp2_with fail
          go_at_call 65
          refine (specSeqD y true HQ1.out _).mono ?_
          rintro e w3 ⟨rfl, hd⟩
          have g := hd.gby none
          clear hd
          have szw3 := g.size
          try simp only [World.size_alloc] at szw3
          try simp only [World.size_setCell] at szw3
          clear A_0_ A_1_ A_2_ A_3_ A_4_ A_5_ A_6_ yc_
          have rA11_ := Lib.hid (show (w3).heap[W.heap.size]? = some (.cells #[.int .i64 m, v, .int .i64 r, .int .i64 e, vl, .slice a2 n2 cap2, .slice (some ⟨b1, o1, none⟩) n1 cap1] 54 (0, 0)) from row_held g rA9_.out)
          clear rA9_
          have G12_ := Lib.hid (show (W).grownBy (w3) none from gby_trans G10_.out g)
          have HTI13_ := Lib.hid (show (wo).grownBy (w3) none from gby_trans HTI_.out g)
          clear HTI_
          clear g
          have A_0_ : (w3).cell? ⟨W.heap.size, 0, none⟩ = some (.int .i64 m) := cell_of_row _ _ 0 _ _ _ rA11_.out
          have A_1_ : (w3).cell? ⟨W.heap.size, 1, none⟩ = some (v) := cell_of_row _ _ 1 _ _ _ rA11_.out
          have A_2_ : (w3).cell? ⟨W.heap.size, 2, none⟩ = some (.int .i64 r) := cell_of_row _ _ 2 _ _ _ rA11_.out
          have A_3_ : (w3).cell? ⟨W.heap.size, 3, none⟩ = some (.int .i64 e) := cell_of_row _ _ 3 _ _ _ rA11_.out
          have A_4_ : (w3).cell? ⟨W.heap.size, 4, none⟩ = some (vl) := cell_of_row _ _ 4 _ _ _ rA11_.out
          have A_5_ : (w3).cell? ⟨W.heap.size, 5, none⟩ = some (.slice a2 n2 cap2) := cell_of_row _ _ 5 _ _ _ rA11_.out
          have A_6_ : (w3).cell? ⟨W.heap.size, 6, none⟩ = some (.slice (some ⟨b1, o1, none⟩) n1 cap1) := cell_of_row _ _ 6 _ _ _ rA11_.out
          have yc_ := (G12_.out).cell HYC.out (by simp)
          go_wp2
          refine ⟨⟨n + 1, by go_num, by omega, fun j hj => ?_, HTI13_.out⟩, by simp [intOf]; omega⟩
          by_cases e : j = n
          · subst e; rw [← HY.out]; exact HAN.out.2 rfl
          · exact HJ.out j (by omega)
    have hki : (n : Int) < (n2 : Int) := by omega
    obtain ⟨b2, o2, rfl, hc2_⟩ := HA2.out.resolve_left (by omega)
    obtain ⟨u2, hu2_, hri_⟩ := hc2_ n hlt
    clear hc2_
    obtain ⟨y, hye_⟩ : ∃ y, y = fl.getD n [] := ⟨_, rfl⟩
    rw [← hye_] at hri_
    have HY := Lib.hid hye_
    have HYC := Lib.hid hu2_
    have hsy_ : y.length ≤ 1048576 := by rw [hye_, List.getD_eq_getElem?_getD, List.getElem?_eq_getElem (by have := HE2.out; omega)]; exact szLL_at HFB.out _ (List.getElem_mem _)
    have HYR := Lib.hid (rdI_out (by omega) hri_)
    clear hye_ hu2_ hri_
    obtain ⟨q1, hq1_⟩ : ∃ b, b = decide (AreB y) := ⟨_, rfl⟩
    have HQ1 := Lib.hid hq1_
    clear hq1_
    have yc_ := (G8_.out).cell HYC.out (by simp)
    cases q1
    · skip
      go_wp2_with fail
      go_at_call 64
      refine (specByD _ _ y (HYR.out.grow G8_.out) (by rw [szL_I]; exact hsy_) false HQ1.out).mono ?_
      rintro e w3 ⟨rfl, g⟩
      have szw3 := g.size
      try simp only [World.size_alloc] at szw3
      try simp only [World.size_setCell] at szw3
      clear A_0_ A_1_ A_2_ A_3_ A_4_ A_5_ A_6_ yc_
      have rA9_ := Lib.hid (show (w3).heap[W.heap.size]? = some (.cells #[.int .i64 m, v, .int .i64 r, .int .i64 e, vl, .slice (some ⟨b2, o2, none⟩) n2 cap2, .slice a1 n1 cap1] 54 (0, 0)) from row_held g rA7_.out)
      clear rA7_
      have G10_ := Lib.hid (show (W).grownBy (w3) none from gby_trans G8_.out g)
      have HTB11_ := Lib.hid (show (w2).grownBy (w3) none from gby_trans HTB_.out g)
      clear HTB_
      clear g
      have A_0_ : (w3).cell? ⟨W.heap.size, 0, none⟩ = some (.int .i64 m) := cell_of_row _ _ 0 _ _ _ rA9_.out
      have A_1_ : (w3).cell? ⟨W.heap.size, 1, none⟩ = some (v) := cell_of_row _ _ 1 _ _ _ rA9_.out
      have A_2_ : (w3).cell? ⟨W.heap.size, 2, none⟩ = some (.int .i64 r) := cell_of_row _ _ 2 _ _ _ rA9_.out
      have A_3_ : (w3).cell? ⟨W.heap.size, 3, none⟩ = some (.int .i64 e) := cell_of_row _ _ 3 _ _ _ rA9_.out
      have A_4_ : (w3).cell? ⟨W.heap.size, 4, none⟩ = some (vl) := cell_of_row _ _ 4 _ _ _ rA9_.out
      have A_5_ : (w3).cell? ⟨W.heap.size, 5, none⟩ = some (.slice (some ⟨b2, o2, none⟩) n2 cap2) := cell_of_row _ _ 5 _ _ _ rA9_.out
      have A_6_ : (w3).cell? ⟨W.heap.size, 6, none⟩ = some (.slice a1 n1 cap1) := cell_of_row _ _ 6 _ _ _ rA9_.out
      have yc_ := (G10_.out).cell HYC.out (by simp)
      go_wp2
      go_ret
      exact ⟨false, rfl, iff_noK (fun q => areBL_bad (k := n) (by have := HE2.out; omega) (by rw [← HY.out]; exact of_decide_eq_false HQ1.out.symm) q.2.2.1), G10_.out⟩
    · skip
      go_wp2_with fail
      go_at_call 64
      refine (specByD _ _ y (HYR.out.grow G8_.out) (by rw [szL_I]; exact hsy_) true HQ1.out).mono ?_
      rintro e w3 ⟨rfl, g⟩
      have szw3 := g.size
      try simp only [World.size_alloc] at szw3
      try simp only [World.size_setCell] at szw3
      clear A_0_ A_1_ A_2_ A_3_ A_4_ A_5_ A_6_ yc_
      have rA9_ := Lib.hid (show (w3).heap[W.heap.size]? = some (.cells #[.int .i64 m, v, .int .i64 r, .int .i64 e, vl, .slice (some ⟨b2, o2, none⟩) n2 cap2, .slice a1 n1 cap1] 54 (0, 0)) from row_held g rA7_.out)
      clear rA7_
      have G10_ := Lib.hid (show (W).grownBy (w3) none from gby_trans G8_.out g)
      have HTB11_ := Lib.hid (show (w2).grownBy (w3) none from gby_trans HTB_.out g)
      clear HTB_
      clear g
      have A_0_ : (w3).cell? ⟨W.heap.size, 0, none⟩ = some (.int .i64 m) := cell_of_row _ _ 0 _ _ _ rA9_.out
      have A_1_ : (w3).cell? ⟨W.heap.size, 1, none⟩ = some (v) := cell_of_row _ _ 1 _ _ _ rA9_.out
      have A_2_ : (w3).cell? ⟨W.heap.size, 2, none⟩ = some (.int .i64 r) := cell_of_row _ _ 2 _ _ _ rA9_.out
      have A_3_ : (w3).cell? ⟨W.heap.size, 3, none⟩ = some (.int .i64 e) := cell_of_row _ _ 3 _ _ _ rA9_.out
      have A_4_ : (w3).cell? ⟨W.heap.size, 4, none⟩ = some (vl) := cell_of_row _ _ 4 _ _ _ rA9_.out
      have A_5_ : (w3).cell? ⟨W.heap.size, 5, none⟩ = some (.slice (some ⟨b2, o2, none⟩) n2 cap2) := cell_of_row _ _ 5 _ _ _ rA9_.out
      have A_6_ : (w3).cell? ⟨W.heap.size, 6, none⟩ = some (.slice a1 n1 cap1) := cell_of_row _ _ 6 _ _ _ rA9_.out
      have yc_ := (G10_.out).cell HYC.out (by simp)
      go_wp2
      refine ⟨⟨n + 1, by go_num, by omega, fun j hj => ?_, HTB11_.out⟩, by simp [intOf]; omega⟩
      by_cases e : j = n
      · subst e; rw [← HY.out]; exact of_decide_eq_true HQ1.out.symm
      · exact HJ2.out j (by omega)

end Go.Proofs.Ytnighnkkeiegnab
