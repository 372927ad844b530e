/-
  LinkOk, the program.
-/
import Derived.Test.YtnighnkkeiegnabLinkD
import Derived.Test.YtnighnkkeiegnabRLinkOk
import Derived.Deep.RegionHeld3
namespace Go.Proofs.Ytnighnkkeiegnab
open Go Go.RowKit
set_option linter.unusedVariables false

set_option maxRecDepth 8000 in
set_option maxHeartbeats 4000000 in
theorem implLnk_s (W : World) (m r e : Int) (v vl vf va : Value) (xs : List DFrame) (L fl : List (List Int)) (zs : List Int) (H : RdL shFrame W v xs) (HL_ : RdL (shL shI) W vl L) (HF_ : RdL (shL shI) W vf fl) (HA_ : RdL shI W va zs) (hl : szL shFrame xs ≤ 1048576) (hlL : szL (shL shI) L ≤ 1048576) (hlf : szL (shL shI) fl ≤ 1048576) (hla : szL shI zs ≤ 1048576) (hs : ¬ SndP m r xs) : Calls Try.prog 18 #[.agg #[.int .i64 m, v, .int .i64 r, .int .i64 e, vl, vf, va]] W (BPost (LnkP m r xs e L fl zs) W) := by
  have HSN := Lib.hid hs
  clear hs
  have HX := Lib.hid H
  have HLX := Lib.hid hl
  have HLL := Lib.hid HL_
  have HLB := Lib.hid hlL
  have HFL := Lib.hid HF_
  have HFB := Lib.hid hlf
  have HAL := Lib.hid HA_
  have HAB := Lib.hid hla
  obtain ⟨a2, cap2, rfl, _, hr2⟩ := rll_in HF_
  have HA2 := Lib.hid hr2.2
  have hbf := szLL_len hlf
  obtain ⟨n2, hn2⟩ : ∃ n, n = fl.length := ⟨_, rfl⟩
  have HE2 := Lib.hid hn2
  rw [← hn2] at HA2 hbf ⊢
  clear H HL_ HF_ hl hlL hlf hr2 hn2
  rw [szL_I] at hla
  obtain ⟨a1, cap1, rfl, _, hi1⟩ := rdI1_in HA_
  have HA1 := Lib.hid hi1
  obtain ⟨n1, hn1⟩ : ∃ n, n = zs.length := ⟨_, rfl⟩
  have HE1 := Lib.hid hn1
  unfold RdN1 at HA1
  rw [← hn1] at hla HA1 ⊢
  clear HA_ hi1 hn1
  rw [HE2.out.symm] at HFL
  rw [HE1.out.symm] at HAL
  go_enter Try.func18, Try.ntmps18
  have rA1_ := Lib.hid (show ((W.alloc (.cells #[.int .i64 m, v, .int .i64 r, .int .i64 e, vl, .slice a2 n2 cap2, .slice a1 n1 cap1] 54))).heap[W.heap.size]? = some (.cells #[.int .i64 m, v, .int .i64 r, .int .i64 e, vl, .slice a2 n2 cap2, .slice a1 n1 cap1] 54 (0, 0)) from by exact heap_alloc_new _ _)
  have G2_ := Lib.hid (show (W).grownBy ((W.alloc (.cells #[.int .i64 m, v, .int .i64 r, .int .i64 e, vl, .slice a2 n2 cap2, .slice a1 n1 cap1] 54))) none from (gby_alloc (gby_refl _ _) _))
  have A_0_ : ((W.alloc (.cells #[.int .i64 m, v, .int .i64 r, .int .i64 e, vl, .slice a2 n2 cap2, .slice a1 n1 cap1] 54))).cell? ⟨W.heap.size, 0, none⟩ = some (.int .i64 m) := cell_of_row _ _ 0 _ _ _ rA1_.out
  have A_1_ : ((W.alloc (.cells #[.int .i64 m, v, .int .i64 r, .int .i64 e, vl, .slice a2 n2 cap2, .slice a1 n1 cap1] 54))).cell? ⟨W.heap.size, 1, none⟩ = some (v) := cell_of_row _ _ 1 _ _ _ rA1_.out
  have A_2_ : ((W.alloc (.cells #[.int .i64 m, v, .int .i64 r, .int .i64 e, vl, .slice a2 n2 cap2, .slice a1 n1 cap1] 54))).cell? ⟨W.heap.size, 2, none⟩ = some (.int .i64 r) := cell_of_row _ _ 2 _ _ _ rA1_.out
  have A_3_ : ((W.alloc (.cells #[.int .i64 m, v, .int .i64 r, .int .i64 e, vl, .slice a2 n2 cap2, .slice a1 n1 cap1] 54))).cell? ⟨W.heap.size, 3, none⟩ = some (.int .i64 e) := cell_of_row _ _ 3 _ _ _ rA1_.out
  have A_4_ : ((W.alloc (.cells #[.int .i64 m, v, .int .i64 r, .int .i64 e, vl, .slice a2 n2 cap2, .slice a1 n1 cap1] 54))).cell? ⟨W.heap.size, 4, none⟩ = some (vl) := cell_of_row _ _ 4 _ _ _ rA1_.out
  have A_5_ : ((W.alloc (.cells #[.int .i64 m, v, .int .i64 r, .int .i64 e, vl, .slice a2 n2 cap2, .slice a1 n1 cap1] 54))).cell? ⟨W.heap.size, 5, none⟩ = some (.slice a2 n2 cap2) := cell_of_row _ _ 5 _ _ _ rA1_.out
  have A_6_ : ((W.alloc (.cells #[.int .i64 m, v, .int .i64 r, .int .i64 e, vl, .slice a2 n2 cap2, .slice a1 n1 cap1] 54))).cell? ⟨W.heap.size, 6, none⟩ = some (.slice a1 n1 cap1) := cell_of_row _ _ 6 _ _ _ rA1_.out
  go_wp2_with fail
  go_at_call 67
  refine ((implSnd _ m r _ xs (HX.out.grow G2_.out) HLX.out).mono (bpost_no HSN.out)).mono ?_
  rintro e w1 ⟨rfl, g⟩
  have szw1 := g.size
  try simp only [World.size_alloc] at szw1
  try simp only [World.size_setCell] at szw1
  clear A_0_ A_1_ A_2_ A_3_ A_4_ A_5_ A_6_
  have rA3_ := Lib.hid (show (w1).heap[W.heap.size]? = some (.cells #[.int .i64 m, v, .int .i64 r, .int .i64 e, vl, .slice a2 n2 cap2, .slice a1 n1 cap1] 54 (0, 0)) from row_held g rA1_.out)
  clear rA1_
  have G4_ := Lib.hid (show (W).grownBy (w1) none from gby_trans G2_.out g)
  clear g
  have A_0_ : (w1).cell? ⟨W.heap.size, 0, none⟩ = some (.int .i64 m) := cell_of_row _ _ 0 _ _ _ rA3_.out
  have A_1_ : (w1).cell? ⟨W.heap.size, 1, none⟩ = some (v) := cell_of_row _ _ 1 _ _ _ rA3_.out
  have A_2_ : (w1).cell? ⟨W.heap.size, 2, none⟩ = some (.int .i64 r) := cell_of_row _ _ 2 _ _ _ rA3_.out
  have A_3_ : (w1).cell? ⟨W.heap.size, 3, none⟩ = some (.int .i64 e) := cell_of_row _ _ 3 _ _ _ rA3_.out
  have A_4_ : (w1).cell? ⟨W.heap.size, 4, none⟩ = some (vl) := cell_of_row _ _ 4 _ _ _ rA3_.out
  have A_5_ : (w1).cell? ⟨W.heap.size, 5, none⟩ = some (.slice a2 n2 cap2) := cell_of_row _ _ 5 _ _ _ rA3_.out
  have A_6_ : (w1).cell? ⟨W.heap.size, 6, none⟩ = some (.slice a1 n1 cap1) := cell_of_row _ _ 6 _ _ _ rA3_.out
  go_wp2
  go_ret
  exact ⟨false, rfl, iff_noK (fun q => HSN.out q.1), G4_.out⟩

set_option maxRecDepth 8000 in
set_option maxHeartbeats 4000000 in
theorem implLnk_r (W : World) (m r e : Int) (v vl vf va : Value) (xs : List DFrame) (L fl : List (List Int)) (zs : List Int) (H : RdL shFrame W v xs) (HL_ : RdL (shL shI) W vl L) (HF_ : RdL (shL shI) W vf fl) (HA_ : RdL shI W va zs) (hl : szL shFrame xs ≤ 1048576) (hlL : szL (shL shI) L ≤ 1048576) (hlf : szL (shL shI) fl ≤ 1048576) (hla : szL shI zs ≤ 1048576) (hs : SndP m r xs) (hr : ¬ ROk e L) : Calls Try.prog 18 #[.agg #[.int .i64 m, v, .int .i64 r, .int .i64 e, vl, vf, va]] W (BPost (LnkP m r xs e L fl zs) W) := by
  have HSN := Lib.hid hs
  clear hs
  have HRO := Lib.hid (show false = decide (ROk e L) from (decide_eq_false hr).symm)
  clear hr
  have HX := Lib.hid H
  have HLX := Lib.hid hl
  have HLL := Lib.hid HL_
  have HLB := Lib.hid hlL
  have HFL := Lib.hid HF_
  have HFB := Lib.hid hlf
  have HAL := Lib.hid HA_
  have HAB := Lib.hid hla
  obtain ⟨a2, cap2, rfl, _, hr2⟩ := rll_in HF_
  have HA2 := Lib.hid hr2.2
  have hbf := szLL_len hlf
  obtain ⟨n2, hn2⟩ : ∃ n, n = fl.length := ⟨_, rfl⟩
  have HE2 := Lib.hid hn2
  rw [← hn2] at HA2 hbf ⊢
  clear H HL_ HF_ hl hlL hlf hr2 hn2
  rw [szL_I] at hla
  obtain ⟨a1, cap1, rfl, _, hi1⟩ := rdI1_in HA_
  have HA1 := Lib.hid hi1
  obtain ⟨n1, hn1⟩ : ∃ n, n = zs.length := ⟨_, rfl⟩
  have HE1 := Lib.hid hn1
  unfold RdN1 at HA1
  rw [← hn1] at hla HA1 ⊢
  clear HA_ hi1 hn1
  rw [HE2.out.symm] at HFL
  rw [HE1.out.symm] at HAL
  go_enter Try.func18, Try.ntmps18
  have rA1_ := Lib.hid (show ((W.alloc (.cells #[.int .i64 m, v, .int .i64 r, .int .i64 e, vl, .slice a2 n2 cap2, .slice a1 n1 cap1] 54))).heap[W.heap.size]? = some (.cells #[.int .i64 m, v, .int .i64 r, .int .i64 e, vl, .slice a2 n2 cap2, .slice a1 n1 cap1] 54 (0, 0)) from by exact heap_alloc_new _ _)
  have G2_ := Lib.hid (show (W).grownBy ((W.alloc (.cells #[.int .i64 m, v, .int .i64 r, .int .i64 e, vl, .slice a2 n2 cap2, .slice a1 n1 cap1] 54))) none from (gby_alloc (gby_refl _ _) _))
  have A_0_ : ((W.alloc (.cells #[.int .i64 m, v, .int .i64 r, .int .i64 e, vl, .slice a2 n2 cap2, .slice a1 n1 cap1] 54))).cell? ⟨W.heap.size, 0, none⟩ = some (.int .i64 m) := cell_of_row _ _ 0 _ _ _ rA1_.out
  have A_1_ : ((W.alloc (.cells #[.int .i64 m, v, .int .i64 r, .int .i64 e, vl, .slice a2 n2 cap2, .slice a1 n1 cap1] 54))).cell? ⟨W.heap.size, 1, none⟩ = some (v) := cell_of_row _ _ 1 _ _ _ rA1_.out
  have A_2_ : ((W.alloc (.cells #[.int .i64 m, v, .int .i64 r, .int .i64 e, vl, .slice a2 n2 cap2, .slice a1 n1 cap1] 54))).cell? ⟨W.heap.size, 2, none⟩ = some (.int .i64 r) := cell_of_row _ _ 2 _ _ _ rA1_.out
  have A_3_ : ((W.alloc (.cells #[.int .i64 m, v, .int .i64 r, .int .i64 e, vl, .slice a2 n2 cap2, .slice a1 n1 cap1] 54))).cell? ⟨W.heap.size, 3, none⟩ = some (.int .i64 e) := cell_of_row _ _ 3 _ _ _ rA1_.out
  have A_4_ : ((W.alloc (.cells #[.int .i64 m, v, .int .i64 r, .int .i64 e, vl, .slice a2 n2 cap2, .slice a1 n1 cap1] 54))).cell? ⟨W.heap.size, 4, none⟩ = some (vl) := cell_of_row _ _ 4 _ _ _ rA1_.out
  have A_5_ : ((W.alloc (.cells #[.int .i64 m, v, .int .i64 r, .int .i64 e, vl, .slice a2 n2 cap2, .slice a1 n1 cap1] 54))).cell? ⟨W.heap.size, 5, none⟩ = some (.slice a2 n2 cap2) := cell_of_row _ _ 5 _ _ _ rA1_.out
  have A_6_ : ((W.alloc (.cells #[.int .i64 m, v, .int .i64 r, .int .i64 e, vl, .slice a2 n2 cap2, .slice a1 n1 cap1] 54))).cell? ⟨W.heap.size, 6, none⟩ = some (.slice a1 n1 cap1) := cell_of_row _ _ 6 _ _ _ rA1_.out
  go_wp2_with fail
  go_at_call 67
  refine ((implSnd _ m r _ xs (HX.out.grow G2_.out) HLX.out).mono (bpost_yes HSN.out)).mono ?_
  rintro e w1 ⟨rfl, g⟩
  have szw1 := g.size
  try simp only [World.size_alloc] at szw1
  try simp only [World.size_setCell] at szw1
  clear A_0_ A_1_ A_2_ A_3_ A_4_ A_5_ A_6_
  have rA3_ := Lib.hid (show (w1).heap[W.heap.size]? = some (.cells #[.int .i64 m, v, .int .i64 r, .int .i64 e, vl, .slice a2 n2 cap2, .slice a1 n1 cap1] 54 (0, 0)) from row_held g rA1_.out)
  clear rA1_
  have G4_ := Lib.hid (show (W).grownBy (w1) none from gby_trans G2_.out g)
  clear g
  have A_0_ : (w1).cell? ⟨W.heap.size, 0, none⟩ = some (.int .i64 m) := cell_of_row _ _ 0 _ _ _ rA3_.out
  have A_1_ : (w1).cell? ⟨W.heap.size, 1, none⟩ = some (v) := cell_of_row _ _ 1 _ _ _ rA3_.out
  have A_2_ : (w1).cell? ⟨W.heap.size, 2, none⟩ = some (.int .i64 r) := cell_of_row _ _ 2 _ _ _ rA3_.out
  have A_3_ : (w1).cell? ⟨W.heap.size, 3, none⟩ = some (.int .i64 e) := cell_of_row _ _ 3 _ _ _ rA3_.out
  have A_4_ : (w1).cell? ⟨W.heap.size, 4, none⟩ = some (vl) := cell_of_row _ _ 4 _ _ _ rA3_.out
  have A_5_ : (w1).cell? ⟨W.heap.size, 5, none⟩ = some (.slice a2 n2 cap2) := cell_of_row _ _ 5 _ _ _ rA3_.out
  have A_6_ : (w1).cell? ⟨W.heap.size, 6, none⟩ = some (.slice a1 n1 cap1) := cell_of_row _ _ 6 _ _ _ rA3_.out
  go_wp2_with fail
  go_at_call 68
  refine (implROkD _ e _ L (HLL.out.grow G4_.out) HLB.out false HRO.out).mono ?_
  rintro e w2 ⟨rfl, g⟩
  have szw2 := g.size
  try simp only [World.size_alloc] at szw2
  try simp only [World.size_setCell] at szw2
  clear A_0_ A_1_ A_2_ A_3_ A_4_ A_5_ A_6_
  have rA5_ := Lib.hid (show (w2).heap[W.heap.size]? = some (.cells #[.int .i64 m, v, .int .i64 r, .int .i64 e, vl, .slice a2 n2 cap2, .slice a1 n1 cap1] 54 (0, 0)) from row_held g rA3_.out)
  clear rA3_
  have G6_ := Lib.hid (show (W).grownBy (w2) none from gby_trans G4_.out g)
  clear g
  have A_0_ : (w2).cell? ⟨W.heap.size, 0, none⟩ = some (.int .i64 m) := cell_of_row _ _ 0 _ _ _ rA5_.out
  have A_1_ : (w2).cell? ⟨W.heap.size, 1, none⟩ = some (v) := cell_of_row _ _ 1 _ _ _ rA5_.out
  have A_2_ : (w2).cell? ⟨W.heap.size, 2, none⟩ = some (.int .i64 r) := cell_of_row _ _ 2 _ _ _ rA5_.out
  have A_3_ : (w2).cell? ⟨W.heap.size, 3, none⟩ = some (.int .i64 e) := cell_of_row _ _ 3 _ _ _ rA5_.out
  have A_4_ : (w2).cell? ⟨W.heap.size, 4, none⟩ = some (vl) := cell_of_row _ _ 4 _ _ _ rA5_.out
  have A_5_ : (w2).cell? ⟨W.heap.size, 5, none⟩ = some (.slice a2 n2 cap2) := cell_of_row _ _ 5 _ _ _ rA5_.out
  have A_6_ : (w2).cell? ⟨W.heap.size, 6, none⟩ = some (.slice a1 n1 cap1) := cell_of_row _ _ 6 _ _ _ rA5_.out
  go_wp2
  go_ret
  exact ⟨false, rfl, iff_noK (fun q => by have := decide_eq_true q.2.1; rw [← HRO.out] at this; cases this), G6_.out⟩

set_option maxRecDepth 8000 in
set_option maxHeartbeats 4000000 in
theorem implLnk_b (W : World) (m r e : Int) (v vl vf va : Value) (xs : List DFrame) (L fl : List (List Int)) (zs : List Int) (H : RdL shFrame W v xs) (HL_ : RdL (shL shI) W vl L) (HF_ : RdL (shL shI) W vf fl) (HA_ : RdL shI W va zs) (hl : szL shFrame xs ≤ 1048576) (hlL : szL (shL shI) L ≤ 1048576) (hlf : szL (shL shI) fl ≤ 1048576) (hla : szL shI zs ≤ 1048576) (hs : SndP m r xs) (hr : ROk e L) (hb : ¬ AreBL fl) : Calls Try.prog 18 #[.agg #[.int .i64 m, v, .int .i64 r, .int .i64 e, vl, vf, va]] W (BPost (LnkP m r xs e L fl zs) W) := by
  have HSN := Lib.hid hs
  clear hs
  have HRO := Lib.hid (show true = decide (ROk e L) from (decide_eq_true hr).symm)
  clear hr
  have HBL := Lib.hid (show false = decide (AreBL fl) from (decide_eq_false hb).symm)
  clear hb
  have HX := Lib.hid H
  have HLX := Lib.hid hl
  have HLL := Lib.hid HL_
  have HLB := Lib.hid hlL
  have HFL := Lib.hid HF_
  have HFB := Lib.hid hlf
  have HAL := Lib.hid HA_
  have HAB := Lib.hid hla
  obtain ⟨a2, cap2, rfl, _, hr2⟩ := rll_in HF_
  have HA2 := Lib.hid hr2.2
  have hbf := szLL_len hlf
  obtain ⟨n2, hn2⟩ : ∃ n, n = fl.length := ⟨_, rfl⟩
  have HE2 := Lib.hid hn2
  rw [← hn2] at HA2 hbf ⊢
  clear H HL_ HF_ hl hlL hlf hr2 hn2
  rw [szL_I] at hla
  obtain ⟨a1, cap1, rfl, _, hi1⟩ := rdI1_in HA_
  have HA1 := Lib.hid hi1
  obtain ⟨n1, hn1⟩ : ∃ n, n = zs.length := ⟨_, rfl⟩
  have HE1 := Lib.hid hn1
  unfold RdN1 at HA1
  rw [← hn1] at hla HA1 ⊢
  clear HA_ hi1 hn1
  rw [HE2.out.symm] at HFL
  rw [HE1.out.symm] at HAL
  go_enter Try.func18, Try.ntmps18
  have rA1_ := Lib.hid (show ((W.alloc (.cells #[.int .i64 m, v, .int .i64 r, .int .i64 e, vl, .slice a2 n2 cap2, .slice a1 n1 cap1] 54))).heap[W.heap.size]? = some (.cells #[.int .i64 m, v, .int .i64 r, .int .i64 e, vl, .slice a2 n2 cap2, .slice a1 n1 cap1] 54 (0, 0)) from by exact heap_alloc_new _ _)
  have G2_ := Lib.hid (show (W).grownBy ((W.alloc (.cells #[.int .i64 m, v, .int .i64 r, .int .i64 e, vl, .slice a2 n2 cap2, .slice a1 n1 cap1] 54))) none from (gby_alloc (gby_refl _ _) _))
  have A_0_ : ((W.alloc (.cells #[.int .i64 m, v, .int .i64 r, .int .i64 e, vl, .slice a2 n2 cap2, .slice a1 n1 cap1] 54))).cell? ⟨W.heap.size, 0, none⟩ = some (.int .i64 m) := cell_of_row _ _ 0 _ _ _ rA1_.out
  have A_1_ : ((W.alloc (.cells #[.int .i64 m, v, .int .i64 r, .int .i64 e, vl, .slice a2 n2 cap2, .slice a1 n1 cap1] 54))).cell? ⟨W.heap.size, 1, none⟩ = some (v) := cell_of_row _ _ 1 _ _ _ rA1_.out
  have A_2_ : ((W.alloc (.cells #[.int .i64 m, v, .int .i64 r, .int .i64 e, vl, .slice a2 n2 cap2, .slice a1 n1 cap1] 54))).cell? ⟨W.heap.size, 2, none⟩ = some (.int .i64 r) := cell_of_row _ _ 2 _ _ _ rA1_.out
  have A_3_ : ((W.alloc (.cells #[.int .i64 m, v, .int .i64 r, .int .i64 e, vl, .slice a2 n2 cap2, .slice a1 n1 cap1] 54))).cell? ⟨W.heap.size, 3, none⟩ = some (.int .i64 e) := cell_of_row _ _ 3 _ _ _ rA1_.out
  have A_4_ : ((W.alloc (.cells #[.int .i64 m, v, .int .i64 r, .int .i64 e, vl, .slice a2 n2 cap2, .slice a1 n1 cap1] 54))).cell? ⟨W.heap.size, 4, none⟩ = some (vl) := cell_of_row _ _ 4 _ _ _ rA1_.out
  have A_5_ : ((W.alloc (.cells #[.int .i64 m, v, .int .i64 r, .int .i64 e, vl, .slice a2 n2 cap2, .slice a1 n1 cap1] 54))).cell? ⟨W.heap.size, 5, none⟩ = some (.slice a2 n2 cap2) := cell_of_row _ _ 5 _ _ _ rA1_.out
  have A_6_ : ((W.alloc (.cells #[.int .i64 m, v, .int .i64 r, .int .i64 e, vl, .slice a2 n2 cap2, .slice a1 n1 cap1] 54))).cell? ⟨W.heap.size, 6, none⟩ = some (.slice a1 n1 cap1) := cell_of_row _ _ 6 _ _ _ rA1_.out
  go_wp2_with fail
  go_at_call 67
  refine ((implSnd _ m r _ xs (HX.out.grow G2_.out) HLX.out).mono (bpost_yes HSN.out)).mono ?_
  rintro e w1 ⟨rfl, g⟩
  have szw1 := g.size
  try simp only [World.size_alloc] at szw1
  try simp only [World.size_setCell] at szw1
  clear A_0_ A_1_ A_2_ A_3_ A_4_ A_5_ A_6_
  have rA3_ := Lib.hid (show (w1).heap[W.heap.size]? = some (.cells #[.int .i64 m, v, .int .i64 r, .int .i64 e, vl, .slice a2 n2 cap2, .slice a1 n1 cap1] 54 (0, 0)) from row_held g rA1_.out)
  clear rA1_
  have G4_ := Lib.hid (show (W).grownBy (w1) none from gby_trans G2_.out g)
  clear g
  have A_0_ : (w1).cell? ⟨W.heap.size, 0, none⟩ = some (.int .i64 m) := cell_of_row _ _ 0 _ _ _ rA3_.out
  have A_1_ : (w1).cell? ⟨W.heap.size, 1, none⟩ = some (v) := cell_of_row _ _ 1 _ _ _ rA3_.out
  have A_2_ : (w1).cell? ⟨W.heap.size, 2, none⟩ = some (.int .i64 r) := cell_of_row _ _ 2 _ _ _ rA3_.out
  have A_3_ : (w1).cell? ⟨W.heap.size, 3, none⟩ = some (.int .i64 e) := cell_of_row _ _ 3 _ _ _ rA3_.out
  have A_4_ : (w1).cell? ⟨W.heap.size, 4, none⟩ = some (vl) := cell_of_row _ _ 4 _ _ _ rA3_.out
  have A_5_ : (w1).cell? ⟨W.heap.size, 5, none⟩ = some (.slice a2 n2 cap2) := cell_of_row _ _ 5 _ _ _ rA3_.out
  have A_6_ : (w1).cell? ⟨W.heap.size, 6, none⟩ = some (.slice a1 n1 cap1) := cell_of_row _ _ 6 _ _ _ rA3_.out
  go_wp2_with fail
  go_at_call 68
  refine (implROkD _ e _ L (HLL.out.grow G4_.out) HLB.out true HRO.out).mono ?_
  rintro e w2 ⟨rfl, g⟩
  have szw2 := g.size
  try simp only [World.size_alloc] at szw2
  try simp only [World.size_setCell] at szw2
  clear A_0_ A_1_ A_2_ A_3_ A_4_ A_5_ A_6_
  have rA5_ := Lib.hid (show (w2).heap[W.heap.size]? = some (.cells #[.int .i64 m, v, .int .i64 r, .int .i64 e, vl, .slice a2 n2 cap2, .slice a1 n1 cap1] 54 (0, 0)) from row_held g rA3_.out)
  clear rA3_
  have G6_ := Lib.hid (show (W).grownBy (w2) none from gby_trans G4_.out g)
  clear g
  have A_0_ : (w2).cell? ⟨W.heap.size, 0, none⟩ = some (.int .i64 m) := cell_of_row _ _ 0 _ _ _ rA5_.out
  have A_1_ : (w2).cell? ⟨W.heap.size, 1, none⟩ = some (v) := cell_of_row _ _ 1 _ _ _ rA5_.out
  have A_2_ : (w2).cell? ⟨W.heap.size, 2, none⟩ = some (.int .i64 r) := cell_of_row _ _ 2 _ _ _ rA5_.out
  have A_3_ : (w2).cell? ⟨W.heap.size, 3, none⟩ = some (.int .i64 e) := cell_of_row _ _ 3 _ _ _ rA5_.out
  have A_4_ : (w2).cell? ⟨W.heap.size, 4, none⟩ = some (vl) := cell_of_row _ _ 4 _ _ _ rA5_.out
  have A_5_ : (w2).cell? ⟨W.heap.size, 5, none⟩ = some (.slice a2 n2 cap2) := cell_of_row _ _ 5 _ _ _ rA5_.out
  have A_6_ : (w2).cell? ⟨W.heap.size, 6, none⟩ = some (.slice a1 n1 cap1) := cell_of_row _ _ 6 _ _ _ rA5_.out
  go_wp2_with fail
  go_at_call 69
  refine (implBLD _ _ fl (HFL.out.grow G6_.out) HFB.out false HBL.out).mono ?_
  rintro e w3 ⟨rfl, g⟩
  have szw3 := g.size
  try simp only [World.size_alloc] at szw3
  try simp only [World.size_setCell] at szw3
  clear A_0_ A_1_ A_2_ A_3_ A_4_ A_5_ A_6_
  have rA7_ := Lib.hid (show (w3).heap[W.heap.size]? = some (.cells #[.int .i64 m, v, .int .i64 r, .int .i64 e, vl, .slice a2 n2 cap2, .slice a1 n1 cap1] 54 (0, 0)) from row_held g rA5_.out)
  clear rA5_
  have G8_ := Lib.hid (show (W).grownBy (w3) none from gby_trans G6_.out g)
  clear g
  have A_0_ : (w3).cell? ⟨W.heap.size, 0, none⟩ = some (.int .i64 m) := cell_of_row _ _ 0 _ _ _ rA7_.out
  have A_1_ : (w3).cell? ⟨W.heap.size, 1, none⟩ = some (v) := cell_of_row _ _ 1 _ _ _ rA7_.out
  have A_2_ : (w3).cell? ⟨W.heap.size, 2, none⟩ = some (.int .i64 r) := cell_of_row _ _ 2 _ _ _ rA7_.out
  have A_3_ : (w3).cell? ⟨W.heap.size, 3, none⟩ = some (.int .i64 e) := cell_of_row _ _ 3 _ _ _ rA7_.out
  have A_4_ : (w3).cell? ⟨W.heap.size, 4, none⟩ = some (vl) := cell_of_row _ _ 4 _ _ _ rA7_.out
  have A_5_ : (w3).cell? ⟨W.heap.size, 5, none⟩ = some (.slice a2 n2 cap2) := cell_of_row _ _ 5 _ _ _ rA7_.out
  have A_6_ : (w3).cell? ⟨W.heap.size, 6, none⟩ = some (.slice a1 n1 cap1) := cell_of_row _ _ 6 _ _ _ rA7_.out
  go_wp2
  go_ret
  exact ⟨false, rfl, iff_noK (fun q => by have := decide_eq_true q.2.2.1; rw [← HBL.out] at this; cases this), G8_.out⟩

set_option maxRecDepth 8000 in
set_option maxHeartbeats 4000000 in
theorem implLnk_f (W : World) (m r e : Int) (v vl vf va : Value) (xs : List DFrame) (L fl : List (List Int)) (zs : List Int) (H : RdL shFrame W v xs) (HL_ : RdL (shL shI) W vl L) (HF_ : RdL (shL shI) W vf fl) (HA_ : RdL shI W va zs) (hl : szL shFrame xs ≤ 1048576) (hlL : szL (shL shI) L ≤ 1048576) (hlf : szL (shL shI) fl ≤ 1048576) (hla : szL shI zs ≤ 1048576) (hs : SndP m r xs) (hr : ROk e L) (hb : AreBL fl) (h8 : ¬ fl.length ≤ 8) : Calls Try.prog 18 #[.agg #[.int .i64 m, v, .int .i64 r, .int .i64 e, vl, vf, va]] W (BPost (LnkP m r xs e L fl zs) W) := by
  have HSN := Lib.hid hs
  clear hs
  have HRO := Lib.hid (show true = decide (ROk e L) from (decide_eq_true hr).symm)
  clear hr
  have HBL := Lib.hid (show true = decide (AreBL fl) from (decide_eq_true hb).symm)
  clear hb
  have HX := Lib.hid H
  have HLX := Lib.hid hl
  have HLL := Lib.hid HL_
  have HLB := Lib.hid hlL
  have HFL := Lib.hid HF_
  have HFB := Lib.hid hlf
  have HAL := Lib.hid HA_
  have HAB := Lib.hid hla
  obtain ⟨a2, cap2, rfl, _, hr2⟩ := rll_in HF_
  have HA2 := Lib.hid hr2.2
  have hbf := szLL_len hlf
  obtain ⟨n2, hn2⟩ : ∃ n, n = fl.length := ⟨_, rfl⟩
  have HE2 := Lib.hid hn2
  rw [← hn2] at HA2 hbf ⊢
  clear H HL_ HF_ hl hlL hlf hr2 hn2
  rw [szL_I] at hla
  obtain ⟨a1, cap1, rfl, _, hi1⟩ := rdI1_in HA_
  have HA1 := Lib.hid hi1
  obtain ⟨n1, hn1⟩ : ∃ n, n = zs.length := ⟨_, rfl⟩
  have HE1 := Lib.hid hn1
  unfold RdN1 at HA1
  rw [← hn1] at hla HA1 ⊢
  clear HA_ hi1 hn1
  rw [HE2.out.symm] at HFL
  rw [HE1.out.symm] at HAL
  have h2i_ : ¬ (n2 : Int) ≤ 8 := by have := HE2.out; omega
  go_enter Try.func18, Try.ntmps18
  have rA1_ := Lib.hid (show ((W.alloc (.cells #[.int .i64 m, v, .int .i64 r, .int .i64 e, vl, .slice a2 n2 cap2, .slice a1 n1 cap1] 54))).heap[W.heap.size]? = some (.cells #[.int .i64 m, v, .int .i64 r, .int .i64 e, vl, .slice a2 n2 cap2, .slice a1 n1 cap1] 54 (0, 0)) from by exact heap_alloc_new _ _)
  have G2_ := Lib.hid (show (W).grownBy ((W.alloc (.cells #[.int .i64 m, v, .int .i64 r, .int .i64 e, vl, .slice a2 n2 cap2, .slice a1 n1 cap1] 54))) none from (gby_alloc (gby_refl _ _) _))
  have A_0_ : ((W.alloc (.cells #[.int .i64 m, v, .int .i64 r, .int .i64 e, vl, .slice a2 n2 cap2, .slice a1 n1 cap1] 54))).cell? ⟨W.heap.size, 0, none⟩ = some (.int .i64 m) := cell_of_row _ _ 0 _ _ _ rA1_.out
  have A_1_ : ((W.alloc (.cells #[.int .i64 m, v, .int .i64 r, .int .i64 e, vl, .slice a2 n2 cap2, .slice a1 n1 cap1] 54))).cell? ⟨W.heap.size, 1, none⟩ = some (v) := cell_of_row _ _ 1 _ _ _ rA1_.out
  have A_2_ : ((W.alloc (.cells #[.int .i64 m, v, .int .i64 r, .int .i64 e, vl, .slice a2 n2 cap2, .slice a1 n1 cap1] 54))).cell? ⟨W.heap.size, 2, none⟩ = some (.int .i64 r) := cell_of_row _ _ 2 _ _ _ rA1_.out
  have A_3_ : ((W.alloc (.cells #[.int .i64 m, v, .int .i64 r, .int .i64 e, vl, .slice a2 n2 cap2, .slice a1 n1 cap1] 54))).cell? ⟨W.heap.size, 3, none⟩ = some (.int .i64 e) := cell_of_row _ _ 3 _ _ _ rA1_.out
  have A_4_ : ((W.alloc (.cells #[.int .i64 m, v, .int .i64 r, .int .i64 e, vl, .slice a2 n2 cap2, .slice a1 n1 cap1] 54))).cell? ⟨W.heap.size, 4, none⟩ = some (vl) := cell_of_row _ _ 4 _ _ _ rA1_.out
  have A_5_ : ((W.alloc (.cells #[.int .i64 m, v, .int .i64 r, .int .i64 e, vl, .slice a2 n2 cap2, .slice a1 n1 cap1] 54))).cell? ⟨W.heap.size, 5, none⟩ = some (.slice a2 n2 cap2) := cell_of_row _ _ 5 _ _ _ rA1_.out
  have A_6_ : ((W.alloc (.cells #[.int .i64 m, v, .int .i64 r, .int .i64 e, vl, .slice a2 n2 cap2, .slice a1 n1 cap1] 54))).cell? ⟨W.heap.size, 6, none⟩ = some (.slice a1 n1 cap1) := cell_of_row _ _ 6 _ _ _ rA1_.out
  go_wp2_with fail
  go_at_call 67
  refine ((implSnd _ m r _ xs (HX.out.grow G2_.out) HLX.out).mono (bpost_yes HSN.out)).mono ?_
  rintro e w1 ⟨rfl, g⟩
  have szw1 := g.size
  try simp only [World.size_alloc] at szw1
  try simp only [World.size_setCell] at szw1
  clear A_0_ A_1_ A_2_ A_3_ A_4_ A_5_ A_6_
  have rA3_ := Lib.hid (show (w1).heap[W.heap.size]? = some (.cells #[.int .i64 m, v, .int .i64 r, .int .i64 e, vl, .slice a2 n2 cap2, .slice a1 n1 cap1] 54 (0, 0)) from row_held g rA1_.out)
  clear rA1_
  have G4_ := Lib.hid (show (W).grownBy (w1) none from gby_trans G2_.out g)
  clear g
  have A_0_ : (w1).cell? ⟨W.heap.size, 0, none⟩ = some (.int .i64 m) := cell_of_row _ _ 0 _ _ _ rA3_.out
  have A_1_ : (w1).cell? ⟨W.heap.size, 1, none⟩ = some (v) := cell_of_row _ _ 1 _ _ _ rA3_.out
  have A_2_ : (w1).cell? ⟨W.heap.size, 2, none⟩ = some (.int .i64 r) := cell_of_row _ _ 2 _ _ _ rA3_.out
  have A_3_ : (w1).cell? ⟨W.heap.size, 3, none⟩ = some (.int .i64 e) := cell_of_row _ _ 3 _ _ _ rA3_.out
  have A_4_ : (w1).cell? ⟨W.heap.size, 4, none⟩ = some (vl) := cell_of_row _ _ 4 _ _ _ rA3_.out
  have A_5_ : (w1).cell? ⟨W.heap.size, 5, none⟩ = some (.slice a2 n2 cap2) := cell_of_row _ _ 5 _ _ _ rA3_.out
  have A_6_ : (w1).cell? ⟨W.heap.size, 6, none⟩ = some (.slice a1 n1 cap1) := cell_of_row _ _ 6 _ _ _ rA3_.out
  go_wp2_with fail
  go_at_call 68
  refine (implROkD _ e _ L (HLL.out.grow G4_.out) HLB.out true HRO.out).mono ?_
  rintro e w2 ⟨rfl, g⟩
  have szw2 := g.size
  try simp only [World.size_alloc] at szw2
  try simp only [World.size_setCell] at szw2
  clear A_0_ A_1_ A_2_ A_3_ A_4_ A_5_ A_6_
  have rA5_ := Lib.hid (show (w2).heap[W.heap.size]? = some (.cells #[.int .i64 m, v, .int .i64 r, .int .i64 e, vl, .slice a2 n2 cap2, .slice a1 n1 cap1] 54 (0, 0)) from row_held g rA3_.out)
  clear rA3_
  have G6_ := Lib.hid (show (W).grownBy (w2) none from gby_trans G4_.out g)
  clear g
  have A_0_ : (w2).cell? ⟨W.heap.size, 0, none⟩ = some (.int .i64 m) := cell_of_row _ _ 0 _ _ _ rA5_.out
  have A_1_ : (w2).cell? ⟨W.heap.size, 1, none⟩ = some (v) := cell_of_row _ _ 1 _ _ _ rA5_.out
  have A_2_ : (w2).cell? ⟨W.heap.size, 2, none⟩ = some (.int .i64 r) := cell_of_row _ _ 2 _ _ _ rA5_.out
  have A_3_ : (w2).cell? ⟨W.heap.size, 3, none⟩ = some (.int .i64 e) := cell_of_row _ _ 3 _ _ _ rA5_.out
  have A_4_ : (w2).cell? ⟨W.heap.size, 4, none⟩ = some (vl) := cell_of_row _ _ 4 _ _ _ rA5_.out
  have A_5_ : (w2).cell? ⟨W.heap.size, 5, none⟩ = some (.slice a2 n2 cap2) := cell_of_row _ _ 5 _ _ _ rA5_.out
  have A_6_ : (w2).cell? ⟨W.heap.size, 6, none⟩ = some (.slice a1 n1 cap1) := cell_of_row _ _ 6 _ _ _ rA5_.out
  go_wp2_with fail
  go_at_call 69
  refine (implBLD _ _ fl (HFL.out.grow G6_.out) HFB.out true HBL.out).mono ?_
  rintro e w3 ⟨rfl, g⟩
  have szw3 := g.size
  try simp only [World.size_alloc] at szw3
  try simp only [World.size_setCell] at szw3
  clear A_0_ A_1_ A_2_ A_3_ A_4_ A_5_ A_6_
  have rA7_ := Lib.hid (show (w3).heap[W.heap.size]? = some (.cells #[.int .i64 m, v, .int .i64 r, .int .i64 e, vl, .slice a2 n2 cap2, .slice a1 n1 cap1] 54 (0, 0)) from row_held g rA5_.out)
  clear rA5_
  have G8_ := Lib.hid (show (W).grownBy (w3) none from gby_trans G6_.out g)
  clear g
  have A_0_ : (w3).cell? ⟨W.heap.size, 0, none⟩ = some (.int .i64 m) := cell_of_row _ _ 0 _ _ _ rA7_.out
  have A_1_ : (w3).cell? ⟨W.heap.size, 1, none⟩ = some (v) := cell_of_row _ _ 1 _ _ _ rA7_.out
  have A_2_ : (w3).cell? ⟨W.heap.size, 2, none⟩ = some (.int .i64 r) := cell_of_row _ _ 2 _ _ _ rA7_.out
  have A_3_ : (w3).cell? ⟨W.heap.size, 3, none⟩ = some (.int .i64 e) := cell_of_row _ _ 3 _ _ _ rA7_.out
  have A_4_ : (w3).cell? ⟨W.heap.size, 4, none⟩ = some (vl) := cell_of_row _ _ 4 _ _ _ rA7_.out
  have A_5_ : (w3).cell? ⟨W.heap.size, 5, none⟩ = some (.slice a2 n2 cap2) := cell_of_row _ _ 5 _ _ _ rA7_.out
  have A_6_ : (w3).cell? ⟨W.heap.size, 6, none⟩ = some (.slice a1 n1 cap1) := cell_of_row _ _ 6 _ _ _ rA7_.out
  go_wp2
  go_ret
  exact ⟨false, rfl, iff_noK (fun q => by have := q.2.2.2.1; have := HE2.out; omega), G8_.out⟩

set_option maxRecDepth 8000 in
set_option maxHeartbeats 4000000 in
theorem implLnk_a (W : World) (m r e : Int) (v vl vf va : Value) (xs : List DFrame) (L fl : List (List Int)) (zs : List Int) (H : RdL shFrame W v xs) (HL_ : RdL (shL shI) W vl L) (HF_ : RdL (shL shI) W vf fl) (HA_ : RdL shI W va zs) (hl : szL shFrame xs ≤ 1048576) (hlL : szL (shL shI) L ≤ 1048576) (hlf : szL (shL shI) fl ≤ 1048576) (hla : szL shI zs ≤ 1048576) (hs : SndP m r xs) (hr : ROk e L) (hb : AreBL fl) (h8 : fl.length ≤ 8) (h9 : ¬ zs.length ≤ 8) : Calls Try.prog 18 #[.agg #[.int .i64 m, v, .int .i64 r, .int .i64 e, vl, vf, va]] W (BPost (LnkP m r xs e L fl zs) W) := by
  have HSN := Lib.hid hs
  clear hs
  have HRO := Lib.hid (show true = decide (ROk e L) from (decide_eq_true hr).symm)
  clear hr
  have HBL := Lib.hid (show true = decide (AreBL fl) from (decide_eq_true hb).symm)
  clear hb
  have HX := Lib.hid H
  have HLX := Lib.hid hl
  have HLL := Lib.hid HL_
  have HLB := Lib.hid hlL
  have HFL := Lib.hid HF_
  have HFB := Lib.hid hlf
  have HAL := Lib.hid HA_
  have HAB := Lib.hid hla
  obtain ⟨a2, cap2, rfl, _, hr2⟩ := rll_in HF_
  have HA2 := Lib.hid hr2.2
  have hbf := szLL_len hlf
  obtain ⟨n2, hn2⟩ : ∃ n, n = fl.length := ⟨_, rfl⟩
  have HE2 := Lib.hid hn2
  rw [← hn2] at HA2 hbf ⊢
  clear H HL_ HF_ hl hlL hlf hr2 hn2
  rw [szL_I] at hla
  obtain ⟨a1, cap1, rfl, _, hi1⟩ := rdI1_in HA_
  have HA1 := Lib.hid hi1
  obtain ⟨n1, hn1⟩ : ∃ n, n = zs.length := ⟨_, rfl⟩
  have HE1 := Lib.hid hn1
  unfold RdN1 at HA1
  rw [← hn1] at hla HA1 ⊢
  clear HA_ hi1 hn1
  rw [HE2.out.symm] at HFL
  rw [HE1.out.symm] at HAL
  have h2i_ : (n2 : Int) ≤ 8 := by have := HE2.out; omega
  have h1i_ : ¬ (n1 : Int) ≤ 8 := by have := HE1.out; omega
  go_enter Try.func18, Try.ntmps18
  have rA1_ := Lib.hid (show ((W.alloc (.cells #[.int .i64 m, v, .int .i64 r, .int .i64 e, vl, .slice a2 n2 cap2, .slice a1 n1 cap1] 54))).heap[W.heap.size]? = some (.cells #[.int .i64 m, v, .int .i64 r, .int .i64 e, vl, .slice a2 n2 cap2, .slice a1 n1 cap1] 54 (0, 0)) from by exact heap_alloc_new _ _)
  have G2_ := Lib.hid (show (W).grownBy ((W.alloc (.cells #[.int .i64 m, v, .int .i64 r, .int .i64 e, vl, .slice a2 n2 cap2, .slice a1 n1 cap1] 54))) none from (gby_alloc (gby_refl _ _) _))
  have A_0_ : ((W.alloc (.cells #[.int .i64 m, v, .int .i64 r, .int .i64 e, vl, .slice a2 n2 cap2, .slice a1 n1 cap1] 54))).cell? ⟨W.heap.size, 0, none⟩ = some (.int .i64 m) := cell_of_row _ _ 0 _ _ _ rA1_.out
  have A_1_ : ((W.alloc (.cells #[.int .i64 m, v, .int .i64 r, .int .i64 e, vl, .slice a2 n2 cap2, .slice a1 n1 cap1] 54))).cell? ⟨W.heap.size, 1, none⟩ = some (v) := cell_of_row _ _ 1 _ _ _ rA1_.out
  have A_2_ : ((W.alloc (.cells #[.int .i64 m, v, .int .i64 r, .int .i64 e, vl, .slice a2 n2 cap2, .slice a1 n1 cap1] 54))).cell? ⟨W.heap.size, 2, none⟩ = some (.int .i64 r) := cell_of_row _ _ 2 _ _ _ rA1_.out
  have A_3_ : ((W.alloc (.cells #[.int .i64 m, v, .int .i64 r, .int .i64 e, vl, .slice a2 n2 cap2, .slice a1 n1 cap1] 54))).cell? ⟨W.heap.size, 3, none⟩ = some (.int .i64 e) := cell_of_row _ _ 3 _ _ _ rA1_.out
  have A_4_ : ((W.alloc (.cells #[.int .i64 m, v, .int .i64 r, .int .i64 e, vl, .slice a2 n2 cap2, .slice a1 n1 cap1] 54))).cell? ⟨W.heap.size, 4, none⟩ = some (vl) := cell_of_row _ _ 4 _ _ _ rA1_.out
  have A_5_ : ((W.alloc (.cells #[.int .i64 m, v, .int .i64 r, .int .i64 e, vl, .slice a2 n2 cap2, .slice a1 n1 cap1] 54))).cell? ⟨W.heap.size, 5, none⟩ = some (.slice a2 n2 cap2) := cell_of_row _ _ 5 _ _ _ rA1_.out
  have A_6_ : ((W.alloc (.cells #[.int .i64 m, v, .int .i64 r, .int .i64 e, vl, .slice a2 n2 cap2, .slice a1 n1 cap1] 54))).cell? ⟨W.heap.size, 6, none⟩ = some (.slice a1 n1 cap1) := cell_of_row _ _ 6 _ _ _ rA1_.out
  go_wp2_with fail
  go_at_call 67
  refine ((implSnd _ m r _ xs (HX.out.grow G2_.out) HLX.out).mono (bpost_yes HSN.out)).mono ?_
  rintro e w1 ⟨rfl, g⟩
  have szw1 := g.size
  try simp only [World.size_alloc] at szw1
  try simp only [World.size_setCell] at szw1
  clear A_0_ A_1_ A_2_ A_3_ A_4_ A_5_ A_6_
  have rA3_ := Lib.hid (show (w1).heap[W.heap.size]? = some (.cells #[.int .i64 m, v, .int .i64 r, .int .i64 e, vl, .slice a2 n2 cap2, .slice a1 n1 cap1] 54 (0, 0)) from row_held g rA1_.out)
  clear rA1_
  have G4_ := Lib.hid (show (W).grownBy (w1) none from gby_trans G2_.out g)
  clear g
  have A_0_ : (w1).cell? ⟨W.heap.size, 0, none⟩ = some (.int .i64 m) := cell_of_row _ _ 0 _ _ _ rA3_.out
  have A_1_ : (w1).cell? ⟨W.heap.size, 1, none⟩ = some (v) := cell_of_row _ _ 1 _ _ _ rA3_.out
  have A_2_ : (w1).cell? ⟨W.heap.size, 2, none⟩ = some (.int .i64 r) := cell_of_row _ _ 2 _ _ _ rA3_.out
  have A_3_ : (w1).cell? ⟨W.heap.size, 3, none⟩ = some (.int .i64 e) := cell_of_row _ _ 3 _ _ _ rA3_.out
  have A_4_ : (w1).cell? ⟨W.heap.size, 4, none⟩ = some (vl) := cell_of_row _ _ 4 _ _ _ rA3_.out
  have A_5_ : (w1).cell? ⟨W.heap.size, 5, none⟩ = some (.slice a2 n2 cap2) := cell_of_row _ _ 5 _ _ _ rA3_.out
  have A_6_ : (w1).cell? ⟨W.heap.size, 6, none⟩ = some (.slice a1 n1 cap1) := cell_of_row _ _ 6 _ _ _ rA3_.out
  go_wp2_with fail
  go_at_call 68
  refine (implROkD _ e _ L (HLL.out.grow G4_.out) HLB.out true HRO.out).mono ?_
  rintro e w2 ⟨rfl, g⟩
  have szw2 := g.size
  try simp only [World.size_alloc] at szw2
  try simp only [World.size_setCell] at szw2
  clear A_0_ A_1_ A_2_ A_3_ A_4_ A_5_ A_6_
  have rA5_ := Lib.hid (show (w2).heap[W.heap.size]? = some (.cells #[.int .i64 m, v, .int .i64 r, .int .i64 e, vl, .slice a2 n2 cap2, .slice a1 n1 cap1] 54 (0, 0)) from row_held g rA3_.out)
  clear rA3_
  have G6_ := Lib.hid (show (W).grownBy (w2) none from gby_trans G4_.out g)
  clear g
  have A_0_ : (w2).cell? ⟨W.heap.size, 0, none⟩ = some (.int .i64 m) := cell_of_row _ _ 0 _ _ _ rA5_.out
  have A_1_ : (w2).cell? ⟨W.heap.size, 1, none⟩ = some (v) := cell_of_row _ _ 1 _ _ _ rA5_.out
  have A_2_ : (w2).cell? ⟨W.heap.size, 2, none⟩ = some (.int .i64 r) := cell_of_row _ _ 2 _ _ _ rA5_.out
  have A_3_ : (w2).cell? ⟨W.heap.size, 3, none⟩ = some (.int .i64 e) := cell_of_row _ _ 3 _ _ _ rA5_.out
  have A_4_ : (w2).cell? ⟨W.heap.size, 4, none⟩ = some (vl) := cell_of_row _ _ 4 _ _ _ rA5_.out
  have A_5_ : (w2).cell? ⟨W.heap.size, 5, none⟩ = some (.slice a2 n2 cap2) := cell_of_row _ _ 5 _ _ _ rA5_.out
  have A_6_ : (w2).cell? ⟨W.heap.size, 6, none⟩ = some (.slice a1 n1 cap1) := cell_of_row _ _ 6 _ _ _ rA5_.out
  go_wp2_with fail
  go_at_call 69
  refine (implBLD _ _ fl (HFL.out.grow G6_.out) HFB.out true HBL.out).mono ?_
  rintro e w3 ⟨rfl, g⟩
  have szw3 := g.size
  try simp only [World.size_alloc] at szw3
  try simp only [World.size_setCell] at szw3
  clear A_0_ A_1_ A_2_ A_3_ A_4_ A_5_ A_6_
  have rA7_ := Lib.hid (show (w3).heap[W.heap.size]? = some (.cells #[.int .i64 m, v, .int .i64 r, .int .i64 e, vl, .slice a2 n2 cap2, .slice a1 n1 cap1] 54 (0, 0)) from row_held g rA5_.out)
  clear rA5_
  have G8_ := Lib.hid (show (W).grownBy (w3) none from gby_trans G6_.out g)
  clear g
  have A_0_ : (w3).cell? ⟨W.heap.size, 0, none⟩ = some (.int .i64 m) := cell_of_row _ _ 0 _ _ _ rA7_.out
  have A_1_ : (w3).cell? ⟨W.heap.size, 1, none⟩ = some (v) := cell_of_row _ _ 1 _ _ _ rA7_.out
  have A_2_ : (w3).cell? ⟨W.heap.size, 2, none⟩ = some (.int .i64 r) := cell_of_row _ _ 2 _ _ _ rA7_.out
  have A_3_ : (w3).cell? ⟨W.heap.size, 3, none⟩ = some (.int .i64 e) := cell_of_row _ _ 3 _ _ _ rA7_.out
  have A_4_ : (w3).cell? ⟨W.heap.size, 4, none⟩ = some (vl) := cell_of_row _ _ 4 _ _ _ rA7_.out
  have A_5_ : (w3).cell? ⟨W.heap.size, 5, none⟩ = some (.slice a2 n2 cap2) := cell_of_row _ _ 5 _ _ _ rA7_.out
  have A_6_ : (w3).cell? ⟨W.heap.size, 6, none⟩ = some (.slice a1 n1 cap1) := cell_of_row _ _ 6 _ _ _ rA7_.out
  go_wp2
  go_ret
  exact ⟨false, rfl, iff_noK (fun q => by have := q.2.2.2.2.1; have := HE1.out; omega), G8_.out⟩

set_option maxRecDepth 8000 in
set_option maxHeartbeats 4000000 in
theorem implLnk_n (W : World) (m r e : Int) (v vl vf va : Value) (xs : List DFrame) (L fl : List (List Int)) (zs : List Int) (H : RdL shFrame W v xs) (HL_ : RdL (shL shI) W vl L) (HF_ : RdL (shL shI) W vf fl) (HA_ : RdL shI W va zs) (hl : szL shFrame xs ≤ 1048576) (hlL : szL (shL shI) L ≤ 1048576) (hlf : szL (shL shI) fl ≤ 1048576) (hla : szL shI zs ≤ 1048576) (hs : SndP m r xs) (hr : ROk e L) (hb : AreBL fl) (h8 : fl.length ≤ 8) (h9 : zs.length ≤ 8) (ha : ¬ AnsP zs) : Calls Try.prog 18 #[.agg #[.int .i64 m, v, .int .i64 r, .int .i64 e, vl, vf, va]] W (BPost (LnkP m r xs e L fl zs) W) := by
  have HSN := Lib.hid hs
  clear hs
  have HRO := Lib.hid (show true = decide (ROk e L) from (decide_eq_true hr).symm)
  clear hr
  have HBL := Lib.hid (show true = decide (AreBL fl) from (decide_eq_true hb).symm)
  clear hb
  have HAN := Lib.hid ha
  clear ha
  have HX := Lib.hid H
  have HLX := Lib.hid hl
  have HLL := Lib.hid HL_
  have HLB := Lib.hid hlL
  have HFL := Lib.hid HF_
  have HFB := Lib.hid hlf
  have HAL := Lib.hid HA_
  have HAB := Lib.hid hla
  obtain ⟨a2, cap2, rfl, _, hr2⟩ := rll_in HF_
  have HA2 := Lib.hid hr2.2
  have hbf := szLL_len hlf
  obtain ⟨n2, hn2⟩ : ∃ n, n = fl.length := ⟨_, rfl⟩
  have HE2 := Lib.hid hn2
  rw [← hn2] at HA2 hbf ⊢
  clear H HL_ HF_ hl hlL hlf hr2 hn2
  rw [szL_I] at hla
  obtain ⟨a1, cap1, rfl, _, hi1⟩ := rdI1_in HA_
  have HA1 := Lib.hid hi1
  obtain ⟨n1, hn1⟩ : ∃ n, n = zs.length := ⟨_, rfl⟩
  have HE1 := Lib.hid hn1
  unfold RdN1 at HA1
  rw [← hn1] at hla HA1 ⊢
  clear HA_ hi1 hn1
  rw [HE2.out.symm] at HFL
  rw [HE1.out.symm] at HAL
  have h2i_ : (n2 : Int) ≤ 8 := by have := HE2.out; omega
  have h1i_ : (n1 : Int) ≤ 8 := by have := HE1.out; omega
  go_enter Try.func18, Try.ntmps18
  have rA1_ := Lib.hid (show ((W.alloc (.cells #[.int .i64 m, v, .int .i64 r, .int .i64 e, vl, .slice a2 n2 cap2, .slice a1 n1 cap1] 54))).heap[W.heap.size]? = some (.cells #[.int .i64 m, v, .int .i64 r, .int .i64 e, vl, .slice a2 n2 cap2, .slice a1 n1 cap1] 54 (0, 0)) from by exact heap_alloc_new _ _)
  have G2_ := Lib.hid (show (W).grownBy ((W.alloc (.cells #[.int .i64 m, v, .int .i64 r, .int .i64 e, vl, .slice a2 n2 cap2, .slice a1 n1 cap1] 54))) none from (gby_alloc (gby_refl _ _) _))
  have A_0_ : ((W.alloc (.cells #[.int .i64 m, v, .int .i64 r, .int .i64 e, vl, .slice a2 n2 cap2, .slice a1 n1 cap1] 54))).cell? ⟨W.heap.size, 0, none⟩ = some (.int .i64 m) := cell_of_row _ _ 0 _ _ _ rA1_.out
  have A_1_ : ((W.alloc (.cells #[.int .i64 m, v, .int .i64 r, .int .i64 e, vl, .slice a2 n2 cap2, .slice a1 n1 cap1] 54))).cell? ⟨W.heap.size, 1, none⟩ = some (v) := cell_of_row _ _ 1 _ _ _ rA1_.out
  have A_2_ : ((W.alloc (.cells #[.int .i64 m, v, .int .i64 r, .int .i64 e, vl, .slice a2 n2 cap2, .slice a1 n1 cap1] 54))).cell? ⟨W.heap.size, 2, none⟩ = some (.int .i64 r) := cell_of_row _ _ 2 _ _ _ rA1_.out
  have A_3_ : ((W.alloc (.cells #[.int .i64 m, v, .int .i64 r, .int .i64 e, vl, .slice a2 n2 cap2, .slice a1 n1 cap1] 54))).cell? ⟨W.heap.size, 3, none⟩ = some (.int .i64 e) := cell_of_row _ _ 3 _ _ _ rA1_.out
  have A_4_ : ((W.alloc (.cells #[.int .i64 m, v, .int .i64 r, .int .i64 e, vl, .slice a2 n2 cap2, .slice a1 n1 cap1] 54))).cell? ⟨W.heap.size, 4, none⟩ = some (vl) := cell_of_row _ _ 4 _ _ _ rA1_.out
  have A_5_ : ((W.alloc (.cells #[.int .i64 m, v, .int .i64 r, .int .i64 e, vl, .slice a2 n2 cap2, .slice a1 n1 cap1] 54))).cell? ⟨W.heap.size, 5, none⟩ = some (.slice a2 n2 cap2) := cell_of_row _ _ 5 _ _ _ rA1_.out
  have A_6_ : ((W.alloc (.cells #[.int .i64 m, v, .int .i64 r, .int .i64 e, vl, .slice a2 n2 cap2, .slice a1 n1 cap1] 54))).cell? ⟨W.heap.size, 6, none⟩ = some (.slice a1 n1 cap1) := cell_of_row _ _ 6 _ _ _ rA1_.out
  go_wp2_with fail
  go_at_call 67
  refine ((implSnd _ m r _ xs (HX.out.grow G2_.out) HLX.out).mono (bpost_yes HSN.out)).mono ?_
  rintro e w1 ⟨rfl, g⟩
  have szw1 := g.size
  try simp only [World.size_alloc] at szw1
  try simp only [World.size_setCell] at szw1
  clear A_0_ A_1_ A_2_ A_3_ A_4_ A_5_ A_6_
  have rA3_ := Lib.hid (show (w1).heap[W.heap.size]? = some (.cells #[.int .i64 m, v, .int .i64 r, .int .i64 e, vl, .slice a2 n2 cap2, .slice a1 n1 cap1] 54 (0, 0)) from row_held g rA1_.out)
  clear rA1_
  have G4_ := Lib.hid (show (W).grownBy (w1) none from gby_trans G2_.out g)
  clear g
  have A_0_ : (w1).cell? ⟨W.heap.size, 0, none⟩ = some (.int .i64 m) := cell_of_row _ _ 0 _ _ _ rA3_.out
  have A_1_ : (w1).cell? ⟨W.heap.size, 1, none⟩ = some (v) := cell_of_row _ _ 1 _ _ _ rA3_.out
  have A_2_ : (w1).cell? ⟨W.heap.size, 2, none⟩ = some (.int .i64 r) := cell_of_row _ _ 2 _ _ _ rA3_.out
  have A_3_ : (w1).cell? ⟨W.heap.size, 3, none⟩ = some (.int .i64 e) := cell_of_row _ _ 3 _ _ _ rA3_.out
  have A_4_ : (w1).cell? ⟨W.heap.size, 4, none⟩ = some (vl) := cell_of_row _ _ 4 _ _ _ rA3_.out
  have A_5_ : (w1).cell? ⟨W.heap.size, 5, none⟩ = some (.slice a2 n2 cap2) := cell_of_row _ _ 5 _ _ _ rA3_.out
  have A_6_ : (w1).cell? ⟨W.heap.size, 6, none⟩ = some (.slice a1 n1 cap1) := cell_of_row _ _ 6 _ _ _ rA3_.out
  go_wp2_with fail
  go_at_call 68
  refine (implROkD _ e _ L (HLL.out.grow G4_.out) HLB.out true HRO.out).mono ?_
  rintro e w2 ⟨rfl, g⟩
  have szw2 := g.size
  try simp only [World.size_alloc] at szw2
  try simp only [World.size_setCell] at szw2
  clear A_0_ A_1_ A_2_ A_3_ A_4_ A_5_ A_6_
  have rA5_ := Lib.hid (show (w2).heap[W.heap.size]? = some (.cells #[.int .i64 m, v, .int .i64 r, .int .i64 e, vl, .slice a2 n2 cap2, .slice a1 n1 cap1] 54 (0, 0)) from row_held g rA3_.out)
  clear rA3_
  have G6_ := Lib.hid (show (W).grownBy (w2) none from gby_trans G4_.out g)
  clear g
  have A_0_ : (w2).cell? ⟨W.heap.size, 0, none⟩ = some (.int .i64 m) := cell_of_row _ _ 0 _ _ _ rA5_.out
  have A_1_ : (w2).cell? ⟨W.heap.size, 1, none⟩ = some (v) := cell_of_row _ _ 1 _ _ _ rA5_.out
  have A_2_ : (w2).cell? ⟨W.heap.size, 2, none⟩ = some (.int .i64 r) := cell_of_row _ _ 2 _ _ _ rA5_.out
  have A_3_ : (w2).cell? ⟨W.heap.size, 3, none⟩ = some (.int .i64 e) := cell_of_row _ _ 3 _ _ _ rA5_.out
  have A_4_ : (w2).cell? ⟨W.heap.size, 4, none⟩ = some (vl) := cell_of_row _ _ 4 _ _ _ rA5_.out
  have A_5_ : (w2).cell? ⟨W.heap.size, 5, none⟩ = some (.slice a2 n2 cap2) := cell_of_row _ _ 5 _ _ _ rA5_.out
  have A_6_ : (w2).cell? ⟨W.heap.size, 6, none⟩ = some (.slice a1 n1 cap1) := cell_of_row _ _ 6 _ _ _ rA5_.out
  go_wp2_with fail
  go_at_call 69
  refine (implBLD _ _ fl (HFL.out.grow G6_.out) HFB.out true HBL.out).mono ?_
  rintro e w3 ⟨rfl, g⟩
  have szw3 := g.size
  try simp only [World.size_alloc] at szw3
  try simp only [World.size_setCell] at szw3
  clear A_0_ A_1_ A_2_ A_3_ A_4_ A_5_ A_6_
  have rA7_ := Lib.hid (show (w3).heap[W.heap.size]? = some (.cells #[.int .i64 m, v, .int .i64 r, .int .i64 e, vl, .slice a2 n2 cap2, .slice a1 n1 cap1] 54 (0, 0)) from row_held g rA5_.out)
  clear rA5_
  have G8_ := Lib.hid (show (W).grownBy (w3) none from gby_trans G6_.out g)
  clear g
  have A_0_ : (w3).cell? ⟨W.heap.size, 0, none⟩ = some (.int .i64 m) := cell_of_row _ _ 0 _ _ _ rA7_.out
  have A_1_ : (w3).cell? ⟨W.heap.size, 1, none⟩ = some (v) := cell_of_row _ _ 1 _ _ _ rA7_.out
  have A_2_ : (w3).cell? ⟨W.heap.size, 2, none⟩ = some (.int .i64 r) := cell_of_row _ _ 2 _ _ _ rA7_.out
  have A_3_ : (w3).cell? ⟨W.heap.size, 3, none⟩ = some (.int .i64 e) := cell_of_row _ _ 3 _ _ _ rA7_.out
  have A_4_ : (w3).cell? ⟨W.heap.size, 4, none⟩ = some (vl) := cell_of_row _ _ 4 _ _ _ rA7_.out
  have A_5_ : (w3).cell? ⟨W.heap.size, 5, none⟩ = some (.slice a2 n2 cap2) := cell_of_row _ _ 5 _ _ _ rA7_.out
  have A_6_ : (w3).cell? ⟨W.heap.size, 6, none⟩ = some (.slice a1 n1 cap1) := cell_of_row _ _ 6 _ _ _ rA7_.out
  go_wp2_with fail
  go_at_call 70
  refine ((areAns_any _ _ zs (HAL.out.grow G8_.out) HAB.out).mono (bpost_no HAN.out)).mono ?_
  rintro e w4 ⟨rfl, g⟩
  have szw4 := g.size
  try simp only [World.size_alloc] at szw4
  try simp only [World.size_setCell] at szw4
  clear A_0_ A_1_ A_2_ A_3_ A_4_ A_5_ A_6_
  have rA9_ := Lib.hid (show (w4).heap[W.heap.size]? = some (.cells #[.int .i64 m, v, .int .i64 r, .int .i64 e, vl, .slice a2 n2 cap2, .slice a1 n1 cap1] 54 (0, 0)) from row_held g rA7_.out)
  clear rA7_
  have G10_ := Lib.hid (show (W).grownBy (w4) none from gby_trans G8_.out g)
  clear g
  have A_0_ : (w4).cell? ⟨W.heap.size, 0, none⟩ = some (.int .i64 m) := cell_of_row _ _ 0 _ _ _ rA9_.out
  have A_1_ : (w4).cell? ⟨W.heap.size, 1, none⟩ = some (v) := cell_of_row _ _ 1 _ _ _ rA9_.out
  have A_2_ : (w4).cell? ⟨W.heap.size, 2, none⟩ = some (.int .i64 r) := cell_of_row _ _ 2 _ _ _ rA9_.out
  have A_3_ : (w4).cell? ⟨W.heap.size, 3, none⟩ = some (.int .i64 e) := cell_of_row _ _ 3 _ _ _ rA9_.out
  have A_4_ : (w4).cell? ⟨W.heap.size, 4, none⟩ = some (vl) := cell_of_row _ _ 4 _ _ _ rA9_.out
  have A_5_ : (w4).cell? ⟨W.heap.size, 5, none⟩ = some (.slice a2 n2 cap2) := cell_of_row _ _ 5 _ _ _ rA9_.out
  have A_6_ : (w4).cell? ⟨W.heap.size, 6, none⟩ = some (.slice a1 n1 cap1) := cell_of_row _ _ 6 _ _ _ rA9_.out
  go_wp2
  go_ret
  exact ⟨false, rfl, iff_noK (fun q => HAN.out q.2.2.2.2.2), G10_.out⟩

set_option maxRecDepth 8000 in
set_option maxHeartbeats 4000000 in
theorem implLnk_y (W : World) (m r e : Int) (v vl vf va : Value) (xs : List DFrame) (L fl : List (List Int)) (zs : List Int) (H : RdL shFrame W v xs) (HL_ : RdL (shL shI) W vl L) (HF_ : RdL (shL shI) W vf fl) (HA_ : RdL shI W va zs) (hl : szL shFrame xs ≤ 1048576) (hlL : szL (shL shI) L ≤ 1048576) (hlf : szL (shL shI) fl ≤ 1048576) (hla : szL shI zs ≤ 1048576) (hs : SndP m r xs) (hr : ROk e L) (hb : AreBL fl) (h8 : fl.length ≤ 8) (h9 : zs.length ≤ 8) (ha : AnsP zs) : Calls Try.prog 18 #[.agg #[.int .i64 m, v, .int .i64 r, .int .i64 e, vl, vf, va]] W (BPost (LnkP m r xs e L fl zs) W) := by
  have HSN := Lib.hid hs
  clear hs
  have HRO := Lib.hid (show true = decide (ROk e L) from (decide_eq_true hr).symm)
  clear hr
  have HBL := Lib.hid (show true = decide (AreBL fl) from (decide_eq_true hb).symm)
  clear hb
  have HAN := Lib.hid ha
  clear ha
  have HX := Lib.hid H
  have HLX := Lib.hid hl
  have HLL := Lib.hid HL_
  have HLB := Lib.hid hlL
  have HFL := Lib.hid HF_
  have HFB := Lib.hid hlf
  have HAL := Lib.hid HA_
  have HAB := Lib.hid hla
  obtain ⟨a2, cap2, rfl, _, hr2⟩ := rll_in HF_
  have HA2 := Lib.hid hr2.2
  have hbf := szLL_len hlf
  obtain ⟨n2, hn2⟩ : ∃ n, n = fl.length := ⟨_, rfl⟩
  have HE2 := Lib.hid hn2
  rw [← hn2] at HA2 hbf ⊢
  clear H HL_ HF_ hl hlL hlf hr2 hn2
  rw [szL_I] at hla
  obtain ⟨a1, cap1, rfl, _, hi1⟩ := rdI1_in HA_
  have HA1 := Lib.hid hi1
  obtain ⟨n1, hn1⟩ : ∃ n, n = zs.length := ⟨_, rfl⟩
  have HE1 := Lib.hid hn1
  unfold RdN1 at HA1
  rw [← hn1] at hla HA1 ⊢
  clear HA_ hi1 hn1
  rw [HE2.out.symm] at HFL
  rw [HE1.out.symm] at HAL
  have h2i_ : (n2 : Int) ≤ 8 := by have := HE2.out; omega
  have h1i_ : (n1 : Int) ≤ 8 := by have := HE1.out; omega
  go_enter Try.func18, Try.ntmps18
  have rA1_ := Lib.hid (show ((W.alloc (.cells #[.int .i64 m, v, .int .i64 r, .int .i64 e, vl, .slice a2 n2 cap2, .slice a1 n1 cap1] 54))).heap[W.heap.size]? = some (.cells #[.int .i64 m, v, .int .i64 r, .int .i64 e, vl, .slice a2 n2 cap2, .slice a1 n1 cap1] 54 (0, 0)) from by exact heap_alloc_new _ _)
  have G2_ := Lib.hid (show (W).grownBy ((W.alloc (.cells #[.int .i64 m, v, .int .i64 r, .int .i64 e, vl, .slice a2 n2 cap2, .slice a1 n1 cap1] 54))) none from (gby_alloc (gby_refl _ _) _))
  have A_0_ : ((W.alloc (.cells #[.int .i64 m, v, .int .i64 r, .int .i64 e, vl, .slice a2 n2 cap2, .slice a1 n1 cap1] 54))).cell? ⟨W.heap.size, 0, none⟩ = some (.int .i64 m) := cell_of_row _ _ 0 _ _ _ rA1_.out
  have A_1_ : ((W.alloc (.cells #[.int .i64 m, v, .int .i64 r, .int .i64 e, vl, .slice a2 n2 cap2, .slice a1 n1 cap1] 54))).cell? ⟨W.heap.size, 1, none⟩ = some (v) := cell_of_row _ _ 1 _ _ _ rA1_.out
  have A_2_ : ((W.alloc (.cells #[.int .i64 m, v, .int .i64 r, .int .i64 e, vl, .slice a2 n2 cap2, .slice a1 n1 cap1] 54))).cell? ⟨W.heap.size, 2, none⟩ = some (.int .i64 r) := cell_of_row _ _ 2 _ _ _ rA1_.out
  have A_3_ : ((W.alloc (.cells #[.int .i64 m, v, .int .i64 r, .int .i64 e, vl, .slice a2 n2 cap2, .slice a1 n1 cap1] 54))).cell? ⟨W.heap.size, 3, none⟩ = some (.int .i64 e) := cell_of_row _ _ 3 _ _ _ rA1_.out
  have A_4_ : ((W.alloc (.cells #[.int .i64 m, v, .int .i64 r, .int .i64 e, vl, .slice a2 n2 cap2, .slice a1 n1 cap1] 54))).cell? ⟨W.heap.size, 4, none⟩ = some (vl) := cell_of_row _ _ 4 _ _ _ rA1_.out
  have A_5_ : ((W.alloc (.cells #[.int .i64 m, v, .int .i64 r, .int .i64 e, vl, .slice a2 n2 cap2, .slice a1 n1 cap1] 54))).cell? ⟨W.heap.size, 5, none⟩ = some (.slice a2 n2 cap2) := cell_of_row _ _ 5 _ _ _ rA1_.out
  have A_6_ : ((W.alloc (.cells #[.int .i64 m, v, .int .i64 r, .int .i64 e, vl, .slice a2 n2 cap2, .slice a1 n1 cap1] 54))).cell? ⟨W.heap.size, 6, none⟩ = some (.slice a1 n1 cap1) := cell_of_row _ _ 6 _ _ _ rA1_.out
  go_wp2_with fail
  go_at_call 67
  refine ((implSnd _ m r _ xs (HX.out.grow G2_.out) HLX.out).mono (bpost_yes HSN.out)).mono ?_
  rintro e w1 ⟨rfl, g⟩
  have szw1 := g.size
  try simp only [World.size_alloc] at szw1
  try simp only [World.size_setCell] at szw1
  clear A_0_ A_1_ A_2_ A_3_ A_4_ A_5_ A_6_
  have rA3_ := Lib.hid (show (w1).heap[W.heap.size]? = some (.cells #[.int .i64 m, v, .int .i64 r, .int .i64 e, vl, .slice a2 n2 cap2, .slice a1 n1 cap1] 54 (0, 0)) from row_held g rA1_.out)
  clear rA1_
  have G4_ := Lib.hid (show (W).grownBy (w1) none from gby_trans G2_.out g)
  clear g
  have A_0_ : (w1).cell? ⟨W.heap.size, 0, none⟩ = some (.int .i64 m) := cell_of_row _ _ 0 _ _ _ rA3_.out
  have A_1_ : (w1).cell? ⟨W.heap.size, 1, none⟩ = some (v) := cell_of_row _ _ 1 _ _ _ rA3_.out
  have A_2_ : (w1).cell? ⟨W.heap.size, 2, none⟩ = some (.int .i64 r) := cell_of_row _ _ 2 _ _ _ rA3_.out
  have A_3_ : (w1).cell? ⟨W.heap.size, 3, none⟩ = some (.int .i64 e) := cell_of_row _ _ 3 _ _ _ rA3_.out
  have A_4_ : (w1).cell? ⟨W.heap.size, 4, none⟩ = some (vl) := cell_of_row _ _ 4 _ _ _ rA3_.out
  have A_5_ : (w1).cell? ⟨W.heap.size, 5, none⟩ = some (.slice a2 n2 cap2) := cell_of_row _ _ 5 _ _ _ rA3_.out
  have A_6_ : (w1).cell? ⟨W.heap.size, 6, none⟩ = some (.slice a1 n1 cap1) := cell_of_row _ _ 6 _ _ _ rA3_.out
  go_wp2_with fail
  go_at_call 68
  refine (implROkD _ e _ L (HLL.out.grow G4_.out) HLB.out true HRO.out).mono ?_
  rintro e w2 ⟨rfl, g⟩
  have szw2 := g.size
  try simp only [World.size_alloc] at szw2
  try simp only [World.size_setCell] at szw2
  clear A_0_ A_1_ A_2_ A_3_ A_4_ A_5_ A_6_
  have rA5_ := Lib.hid (show (w2).heap[W.heap.size]? = some (.cells #[.int .i64 m, v, .int .i64 r, .int .i64 e, vl, .slice a2 n2 cap2, .slice a1 n1 cap1] 54 (0, 0)) from row_held g rA3_.out)
  clear rA3_
  have G6_ := Lib.hid (show (W).grownBy (w2) none from gby_trans G4_.out g)
  clear g
  have A_0_ : (w2).cell? ⟨W.heap.size, 0, none⟩ = some (.int .i64 m) := cell_of_row _ _ 0 _ _ _ rA5_.out
  have A_1_ : (w2).cell? ⟨W.heap.size, 1, none⟩ = some (v) := cell_of_row _ _ 1 _ _ _ rA5_.out
  have A_2_ : (w2).cell? ⟨W.heap.size, 2, none⟩ = some (.int .i64 r) := cell_of_row _ _ 2 _ _ _ rA5_.out
  have A_3_ : (w2).cell? ⟨W.heap.size, 3, none⟩ = some (.int .i64 e) := cell_of_row _ _ 3 _ _ _ rA5_.out
  have A_4_ : (w2).cell? ⟨W.heap.size, 4, none⟩ = some (vl) := cell_of_row _ _ 4 _ _ _ rA5_.out
  have A_5_ : (w2).cell? ⟨W.heap.size, 5, none⟩ = some (.slice a2 n2 cap2) := cell_of_row _ _ 5 _ _ _ rA5_.out
  have A_6_ : (w2).cell? ⟨W.heap.size, 6, none⟩ = some (.slice a1 n1 cap1) := cell_of_row _ _ 6 _ _ _ rA5_.out
  go_wp2_with fail
  go_at_call 69
  refine (implBLD _ _ fl (HFL.out.grow G6_.out) HFB.out true HBL.out).mono ?_
  rintro e w3 ⟨rfl, g⟩
  have szw3 := g.size
  try simp only [World.size_alloc] at szw3
  try simp only [World.size_setCell] at szw3
  clear A_0_ A_1_ A_2_ A_3_ A_4_ A_5_ A_6_
  have rA7_ := Lib.hid (show (w3).heap[W.heap.size]? = some (.cells #[.int .i64 m, v, .int .i64 r, .int .i64 e, vl, .slice a2 n2 cap2, .slice a1 n1 cap1] 54 (0, 0)) from row_held g rA5_.out)
  clear rA5_
  have G8_ := Lib.hid (show (W).grownBy (w3) none from gby_trans G6_.out g)
  clear g
  have A_0_ : (w3).cell? ⟨W.heap.size, 0, none⟩ = some (.int .i64 m) := cell_of_row _ _ 0 _ _ _ rA7_.out
  have A_1_ : (w3).cell? ⟨W.heap.size, 1, none⟩ = some (v) := cell_of_row _ _ 1 _ _ _ rA7_.out
  have A_2_ : (w3).cell? ⟨W.heap.size, 2, none⟩ = some (.int .i64 r) := cell_of_row _ _ 2 _ _ _ rA7_.out
  have A_3_ : (w3).cell? ⟨W.heap.size, 3, none⟩ = some (.int .i64 e) := cell_of_row _ _ 3 _ _ _ rA7_.out
  have A_4_ : (w3).cell? ⟨W.heap.size, 4, none⟩ = some (vl) := cell_of_row _ _ 4 _ _ _ rA7_.out
  have A_5_ : (w3).cell? ⟨W.heap.size, 5, none⟩ = some (.slice a2 n2 cap2) := cell_of_row _ _ 5 _ _ _ rA7_.out
  have A_6_ : (w3).cell? ⟨W.heap.size, 6, none⟩ = some (.slice a1 n1 cap1) := cell_of_row _ _ 6 _ _ _ rA7_.out
  go_wp2_with fail
  go_at_call 70
  refine ((areAns_any _ _ zs (HAL.out.grow G8_.out) HAB.out).mono (bpost_yes HAN.out)).mono ?_
  rintro e w4 ⟨rfl, g⟩
  have szw4 := g.size
  try simp only [World.size_alloc] at szw4
  try simp only [World.size_setCell] at szw4
  clear A_0_ A_1_ A_2_ A_3_ A_4_ A_5_ A_6_
  have rA9_ := Lib.hid (show (w4).heap[W.heap.size]? = some (.cells #[.int .i64 m, v, .int .i64 r, .int .i64 e, vl, .slice a2 n2 cap2, .slice a1 n1 cap1] 54 (0, 0)) from row_held g rA7_.out)
  clear rA7_
  have G10_ := Lib.hid (show (W).grownBy (w4) none from gby_trans G8_.out g)
  clear g
  have A_0_ : (w4).cell? ⟨W.heap.size, 0, none⟩ = some (.int .i64 m) := cell_of_row _ _ 0 _ _ _ rA9_.out
  have A_1_ : (w4).cell? ⟨W.heap.size, 1, none⟩ = some (v) := cell_of_row _ _ 1 _ _ _ rA9_.out
  have A_2_ : (w4).cell? ⟨W.heap.size, 2, none⟩ = some (.int .i64 r) := cell_of_row _ _ 2 _ _ _ rA9_.out
  have A_3_ : (w4).cell? ⟨W.heap.size, 3, none⟩ = some (.int .i64 e) := cell_of_row _ _ 3 _ _ _ rA9_.out
  have A_4_ : (w4).cell? ⟨W.heap.size, 4, none⟩ = some (vl) := cell_of_row _ _ 4 _ _ _ rA9_.out
  have A_5_ : (w4).cell? ⟨W.heap.size, 5, none⟩ = some (.slice a2 n2 cap2) := cell_of_row _ _ 5 _ _ _ rA9_.out
  have A_6_ : (w4).cell? ⟨W.heap.size, 6, none⟩ = some (.slice a1 n1 cap1) := cell_of_row _ _ 6 _ _ _ rA9_.out
  go_wp2
  go_ret
  exact ⟨true, rfl, iff_yesK ⟨HSN.out, of_decide_eq_true HRO.out.symm, of_decide_eq_true HBL.out.symm, by have := HE2.out; omega, by have := HE1.out; omega, HAN.out⟩, G10_.out⟩

end Go.Proofs.Ytnighnkkeiegnab
