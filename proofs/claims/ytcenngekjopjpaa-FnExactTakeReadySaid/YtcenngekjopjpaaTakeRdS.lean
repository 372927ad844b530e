/-
  TakeReady, the model.
-/
import Derived.Test.YtcenngekjopjpaaSndCpS
import Derived.Test.YtcenngekjopjpaaRTakeReady
import Derived.Deep.RegionLaw
namespace Go.Proofs.Ytcenngekjopjpaa
open Go Go.RowKit
set_option linter.unusedVariables false

theorem gby_someQR {w a : World} (g : w.grownBy a none) (r : Option Nat) : w.grownBy a r := ⟨g.os, g.tape, g.output, g.size, fun k hk _ => g.block k hk (by simp)⟩
theorem row_drewQR {w : World} {b : Nat} {o : Obj} (h : w.heap[b]? = some o) : w.drew.heap[b]? = some o := h
theorem rd_elR {w : World} {pd : Option Addr} {nd cd : Nat} {xs : List DFrame} (h : RdL shFrame w (.slice pd nd cd) xs) (h0 : 0 < xs.length) : ∃ g o, pd = some ⟨g, o, none⟩ ∧ ∀ k, k < xs.length → ∃ cs, At w g (o + k * 2) cs ∧ shFrame.rd w cs (xs.getD k default) := by
  obtain ⟨a, c, e, h1, _, h3⟩ := h
  injection e with e1 e2 e3
  subst e1 e2 e3
  rcases h3 with h3 | ⟨b, off, ha, h4⟩
  · omega
  · exact ⟨b, off, ha, h4⟩

set_option maxRecDepth 8000 in
set_option maxHeartbeats 4000000 in
theorem specRd_bad (W : World) (m r : Int) (v : Value) (xs : List DFrame) (H : RdL shFrame W v xs) (hl : szL shFrame xs ≤ 1048576) (hv : ¬ SndP m r xs) : Calls Try.prog 17 #[.agg #[.int .i64 m, v, .int .i64 r]] W (ResITakeReady m xs r 0 [] false W) := by
  have HV := Lib.hid hv
  clear hv
  have HX := Lib.hid H
  have HL := Lib.hid hl
  obtain ⟨a0, n0, cap0, rfl⟩ := RdL.form H
  have hn0 : n0 = xs.length := by obtain ⟨_, _, e, _⟩ := H; injection e
  have HE := Lib.hid hn0
  have hlx : n0 ≤ 1048576 := by have := szL_len shFrame xs; omega
  clear H hl hn0
  go_enter Try.func17, Try.ntmps17
  have rA1_ := Lib.hid (show ((((W.alloc (.cells #[.int .i64 m, .slice a0 n0 cap0, .int .i64 r] 29)).alloc (.cells #[.int .i64 0, .slice none 0 0, .int .i64 0] 29)).alloc (.cells #[.int .i64 0, .slice none 0 0] 37))).heap[W.heap.size]? = some (.cells #[.int .i64 m, .slice a0 n0 cap0, .int .i64 r] 29 (0, 0)) from by rw [heap_alloc_old _ _ (by simp only [World.size_alloc]; omega)]; rw [heap_alloc_old _ _ (by simp only [World.size_alloc]; omega)]; exact heap_alloc_new _ _)
  have rR2_ := Lib.hid (show ((((W.alloc (.cells #[.int .i64 m, .slice a0 n0 cap0, .int .i64 r] 29)).alloc (.cells #[.int .i64 0, .slice none 0 0, .int .i64 0] 29)).alloc (.cells #[.int .i64 0, .slice none 0 0] 37))).heap[W.heap.size + 1]? = some (.cells #[.int .i64 0, .slice none 0 0, .int .i64 0] 29 (0, 0)) from by rw [heap_alloc_old _ _ (by simp only [World.size_alloc]; omega)]; exact heap_pair _ _ _)
  have rF3_ := Lib.hid (show ((((W.alloc (.cells #[.int .i64 m, .slice a0 n0 cap0, .int .i64 r] 29)).alloc (.cells #[.int .i64 0, .slice none 0 0, .int .i64 0] 29)).alloc (.cells #[.int .i64 0, .slice none 0 0] 37))).heap[W.heap.size + 1 + 1]? = some (.cells #[.int .i64 0, .slice none 0 0] 37 (0, 0)) from by exact heap_trip _ _ _ _)
  have G4_ := Lib.hid (show (W).grownBy ((((W.alloc (.cells #[.int .i64 m, .slice a0 n0 cap0, .int .i64 r] 29)).alloc (.cells #[.int .i64 0, .slice none 0 0, .int .i64 0] 29)).alloc (.cells #[.int .i64 0, .slice none 0 0] 37))) none from (gby_alloc (gby_alloc (gby_alloc (gby_refl _ _) _) _) _))
  have A_0_ : ((((W.alloc (.cells #[.int .i64 m, .slice a0 n0 cap0, .int .i64 r] 29)).alloc (.cells #[.int .i64 0, .slice none 0 0, .int .i64 0] 29)).alloc (.cells #[.int .i64 0, .slice none 0 0] 37))).cell? ⟨W.heap.size, 0, none⟩ = some (.int .i64 m) := cell_of_row _ _ 0 _ _ _ rA1_.out
  have A_1_ : ((((W.alloc (.cells #[.int .i64 m, .slice a0 n0 cap0, .int .i64 r] 29)).alloc (.cells #[.int .i64 0, .slice none 0 0, .int .i64 0] 29)).alloc (.cells #[.int .i64 0, .slice none 0 0] 37))).cell? ⟨W.heap.size, 1, none⟩ = some (.slice a0 n0 cap0) := cell_of_row _ _ 1 _ _ _ rA1_.out
  have A_2_ : ((((W.alloc (.cells #[.int .i64 m, .slice a0 n0 cap0, .int .i64 r] 29)).alloc (.cells #[.int .i64 0, .slice none 0 0, .int .i64 0] 29)).alloc (.cells #[.int .i64 0, .slice none 0 0] 37))).cell? ⟨W.heap.size, 2, none⟩ = some (.int .i64 r) := cell_of_row _ _ 2 _ _ _ rA1_.out
  have R_0_ : ((((W.alloc (.cells #[.int .i64 m, .slice a0 n0 cap0, .int .i64 r] 29)).alloc (.cells #[.int .i64 0, .slice none 0 0, .int .i64 0] 29)).alloc (.cells #[.int .i64 0, .slice none 0 0] 37))).cell? ⟨W.heap.size + 1, 0, none⟩ = some (.int .i64 0) := cell_of_row _ _ 0 _ _ _ rR2_.out
  have R_1_ : ((((W.alloc (.cells #[.int .i64 m, .slice a0 n0 cap0, .int .i64 r] 29)).alloc (.cells #[.int .i64 0, .slice none 0 0, .int .i64 0] 29)).alloc (.cells #[.int .i64 0, .slice none 0 0] 37))).cell? ⟨W.heap.size + 1, 1, none⟩ = some (.slice none 0 0) := cell_of_row _ _ 1 _ _ _ rR2_.out
  have R_2_ : ((((W.alloc (.cells #[.int .i64 m, .slice a0 n0 cap0, .int .i64 r] 29)).alloc (.cells #[.int .i64 0, .slice none 0 0, .int .i64 0] 29)).alloc (.cells #[.int .i64 0, .slice none 0 0] 37))).cell? ⟨W.heap.size + 1, 2, none⟩ = some (.int .i64 0) := cell_of_row _ _ 2 _ _ _ rR2_.out
  have F_0_ : ((((W.alloc (.cells #[.int .i64 m, .slice a0 n0 cap0, .int .i64 r] 29)).alloc (.cells #[.int .i64 0, .slice none 0 0, .int .i64 0] 29)).alloc (.cells #[.int .i64 0, .slice none 0 0] 37))).cell? ⟨W.heap.size + 1 + 1, 0, none⟩ = some (.int .i64 0) := cell_of_row _ _ 0 _ _ _ rF3_.out
  have F_1_ : ((((W.alloc (.cells #[.int .i64 m, .slice a0 n0 cap0, .int .i64 r] 29)).alloc (.cells #[.int .i64 0, .slice none 0 0, .int .i64 0] 29)).alloc (.cells #[.int .i64 0, .slice none 0 0] 37))).cell? ⟨W.heap.size + 1 + 1, 1, none⟩ = some (.slice none 0 0) := cell_of_row _ _ 1 _ _ _ rF3_.out
  go_wp2_with fail
  go_at_call 40
  refine (l08Copy_d _ m r _ xs (HX.out.grow G4_.out) HL.out).mono ?_
  rintro e w1 ⟨d_, rfl, o, g⟩
  have szw1 := g.size
  try simp only [World.size_alloc] at szw1 o
  try unfold vSender
  clear A_0_ A_1_ A_2_ R_0_ R_1_ R_2_ F_0_ F_1_
  have rA5_ := Lib.hid (show (w1).heap[W.heap.size]? = some (.cells #[.int .i64 m, .slice a0 n0 cap0, .int .i64 r] 29 (0, 0)) from row_held g rA1_.out)
  clear rA1_
  have rR6_ := Lib.hid (show (w1).heap[W.heap.size + 1]? = some (.cells #[.int .i64 0, .slice none 0 0, .int .i64 0] 29 (0, 0)) from row_held g rR2_.out)
  clear rR2_
  have rF7_ := Lib.hid (show (w1).heap[W.heap.size + 1 + 1]? = some (.cells #[.int .i64 0, .slice none 0 0] 37 (0, 0)) from row_held g rF3_.out)
  clear rF3_
  have G8_ := Lib.hid (show (W).grownBy (w1) none from gby_trans G4_.out g)
  obtain ⟨pd, nd, cd, hv_⟩ := RdL.form (OwU.rd o)
  subst hv_
  clear g
  have oC9_ := Lib.hid (show OwU (w1) (W.heap.size + 1 + 1 + 1) (w1.heap.size) [] [own shFrame (.slice pd nd cd) xs] from o)
  clear o
  have al_ : (w1).grownBy ((w1).alloc (.cells #[.int .i64 m, .slice pd nd cd, .int .i64 r] 29)) none := gby_alloc (gby_refl _ _) _
  have rA10_ := Lib.hid (show ((w1.alloc (.cells #[.int .i64 m, .slice pd nd cd, .int .i64 r] 29))).heap[W.heap.size]? = some (.cells #[.int .i64 m, .slice a0 n0 cap0, .int .i64 r] 29 (0, 0)) from row_held al_ rA5_.out)
  clear rA5_
  have rR11_ := Lib.hid (show ((w1.alloc (.cells #[.int .i64 m, .slice pd nd cd, .int .i64 r] 29))).heap[W.heap.size + 1]? = some (.cells #[.int .i64 0, .slice none 0 0, .int .i64 0] 29 (0, 0)) from row_held al_ rR6_.out)
  clear rR6_
  have rF12_ := Lib.hid (show ((w1.alloc (.cells #[.int .i64 m, .slice pd nd cd, .int .i64 r] 29))).heap[W.heap.size + 1 + 1]? = some (.cells #[.int .i64 0, .slice none 0 0] 37 (0, 0)) from row_held al_ rF7_.out)
  clear rF7_
  have oC13_ := Lib.hid (show OwU ((w1.alloc (.cells #[.int .i64 m, .slice pd nd cd, .int .i64 r] 29))) (W.heap.size + 1 + 1 + 1) (w1.heap.size) [] [own shFrame (.slice pd nd cd) xs] from OwU.grow oC9_.out al_)
  clear oC9_
  have G14_ := Lib.hid (show (W).grownBy ((w1.alloc (.cells #[.int .i64 m, .slice pd nd cd, .int .i64 r] 29))) none from gby_trans G8_.out al_)
  have rB15_ := Lib.hid (show ((w1.alloc (.cells #[.int .i64 m, .slice pd nd cd, .int .i64 r] 29))).heap[w1.heap.size]? = some (.cells #[.int .i64 m, .slice pd nd cd, .int .i64 r] 29 (0, 0)) from by first | exact heap_alloc_new _ _ | exact heap_pair _ _ _ | exact heap_trip _ _ _ _)
  clear al_
  have A_0_ : ((w1.alloc (.cells #[.int .i64 m, .slice pd nd cd, .int .i64 r] 29))).cell? ⟨W.heap.size, 0, none⟩ = some (.int .i64 m) := cell_of_row _ _ 0 _ _ _ rA10_.out
  have A_1_ : ((w1.alloc (.cells #[.int .i64 m, .slice pd nd cd, .int .i64 r] 29))).cell? ⟨W.heap.size, 1, none⟩ = some (.slice a0 n0 cap0) := cell_of_row _ _ 1 _ _ _ rA10_.out
  have A_2_ : ((w1.alloc (.cells #[.int .i64 m, .slice pd nd cd, .int .i64 r] 29))).cell? ⟨W.heap.size, 2, none⟩ = some (.int .i64 r) := cell_of_row _ _ 2 _ _ _ rA10_.out
  have R_0_ : ((w1.alloc (.cells #[.int .i64 m, .slice pd nd cd, .int .i64 r] 29))).cell? ⟨W.heap.size + 1, 0, none⟩ = some (.int .i64 0) := cell_of_row _ _ 0 _ _ _ rR11_.out
  have R_1_ : ((w1.alloc (.cells #[.int .i64 m, .slice pd nd cd, .int .i64 r] 29))).cell? ⟨W.heap.size + 1, 1, none⟩ = some (.slice none 0 0) := cell_of_row _ _ 1 _ _ _ rR11_.out
  have R_2_ : ((w1.alloc (.cells #[.int .i64 m, .slice pd nd cd, .int .i64 r] 29))).cell? ⟨W.heap.size + 1, 2, none⟩ = some (.int .i64 0) := cell_of_row _ _ 2 _ _ _ rR11_.out
  have F_0_ : ((w1.alloc (.cells #[.int .i64 m, .slice pd nd cd, .int .i64 r] 29))).cell? ⟨W.heap.size + 1 + 1, 0, none⟩ = some (.int .i64 0) := cell_of_row _ _ 0 _ _ _ rF12_.out
  have F_1_ : ((w1.alloc (.cells #[.int .i64 m, .slice pd nd cd, .int .i64 r] 29))).cell? ⟨W.heap.size + 1 + 1, 1, none⟩ = some (.slice none 0 0) := cell_of_row _ _ 1 _ _ _ rF12_.out
  have B_0_ : ((w1.alloc (.cells #[.int .i64 m, .slice pd nd cd, .int .i64 r] 29))).cell? ⟨w1.heap.size, 0, none⟩ = some (.int .i64 m) := cell_of_row _ _ 0 _ _ _ rB15_.out
  have B_1_ : ((w1.alloc (.cells #[.int .i64 m, .slice pd nd cd, .int .i64 r] 29))).cell? ⟨w1.heap.size, 1, none⟩ = some (.slice pd nd cd) := cell_of_row _ _ 1 _ _ _ rB15_.out
  have B_2_ : ((w1.alloc (.cells #[.int .i64 m, .slice pd nd cd, .int .i64 r] 29))).cell? ⟨w1.heap.size, 2, none⟩ = some (.int .i64 r) := cell_of_row _ _ 2 _ _ _ rB15_.out
  clear A_0_ A_1_ A_2_ R_0_ R_1_ R_2_ F_0_ F_1_ B_0_ B_1_ B_2_
  have A_0_ : ((w1.alloc (.cells #[.int .i64 m, .slice pd nd cd, .int .i64 r] 29))).cell? ⟨W.heap.size, 0, none⟩ = some (.int .i64 m) := cell_of_row _ _ 0 _ _ _ rA10_.out
  have A_1_ : ((w1.alloc (.cells #[.int .i64 m, .slice pd nd cd, .int .i64 r] 29))).cell? ⟨W.heap.size, 1, none⟩ = some (.slice a0 n0 cap0) := cell_of_row _ _ 1 _ _ _ rA10_.out
  have A_2_ : ((w1.alloc (.cells #[.int .i64 m, .slice pd nd cd, .int .i64 r] 29))).cell? ⟨W.heap.size, 2, none⟩ = some (.int .i64 r) := cell_of_row _ _ 2 _ _ _ rA10_.out
  go_wp2_with fail
  go_at_call 9
  refine ((specSnd _ m r _ xs (HX.out.grow G14_.out) HL.out).mono (bpost_no HV.out)).mono ?_
  rintro e w2 ⟨rfl, g⟩
  have szw2 := g.size
  try simp only [World.size_alloc] at szw2
  try simp only [World.size_setCell] at szw2
  clear A_0_ A_1_ A_2_
  have rA16_ := Lib.hid (show (w2).heap[W.heap.size]? = some (.cells #[.int .i64 m, .slice a0 n0 cap0, .int .i64 r] 29 (0, 0)) from row_held g rA10_.out)
  clear rA10_
  have rR17_ := Lib.hid (show (w2).heap[W.heap.size + 1]? = some (.cells #[.int .i64 0, .slice none 0 0, .int .i64 0] 29 (0, 0)) from row_held g rR11_.out)
  clear rR11_
  have rF18_ := Lib.hid (show (w2).heap[W.heap.size + 1 + 1]? = some (.cells #[.int .i64 0, .slice none 0 0] 37 (0, 0)) from row_held g rF12_.out)
  clear rF12_
  have rB19_ := Lib.hid (show (w2).heap[w1.heap.size]? = some (.cells #[.int .i64 m, .slice pd nd cd, .int .i64 r] 29 (0, 0)) from row_held g rB15_.out)
  clear rB15_
  have oC20_ := Lib.hid (show OwU (w2) (W.heap.size + 1 + 1 + 1) (w1.heap.size) [] [own shFrame (.slice pd nd cd) xs] from OwU.grow oC13_.out g)
  clear oC13_
  have G21_ := Lib.hid (show (W).grownBy (w2) none from gby_trans G14_.out g)
  clear g
  have A_0_ : (w2).cell? ⟨W.heap.size, 0, none⟩ = some (.int .i64 m) := cell_of_row _ _ 0 _ _ _ rA16_.out
  have A_1_ : (w2).cell? ⟨W.heap.size, 1, none⟩ = some (.slice a0 n0 cap0) := cell_of_row _ _ 1 _ _ _ rA16_.out
  have A_2_ : (w2).cell? ⟨W.heap.size, 2, none⟩ = some (.int .i64 r) := cell_of_row _ _ 2 _ _ _ rA16_.out
  have R_0_ : (w2).cell? ⟨W.heap.size + 1, 0, none⟩ = some (.int .i64 0) := cell_of_row _ _ 0 _ _ _ rR17_.out
  have R_1_ : (w2).cell? ⟨W.heap.size + 1, 1, none⟩ = some (.slice none 0 0) := cell_of_row _ _ 1 _ _ _ rR17_.out
  have R_2_ : (w2).cell? ⟨W.heap.size + 1, 2, none⟩ = some (.int .i64 0) := cell_of_row _ _ 2 _ _ _ rR17_.out
  have F_0_ : (w2).cell? ⟨W.heap.size + 1 + 1, 0, none⟩ = some (.int .i64 0) := cell_of_row _ _ 0 _ _ _ rF18_.out
  have F_1_ : (w2).cell? ⟨W.heap.size + 1 + 1, 1, none⟩ = some (.slice none 0 0) := cell_of_row _ _ 1 _ _ _ rF18_.out
  have B_0_ : (w2).cell? ⟨w1.heap.size, 0, none⟩ = some (.int .i64 m) := cell_of_row _ _ 0 _ _ _ rB19_.out
  have B_1_ : (w2).cell? ⟨w1.heap.size, 1, none⟩ = some (.slice pd nd cd) := cell_of_row _ _ 1 _ _ _ rB19_.out
  have B_2_ : (w2).cell? ⟨w1.heap.size, 2, none⟩ = some (.int .i64 r) := cell_of_row _ _ 2 _ _ _ rB19_.out
  clear A_0_ A_1_ A_2_ R_0_ R_1_ R_2_ F_0_ F_1_ B_0_ B_1_ B_2_
  have A_0_ : (w2).cell? ⟨W.heap.size, 0, none⟩ = some (.int .i64 m) := cell_of_row _ _ 0 _ _ _ rA16_.out
  have A_1_ : (w2).cell? ⟨W.heap.size, 1, none⟩ = some (.slice a0 n0 cap0) := cell_of_row _ _ 1 _ _ _ rA16_.out
  have A_2_ : (w2).cell? ⟨W.heap.size, 2, none⟩ = some (.int .i64 r) := cell_of_row _ _ 2 _ _ _ rA16_.out
  have R_0_ : (w2).cell? ⟨W.heap.size + 1, 0, none⟩ = some (.int .i64 0) := cell_of_row _ _ 0 _ _ _ rR17_.out
  have R_1_ : (w2).cell? ⟨W.heap.size + 1, 1, none⟩ = some (.slice none 0 0) := cell_of_row _ _ 1 _ _ _ rR17_.out
  have R_2_ : (w2).cell? ⟨W.heap.size + 1, 2, none⟩ = some (.int .i64 0) := cell_of_row _ _ 2 _ _ _ rR17_.out
  have Rf0_ : (w2).frozen? ⟨W.heap.size + 1, 0, none⟩ = false := frozen_of_row _ _ 0 _ _ rR17_.out
  have Rf1_ : (w2).frozen? ⟨W.heap.size + 1, 1, none⟩ = false := frozen_of_row _ _ 1 _ _ rR17_.out
  have Rf2_ : (w2).frozen? ⟨W.heap.size + 1, 2, none⟩ = false := frozen_of_row _ _ 2 _ _ rR17_.out
  have F_0_ : (w2).cell? ⟨W.heap.size + 1 + 1, 0, none⟩ = some (.int .i64 0) := cell_of_row _ _ 0 _ _ _ rF18_.out
  have F_1_ : (w2).cell? ⟨W.heap.size + 1 + 1, 1, none⟩ = some (.slice none 0 0) := cell_of_row _ _ 1 _ _ _ rF18_.out
  have Ff0_ : (w2).frozen? ⟨W.heap.size + 1 + 1, 0, none⟩ = false := frozen_of_row _ _ 0 _ _ rF18_.out
  have Ff1_ : (w2).frozen? ⟨W.heap.size + 1 + 1, 1, none⟩ = false := frozen_of_row _ _ 1 _ _ rF18_.out
  have B_0_ : (w2).cell? ⟨w1.heap.size, 0, none⟩ = some (.int .i64 m) := cell_of_row _ _ 0 _ _ _ rB19_.out
  have B_1_ : (w2).cell? ⟨w1.heap.size, 1, none⟩ = some (.slice pd nd cd) := cell_of_row _ _ 1 _ _ _ rB19_.out
  have B_2_ : (w2).cell? ⟨w1.heap.size, 2, none⟩ = some (.int .i64 r) := cell_of_row _ _ 2 _ _ _ rB19_.out
  have hlo_ : W.heap.size ≤ W.heap.size + 1 + 1 + 1 := by omega
  have HD_ := Lib.hid (OwU.app (ps := [own shFrame (.slice pd nd cd) xs]) (qs := [own shI (.slice none 0 0) ([] : List Int)]) (m := w1.heap.size) (hi := w1.heap.size) (by omega) (Nat.le_refl _) oC20_.out (OwU.one owL_nil))
  go_wp2
  refine bodyPost_ret (v := .tuple #[.agg #[.int .i64 m, .slice pd nd cd, .int .i64 r], .agg #[.int .i64 0, .slice none 0 0], .bool false]) (by simp [results, go_sem, R_0_, R_1_, R_2_, F_0_, F_1_]; done) rfl ⟨_, _, rfl, ?_, ?_⟩
  · refine OwU.wide (lo := W.heap.size + 1 + 1 + 1) (hi := w1.heap.size) hlo_ (by simp only [World.size_setCell]; omega) ?_
    iterate 5 (with_reducible refine OwU.keep (chg_one _ _ _ _) (by omega) ?_)
    exact HD_.out
  · iterate 5 (with_reducible refine gby_setnew ?_ _ (by first | omega | (dsimp only; omega)) _)
    exact G21_.out

set_option maxRecDepth 8000 in
set_option maxHeartbeats 4000000 in
theorem specRd_none (W : World) (m r : Int) (v : Value) (xs : List DFrame) (H : RdL shFrame W v xs) (hl : szL shFrame xs ≤ 1048576) (hv : SndP m r xs) (hr : r = (xs.length : Int)) : Calls Try.prog 17 #[.agg #[.int .i64 m, v, .int .i64 r]] W (ResITakeReady m xs r 0 [] false W) := by
  have HV := Lib.hid hv
  have HR0 := Lib.hid hr
  clear hv hr
  have HX := Lib.hid H
  have HL := Lib.hid hl
  obtain ⟨a0, n0, cap0, rfl⟩ := RdL.form H
  have hn0 : n0 = xs.length := by obtain ⟨_, _, e, _⟩ := H; injection e
  have HE := Lib.hid hn0
  have hlx : n0 ≤ 1048576 := by have := szL_len shFrame xs; omega
  clear H hl hn0
  have HR := Lib.hid (show r = (n0 : Int) from by rw [HR0.out, HE.out])
  go_enter Try.func17, Try.ntmps17
  have rA1_ := Lib.hid (show ((((W.alloc (.cells #[.int .i64 m, .slice a0 n0 cap0, .int .i64 r] 29)).alloc (.cells #[.int .i64 0, .slice none 0 0, .int .i64 0] 29)).alloc (.cells #[.int .i64 0, .slice none 0 0] 37))).heap[W.heap.size]? = some (.cells #[.int .i64 m, .slice a0 n0 cap0, .int .i64 r] 29 (0, 0)) from by rw [heap_alloc_old _ _ (by simp only [World.size_alloc]; omega)]; rw [heap_alloc_old _ _ (by simp only [World.size_alloc]; omega)]; exact heap_alloc_new _ _)
  have rR2_ := Lib.hid (show ((((W.alloc (.cells #[.int .i64 m, .slice a0 n0 cap0, .int .i64 r] 29)).alloc (.cells #[.int .i64 0, .slice none 0 0, .int .i64 0] 29)).alloc (.cells #[.int .i64 0, .slice none 0 0] 37))).heap[W.heap.size + 1]? = some (.cells #[.int .i64 0, .slice none 0 0, .int .i64 0] 29 (0, 0)) from by rw [heap_alloc_old _ _ (by simp only [World.size_alloc]; omega)]; exact heap_pair _ _ _)
  have rF3_ := Lib.hid (show ((((W.alloc (.cells #[.int .i64 m, .slice a0 n0 cap0, .int .i64 r] 29)).alloc (.cells #[.int .i64 0, .slice none 0 0, .int .i64 0] 29)).alloc (.cells #[.int .i64 0, .slice none 0 0] 37))).heap[W.heap.size + 1 + 1]? = some (.cells #[.int .i64 0, .slice none 0 0] 37 (0, 0)) from by exact heap_trip _ _ _ _)
  have G4_ := Lib.hid (show (W).grownBy ((((W.alloc (.cells #[.int .i64 m, .slice a0 n0 cap0, .int .i64 r] 29)).alloc (.cells #[.int .i64 0, .slice none 0 0, .int .i64 0] 29)).alloc (.cells #[.int .i64 0, .slice none 0 0] 37))) none from (gby_alloc (gby_alloc (gby_alloc (gby_refl _ _) _) _) _))
  have A_0_ : ((((W.alloc (.cells #[.int .i64 m, .slice a0 n0 cap0, .int .i64 r] 29)).alloc (.cells #[.int .i64 0, .slice none 0 0, .int .i64 0] 29)).alloc (.cells #[.int .i64 0, .slice none 0 0] 37))).cell? ⟨W.heap.size, 0, none⟩ = some (.int .i64 m) := cell_of_row _ _ 0 _ _ _ rA1_.out
  have A_1_ : ((((W.alloc (.cells #[.int .i64 m, .slice a0 n0 cap0, .int .i64 r] 29)).alloc (.cells #[.int .i64 0, .slice none 0 0, .int .i64 0] 29)).alloc (.cells #[.int .i64 0, .slice none 0 0] 37))).cell? ⟨W.heap.size, 1, none⟩ = some (.slice a0 n0 cap0) := cell_of_row _ _ 1 _ _ _ rA1_.out
  have A_2_ : ((((W.alloc (.cells #[.int .i64 m, .slice a0 n0 cap0, .int .i64 r] 29)).alloc (.cells #[.int .i64 0, .slice none 0 0, .int .i64 0] 29)).alloc (.cells #[.int .i64 0, .slice none 0 0] 37))).cell? ⟨W.heap.size, 2, none⟩ = some (.int .i64 r) := cell_of_row _ _ 2 _ _ _ rA1_.out
  have R_0_ : ((((W.alloc (.cells #[.int .i64 m, .slice a0 n0 cap0, .int .i64 r] 29)).alloc (.cells #[.int .i64 0, .slice none 0 0, .int .i64 0] 29)).alloc (.cells #[.int .i64 0, .slice none 0 0] 37))).cell? ⟨W.heap.size + 1, 0, none⟩ = some (.int .i64 0) := cell_of_row _ _ 0 _ _ _ rR2_.out
  have R_1_ : ((((W.alloc (.cells #[.int .i64 m, .slice a0 n0 cap0, .int .i64 r] 29)).alloc (.cells #[.int .i64 0, .slice none 0 0, .int .i64 0] 29)).alloc (.cells #[.int .i64 0, .slice none 0 0] 37))).cell? ⟨W.heap.size + 1, 1, none⟩ = some (.slice none 0 0) := cell_of_row _ _ 1 _ _ _ rR2_.out
  have R_2_ : ((((W.alloc (.cells #[.int .i64 m, .slice a0 n0 cap0, .int .i64 r] 29)).alloc (.cells #[.int .i64 0, .slice none 0 0, .int .i64 0] 29)).alloc (.cells #[.int .i64 0, .slice none 0 0] 37))).cell? ⟨W.heap.size + 1, 2, none⟩ = some (.int .i64 0) := cell_of_row _ _ 2 _ _ _ rR2_.out
  have F_0_ : ((((W.alloc (.cells #[.int .i64 m, .slice a0 n0 cap0, .int .i64 r] 29)).alloc (.cells #[.int .i64 0, .slice none 0 0, .int .i64 0] 29)).alloc (.cells #[.int .i64 0, .slice none 0 0] 37))).cell? ⟨W.heap.size + 1 + 1, 0, none⟩ = some (.int .i64 0) := cell_of_row _ _ 0 _ _ _ rF3_.out
  have F_1_ : ((((W.alloc (.cells #[.int .i64 m, .slice a0 n0 cap0, .int .i64 r] 29)).alloc (.cells #[.int .i64 0, .slice none 0 0, .int .i64 0] 29)).alloc (.cells #[.int .i64 0, .slice none 0 0] 37))).cell? ⟨W.heap.size + 1 + 1, 1, none⟩ = some (.slice none 0 0) := cell_of_row _ _ 1 _ _ _ rF3_.out
  go_wp2_with fail
  go_at_call 40
  refine (l08Copy_d _ m r _ xs (HX.out.grow G4_.out) HL.out).mono ?_
  rintro e w1 ⟨d_, rfl, o, g⟩
  have szw1 := g.size
  try simp only [World.size_alloc] at szw1 o
  try unfold vSender
  clear A_0_ A_1_ A_2_ R_0_ R_1_ R_2_ F_0_ F_1_
  have rA5_ := Lib.hid (show (w1).heap[W.heap.size]? = some (.cells #[.int .i64 m, .slice a0 n0 cap0, .int .i64 r] 29 (0, 0)) from row_held g rA1_.out)
  clear rA1_
  have rR6_ := Lib.hid (show (w1).heap[W.heap.size + 1]? = some (.cells #[.int .i64 0, .slice none 0 0, .int .i64 0] 29 (0, 0)) from row_held g rR2_.out)
  clear rR2_
  have rF7_ := Lib.hid (show (w1).heap[W.heap.size + 1 + 1]? = some (.cells #[.int .i64 0, .slice none 0 0] 37 (0, 0)) from row_held g rF3_.out)
  clear rF3_
  have G8_ := Lib.hid (show (W).grownBy (w1) none from gby_trans G4_.out g)
  obtain ⟨pd, nd, cd, hv_⟩ := RdL.form (OwU.rd o)
  subst hv_
  clear g
  have oC9_ := Lib.hid (show OwU (w1) (W.heap.size + 1 + 1 + 1) (w1.heap.size) [] [own shFrame (.slice pd nd cd) xs] from o)
  clear o
  have al_ : (w1).grownBy ((w1).alloc (.cells #[.int .i64 m, .slice pd nd cd, .int .i64 r] 29)) none := gby_alloc (gby_refl _ _) _
  have rA10_ := Lib.hid (show ((w1.alloc (.cells #[.int .i64 m, .slice pd nd cd, .int .i64 r] 29))).heap[W.heap.size]? = some (.cells #[.int .i64 m, .slice a0 n0 cap0, .int .i64 r] 29 (0, 0)) from row_held al_ rA5_.out)
  clear rA5_
  have rR11_ := Lib.hid (show ((w1.alloc (.cells #[.int .i64 m, .slice pd nd cd, .int .i64 r] 29))).heap[W.heap.size + 1]? = some (.cells #[.int .i64 0, .slice none 0 0, .int .i64 0] 29 (0, 0)) from row_held al_ rR6_.out)
  clear rR6_
  have rF12_ := Lib.hid (show ((w1.alloc (.cells #[.int .i64 m, .slice pd nd cd, .int .i64 r] 29))).heap[W.heap.size + 1 + 1]? = some (.cells #[.int .i64 0, .slice none 0 0] 37 (0, 0)) from row_held al_ rF7_.out)
  clear rF7_
  have oC13_ := Lib.hid (show OwU ((w1.alloc (.cells #[.int .i64 m, .slice pd nd cd, .int .i64 r] 29))) (W.heap.size + 1 + 1 + 1) (w1.heap.size) [] [own shFrame (.slice pd nd cd) xs] from OwU.grow oC9_.out al_)
  clear oC9_
  have G14_ := Lib.hid (show (W).grownBy ((w1.alloc (.cells #[.int .i64 m, .slice pd nd cd, .int .i64 r] 29))) none from gby_trans G8_.out al_)
  have rB15_ := Lib.hid (show ((w1.alloc (.cells #[.int .i64 m, .slice pd nd cd, .int .i64 r] 29))).heap[w1.heap.size]? = some (.cells #[.int .i64 m, .slice pd nd cd, .int .i64 r] 29 (0, 0)) from by first | exact heap_alloc_new _ _ | exact heap_pair _ _ _ | exact heap_trip _ _ _ _)
  clear al_
  have A_0_ : ((w1.alloc (.cells #[.int .i64 m, .slice pd nd cd, .int .i64 r] 29))).cell? ⟨W.heap.size, 0, none⟩ = some (.int .i64 m) := cell_of_row _ _ 0 _ _ _ rA10_.out
  have A_1_ : ((w1.alloc (.cells #[.int .i64 m, .slice pd nd cd, .int .i64 r] 29))).cell? ⟨W.heap.size, 1, none⟩ = some (.slice a0 n0 cap0) := cell_of_row _ _ 1 _ _ _ rA10_.out
  have A_2_ : ((w1.alloc (.cells #[.int .i64 m, .slice pd nd cd, .int .i64 r] 29))).cell? ⟨W.heap.size, 2, none⟩ = some (.int .i64 r) := cell_of_row _ _ 2 _ _ _ rA10_.out
  have R_0_ : ((w1.alloc (.cells #[.int .i64 m, .slice pd nd cd, .int .i64 r] 29))).cell? ⟨W.heap.size + 1, 0, none⟩ = some (.int .i64 0) := cell_of_row _ _ 0 _ _ _ rR11_.out
  have R_1_ : ((w1.alloc (.cells #[.int .i64 m, .slice pd nd cd, .int .i64 r] 29))).cell? ⟨W.heap.size + 1, 1, none⟩ = some (.slice none 0 0) := cell_of_row _ _ 1 _ _ _ rR11_.out
  have R_2_ : ((w1.alloc (.cells #[.int .i64 m, .slice pd nd cd, .int .i64 r] 29))).cell? ⟨W.heap.size + 1, 2, none⟩ = some (.int .i64 0) := cell_of_row _ _ 2 _ _ _ rR11_.out
  have F_0_ : ((w1.alloc (.cells #[.int .i64 m, .slice pd nd cd, .int .i64 r] 29))).cell? ⟨W.heap.size + 1 + 1, 0, none⟩ = some (.int .i64 0) := cell_of_row _ _ 0 _ _ _ rF12_.out
  have F_1_ : ((w1.alloc (.cells #[.int .i64 m, .slice pd nd cd, .int .i64 r] 29))).cell? ⟨W.heap.size + 1 + 1, 1, none⟩ = some (.slice none 0 0) := cell_of_row _ _ 1 _ _ _ rF12_.out
  have B_0_ : ((w1.alloc (.cells #[.int .i64 m, .slice pd nd cd, .int .i64 r] 29))).cell? ⟨w1.heap.size, 0, none⟩ = some (.int .i64 m) := cell_of_row _ _ 0 _ _ _ rB15_.out
  have B_1_ : ((w1.alloc (.cells #[.int .i64 m, .slice pd nd cd, .int .i64 r] 29))).cell? ⟨w1.heap.size, 1, none⟩ = some (.slice pd nd cd) := cell_of_row _ _ 1 _ _ _ rB15_.out
  have B_2_ : ((w1.alloc (.cells #[.int .i64 m, .slice pd nd cd, .int .i64 r] 29))).cell? ⟨w1.heap.size, 2, none⟩ = some (.int .i64 r) := cell_of_row _ _ 2 _ _ _ rB15_.out
  clear A_0_ A_1_ A_2_ R_0_ R_1_ R_2_ F_0_ F_1_ B_0_ B_1_ B_2_
  have A_0_ : ((w1.alloc (.cells #[.int .i64 m, .slice pd nd cd, .int .i64 r] 29))).cell? ⟨W.heap.size, 0, none⟩ = some (.int .i64 m) := cell_of_row _ _ 0 _ _ _ rA10_.out
  have A_1_ : ((w1.alloc (.cells #[.int .i64 m, .slice pd nd cd, .int .i64 r] 29))).cell? ⟨W.heap.size, 1, none⟩ = some (.slice a0 n0 cap0) := cell_of_row _ _ 1 _ _ _ rA10_.out
  have A_2_ : ((w1.alloc (.cells #[.int .i64 m, .slice pd nd cd, .int .i64 r] 29))).cell? ⟨W.heap.size, 2, none⟩ = some (.int .i64 r) := cell_of_row _ _ 2 _ _ _ rA10_.out
  go_wp2_with fail
  go_at_call 9
  refine ((specSnd _ m r _ xs (HX.out.grow G14_.out) HL.out).mono (bpost_yes HV.out)).mono ?_
  rintro e w2 ⟨rfl, g⟩
  have szw2 := g.size
  try simp only [World.size_alloc] at szw2
  try simp only [World.size_setCell] at szw2
  clear A_0_ A_1_ A_2_
  have rA16_ := Lib.hid (show (w2).heap[W.heap.size]? = some (.cells #[.int .i64 m, .slice a0 n0 cap0, .int .i64 r] 29 (0, 0)) from row_held g rA10_.out)
  clear rA10_
  have rR17_ := Lib.hid (show (w2).heap[W.heap.size + 1]? = some (.cells #[.int .i64 0, .slice none 0 0, .int .i64 0] 29 (0, 0)) from row_held g rR11_.out)
  clear rR11_
  have rF18_ := Lib.hid (show (w2).heap[W.heap.size + 1 + 1]? = some (.cells #[.int .i64 0, .slice none 0 0] 37 (0, 0)) from row_held g rF12_.out)
  clear rF12_
  have rB19_ := Lib.hid (show (w2).heap[w1.heap.size]? = some (.cells #[.int .i64 m, .slice pd nd cd, .int .i64 r] 29 (0, 0)) from row_held g rB15_.out)
  clear rB15_
  have oC20_ := Lib.hid (show OwU (w2) (W.heap.size + 1 + 1 + 1) (w1.heap.size) [] [own shFrame (.slice pd nd cd) xs] from OwU.grow oC13_.out g)
  clear oC13_
  have G21_ := Lib.hid (show (W).grownBy (w2) none from gby_trans G14_.out g)
  clear g
  have A_0_ : (w2).cell? ⟨W.heap.size, 0, none⟩ = some (.int .i64 m) := cell_of_row _ _ 0 _ _ _ rA16_.out
  have A_1_ : (w2).cell? ⟨W.heap.size, 1, none⟩ = some (.slice a0 n0 cap0) := cell_of_row _ _ 1 _ _ _ rA16_.out
  have A_2_ : (w2).cell? ⟨W.heap.size, 2, none⟩ = some (.int .i64 r) := cell_of_row _ _ 2 _ _ _ rA16_.out
  have R_0_ : (w2).cell? ⟨W.heap.size + 1, 0, none⟩ = some (.int .i64 0) := cell_of_row _ _ 0 _ _ _ rR17_.out
  have R_1_ : (w2).cell? ⟨W.heap.size + 1, 1, none⟩ = some (.slice none 0 0) := cell_of_row _ _ 1 _ _ _ rR17_.out
  have R_2_ : (w2).cell? ⟨W.heap.size + 1, 2, none⟩ = some (.int .i64 0) := cell_of_row _ _ 2 _ _ _ rR17_.out
  have F_0_ : (w2).cell? ⟨W.heap.size + 1 + 1, 0, none⟩ = some (.int .i64 0) := cell_of_row _ _ 0 _ _ _ rF18_.out
  have F_1_ : (w2).cell? ⟨W.heap.size + 1 + 1, 1, none⟩ = some (.slice none 0 0) := cell_of_row _ _ 1 _ _ _ rF18_.out
  have B_0_ : (w2).cell? ⟨w1.heap.size, 0, none⟩ = some (.int .i64 m) := cell_of_row _ _ 0 _ _ _ rB19_.out
  have B_1_ : (w2).cell? ⟨w1.heap.size, 1, none⟩ = some (.slice pd nd cd) := cell_of_row _ _ 1 _ _ _ rB19_.out
  have B_2_ : (w2).cell? ⟨w1.heap.size, 2, none⟩ = some (.int .i64 r) := cell_of_row _ _ 2 _ _ _ rB19_.out
  clear A_0_ A_1_ A_2_ R_0_ R_1_ R_2_ F_0_ F_1_ B_0_ B_1_ B_2_
  have A_0_ : (w2).cell? ⟨W.heap.size, 0, none⟩ = some (.int .i64 m) := cell_of_row _ _ 0 _ _ _ rA16_.out
  have A_1_ : (w2).cell? ⟨W.heap.size, 1, none⟩ = some (.slice a0 n0 cap0) := cell_of_row _ _ 1 _ _ _ rA16_.out
  have A_2_ : (w2).cell? ⟨W.heap.size, 2, none⟩ = some (.int .i64 r) := cell_of_row _ _ 2 _ _ _ rA16_.out
  have R_0_ : (w2).cell? ⟨W.heap.size + 1, 0, none⟩ = some (.int .i64 0) := cell_of_row _ _ 0 _ _ _ rR17_.out
  have R_1_ : (w2).cell? ⟨W.heap.size + 1, 1, none⟩ = some (.slice none 0 0) := cell_of_row _ _ 1 _ _ _ rR17_.out
  have R_2_ : (w2).cell? ⟨W.heap.size + 1, 2, none⟩ = some (.int .i64 0) := cell_of_row _ _ 2 _ _ _ rR17_.out
  have Rf0_ : (w2).frozen? ⟨W.heap.size + 1, 0, none⟩ = false := frozen_of_row _ _ 0 _ _ rR17_.out
  have Rf1_ : (w2).frozen? ⟨W.heap.size + 1, 1, none⟩ = false := frozen_of_row _ _ 1 _ _ rR17_.out
  have Rf2_ : (w2).frozen? ⟨W.heap.size + 1, 2, none⟩ = false := frozen_of_row _ _ 2 _ _ rR17_.out
  have F_0_ : (w2).cell? ⟨W.heap.size + 1 + 1, 0, none⟩ = some (.int .i64 0) := cell_of_row _ _ 0 _ _ _ rF18_.out
  have F_1_ : (w2).cell? ⟨W.heap.size + 1 + 1, 1, none⟩ = some (.slice none 0 0) := cell_of_row _ _ 1 _ _ _ rF18_.out
  have Ff0_ : (w2).frozen? ⟨W.heap.size + 1 + 1, 0, none⟩ = false := frozen_of_row _ _ 0 _ _ rF18_.out
  have Ff1_ : (w2).frozen? ⟨W.heap.size + 1 + 1, 1, none⟩ = false := frozen_of_row _ _ 1 _ _ rF18_.out
  have B_0_ : (w2).cell? ⟨w1.heap.size, 0, none⟩ = some (.int .i64 m) := cell_of_row _ _ 0 _ _ _ rB19_.out
  have B_1_ : (w2).cell? ⟨w1.heap.size, 1, none⟩ = some (.slice pd nd cd) := cell_of_row _ _ 1 _ _ _ rB19_.out
  have B_2_ : (w2).cell? ⟨w1.heap.size, 2, none⟩ = some (.int .i64 r) := cell_of_row _ _ 2 _ _ _ rB19_.out
  have eq_ : (r == (n0 : Int)) = true := by simpa using HR.out
  have hlo_ : W.heap.size ≤ W.heap.size + 1 + 1 + 1 := by omega
  have HD_ := Lib.hid (OwU.app (ps := [own shFrame (.slice pd nd cd) xs]) (qs := [own shI (.slice none 0 0) ([] : List Int)]) (m := w1.heap.size) (hi := w1.heap.size) (by omega) (Nat.le_refl _) oC20_.out (OwU.one owL_nil))
  go_wp2
  refine bodyPost_ret (v := .tuple #[.agg #[.int .i64 m, .slice pd nd cd, .int .i64 r], .agg #[.int .i64 0, .slice none 0 0], .bool false]) (by simp [results, go_sem, R_0_, R_1_, R_2_, F_0_, F_1_]; done) rfl ⟨_, _, rfl, ?_, ?_⟩
  · refine OwU.wide (lo := W.heap.size + 1 + 1 + 1) (hi := w1.heap.size) hlo_ (by simp only [World.size_setCell]; omega) ?_
    iterate 5 (with_reducible refine OwU.keep (chg_one _ _ _ _) (by omega) ?_)
    exact HD_.out
  · iterate 5 (with_reducible refine gby_setnew ?_ _ (by first | omega | (dsimp only; omega)) _)
    exact G21_.out

set_option maxRecDepth 8000 in
set_option maxHeartbeats 4000000 in
theorem specRd_yes (W : World) (m r : Int) (v : Value) (xs : List DFrame) (H : RdL shFrame W v xs) (hl : szL shFrame xs ≤ 1048576) (hv : SndP m r xs) (k : Nat) (hrk : r = (k : Int)) (hkx_ : k < xs.length) : Calls Try.prog 17 #[.agg #[.int .i64 m, v, .int .i64 r]] W (ResITakeReady m xs ((k : Int) + 1) (fr xs k).f0 (fr xs k).f1 true W) := by
  have HV := Lib.hid hv
  have HRK := Lib.hid hrk
  have h7x_ := hv.2.1
  clear hv hrk
  have HX := Lib.hid H
  have HL := Lib.hid hl
  obtain ⟨a0, n0, cap0, rfl⟩ := RdL.form H
  have hn0 : n0 = xs.length := by obtain ⟨_, _, e, _⟩ := H; injection e
  have HE := Lib.hid hn0
  have hlx : n0 ≤ 1048576 := by have := szL_len shFrame xs; omega
  clear H hl hn0
  go_enter Try.func17, Try.ntmps17
  have rA1_ := Lib.hid (show ((((W.alloc (.cells #[.int .i64 m, .slice a0 n0 cap0, .int .i64 r] 29)).alloc (.cells #[.int .i64 0, .slice none 0 0, .int .i64 0] 29)).alloc (.cells #[.int .i64 0, .slice none 0 0] 37))).heap[W.heap.size]? = some (.cells #[.int .i64 m, .slice a0 n0 cap0, .int .i64 r] 29 (0, 0)) from by rw [heap_alloc_old _ _ (by simp only [World.size_alloc]; omega)]; rw [heap_alloc_old _ _ (by simp only [World.size_alloc]; omega)]; exact heap_alloc_new _ _)
  have rR2_ := Lib.hid (show ((((W.alloc (.cells #[.int .i64 m, .slice a0 n0 cap0, .int .i64 r] 29)).alloc (.cells #[.int .i64 0, .slice none 0 0, .int .i64 0] 29)).alloc (.cells #[.int .i64 0, .slice none 0 0] 37))).heap[W.heap.size + 1]? = some (.cells #[.int .i64 0, .slice none 0 0, .int .i64 0] 29 (0, 0)) from by rw [heap_alloc_old _ _ (by simp only [World.size_alloc]; omega)]; exact heap_pair _ _ _)
  have rF3_ := Lib.hid (show ((((W.alloc (.cells #[.int .i64 m, .slice a0 n0 cap0, .int .i64 r] 29)).alloc (.cells #[.int .i64 0, .slice none 0 0, .int .i64 0] 29)).alloc (.cells #[.int .i64 0, .slice none 0 0] 37))).heap[W.heap.size + 1 + 1]? = some (.cells #[.int .i64 0, .slice none 0 0] 37 (0, 0)) from by exact heap_trip _ _ _ _)
  have G4_ := Lib.hid (show (W).grownBy ((((W.alloc (.cells #[.int .i64 m, .slice a0 n0 cap0, .int .i64 r] 29)).alloc (.cells #[.int .i64 0, .slice none 0 0, .int .i64 0] 29)).alloc (.cells #[.int .i64 0, .slice none 0 0] 37))) none from (gby_alloc (gby_alloc (gby_alloc (gby_refl _ _) _) _) _))
  have A_0_ : ((((W.alloc (.cells #[.int .i64 m, .slice a0 n0 cap0, .int .i64 r] 29)).alloc (.cells #[.int .i64 0, .slice none 0 0, .int .i64 0] 29)).alloc (.cells #[.int .i64 0, .slice none 0 0] 37))).cell? ⟨W.heap.size, 0, none⟩ = some (.int .i64 m) := cell_of_row _ _ 0 _ _ _ rA1_.out
  have A_1_ : ((((W.alloc (.cells #[.int .i64 m, .slice a0 n0 cap0, .int .i64 r] 29)).alloc (.cells #[.int .i64 0, .slice none 0 0, .int .i64 0] 29)).alloc (.cells #[.int .i64 0, .slice none 0 0] 37))).cell? ⟨W.heap.size, 1, none⟩ = some (.slice a0 n0 cap0) := cell_of_row _ _ 1 _ _ _ rA1_.out
  have A_2_ : ((((W.alloc (.cells #[.int .i64 m, .slice a0 n0 cap0, .int .i64 r] 29)).alloc (.cells #[.int .i64 0, .slice none 0 0, .int .i64 0] 29)).alloc (.cells #[.int .i64 0, .slice none 0 0] 37))).cell? ⟨W.heap.size, 2, none⟩ = some (.int .i64 r) := cell_of_row _ _ 2 _ _ _ rA1_.out
  have R_0_ : ((((W.alloc (.cells #[.int .i64 m, .slice a0 n0 cap0, .int .i64 r] 29)).alloc (.cells #[.int .i64 0, .slice none 0 0, .int .i64 0] 29)).alloc (.cells #[.int .i64 0, .slice none 0 0] 37))).cell? ⟨W.heap.size + 1, 0, none⟩ = some (.int .i64 0) := cell_of_row _ _ 0 _ _ _ rR2_.out
  have R_1_ : ((((W.alloc (.cells #[.int .i64 m, .slice a0 n0 cap0, .int .i64 r] 29)).alloc (.cells #[.int .i64 0, .slice none 0 0, .int .i64 0] 29)).alloc (.cells #[.int .i64 0, .slice none 0 0] 37))).cell? ⟨W.heap.size + 1, 1, none⟩ = some (.slice none 0 0) := cell_of_row _ _ 1 _ _ _ rR2_.out
  have R_2_ : ((((W.alloc (.cells #[.int .i64 m, .slice a0 n0 cap0, .int .i64 r] 29)).alloc (.cells #[.int .i64 0, .slice none 0 0, .int .i64 0] 29)).alloc (.cells #[.int .i64 0, .slice none 0 0] 37))).cell? ⟨W.heap.size + 1, 2, none⟩ = some (.int .i64 0) := cell_of_row _ _ 2 _ _ _ rR2_.out
  have F_0_ : ((((W.alloc (.cells #[.int .i64 m, .slice a0 n0 cap0, .int .i64 r] 29)).alloc (.cells #[.int .i64 0, .slice none 0 0, .int .i64 0] 29)).alloc (.cells #[.int .i64 0, .slice none 0 0] 37))).cell? ⟨W.heap.size + 1 + 1, 0, none⟩ = some (.int .i64 0) := cell_of_row _ _ 0 _ _ _ rF3_.out
  have F_1_ : ((((W.alloc (.cells #[.int .i64 m, .slice a0 n0 cap0, .int .i64 r] 29)).alloc (.cells #[.int .i64 0, .slice none 0 0, .int .i64 0] 29)).alloc (.cells #[.int .i64 0, .slice none 0 0] 37))).cell? ⟨W.heap.size + 1 + 1, 1, none⟩ = some (.slice none 0 0) := cell_of_row _ _ 1 _ _ _ rF3_.out
  go_wp2_with fail
  go_at_call 40
  refine (l08Copy_d _ m r _ xs (HX.out.grow G4_.out) HL.out).mono ?_
  rintro e w1 ⟨d_, rfl, o, g⟩
  have szw1 := g.size
  try simp only [World.size_alloc] at szw1 o
  try unfold vSender
  clear A_0_ A_1_ A_2_ R_0_ R_1_ R_2_ F_0_ F_1_
  have rA5_ := Lib.hid (show (w1).heap[W.heap.size]? = some (.cells #[.int .i64 m, .slice a0 n0 cap0, .int .i64 r] 29 (0, 0)) from row_held g rA1_.out)
  clear rA1_
  have rR6_ := Lib.hid (show (w1).heap[W.heap.size + 1]? = some (.cells #[.int .i64 0, .slice none 0 0, .int .i64 0] 29 (0, 0)) from row_held g rR2_.out)
  clear rR2_
  have rF7_ := Lib.hid (show (w1).heap[W.heap.size + 1 + 1]? = some (.cells #[.int .i64 0, .slice none 0 0] 37 (0, 0)) from row_held g rF3_.out)
  clear rF3_
  have G8_ := Lib.hid (show (W).grownBy (w1) none from gby_trans G4_.out g)
  obtain ⟨pd, nd, cd, hv_⟩ := RdL.form (OwU.rd o)
  subst hv_
  clear g
  have oC9_ := Lib.hid (show OwU (w1) (W.heap.size + 1 + 1 + 1) (w1.heap.size) [] [own shFrame (.slice pd nd cd) xs] from o)
  clear o
  have al_ : (w1).grownBy ((w1).alloc (.cells #[.int .i64 m, .slice pd nd cd, .int .i64 r] 29)) none := gby_alloc (gby_refl _ _) _
  have rA10_ := Lib.hid (show ((w1.alloc (.cells #[.int .i64 m, .slice pd nd cd, .int .i64 r] 29))).heap[W.heap.size]? = some (.cells #[.int .i64 m, .slice a0 n0 cap0, .int .i64 r] 29 (0, 0)) from row_held al_ rA5_.out)
  clear rA5_
  have rR11_ := Lib.hid (show ((w1.alloc (.cells #[.int .i64 m, .slice pd nd cd, .int .i64 r] 29))).heap[W.heap.size + 1]? = some (.cells #[.int .i64 0, .slice none 0 0, .int .i64 0] 29 (0, 0)) from row_held al_ rR6_.out)
  clear rR6_
  have rF12_ := Lib.hid (show ((w1.alloc (.cells #[.int .i64 m, .slice pd nd cd, .int .i64 r] 29))).heap[W.heap.size + 1 + 1]? = some (.cells #[.int .i64 0, .slice none 0 0] 37 (0, 0)) from row_held al_ rF7_.out)
  clear rF7_
  have oC13_ := Lib.hid (show OwU ((w1.alloc (.cells #[.int .i64 m, .slice pd nd cd, .int .i64 r] 29))) (W.heap.size + 1 + 1 + 1) (w1.heap.size) [] [own shFrame (.slice pd nd cd) xs] from OwU.grow oC9_.out al_)
  clear oC9_
  have G14_ := Lib.hid (show (W).grownBy ((w1.alloc (.cells #[.int .i64 m, .slice pd nd cd, .int .i64 r] 29))) none from gby_trans G8_.out al_)
  have rB15_ := Lib.hid (show ((w1.alloc (.cells #[.int .i64 m, .slice pd nd cd, .int .i64 r] 29))).heap[w1.heap.size]? = some (.cells #[.int .i64 m, .slice pd nd cd, .int .i64 r] 29 (0, 0)) from by first | exact heap_alloc_new _ _ | exact heap_pair _ _ _ | exact heap_trip _ _ _ _)
  clear al_
  have A_0_ : ((w1.alloc (.cells #[.int .i64 m, .slice pd nd cd, .int .i64 r] 29))).cell? ⟨W.heap.size, 0, none⟩ = some (.int .i64 m) := cell_of_row _ _ 0 _ _ _ rA10_.out
  have A_1_ : ((w1.alloc (.cells #[.int .i64 m, .slice pd nd cd, .int .i64 r] 29))).cell? ⟨W.heap.size, 1, none⟩ = some (.slice a0 n0 cap0) := cell_of_row _ _ 1 _ _ _ rA10_.out
  have A_2_ : ((w1.alloc (.cells #[.int .i64 m, .slice pd nd cd, .int .i64 r] 29))).cell? ⟨W.heap.size, 2, none⟩ = some (.int .i64 r) := cell_of_row _ _ 2 _ _ _ rA10_.out
  have R_0_ : ((w1.alloc (.cells #[.int .i64 m, .slice pd nd cd, .int .i64 r] 29))).cell? ⟨W.heap.size + 1, 0, none⟩ = some (.int .i64 0) := cell_of_row _ _ 0 _ _ _ rR11_.out
  have R_1_ : ((w1.alloc (.cells #[.int .i64 m, .slice pd nd cd, .int .i64 r] 29))).cell? ⟨W.heap.size + 1, 1, none⟩ = some (.slice none 0 0) := cell_of_row _ _ 1 _ _ _ rR11_.out
  have R_2_ : ((w1.alloc (.cells #[.int .i64 m, .slice pd nd cd, .int .i64 r] 29))).cell? ⟨W.heap.size + 1, 2, none⟩ = some (.int .i64 0) := cell_of_row _ _ 2 _ _ _ rR11_.out
  have F_0_ : ((w1.alloc (.cells #[.int .i64 m, .slice pd nd cd, .int .i64 r] 29))).cell? ⟨W.heap.size + 1 + 1, 0, none⟩ = some (.int .i64 0) := cell_of_row _ _ 0 _ _ _ rF12_.out
  have F_1_ : ((w1.alloc (.cells #[.int .i64 m, .slice pd nd cd, .int .i64 r] 29))).cell? ⟨W.heap.size + 1 + 1, 1, none⟩ = some (.slice none 0 0) := cell_of_row _ _ 1 _ _ _ rF12_.out
  have B_0_ : ((w1.alloc (.cells #[.int .i64 m, .slice pd nd cd, .int .i64 r] 29))).cell? ⟨w1.heap.size, 0, none⟩ = some (.int .i64 m) := cell_of_row _ _ 0 _ _ _ rB15_.out
  have B_1_ : ((w1.alloc (.cells #[.int .i64 m, .slice pd nd cd, .int .i64 r] 29))).cell? ⟨w1.heap.size, 1, none⟩ = some (.slice pd nd cd) := cell_of_row _ _ 1 _ _ _ rB15_.out
  have B_2_ : ((w1.alloc (.cells #[.int .i64 m, .slice pd nd cd, .int .i64 r] 29))).cell? ⟨w1.heap.size, 2, none⟩ = some (.int .i64 r) := cell_of_row _ _ 2 _ _ _ rB15_.out
  clear A_0_ A_1_ A_2_ R_0_ R_1_ R_2_ F_0_ F_1_ B_0_ B_1_ B_2_
  have A_0_ : ((w1.alloc (.cells #[.int .i64 m, .slice pd nd cd, .int .i64 r] 29))).cell? ⟨W.heap.size, 0, none⟩ = some (.int .i64 m) := cell_of_row _ _ 0 _ _ _ rA10_.out
  have A_1_ : ((w1.alloc (.cells #[.int .i64 m, .slice pd nd cd, .int .i64 r] 29))).cell? ⟨W.heap.size, 1, none⟩ = some (.slice a0 n0 cap0) := cell_of_row _ _ 1 _ _ _ rA10_.out
  have A_2_ : ((w1.alloc (.cells #[.int .i64 m, .slice pd nd cd, .int .i64 r] 29))).cell? ⟨W.heap.size, 2, none⟩ = some (.int .i64 r) := cell_of_row _ _ 2 _ _ _ rA10_.out
  go_wp2_with fail
  go_at_call 9
  refine ((specSnd _ m r _ xs (HX.out.grow G14_.out) HL.out).mono (bpost_yes HV.out)).mono ?_
  rintro e w2 ⟨rfl, g⟩
  have szw2 := g.size
  try simp only [World.size_alloc] at szw2
  try simp only [World.size_setCell] at szw2
  clear A_0_ A_1_ A_2_
  have rA16_ := Lib.hid (show (w2).heap[W.heap.size]? = some (.cells #[.int .i64 m, .slice a0 n0 cap0, .int .i64 r] 29 (0, 0)) from row_held g rA10_.out)
  clear rA10_
  have rR17_ := Lib.hid (show (w2).heap[W.heap.size + 1]? = some (.cells #[.int .i64 0, .slice none 0 0, .int .i64 0] 29 (0, 0)) from row_held g rR11_.out)
  clear rR11_
  have rF18_ := Lib.hid (show (w2).heap[W.heap.size + 1 + 1]? = some (.cells #[.int .i64 0, .slice none 0 0] 37 (0, 0)) from row_held g rF12_.out)
  clear rF12_
  have rB19_ := Lib.hid (show (w2).heap[w1.heap.size]? = some (.cells #[.int .i64 m, .slice pd nd cd, .int .i64 r] 29 (0, 0)) from row_held g rB15_.out)
  clear rB15_
  have oC20_ := Lib.hid (show OwU (w2) (W.heap.size + 1 + 1 + 1) (w1.heap.size) [] [own shFrame (.slice pd nd cd) xs] from OwU.grow oC13_.out g)
  clear oC13_
  have G21_ := Lib.hid (show (W).grownBy (w2) none from gby_trans G14_.out g)
  clear g
  have A_0_ : (w2).cell? ⟨W.heap.size, 0, none⟩ = some (.int .i64 m) := cell_of_row _ _ 0 _ _ _ rA16_.out
  have A_1_ : (w2).cell? ⟨W.heap.size, 1, none⟩ = some (.slice a0 n0 cap0) := cell_of_row _ _ 1 _ _ _ rA16_.out
  have A_2_ : (w2).cell? ⟨W.heap.size, 2, none⟩ = some (.int .i64 r) := cell_of_row _ _ 2 _ _ _ rA16_.out
  have R_0_ : (w2).cell? ⟨W.heap.size + 1, 0, none⟩ = some (.int .i64 0) := cell_of_row _ _ 0 _ _ _ rR17_.out
  have R_1_ : (w2).cell? ⟨W.heap.size + 1, 1, none⟩ = some (.slice none 0 0) := cell_of_row _ _ 1 _ _ _ rR17_.out
  have R_2_ : (w2).cell? ⟨W.heap.size + 1, 2, none⟩ = some (.int .i64 0) := cell_of_row _ _ 2 _ _ _ rR17_.out
  have F_0_ : (w2).cell? ⟨W.heap.size + 1 + 1, 0, none⟩ = some (.int .i64 0) := cell_of_row _ _ 0 _ _ _ rF18_.out
  have F_1_ : (w2).cell? ⟨W.heap.size + 1 + 1, 1, none⟩ = some (.slice none 0 0) := cell_of_row _ _ 1 _ _ _ rF18_.out
  have B_0_ : (w2).cell? ⟨w1.heap.size, 0, none⟩ = some (.int .i64 m) := cell_of_row _ _ 0 _ _ _ rB19_.out
  have B_1_ : (w2).cell? ⟨w1.heap.size, 1, none⟩ = some (.slice pd nd cd) := cell_of_row _ _ 1 _ _ _ rB19_.out
  have B_2_ : (w2).cell? ⟨w1.heap.size, 2, none⟩ = some (.int .i64 r) := cell_of_row _ _ 2 _ _ _ rB19_.out
  have hrk_ := HRK.out
  subst hrk_
  have hkn_ : k < n0 := by have := HE.out; omega
  have eq_ : ((k : Int) == (n0 : Int)) = false := beq_eq_false_iff_ne.2 (by omega)
  have hk0 : (0 : Int) ≤ (k : Int) := by omega
  have htk : ((k : Int)).toNat = k := by omega
  have hki : (k : Int) < (n0 : Int) := by omega
  have hw_ : IntKind.i64.wrap ((k : Int) + 1) = (k : Int) + 1 := IntWalk.i64_in _ (by omega)
  clear A_0_ A_1_ A_2_ R_0_ R_1_ R_2_ F_0_ F_1_ B_0_ B_1_ B_2_
  have A_0_ : (w2).cell? ⟨W.heap.size, 0, none⟩ = some (.int .i64 m) := cell_of_row _ _ 0 _ _ _ rA16_.out
  have A_1_ : (w2).cell? ⟨W.heap.size, 1, none⟩ = some (.slice a0 n0 cap0) := cell_of_row _ _ 1 _ _ _ rA16_.out
  have A_2_ : (w2).cell? ⟨W.heap.size, 2, none⟩ = some (.int .i64 (k : Int)) := cell_of_row _ _ 2 _ _ _ rA16_.out
  have R_0_ : (w2).cell? ⟨W.heap.size + 1, 0, none⟩ = some (.int .i64 0) := cell_of_row _ _ 0 _ _ _ rR17_.out
  have R_1_ : (w2).cell? ⟨W.heap.size + 1, 1, none⟩ = some (.slice none 0 0) := cell_of_row _ _ 1 _ _ _ rR17_.out
  have R_2_ : (w2).cell? ⟨W.heap.size + 1, 2, none⟩ = some (.int .i64 0) := cell_of_row _ _ 2 _ _ _ rR17_.out
  have F_0_ : (w2).cell? ⟨W.heap.size + 1 + 1, 0, none⟩ = some (.int .i64 0) := cell_of_row _ _ 0 _ _ _ rF18_.out
  have F_1_ : (w2).cell? ⟨W.heap.size + 1 + 1, 1, none⟩ = some (.slice none 0 0) := cell_of_row _ _ 1 _ _ _ rF18_.out
  have B_0_ : (w2).cell? ⟨w1.heap.size, 0, none⟩ = some (.int .i64 m) := cell_of_row _ _ 0 _ _ _ rB19_.out
  have B_1_ : (w2).cell? ⟨w1.heap.size, 1, none⟩ = some (.slice pd nd cd) := cell_of_row _ _ 1 _ _ _ rB19_.out
  have B_2_ : (w2).cell? ⟨w1.heap.size, 2, none⟩ = some (.int .i64 (k : Int)) := cell_of_row _ _ 2 _ _ _ rB19_.out
  have Bf0_ : (w2).frozen? ⟨w1.heap.size, 0, none⟩ = false := frozen_of_row _ _ 0 _ _ rB19_.out
  have Bf1_ : (w2).frozen? ⟨w1.heap.size, 1, none⟩ = false := frozen_of_row _ _ 1 _ _ rB19_.out
  have Bf2_ : (w2).frozen? ⟨w1.heap.size, 2, none⟩ = false := frozen_of_row _ _ 2 _ _ rB19_.out
  go_wp2_with fail
  clear hw_
  clear A_0_ A_1_ A_2_ R_0_ R_1_ R_2_ F_0_ F_1_ B_0_ B_1_ B_2_ Bf0_ Bf1_ Bf2_
  have rA22_ := Lib.hid (show ((w2.setCell ⟨w1.heap.size, 2, none⟩ (.int .i64 ((k : Int) + 1)))).heap[W.heap.size]? = some (.cells #[.int .i64 m, .slice a0 n0 cap0, .int .i64 (k : Int)] 29 (0, 0)) from (set_far rA16_.out (by dsimp only; omega)))
  have rR23_ := Lib.hid (show ((w2.setCell ⟨w1.heap.size, 2, none⟩ (.int .i64 ((k : Int) + 1)))).heap[W.heap.size + 1]? = some (.cells #[.int .i64 0, .slice none 0 0, .int .i64 0] 29 (0, 0)) from (set_far rR17_.out (by dsimp only; omega)))
  have rF24_ := Lib.hid (show ((w2.setCell ⟨w1.heap.size, 2, none⟩ (.int .i64 ((k : Int) + 1)))).heap[W.heap.size + 1 + 1]? = some (.cells #[.int .i64 0, .slice none 0 0] 37 (0, 0)) from (set_far rF18_.out (by dsimp only; omega)))
  have rB25_ := Lib.hid (show ((w2.setCell ⟨w1.heap.size, 2, none⟩ (.int .i64 ((k : Int) + 1)))).heap[w1.heap.size]? = some (.cells #[.int .i64 m, .slice pd nd cd, .int .i64 ((k : Int) + 1)] 29 (0, 0)) from (heap_setCell_same _ _ 2 _ _ _ rB19_.out))
  have oC26_ := Lib.hid (show OwU ((w2.setCell ⟨w1.heap.size, 2, none⟩ (.int .i64 ((k : Int) + 1)))) (W.heap.size + 1 + 1 + 1) (w1.heap.size) [] [own shFrame (.slice pd nd cd) xs] from (OwU.keep (chg_one _ (w1.heap.size) 2 (.int .i64 ((k : Int) + 1))) (by omega) oC20_.out))
  have G27_ := Lib.hid (show (W).grownBy ((w2.setCell ⟨w1.heap.size, 2, none⟩ (.int .i64 ((k : Int) + 1)))) none from (gby_setnew G21_.out _ (by dsimp only; omega) _))
  have hszwb_ : ((w2.setCell ⟨w1.heap.size, 2, none⟩ (.int .i64 ((k : Int) + 1)))).heap.size = (w2).heap.size := by first | rfl | simp only [World.size_setCell]
  generalize (w2.setCell ⟨w1.heap.size, 2, none⟩ (.int .i64 ((k : Int) + 1))) = wb at rA22_ rR23_ rF24_ rB25_ oC26_ G27_ hszwb_ ⊢
  try simp only [World.size_alloc] at hszwb_
  clear rA16_
  clear rR17_
  clear rF18_
  clear rB19_
  clear oC20_
  obtain ⟨ab, ao, ha_, hce_⟩ := rd_elR HX.out (by omega)
  subst ha_
  obtain ⟨xk, hxk_⟩ : ∃ x, x = xs.getD k default := ⟨_, rfl⟩
  have HXk := Lib.hid (show xk = fr xs k from hxk_)
  have hzk_ : szL shI xk.f1 ≤ 1048576 := by have q1 := szL_at shFrame xs k hkx_; rw [← hxk_] at q1; exact Nat.le_trans q1 HL.out
  obtain ⟨cs_, hat_, hrd_⟩ := hce_ k hkx_
  rw [← hxk_] at hrd_
  obtain ⟨v1_, rfl, r1_⟩ := hrd_
  obtain ⟨pk, nk, ck, hv_⟩ := RdL.form r1_
  subst hv_
  have Rk := Lib.hid r1_
  have HEk0 := Lib.hid (show (W).cell? ⟨ab, ao + k * 2, none⟩ = some (.int .i64 xk.f0) from at_cell (j := 0) hat_ rfl)
  have HEk1 := Lib.hid (show (W).cell? ⟨ab, ao + k * 2 + 1, none⟩ = some (.slice pk nk ck) from at_cell (j := 1) hat_ rfl)
  clear hat_ r1_ hxk_ hce_
  have ek0_ := (G27_.out).cell HEk0.out (by simp)
  have ek1_ := (G27_.out).cell HEk1.out (by simp)
  have A_0_ : (wb).cell? ⟨W.heap.size, 0, none⟩ = some (.int .i64 m) := cell_of_row _ _ 0 _ _ _ rA22_.out
  have A_1_ : (wb).cell? ⟨W.heap.size, 1, none⟩ = some (.slice (some ⟨ab, ao, none⟩) n0 cap0) := cell_of_row _ _ 1 _ _ _ rA22_.out
  have A_2_ : (wb).cell? ⟨W.heap.size, 2, none⟩ = some (.int .i64 (k : Int)) := cell_of_row _ _ 2 _ _ _ rA22_.out
  have R_0_ : (wb).cell? ⟨W.heap.size + 1, 0, none⟩ = some (.int .i64 0) := cell_of_row _ _ 0 _ _ _ rR23_.out
  have R_1_ : (wb).cell? ⟨W.heap.size + 1, 1, none⟩ = some (.slice none 0 0) := cell_of_row _ _ 1 _ _ _ rR23_.out
  have R_2_ : (wb).cell? ⟨W.heap.size + 1, 2, none⟩ = some (.int .i64 0) := cell_of_row _ _ 2 _ _ _ rR23_.out
  have Rf0_ : (wb).frozen? ⟨W.heap.size + 1, 0, none⟩ = false := frozen_of_row _ _ 0 _ _ rR23_.out
  have Rf1_ : (wb).frozen? ⟨W.heap.size + 1, 1, none⟩ = false := frozen_of_row _ _ 1 _ _ rR23_.out
  have Rf2_ : (wb).frozen? ⟨W.heap.size + 1, 2, none⟩ = false := frozen_of_row _ _ 2 _ _ rR23_.out
  have F_0_ : (wb).cell? ⟨W.heap.size + 1 + 1, 0, none⟩ = some (.int .i64 0) := cell_of_row _ _ 0 _ _ _ rF24_.out
  have F_1_ : (wb).cell? ⟨W.heap.size + 1 + 1, 1, none⟩ = some (.slice none 0 0) := cell_of_row _ _ 1 _ _ _ rF24_.out
  have Ff0_ : (wb).frozen? ⟨W.heap.size + 1 + 1, 0, none⟩ = false := frozen_of_row _ _ 0 _ _ rF24_.out
  have Ff1_ : (wb).frozen? ⟨W.heap.size + 1 + 1, 1, none⟩ = false := frozen_of_row _ _ 1 _ _ rF24_.out
  have B_0_ : (wb).cell? ⟨w1.heap.size, 0, none⟩ = some (.int .i64 m) := cell_of_row _ _ 0 _ _ _ rB25_.out
  have B_1_ : (wb).cell? ⟨w1.heap.size, 1, none⟩ = some (.slice pd nd cd) := cell_of_row _ _ 1 _ _ _ rB25_.out
  have B_2_ : (wb).cell? ⟨w1.heap.size, 2, none⟩ = some (.int .i64 ((k : Int) + 1)) := cell_of_row _ _ 2 _ _ _ rB25_.out
  have ek0_ := (G27_.out).cell HEk0.out (by simp)
  have ek1_ := (G27_.out).cell HEk1.out (by simp)
  have HRd := Lib.hid (show RdL shI wb.drew (.slice pk nk ck) xk.f1 from Rk.out.grow (gby_drew G27_.out))
  go_region_law (first
    | (go_simp; go_at_call 45; refine (l08Frame_d _ xk.f0 _ xk.f1 HRd.out hzk_).mono ?_; rintro e wA ⟨vf, rfl, oA, gA⟩; unfold vFrame; obtain ⟨pf, nf, cf, hv_⟩ := RdL.form (OwU.rd oA); subst hv_; have sA := gA.size; (try simp only [World.size_drew] at sA); have rBw := row_held gA (row_drewS rB25_.out); have wB0_ := cell_of_row wA _ 0 _ _ _ rBw; have wB1_ := cell_of_row wA _ 1 _ _ _ rBw; have wB2_ := cell_of_row wA _ 2 _ _ _ rBw; have rRw := row_held gA (row_drewS rR23_.out); have wR0_ := cell_of_row wA _ 0 _ _ _ rRw; have gR0_ := frozen_of_row wA _ 0 _ _ rRw; have wR1_ := cell_of_row wA _ 1 _ _ _ rRw; have gR1_ := frozen_of_row wA _ 1 _ _ rRw; have wR2_ := cell_of_row wA _ 2 _ _ _ rRw; have gR2_ := frozen_of_row wA _ 2 _ _ rRw; have rFw := row_held gA (row_drewS rF24_.out); have wF0_ := cell_of_row wA _ 0 _ _ _ rFw; have gF0_ := frozen_of_row wA _ 0 _ _ rFw; have wF1_ := cell_of_row wA _ 1 _ _ _ rFw; have gF1_ := frozen_of_row wA _ 1 _ _ rFw; have GA := Lib.hid (gby_trans (gby_drew G27_.out) gA); have OA := Lib.hid oA; have OC := Lib.hid (OwU.grow oC26_.out (gby_trans (gby_drew (gby_refl wb none)) gA)))
    | fail)
  all_goals
    skip
    have HD_ := Lib.hid (OwU.app (ps := [own shFrame (.slice pd nd cd) xs]) (qs := [own shI (.slice pf nf cf) xk.f1]) (m := wb.heap.size) (hi := wA.heap.size) (by omega) (by omega) (OwU.wide (lo := W.heap.size + 1 + 1 + 1) (hi := w1.heap.size) (Nat.le_refl _) (by omega) OC.out) OA.out)
    have hlo_ : W.heap.size ≤ W.heap.size + 1 + 1 + 1 := by omega
    go_wp2
    rw [← HXk.out]
    refine bodyPost_ret (v := .tuple #[.agg #[.int .i64 m, .slice pd nd cd, .int .i64 ((k : Int) + 1)], .agg #[.int .i64 xk.f0, .slice pf nf cf], .bool true]) (by simp [results, go_sem, wR0_, wR1_, wR2_, wF0_, wF1_]; done) rfl ⟨_, _, rfl, ?_, ?_⟩
    · refine OwU.wide (lo := W.heap.size + 1 + 1 + 1) (hi := wA.heap.size) hlo_ (by simp only [World.size_setCell]; omega) ?_
      iterate 5 (with_reducible refine OwU.keep (chg_one _ _ _ _) (by omega) ?_)
      exact HD_.out
    · iterate 5 (with_reducible refine gby_setnew ?_ _ (by first | omega | (dsimp only; omega)) _)
      exact GA.out

end Go.Proofs.Ytcenngekjopjpaa
