/-
  TakeAck, on both sides.
-/
import Derived.Test.YtcenngekjopjpaaSndCpS
import Derived.Test.YtcenngekjopjpaaAckI
import Derived.Test.YtcenngekjopjpaaRTakeAck
namespace Go.Proofs.Ytcenngekjopjpaa
open Go Go.RowKit
set_option linter.unusedVariables false

theorem owL_drop {α : Type} [Inhabited α] {s : Shp α} {w : World} {lo hi b off n c : Nat} {xs : List α} (h : OwL s w lo hi (.slice (some ⟨b, off, none⟩) n c) xs) (j off' c' : Nat) (ho : off' = off + j * s.n ∨ xs.length - j = 0) (hc : xs.length - j ≤ c') : OwL s w lo hi (.slice (some ⟨b, off', none⟩) (xs.length - j) c') (xs.drop j) := by
  obtain ⟨a, cap, e, h1, h2, h3, h4⟩ := h
  injection e with e1 e2 e3
  subst e1 e3
  refine ⟨some ⟨b, off', none⟩, c', by rw [List.length_drop], ⟨(fun e => by cases e), by rw [List.length_drop]; exact hc⟩, by rw [List.length_drop]; omega, (fun p hp => by cases hp; exact h3 ⟨b, off, none⟩ rfl), ?_⟩
  rcases ho with ho | ho
  · rcases h4 with h0 | ⟨b2, off2, P, Q, C, t, ea, k1, k2, k3⟩
    · exact .inl (by rw [List.length_drop]; omega)
    · injection ea with ea
      injection ea with ea1 ea2
      subst ea1 ea2 ho
      refine .inr ⟨b, off + j * s.n, fun k => P (k + j), fun k => Q (k + j), C, t, rfl, k1, fun k hk => ?_, fun i k hik hk => k3 (i + j) (k + j) (by omega) (by rw [List.length_drop] at hk; omega)⟩
      rw [List.length_drop] at hk
      obtain ⟨q1, q2, q3, cs, q4, q5⟩ := k2 (k + j) (by omega)
      have eg : (xs.drop j).getD k default = xs.getD (k + j) default := by rw [List.getD_eq_getElem?_getD, List.getD_eq_getElem?_getD, List.getElem?_drop, Nat.add_comm]
      refine ⟨q1, q2, q3, cs, fun i hi => ?_, by rw [eg]; exact q5⟩
      rw [← q4 i hi]
      congr 1
      rw [Nat.add_mul]
      omega
  · exact .inl (by rw [List.length_drop]; exact ho)
theorem owU_drop {α : Type} [Inhabited α] {s : Shp α} {w : World} {lo hi b off n c : Nat} {xs : List α} (h : OwU w lo hi [] [own s (.slice (some ⟨b, off, none⟩) n c) xs]) (j off' c' : Nat) (ho : off' = off + j * s.n ∨ xs.length - j = 0) (hc : xs.length - j ≤ c') : OwU w lo hi [] [own s (.slice (some ⟨b, off', none⟩) (xs.length - j) c') (xs.drop j)] := by
  obtain ⟨p, q, h1, h2, h3, h4, _⟩ := h
  exact ⟨p, q, h1, h2, h3, owL_drop h4 j off' c' ho hc, trivial⟩
theorem rd_some {w : World} {pd : Option Addr} {nd cd : Nat} {xs : List DFrame} (h : RdL shFrame w (.slice pd nd cd) xs) (h0 : 0 < xs.length) : ∃ g o, pd = some ⟨g, o, none⟩ ∧ nd = xs.length ∧ nd ≤ cd := by
  obtain ⟨a, c, e, h1, _, h3⟩ := h
  injection e with e1 e2 e3
  subst e1 e2 e3
  rcases h3 with h3 | ⟨b, off, ha, _⟩
  · omega
  · exact ⟨b, off, ha, rfl, h1.2⟩
theorem rd_el {w : World} {pd : Option Addr} {nd cd : Nat} {xs : List DFrame} (h : RdL shFrame w (.slice pd nd cd) xs) (h0 : 0 < xs.length) : ∃ g o, pd = some ⟨g, o, none⟩ ∧ ∀ k, k < xs.length → ∃ cs, At w g (o + k * 2) cs ∧ shFrame.rd w cs (xs.getD k default) := by
  obtain ⟨a, c, e, h1, _, h3⟩ := h
  injection e with e1 e2 e3
  subst e1 e2 e3
  rcases h3 with h3 | ⟨b, off, ha, h4⟩
  · omega
  · exact ⟨b, off, ha, h4⟩

set_option maxRecDepth 8000 in
set_option maxHeartbeats 4000000 in
theorem specAck_bad (W : World) (m r : Int) (v : Value) (xs : List DFrame) (H : RdL shFrame W v xs) (hl : szL shFrame xs ≤ 1048576) (seq : Int) (hv : ¬ SndP m r xs) : Calls Try.prog 22 #[.agg #[.int .i64 m, v, .int .i64 r], .int .i64 seq] W (ResITakeAck m xs r false W) := by
  have HV := Lib.hid hv
  clear hv
  have HX := Lib.hid H
  have HL := Lib.hid hl
  obtain ⟨a0, n0, cap0, rfl⟩ := RdL.form H
  have hn0 : n0 = xs.length := by obtain ⟨_, _, e, _⟩ := H; injection e
  have HE := Lib.hid hn0
  have hlx : n0 ≤ 1048576 := by have := szL_len shFrame xs; omega
  clear H hl hn0
  go_enter Try.func22, Try.ntmps22
  have rA1_ := Lib.hid (show (((W.alloc (.cells #[.int .i64 m, .slice a0 n0 cap0, .int .i64 r] 29)).alloc (.cells #[.int .i64 0, .slice none 0 0, .int .i64 0] 29))).heap[W.heap.size]? = some (.cells #[.int .i64 m, .slice a0 n0 cap0, .int .i64 r] 29 (0, 0)) from by rw [heap_alloc_old _ _ (by simp only [World.size_alloc]; omega)]; exact heap_alloc_new _ _)
  have rR2_ := Lib.hid (show (((W.alloc (.cells #[.int .i64 m, .slice a0 n0 cap0, .int .i64 r] 29)).alloc (.cells #[.int .i64 0, .slice none 0 0, .int .i64 0] 29))).heap[W.heap.size + 1]? = some (.cells #[.int .i64 0, .slice none 0 0, .int .i64 0] 29 (0, 0)) from by exact heap_pair _ _ _)
  have G3_ := Lib.hid (show (W).grownBy (((W.alloc (.cells #[.int .i64 m, .slice a0 n0 cap0, .int .i64 r] 29)).alloc (.cells #[.int .i64 0, .slice none 0 0, .int .i64 0] 29))) none from (gby_alloc (gby_alloc (gby_refl _ _) _) _))
  have A_0_ : (((W.alloc (.cells #[.int .i64 m, .slice a0 n0 cap0, .int .i64 r] 29)).alloc (.cells #[.int .i64 0, .slice none 0 0, .int .i64 0] 29))).cell? ⟨W.heap.size, 0, none⟩ = some (.int .i64 m) := cell_of_row _ _ 0 _ _ _ rA1_.out
  have A_1_ : (((W.alloc (.cells #[.int .i64 m, .slice a0 n0 cap0, .int .i64 r] 29)).alloc (.cells #[.int .i64 0, .slice none 0 0, .int .i64 0] 29))).cell? ⟨W.heap.size, 1, none⟩ = some (.slice a0 n0 cap0) := cell_of_row _ _ 1 _ _ _ rA1_.out
  have A_2_ : (((W.alloc (.cells #[.int .i64 m, .slice a0 n0 cap0, .int .i64 r] 29)).alloc (.cells #[.int .i64 0, .slice none 0 0, .int .i64 0] 29))).cell? ⟨W.heap.size, 2, none⟩ = some (.int .i64 r) := cell_of_row _ _ 2 _ _ _ rA1_.out
  have R_0_ : (((W.alloc (.cells #[.int .i64 m, .slice a0 n0 cap0, .int .i64 r] 29)).alloc (.cells #[.int .i64 0, .slice none 0 0, .int .i64 0] 29))).cell? ⟨W.heap.size + 1, 0, none⟩ = some (.int .i64 0) := cell_of_row _ _ 0 _ _ _ rR2_.out
  have R_1_ : (((W.alloc (.cells #[.int .i64 m, .slice a0 n0 cap0, .int .i64 r] 29)).alloc (.cells #[.int .i64 0, .slice none 0 0, .int .i64 0] 29))).cell? ⟨W.heap.size + 1, 1, none⟩ = some (.slice none 0 0) := cell_of_row _ _ 1 _ _ _ rR2_.out
  have R_2_ : (((W.alloc (.cells #[.int .i64 m, .slice a0 n0 cap0, .int .i64 r] 29)).alloc (.cells #[.int .i64 0, .slice none 0 0, .int .i64 0] 29))).cell? ⟨W.heap.size + 1, 2, none⟩ = some (.int .i64 0) := cell_of_row _ _ 2 _ _ _ rR2_.out
  go_wp2_with fail
  go_at_call 40
  refine (l08Copy_d _ m r _ xs (HX.out.grow G3_.out) HL.out).mono ?_
  rintro e w1 ⟨d_, rfl, o, g⟩
  have szw1 := g.size
  try simp only [World.size_alloc] at szw1 o
  try unfold vSender
  clear A_0_ A_1_ A_2_ R_0_ R_1_ R_2_
  have rA4_ := Lib.hid (show (w1).heap[W.heap.size]? = some (.cells #[.int .i64 m, .slice a0 n0 cap0, .int .i64 r] 29 (0, 0)) from row_held g rA1_.out)
  clear rA1_
  have rR5_ := Lib.hid (show (w1).heap[W.heap.size + 1]? = some (.cells #[.int .i64 0, .slice none 0 0, .int .i64 0] 29 (0, 0)) from row_held g rR2_.out)
  clear rR2_
  have G6_ := Lib.hid (show (W).grownBy (w1) none from gby_trans G3_.out g)
  obtain ⟨pd, nd, cd, hv_⟩ := RdL.form (OwU.rd o)
  subst hv_
  clear g
  have oC7_ := Lib.hid (show OwU (w1) (W.heap.size + 1 + 1) (w1.heap.size) [] [own shFrame (.slice pd nd cd) xs] from o)
  clear o
  have al_ : (w1).grownBy ((w1).alloc (.cells #[.int .i64 m, .slice pd nd cd, .int .i64 r] 29)) none := gby_alloc (gby_refl _ _) _
  have rA8_ := Lib.hid (show ((w1.alloc (.cells #[.int .i64 m, .slice pd nd cd, .int .i64 r] 29))).heap[W.heap.size]? = some (.cells #[.int .i64 m, .slice a0 n0 cap0, .int .i64 r] 29 (0, 0)) from row_held al_ rA4_.out)
  clear rA4_
  have rR9_ := Lib.hid (show ((w1.alloc (.cells #[.int .i64 m, .slice pd nd cd, .int .i64 r] 29))).heap[W.heap.size + 1]? = some (.cells #[.int .i64 0, .slice none 0 0, .int .i64 0] 29 (0, 0)) from row_held al_ rR5_.out)
  clear rR5_
  have oC10_ := Lib.hid (show OwU ((w1.alloc (.cells #[.int .i64 m, .slice pd nd cd, .int .i64 r] 29))) (W.heap.size + 1 + 1) (w1.heap.size) [] [own shFrame (.slice pd nd cd) xs] from OwU.grow oC7_.out al_)
  clear oC7_
  have G11_ := Lib.hid (show (W).grownBy ((w1.alloc (.cells #[.int .i64 m, .slice pd nd cd, .int .i64 r] 29))) none from gby_trans G6_.out al_)
  have rB12_ := Lib.hid (show ((w1.alloc (.cells #[.int .i64 m, .slice pd nd cd, .int .i64 r] 29))).heap[w1.heap.size]? = some (.cells #[.int .i64 m, .slice pd nd cd, .int .i64 r] 29 (0, 0)) from by first | exact heap_alloc_new _ _ | exact heap_pair _ _ _ | exact heap_trip _ _ _ _)
  clear al_
  have A_0_ : ((w1.alloc (.cells #[.int .i64 m, .slice pd nd cd, .int .i64 r] 29))).cell? ⟨W.heap.size, 0, none⟩ = some (.int .i64 m) := cell_of_row _ _ 0 _ _ _ rA8_.out
  have A_1_ : ((w1.alloc (.cells #[.int .i64 m, .slice pd nd cd, .int .i64 r] 29))).cell? ⟨W.heap.size, 1, none⟩ = some (.slice a0 n0 cap0) := cell_of_row _ _ 1 _ _ _ rA8_.out
  have A_2_ : ((w1.alloc (.cells #[.int .i64 m, .slice pd nd cd, .int .i64 r] 29))).cell? ⟨W.heap.size, 2, none⟩ = some (.int .i64 r) := cell_of_row _ _ 2 _ _ _ rA8_.out
  have R_0_ : ((w1.alloc (.cells #[.int .i64 m, .slice pd nd cd, .int .i64 r] 29))).cell? ⟨W.heap.size + 1, 0, none⟩ = some (.int .i64 0) := cell_of_row _ _ 0 _ _ _ rR9_.out
  have R_1_ : ((w1.alloc (.cells #[.int .i64 m, .slice pd nd cd, .int .i64 r] 29))).cell? ⟨W.heap.size + 1, 1, none⟩ = some (.slice none 0 0) := cell_of_row _ _ 1 _ _ _ rR9_.out
  have R_2_ : ((w1.alloc (.cells #[.int .i64 m, .slice pd nd cd, .int .i64 r] 29))).cell? ⟨W.heap.size + 1, 2, none⟩ = some (.int .i64 0) := cell_of_row _ _ 2 _ _ _ rR9_.out
  have B_0_ : ((w1.alloc (.cells #[.int .i64 m, .slice pd nd cd, .int .i64 r] 29))).cell? ⟨w1.heap.size, 0, none⟩ = some (.int .i64 m) := cell_of_row _ _ 0 _ _ _ rB12_.out
  have B_1_ : ((w1.alloc (.cells #[.int .i64 m, .slice pd nd cd, .int .i64 r] 29))).cell? ⟨w1.heap.size, 1, none⟩ = some (.slice pd nd cd) := cell_of_row _ _ 1 _ _ _ rB12_.out
  have B_2_ : ((w1.alloc (.cells #[.int .i64 m, .slice pd nd cd, .int .i64 r] 29))).cell? ⟨w1.heap.size, 2, none⟩ = some (.int .i64 r) := cell_of_row _ _ 2 _ _ _ rB12_.out
  clear A_0_ A_1_ A_2_ R_0_ R_1_ R_2_ B_0_ B_1_ B_2_
  have A_0_ : ((w1.alloc (.cells #[.int .i64 m, .slice pd nd cd, .int .i64 r] 29))).cell? ⟨W.heap.size, 0, none⟩ = some (.int .i64 m) := cell_of_row _ _ 0 _ _ _ rA8_.out
  have A_1_ : ((w1.alloc (.cells #[.int .i64 m, .slice pd nd cd, .int .i64 r] 29))).cell? ⟨W.heap.size, 1, none⟩ = some (.slice a0 n0 cap0) := cell_of_row _ _ 1 _ _ _ rA8_.out
  have A_2_ : ((w1.alloc (.cells #[.int .i64 m, .slice pd nd cd, .int .i64 r] 29))).cell? ⟨W.heap.size, 2, none⟩ = some (.int .i64 r) := cell_of_row _ _ 2 _ _ _ rA8_.out
  go_wp2_with fail
  go_at_call 9
  refine ((specSnd _ m r _ xs (HX.out.grow G11_.out) HL.out).mono (bpost_no HV.out)).mono ?_
  rintro e w2 ⟨rfl, g⟩
  have szw2 := g.size
  try simp only [World.size_alloc] at szw2
  try simp only [World.size_setCell] at szw2
  clear A_0_ A_1_ A_2_
  have rA13_ := Lib.hid (show (w2).heap[W.heap.size]? = some (.cells #[.int .i64 m, .slice a0 n0 cap0, .int .i64 r] 29 (0, 0)) from row_held g rA8_.out)
  clear rA8_
  have rR14_ := Lib.hid (show (w2).heap[W.heap.size + 1]? = some (.cells #[.int .i64 0, .slice none 0 0, .int .i64 0] 29 (0, 0)) from row_held g rR9_.out)
  clear rR9_
  have rB15_ := Lib.hid (show (w2).heap[w1.heap.size]? = some (.cells #[.int .i64 m, .slice pd nd cd, .int .i64 r] 29 (0, 0)) from row_held g rB12_.out)
  clear rB12_
  have oC16_ := Lib.hid (show OwU (w2) (W.heap.size + 1 + 1) (w1.heap.size) [] [own shFrame (.slice pd nd cd) xs] from OwU.grow oC10_.out g)
  clear oC10_
  have G17_ := Lib.hid (show (W).grownBy (w2) none from gby_trans G11_.out g)
  clear g
  have A_0_ : (w2).cell? ⟨W.heap.size, 0, none⟩ = some (.int .i64 m) := cell_of_row _ _ 0 _ _ _ rA13_.out
  have A_1_ : (w2).cell? ⟨W.heap.size, 1, none⟩ = some (.slice a0 n0 cap0) := cell_of_row _ _ 1 _ _ _ rA13_.out
  have A_2_ : (w2).cell? ⟨W.heap.size, 2, none⟩ = some (.int .i64 r) := cell_of_row _ _ 2 _ _ _ rA13_.out
  have R_0_ : (w2).cell? ⟨W.heap.size + 1, 0, none⟩ = some (.int .i64 0) := cell_of_row _ _ 0 _ _ _ rR14_.out
  have R_1_ : (w2).cell? ⟨W.heap.size + 1, 1, none⟩ = some (.slice none 0 0) := cell_of_row _ _ 1 _ _ _ rR14_.out
  have R_2_ : (w2).cell? ⟨W.heap.size + 1, 2, none⟩ = some (.int .i64 0) := cell_of_row _ _ 2 _ _ _ rR14_.out
  have B_0_ : (w2).cell? ⟨w1.heap.size, 0, none⟩ = some (.int .i64 m) := cell_of_row _ _ 0 _ _ _ rB15_.out
  have B_1_ : (w2).cell? ⟨w1.heap.size, 1, none⟩ = some (.slice pd nd cd) := cell_of_row _ _ 1 _ _ _ rB15_.out
  have B_2_ : (w2).cell? ⟨w1.heap.size, 2, none⟩ = some (.int .i64 r) := cell_of_row _ _ 2 _ _ _ rB15_.out
  clear A_0_ A_1_ A_2_ R_0_ R_1_ R_2_ B_0_ B_1_ B_2_
  have A_0_ : (w2).cell? ⟨W.heap.size, 0, none⟩ = some (.int .i64 m) := cell_of_row _ _ 0 _ _ _ rA13_.out
  have A_1_ : (w2).cell? ⟨W.heap.size, 1, none⟩ = some (.slice a0 n0 cap0) := cell_of_row _ _ 1 _ _ _ rA13_.out
  have A_2_ : (w2).cell? ⟨W.heap.size, 2, none⟩ = some (.int .i64 r) := cell_of_row _ _ 2 _ _ _ rA13_.out
  have R_0_ : (w2).cell? ⟨W.heap.size + 1, 0, none⟩ = some (.int .i64 0) := cell_of_row _ _ 0 _ _ _ rR14_.out
  have R_1_ : (w2).cell? ⟨W.heap.size + 1, 1, none⟩ = some (.slice none 0 0) := cell_of_row _ _ 1 _ _ _ rR14_.out
  have R_2_ : (w2).cell? ⟨W.heap.size + 1, 2, none⟩ = some (.int .i64 0) := cell_of_row _ _ 2 _ _ _ rR14_.out
  have Rf0_ : (w2).frozen? ⟨W.heap.size + 1, 0, none⟩ = false := frozen_of_row _ _ 0 _ _ rR14_.out
  have Rf1_ : (w2).frozen? ⟨W.heap.size + 1, 1, none⟩ = false := frozen_of_row _ _ 1 _ _ rR14_.out
  have Rf2_ : (w2).frozen? ⟨W.heap.size + 1, 2, none⟩ = false := frozen_of_row _ _ 2 _ _ rR14_.out
  have B_0_ : (w2).cell? ⟨w1.heap.size, 0, none⟩ = some (.int .i64 m) := cell_of_row _ _ 0 _ _ _ rB15_.out
  have B_1_ : (w2).cell? ⟨w1.heap.size, 1, none⟩ = some (.slice pd nd cd) := cell_of_row _ _ 1 _ _ _ rB15_.out
  have B_2_ : (w2).cell? ⟨w1.heap.size, 2, none⟩ = some (.int .i64 r) := cell_of_row _ _ 2 _ _ _ rB15_.out
  have hlo_ : W.heap.size ≤ W.heap.size + 1 + 1 := by omega
  go_wp2
  refine bodyPost_ret (v := .tuple #[.agg #[.int .i64 m, .slice pd nd cd, .int .i64 r], .bool false]) (by simp [results, go_sem, R_0_, R_1_, R_2_]) rfl ⟨_, rfl, ?_, ?_⟩
  · exact OwU.wide (lo := W.heap.size + 1 + 1) (hi := w1.heap.size) hlo_ (by simp only [World.size_setCell]; omega) (OwU.keep (chg_one _ (W.heap.size + 1) 2 (.int .i64 r)) (by omega) (OwU.keep (chg_one _ (W.heap.size + 1) 1 (.slice pd nd cd)) (by omega) (OwU.keep (chg_one _ (W.heap.size + 1) 0 (.int .i64 m)) (by omega) oC16_.out)))
  · exact (gby_setnew (gby_setnew (gby_setnew G17_.out _ (by dsimp only; omega) _) _ (by dsimp only; omega) _) _ (by dsimp only; omega) _)

set_option maxRecDepth 8000 in
set_option maxHeartbeats 4000000 in
theorem specAck_miss (W : World) (m r : Int) (v : Value) (xs : List DFrame) (H : RdL shFrame W v xs) (hl : szL shFrame xs ≤ 1048576) (seq : Int) (hv : SndP m r xs) (hq : NoAck xs seq) : Calls Try.prog 22 #[.agg #[.int .i64 m, v, .int .i64 r], .int .i64 seq] W (ResITakeAck m xs r false W) := by
  have HV := Lib.hid hv
  have HQ := Lib.hid hq
  clear hv hq
  have HX := Lib.hid H
  have HL := Lib.hid hl
  obtain ⟨a0, n0, cap0, rfl⟩ := RdL.form H
  have hn0 : n0 = xs.length := by obtain ⟨_, _, e, _⟩ := H; injection e
  have HE := Lib.hid hn0
  have hlx : n0 ≤ 1048576 := by have := szL_len shFrame xs; omega
  clear H hl hn0
  go_enter Try.func22, Try.ntmps22
  have rA1_ := Lib.hid (show (((W.alloc (.cells #[.int .i64 m, .slice a0 n0 cap0, .int .i64 r] 29)).alloc (.cells #[.int .i64 0, .slice none 0 0, .int .i64 0] 29))).heap[W.heap.size]? = some (.cells #[.int .i64 m, .slice a0 n0 cap0, .int .i64 r] 29 (0, 0)) from by rw [heap_alloc_old _ _ (by simp only [World.size_alloc]; omega)]; exact heap_alloc_new _ _)
  have rR2_ := Lib.hid (show (((W.alloc (.cells #[.int .i64 m, .slice a0 n0 cap0, .int .i64 r] 29)).alloc (.cells #[.int .i64 0, .slice none 0 0, .int .i64 0] 29))).heap[W.heap.size + 1]? = some (.cells #[.int .i64 0, .slice none 0 0, .int .i64 0] 29 (0, 0)) from by exact heap_pair _ _ _)
  have G3_ := Lib.hid (show (W).grownBy (((W.alloc (.cells #[.int .i64 m, .slice a0 n0 cap0, .int .i64 r] 29)).alloc (.cells #[.int .i64 0, .slice none 0 0, .int .i64 0] 29))) none from (gby_alloc (gby_alloc (gby_refl _ _) _) _))
  have A_0_ : (((W.alloc (.cells #[.int .i64 m, .slice a0 n0 cap0, .int .i64 r] 29)).alloc (.cells #[.int .i64 0, .slice none 0 0, .int .i64 0] 29))).cell? ⟨W.heap.size, 0, none⟩ = some (.int .i64 m) := cell_of_row _ _ 0 _ _ _ rA1_.out
  have A_1_ : (((W.alloc (.cells #[.int .i64 m, .slice a0 n0 cap0, .int .i64 r] 29)).alloc (.cells #[.int .i64 0, .slice none 0 0, .int .i64 0] 29))).cell? ⟨W.heap.size, 1, none⟩ = some (.slice a0 n0 cap0) := cell_of_row _ _ 1 _ _ _ rA1_.out
  have A_2_ : (((W.alloc (.cells #[.int .i64 m, .slice a0 n0 cap0, .int .i64 r] 29)).alloc (.cells #[.int .i64 0, .slice none 0 0, .int .i64 0] 29))).cell? ⟨W.heap.size, 2, none⟩ = some (.int .i64 r) := cell_of_row _ _ 2 _ _ _ rA1_.out
  have R_0_ : (((W.alloc (.cells #[.int .i64 m, .slice a0 n0 cap0, .int .i64 r] 29)).alloc (.cells #[.int .i64 0, .slice none 0 0, .int .i64 0] 29))).cell? ⟨W.heap.size + 1, 0, none⟩ = some (.int .i64 0) := cell_of_row _ _ 0 _ _ _ rR2_.out
  have R_1_ : (((W.alloc (.cells #[.int .i64 m, .slice a0 n0 cap0, .int .i64 r] 29)).alloc (.cells #[.int .i64 0, .slice none 0 0, .int .i64 0] 29))).cell? ⟨W.heap.size + 1, 1, none⟩ = some (.slice none 0 0) := cell_of_row _ _ 1 _ _ _ rR2_.out
  have R_2_ : (((W.alloc (.cells #[.int .i64 m, .slice a0 n0 cap0, .int .i64 r] 29)).alloc (.cells #[.int .i64 0, .slice none 0 0, .int .i64 0] 29))).cell? ⟨W.heap.size + 1, 2, none⟩ = some (.int .i64 0) := cell_of_row _ _ 2 _ _ _ rR2_.out
  go_wp2_with fail
  go_at_call 40
  refine (l08Copy_d _ m r _ xs (HX.out.grow G3_.out) HL.out).mono ?_
  rintro e w1 ⟨d_, rfl, o, g⟩
  have szw1 := g.size
  try simp only [World.size_alloc] at szw1 o
  try unfold vSender
  clear A_0_ A_1_ A_2_ R_0_ R_1_ R_2_
  have rA4_ := Lib.hid (show (w1).heap[W.heap.size]? = some (.cells #[.int .i64 m, .slice a0 n0 cap0, .int .i64 r] 29 (0, 0)) from row_held g rA1_.out)
  clear rA1_
  have rR5_ := Lib.hid (show (w1).heap[W.heap.size + 1]? = some (.cells #[.int .i64 0, .slice none 0 0, .int .i64 0] 29 (0, 0)) from row_held g rR2_.out)
  clear rR2_
  have G6_ := Lib.hid (show (W).grownBy (w1) none from gby_trans G3_.out g)
  obtain ⟨pd, nd, cd, hv_⟩ := RdL.form (OwU.rd o)
  subst hv_
  clear g
  have oC7_ := Lib.hid (show OwU (w1) (W.heap.size + 1 + 1) (w1.heap.size) [] [own shFrame (.slice pd nd cd) xs] from o)
  clear o
  have al_ : (w1).grownBy ((w1).alloc (.cells #[.int .i64 m, .slice pd nd cd, .int .i64 r] 29)) none := gby_alloc (gby_refl _ _) _
  have rA8_ := Lib.hid (show ((w1.alloc (.cells #[.int .i64 m, .slice pd nd cd, .int .i64 r] 29))).heap[W.heap.size]? = some (.cells #[.int .i64 m, .slice a0 n0 cap0, .int .i64 r] 29 (0, 0)) from row_held al_ rA4_.out)
  clear rA4_
  have rR9_ := Lib.hid (show ((w1.alloc (.cells #[.int .i64 m, .slice pd nd cd, .int .i64 r] 29))).heap[W.heap.size + 1]? = some (.cells #[.int .i64 0, .slice none 0 0, .int .i64 0] 29 (0, 0)) from row_held al_ rR5_.out)
  clear rR5_
  have oC10_ := Lib.hid (show OwU ((w1.alloc (.cells #[.int .i64 m, .slice pd nd cd, .int .i64 r] 29))) (W.heap.size + 1 + 1) (w1.heap.size) [] [own shFrame (.slice pd nd cd) xs] from OwU.grow oC7_.out al_)
  clear oC7_
  have G11_ := Lib.hid (show (W).grownBy ((w1.alloc (.cells #[.int .i64 m, .slice pd nd cd, .int .i64 r] 29))) none from gby_trans G6_.out al_)
  have rB12_ := Lib.hid (show ((w1.alloc (.cells #[.int .i64 m, .slice pd nd cd, .int .i64 r] 29))).heap[w1.heap.size]? = some (.cells #[.int .i64 m, .slice pd nd cd, .int .i64 r] 29 (0, 0)) from by first | exact heap_alloc_new _ _ | exact heap_pair _ _ _ | exact heap_trip _ _ _ _)
  clear al_
  have A_0_ : ((w1.alloc (.cells #[.int .i64 m, .slice pd nd cd, .int .i64 r] 29))).cell? ⟨W.heap.size, 0, none⟩ = some (.int .i64 m) := cell_of_row _ _ 0 _ _ _ rA8_.out
  have A_1_ : ((w1.alloc (.cells #[.int .i64 m, .slice pd nd cd, .int .i64 r] 29))).cell? ⟨W.heap.size, 1, none⟩ = some (.slice a0 n0 cap0) := cell_of_row _ _ 1 _ _ _ rA8_.out
  have A_2_ : ((w1.alloc (.cells #[.int .i64 m, .slice pd nd cd, .int .i64 r] 29))).cell? ⟨W.heap.size, 2, none⟩ = some (.int .i64 r) := cell_of_row _ _ 2 _ _ _ rA8_.out
  have R_0_ : ((w1.alloc (.cells #[.int .i64 m, .slice pd nd cd, .int .i64 r] 29))).cell? ⟨W.heap.size + 1, 0, none⟩ = some (.int .i64 0) := cell_of_row _ _ 0 _ _ _ rR9_.out
  have R_1_ : ((w1.alloc (.cells #[.int .i64 m, .slice pd nd cd, .int .i64 r] 29))).cell? ⟨W.heap.size + 1, 1, none⟩ = some (.slice none 0 0) := cell_of_row _ _ 1 _ _ _ rR9_.out
  have R_2_ : ((w1.alloc (.cells #[.int .i64 m, .slice pd nd cd, .int .i64 r] 29))).cell? ⟨W.heap.size + 1, 2, none⟩ = some (.int .i64 0) := cell_of_row _ _ 2 _ _ _ rR9_.out
  have B_0_ : ((w1.alloc (.cells #[.int .i64 m, .slice pd nd cd, .int .i64 r] 29))).cell? ⟨w1.heap.size, 0, none⟩ = some (.int .i64 m) := cell_of_row _ _ 0 _ _ _ rB12_.out
  have B_1_ : ((w1.alloc (.cells #[.int .i64 m, .slice pd nd cd, .int .i64 r] 29))).cell? ⟨w1.heap.size, 1, none⟩ = some (.slice pd nd cd) := cell_of_row _ _ 1 _ _ _ rB12_.out
  have B_2_ : ((w1.alloc (.cells #[.int .i64 m, .slice pd nd cd, .int .i64 r] 29))).cell? ⟨w1.heap.size, 2, none⟩ = some (.int .i64 r) := cell_of_row _ _ 2 _ _ _ rB12_.out
  clear A_0_ A_1_ A_2_ R_0_ R_1_ R_2_ B_0_ B_1_ B_2_
  have A_0_ : ((w1.alloc (.cells #[.int .i64 m, .slice pd nd cd, .int .i64 r] 29))).cell? ⟨W.heap.size, 0, none⟩ = some (.int .i64 m) := cell_of_row _ _ 0 _ _ _ rA8_.out
  have A_1_ : ((w1.alloc (.cells #[.int .i64 m, .slice pd nd cd, .int .i64 r] 29))).cell? ⟨W.heap.size, 1, none⟩ = some (.slice a0 n0 cap0) := cell_of_row _ _ 1 _ _ _ rA8_.out
  have A_2_ : ((w1.alloc (.cells #[.int .i64 m, .slice pd nd cd, .int .i64 r] 29))).cell? ⟨W.heap.size, 2, none⟩ = some (.int .i64 r) := cell_of_row _ _ 2 _ _ _ rA8_.out
  go_wp2_with fail
  go_at_call 9
  refine ((specSnd _ m r _ xs (HX.out.grow G11_.out) HL.out).mono (bpost_yes HV.out)).mono ?_
  rintro e w2 ⟨rfl, g⟩
  have szw2 := g.size
  try simp only [World.size_alloc] at szw2
  try simp only [World.size_setCell] at szw2
  clear A_0_ A_1_ A_2_
  have rA13_ := Lib.hid (show (w2).heap[W.heap.size]? = some (.cells #[.int .i64 m, .slice a0 n0 cap0, .int .i64 r] 29 (0, 0)) from row_held g rA8_.out)
  clear rA8_
  have rR14_ := Lib.hid (show (w2).heap[W.heap.size + 1]? = some (.cells #[.int .i64 0, .slice none 0 0, .int .i64 0] 29 (0, 0)) from row_held g rR9_.out)
  clear rR9_
  have rB15_ := Lib.hid (show (w2).heap[w1.heap.size]? = some (.cells #[.int .i64 m, .slice pd nd cd, .int .i64 r] 29 (0, 0)) from row_held g rB12_.out)
  clear rB12_
  have oC16_ := Lib.hid (show OwU (w2) (W.heap.size + 1 + 1) (w1.heap.size) [] [own shFrame (.slice pd nd cd) xs] from OwU.grow oC10_.out g)
  clear oC10_
  have G17_ := Lib.hid (show (W).grownBy (w2) none from gby_trans G11_.out g)
  clear g
  have A_0_ : (w2).cell? ⟨W.heap.size, 0, none⟩ = some (.int .i64 m) := cell_of_row _ _ 0 _ _ _ rA13_.out
  have A_1_ : (w2).cell? ⟨W.heap.size, 1, none⟩ = some (.slice a0 n0 cap0) := cell_of_row _ _ 1 _ _ _ rA13_.out
  have A_2_ : (w2).cell? ⟨W.heap.size, 2, none⟩ = some (.int .i64 r) := cell_of_row _ _ 2 _ _ _ rA13_.out
  have R_0_ : (w2).cell? ⟨W.heap.size + 1, 0, none⟩ = some (.int .i64 0) := cell_of_row _ _ 0 _ _ _ rR14_.out
  have R_1_ : (w2).cell? ⟨W.heap.size + 1, 1, none⟩ = some (.slice none 0 0) := cell_of_row _ _ 1 _ _ _ rR14_.out
  have R_2_ : (w2).cell? ⟨W.heap.size + 1, 2, none⟩ = some (.int .i64 0) := cell_of_row _ _ 2 _ _ _ rR14_.out
  have B_0_ : (w2).cell? ⟨w1.heap.size, 0, none⟩ = some (.int .i64 m) := cell_of_row _ _ 0 _ _ _ rB15_.out
  have B_1_ : (w2).cell? ⟨w1.heap.size, 1, none⟩ = some (.slice pd nd cd) := cell_of_row _ _ 1 _ _ _ rB15_.out
  have B_2_ : (w2).cell? ⟨w1.heap.size, 2, none⟩ = some (.int .i64 r) := cell_of_row _ _ 2 _ _ _ rB15_.out
  go_wp2
  go_loopw [7] (fun i wr => ∃ k : Nat, i = .int .i64 (k : Int) ∧ k ≤ n0 ∧ (w2).grownBy wr none) (fun i _ => n0 - (intOf i).toNat)
  case atStart => exact ⟨0, rfl, by omega, gby_refl _ _⟩
  case round =>
    clear A_0_ A_1_ A_2_ R_0_ R_1_ R_2_ B_0_ B_1_ B_2_
    obtain ⟨k, rfl, hk, hg⟩ := hrel
    have szrwr := hg.size
    try simp only [World.size_alloc] at szrwr
    try simp only [World.size_setCell] at szrwr
    have szr_ := szrwr
    have rA18_ := Lib.hid (show (wr).heap[W.heap.size]? = some (.cells #[.int .i64 m, .slice a0 n0 cap0, .int .i64 r] 29 (0, 0)) from row_held hg rA13_.out)
    clear rA13_
    have rR19_ := Lib.hid (show (wr).heap[W.heap.size + 1]? = some (.cells #[.int .i64 0, .slice none 0 0, .int .i64 0] 29 (0, 0)) from row_held hg rR14_.out)
    clear rR14_
    have rB20_ := Lib.hid (show (wr).heap[w1.heap.size]? = some (.cells #[.int .i64 m, .slice pd nd cd, .int .i64 r] 29 (0, 0)) from row_held hg rB15_.out)
    clear rB15_
    have oC21_ := Lib.hid (show OwU (wr) (W.heap.size + 1 + 1) (w1.heap.size) [] [own shFrame (.slice pd nd cd) xs] from OwU.grow oC16_.out hg)
    clear oC16_
    have G22_ := Lib.hid (show (W).grownBy (wr) none from gby_trans G17_.out hg)
    have HTB_ := Lib.hid hg
    clear hg
    have A_0_ : (wr).cell? ⟨W.heap.size, 0, none⟩ = some (.int .i64 m) := cell_of_row _ _ 0 _ _ _ rA18_.out
    have A_1_ : (wr).cell? ⟨W.heap.size, 1, none⟩ = some (.slice a0 n0 cap0) := cell_of_row _ _ 1 _ _ _ rA18_.out
    have A_2_ : (wr).cell? ⟨W.heap.size, 2, none⟩ = some (.int .i64 r) := cell_of_row _ _ 2 _ _ _ rA18_.out
    have R_0_ : (wr).cell? ⟨W.heap.size + 1, 0, none⟩ = some (.int .i64 0) := cell_of_row _ _ 0 _ _ _ rR19_.out
    have R_1_ : (wr).cell? ⟨W.heap.size + 1, 1, none⟩ = some (.slice none 0 0) := cell_of_row _ _ 1 _ _ _ rR19_.out
    have R_2_ : (wr).cell? ⟨W.heap.size + 1, 2, none⟩ = some (.int .i64 0) := cell_of_row _ _ 2 _ _ _ rR19_.out
    have B_0_ : (wr).cell? ⟨w1.heap.size, 0, none⟩ = some (.int .i64 m) := cell_of_row _ _ 0 _ _ _ rB20_.out
    have B_1_ : (wr).cell? ⟨w1.heap.size, 1, none⟩ = some (.slice pd nd cd) := cell_of_row _ _ 1 _ _ _ rB20_.out
    have B_2_ : (wr).cell? ⟨w1.heap.size, 2, none⟩ = some (.int .i64 r) := cell_of_row _ _ 2 _ _ _ rB20_.out
    have hk0 : (0 : Int) ≤ (k : Int) := by omega
    have htk : ((k : Int)).toNat = k := by omega
    by_cases hlt : k < n0
    rotate_left
    · obtain rfl : k = n0 := by omega
      have hki : ¬ (k : Int) < (k : Int) := by omega
      clear A_0_ A_1_ A_2_ R_0_ R_1_ R_2_ B_0_ B_1_ B_2_
      have A_0_ : (wr).cell? ⟨W.heap.size, 0, none⟩ = some (.int .i64 m) := cell_of_row _ _ 0 _ _ _ rA18_.out
      have A_1_ : (wr).cell? ⟨W.heap.size, 1, none⟩ = some (.slice a0 k cap0) := cell_of_row _ _ 1 _ _ _ rA18_.out
      have A_2_ : (wr).cell? ⟨W.heap.size, 2, none⟩ = some (.int .i64 r) := cell_of_row _ _ 2 _ _ _ rA18_.out
      have R_0_ : (wr).cell? ⟨W.heap.size + 1, 0, none⟩ = some (.int .i64 0) := cell_of_row _ _ 0 _ _ _ rR19_.out
      have R_1_ : (wr).cell? ⟨W.heap.size + 1, 1, none⟩ = some (.slice none 0 0) := cell_of_row _ _ 1 _ _ _ rR19_.out
      have R_2_ : (wr).cell? ⟨W.heap.size + 1, 2, none⟩ = some (.int .i64 0) := cell_of_row _ _ 2 _ _ _ rR19_.out
      have Rf0_ : (wr).frozen? ⟨W.heap.size + 1, 0, none⟩ = false := frozen_of_row _ _ 0 _ _ rR19_.out
      have Rf1_ : (wr).frozen? ⟨W.heap.size + 1, 1, none⟩ = false := frozen_of_row _ _ 1 _ _ rR19_.out
      have Rf2_ : (wr).frozen? ⟨W.heap.size + 1, 2, none⟩ = false := frozen_of_row _ _ 2 _ _ rR19_.out
      have B_0_ : (wr).cell? ⟨w1.heap.size, 0, none⟩ = some (.int .i64 m) := cell_of_row _ _ 0 _ _ _ rB20_.out
      have B_1_ : (wr).cell? ⟨w1.heap.size, 1, none⟩ = some (.slice pd nd cd) := cell_of_row _ _ 1 _ _ _ rB20_.out
      have B_2_ : (wr).cell? ⟨w1.heap.size, 2, none⟩ = some (.int .i64 r) := cell_of_row _ _ 2 _ _ _ rB20_.out
      have hlo_ : W.heap.size ≤ W.heap.size + 1 + 1 := by omega
      go_wp2
      refine bodyPost_ret (v := .tuple #[.agg #[.int .i64 m, .slice pd nd cd, .int .i64 r], .bool false]) (by simp [results, go_sem, R_0_, R_1_, R_2_]) rfl ⟨_, rfl, ?_, ?_⟩
      · exact OwU.wide (lo := W.heap.size + 1 + 1) (hi := w1.heap.size) hlo_ (by simp only [World.size_setCell]; omega) (OwU.keep (chg_one _ (W.heap.size + 1) 2 (.int .i64 r)) (by omega) (OwU.keep (chg_one _ (W.heap.size + 1) 1 (.slice pd nd cd)) (by omega) (OwU.keep (chg_one _ (W.heap.size + 1) 0 (.int .i64 m)) (by omega) oC21_.out)))
      · exact (gby_setnew (gby_setnew (gby_setnew G22_.out _ (by dsimp only; omega) _) _ (by dsimp only; omega) _) _ (by dsimp only; omega) _)
    have hki : (k : Int) < (n0 : Int) := by omega
    obtain ⟨ab, ao, ha_, hce_⟩ := rd_el HX.out (by have := HE.out; omega)
    subst ha_
    have HCE := Lib.hid (show ∀ k, k < n0 → _ from fun k hk => hce_ k (by have := HE.out; omega))
    have HS := HL
    clear hce_
    have hq_ : k < n0 := hlt
    obtain ⟨cs_, hat_, hrd_⟩ := HCE.out k (by omega)
    obtain ⟨xk, hx_⟩ : ∃ x, x = xs.getD k default := ⟨_, rfl⟩
    rw [← hx_] at hrd_
    have hzk_ : szL shI xk.f1 ≤ 1048576 := by have q1 := szL_at shFrame xs k (by have := HE.out; omega); rw [← hx_] at q1; exact Nat.le_trans q1 HS.out
    have HXk := Lib.hid (show xk = fr xs k from hx_)
    obtain ⟨v1_, rfl, r1_⟩ := hrd_
    obtain ⟨pk, nk, ck, hv_⟩ := RdL.form r1_
    subst hv_
    have Rk := Lib.hid r1_
    have HEk0 := Lib.hid (show W.cell? ⟨ab, ao + k * 2, none⟩ = some (.int .i64 xk.f0) from at_cell (j := 0) hat_ rfl)
    have HEk1 := Lib.hid (show W.cell? ⟨ab, ao + k * 2 + 1, none⟩ = some (.slice pk nk ck) from at_cell (j := 1) hat_ rfl)
    clear hat_ r1_ hx_ hq_
    have ek0_ := (G22_.out).cell HEk0.out (by simp)
    have ek1_ := (G22_.out).cell HEk1.out (by simp)
    have ne_ : (xk.f0 == seq) = false := by have q := HQ.out k (by have := HE.out; omega); rw [← HXk.out] at q; simpa using q
    go_wp2
    refine ⟨⟨k + 1, by go_num, by omega, HTB_.out⟩, by simp [intOf]; omega⟩

set_option maxRecDepth 8000 in
set_option maxHeartbeats 4000000 in
theorem specAck_hit (W : World) (m r : Int) (v : Value) (xs : List DFrame) (H : RdL shFrame W v xs) (hl : szL shFrame xs ≤ 1048576) (seq : Int) (hv : SndP m r xs) (q : Nat) (hq : AckAt xs seq q) : Calls Try.prog 22 #[.agg #[.int .i64 m, v, .int .i64 r], .int .i64 seq] W (ResITakeAck m (xs.drop (q + 1)) (max 0 (r - (q : Int) - 1)) true W) := by
  have HV := Lib.hid hv
  have HQ := Lib.hid hq
  have hql_ := hq.1
  clear hv hq
  have HX := Lib.hid H
  have HL := Lib.hid hl
  obtain ⟨a0, n0, cap0, rfl⟩ := RdL.form H
  have hn0 : n0 = xs.length := by obtain ⟨_, _, e, _⟩ := H; injection e
  have HE := Lib.hid hn0
  have hlx : n0 ≤ 1048576 := by have := szL_len shFrame xs; omega
  clear H hl hn0
  have h7_ : n0 ≤ 7 := by have := HV.out.2.1; have := HE.out; omega
  have hr0_ : 0 ≤ r := HV.out.2.2.1.1
  have hrn_ : r ≤ (n0 : Int) := by have := HV.out.2.2.1.2; have := HE.out; omega
  have hqn_ : q < n0 := by have := HE.out; omega
  go_enter Try.func22, Try.ntmps22
  have rA1_ := Lib.hid (show (((W.alloc (.cells #[.int .i64 m, .slice a0 n0 cap0, .int .i64 r] 29)).alloc (.cells #[.int .i64 0, .slice none 0 0, .int .i64 0] 29))).heap[W.heap.size]? = some (.cells #[.int .i64 m, .slice a0 n0 cap0, .int .i64 r] 29 (0, 0)) from by rw [heap_alloc_old _ _ (by simp only [World.size_alloc]; omega)]; exact heap_alloc_new _ _)
  have rR2_ := Lib.hid (show (((W.alloc (.cells #[.int .i64 m, .slice a0 n0 cap0, .int .i64 r] 29)).alloc (.cells #[.int .i64 0, .slice none 0 0, .int .i64 0] 29))).heap[W.heap.size + 1]? = some (.cells #[.int .i64 0, .slice none 0 0, .int .i64 0] 29 (0, 0)) from by exact heap_pair _ _ _)
  have G3_ := Lib.hid (show (W).grownBy (((W.alloc (.cells #[.int .i64 m, .slice a0 n0 cap0, .int .i64 r] 29)).alloc (.cells #[.int .i64 0, .slice none 0 0, .int .i64 0] 29))) none from (gby_alloc (gby_alloc (gby_refl _ _) _) _))
  have A_0_ : (((W.alloc (.cells #[.int .i64 m, .slice a0 n0 cap0, .int .i64 r] 29)).alloc (.cells #[.int .i64 0, .slice none 0 0, .int .i64 0] 29))).cell? ⟨W.heap.size, 0, none⟩ = some (.int .i64 m) := cell_of_row _ _ 0 _ _ _ rA1_.out
  have A_1_ : (((W.alloc (.cells #[.int .i64 m, .slice a0 n0 cap0, .int .i64 r] 29)).alloc (.cells #[.int .i64 0, .slice none 0 0, .int .i64 0] 29))).cell? ⟨W.heap.size, 1, none⟩ = some (.slice a0 n0 cap0) := cell_of_row _ _ 1 _ _ _ rA1_.out
  have A_2_ : (((W.alloc (.cells #[.int .i64 m, .slice a0 n0 cap0, .int .i64 r] 29)).alloc (.cells #[.int .i64 0, .slice none 0 0, .int .i64 0] 29))).cell? ⟨W.heap.size, 2, none⟩ = some (.int .i64 r) := cell_of_row _ _ 2 _ _ _ rA1_.out
  have R_0_ : (((W.alloc (.cells #[.int .i64 m, .slice a0 n0 cap0, .int .i64 r] 29)).alloc (.cells #[.int .i64 0, .slice none 0 0, .int .i64 0] 29))).cell? ⟨W.heap.size + 1, 0, none⟩ = some (.int .i64 0) := cell_of_row _ _ 0 _ _ _ rR2_.out
  have R_1_ : (((W.alloc (.cells #[.int .i64 m, .slice a0 n0 cap0, .int .i64 r] 29)).alloc (.cells #[.int .i64 0, .slice none 0 0, .int .i64 0] 29))).cell? ⟨W.heap.size + 1, 1, none⟩ = some (.slice none 0 0) := cell_of_row _ _ 1 _ _ _ rR2_.out
  have R_2_ : (((W.alloc (.cells #[.int .i64 m, .slice a0 n0 cap0, .int .i64 r] 29)).alloc (.cells #[.int .i64 0, .slice none 0 0, .int .i64 0] 29))).cell? ⟨W.heap.size + 1, 2, none⟩ = some (.int .i64 0) := cell_of_row _ _ 2 _ _ _ rR2_.out
  go_wp2_with fail
  go_at_call 40
  refine (l08Copy_d _ m r _ xs (HX.out.grow G3_.out) HL.out).mono ?_
  rintro e w1 ⟨d_, rfl, o, g⟩
  have szw1 := g.size
  try simp only [World.size_alloc] at szw1 o
  try unfold vSender
  clear A_0_ A_1_ A_2_ R_0_ R_1_ R_2_
  have rA4_ := Lib.hid (show (w1).heap[W.heap.size]? = some (.cells #[.int .i64 m, .slice a0 n0 cap0, .int .i64 r] 29 (0, 0)) from row_held g rA1_.out)
  clear rA1_
  have rR5_ := Lib.hid (show (w1).heap[W.heap.size + 1]? = some (.cells #[.int .i64 0, .slice none 0 0, .int .i64 0] 29 (0, 0)) from row_held g rR2_.out)
  clear rR2_
  have G6_ := Lib.hid (show (W).grownBy (w1) none from gby_trans G3_.out g)
  obtain ⟨pd, nd, cd, hv_⟩ := RdL.form (OwU.rd o)
  subst hv_
  clear g
  have oC7_ := Lib.hid (show OwU (w1) (W.heap.size + 1 + 1) (w1.heap.size) [] [own shFrame (.slice pd nd cd) xs] from o)
  clear o
  have al_ : (w1).grownBy ((w1).alloc (.cells #[.int .i64 m, .slice pd nd cd, .int .i64 r] 29)) none := gby_alloc (gby_refl _ _) _
  have rA8_ := Lib.hid (show ((w1.alloc (.cells #[.int .i64 m, .slice pd nd cd, .int .i64 r] 29))).heap[W.heap.size]? = some (.cells #[.int .i64 m, .slice a0 n0 cap0, .int .i64 r] 29 (0, 0)) from row_held al_ rA4_.out)
  clear rA4_
  have rR9_ := Lib.hid (show ((w1.alloc (.cells #[.int .i64 m, .slice pd nd cd, .int .i64 r] 29))).heap[W.heap.size + 1]? = some (.cells #[.int .i64 0, .slice none 0 0, .int .i64 0] 29 (0, 0)) from row_held al_ rR5_.out)
  clear rR5_
  have oC10_ := Lib.hid (show OwU ((w1.alloc (.cells #[.int .i64 m, .slice pd nd cd, .int .i64 r] 29))) (W.heap.size + 1 + 1) (w1.heap.size) [] [own shFrame (.slice pd nd cd) xs] from OwU.grow oC7_.out al_)
  clear oC7_
  have G11_ := Lib.hid (show (W).grownBy ((w1.alloc (.cells #[.int .i64 m, .slice pd nd cd, .int .i64 r] 29))) none from gby_trans G6_.out al_)
  have rB12_ := Lib.hid (show ((w1.alloc (.cells #[.int .i64 m, .slice pd nd cd, .int .i64 r] 29))).heap[w1.heap.size]? = some (.cells #[.int .i64 m, .slice pd nd cd, .int .i64 r] 29 (0, 0)) from by first | exact heap_alloc_new _ _ | exact heap_pair _ _ _ | exact heap_trip _ _ _ _)
  clear al_
  have A_0_ : ((w1.alloc (.cells #[.int .i64 m, .slice pd nd cd, .int .i64 r] 29))).cell? ⟨W.heap.size, 0, none⟩ = some (.int .i64 m) := cell_of_row _ _ 0 _ _ _ rA8_.out
  have A_1_ : ((w1.alloc (.cells #[.int .i64 m, .slice pd nd cd, .int .i64 r] 29))).cell? ⟨W.heap.size, 1, none⟩ = some (.slice a0 n0 cap0) := cell_of_row _ _ 1 _ _ _ rA8_.out
  have A_2_ : ((w1.alloc (.cells #[.int .i64 m, .slice pd nd cd, .int .i64 r] 29))).cell? ⟨W.heap.size, 2, none⟩ = some (.int .i64 r) := cell_of_row _ _ 2 _ _ _ rA8_.out
  have R_0_ : ((w1.alloc (.cells #[.int .i64 m, .slice pd nd cd, .int .i64 r] 29))).cell? ⟨W.heap.size + 1, 0, none⟩ = some (.int .i64 0) := cell_of_row _ _ 0 _ _ _ rR9_.out
  have R_1_ : ((w1.alloc (.cells #[.int .i64 m, .slice pd nd cd, .int .i64 r] 29))).cell? ⟨W.heap.size + 1, 1, none⟩ = some (.slice none 0 0) := cell_of_row _ _ 1 _ _ _ rR9_.out
  have R_2_ : ((w1.alloc (.cells #[.int .i64 m, .slice pd nd cd, .int .i64 r] 29))).cell? ⟨W.heap.size + 1, 2, none⟩ = some (.int .i64 0) := cell_of_row _ _ 2 _ _ _ rR9_.out
  have B_0_ : ((w1.alloc (.cells #[.int .i64 m, .slice pd nd cd, .int .i64 r] 29))).cell? ⟨w1.heap.size, 0, none⟩ = some (.int .i64 m) := cell_of_row _ _ 0 _ _ _ rB12_.out
  have B_1_ : ((w1.alloc (.cells #[.int .i64 m, .slice pd nd cd, .int .i64 r] 29))).cell? ⟨w1.heap.size, 1, none⟩ = some (.slice pd nd cd) := cell_of_row _ _ 1 _ _ _ rB12_.out
  have B_2_ : ((w1.alloc (.cells #[.int .i64 m, .slice pd nd cd, .int .i64 r] 29))).cell? ⟨w1.heap.size, 2, none⟩ = some (.int .i64 r) := cell_of_row _ _ 2 _ _ _ rB12_.out
  clear A_0_ A_1_ A_2_ R_0_ R_1_ R_2_ B_0_ B_1_ B_2_
  have A_0_ : ((w1.alloc (.cells #[.int .i64 m, .slice pd nd cd, .int .i64 r] 29))).cell? ⟨W.heap.size, 0, none⟩ = some (.int .i64 m) := cell_of_row _ _ 0 _ _ _ rA8_.out
  have A_1_ : ((w1.alloc (.cells #[.int .i64 m, .slice pd nd cd, .int .i64 r] 29))).cell? ⟨W.heap.size, 1, none⟩ = some (.slice a0 n0 cap0) := cell_of_row _ _ 1 _ _ _ rA8_.out
  have A_2_ : ((w1.alloc (.cells #[.int .i64 m, .slice pd nd cd, .int .i64 r] 29))).cell? ⟨W.heap.size, 2, none⟩ = some (.int .i64 r) := cell_of_row _ _ 2 _ _ _ rA8_.out
  go_wp2_with fail
  go_at_call 9
  refine ((specSnd _ m r _ xs (HX.out.grow G11_.out) HL.out).mono (bpost_yes HV.out)).mono ?_
  rintro e w2 ⟨rfl, g⟩
  have szw2 := g.size
  try simp only [World.size_alloc] at szw2
  try simp only [World.size_setCell] at szw2
  clear A_0_ A_1_ A_2_
  have rA13_ := Lib.hid (show (w2).heap[W.heap.size]? = some (.cells #[.int .i64 m, .slice a0 n0 cap0, .int .i64 r] 29 (0, 0)) from row_held g rA8_.out)
  clear rA8_
  have rR14_ := Lib.hid (show (w2).heap[W.heap.size + 1]? = some (.cells #[.int .i64 0, .slice none 0 0, .int .i64 0] 29 (0, 0)) from row_held g rR9_.out)
  clear rR9_
  have rB15_ := Lib.hid (show (w2).heap[w1.heap.size]? = some (.cells #[.int .i64 m, .slice pd nd cd, .int .i64 r] 29 (0, 0)) from row_held g rB12_.out)
  clear rB12_
  have oC16_ := Lib.hid (show OwU (w2) (W.heap.size + 1 + 1) (w1.heap.size) [] [own shFrame (.slice pd nd cd) xs] from OwU.grow oC10_.out g)
  clear oC10_
  have G17_ := Lib.hid (show (W).grownBy (w2) none from gby_trans G11_.out g)
  clear g
  have A_0_ : (w2).cell? ⟨W.heap.size, 0, none⟩ = some (.int .i64 m) := cell_of_row _ _ 0 _ _ _ rA13_.out
  have A_1_ : (w2).cell? ⟨W.heap.size, 1, none⟩ = some (.slice a0 n0 cap0) := cell_of_row _ _ 1 _ _ _ rA13_.out
  have A_2_ : (w2).cell? ⟨W.heap.size, 2, none⟩ = some (.int .i64 r) := cell_of_row _ _ 2 _ _ _ rA13_.out
  have R_0_ : (w2).cell? ⟨W.heap.size + 1, 0, none⟩ = some (.int .i64 0) := cell_of_row _ _ 0 _ _ _ rR14_.out
  have R_1_ : (w2).cell? ⟨W.heap.size + 1, 1, none⟩ = some (.slice none 0 0) := cell_of_row _ _ 1 _ _ _ rR14_.out
  have R_2_ : (w2).cell? ⟨W.heap.size + 1, 2, none⟩ = some (.int .i64 0) := cell_of_row _ _ 2 _ _ _ rR14_.out
  have B_0_ : (w2).cell? ⟨w1.heap.size, 0, none⟩ = some (.int .i64 m) := cell_of_row _ _ 0 _ _ _ rB15_.out
  have B_1_ : (w2).cell? ⟨w1.heap.size, 1, none⟩ = some (.slice pd nd cd) := cell_of_row _ _ 1 _ _ _ rB15_.out
  have B_2_ : (w2).cell? ⟨w1.heap.size, 2, none⟩ = some (.int .i64 r) := cell_of_row _ _ 2 _ _ _ rB15_.out
  obtain ⟨gd, od, hpd_, hnd_, hcd_⟩ := rd_some (OwU.rd oC16_.out) (by have := HE.out; omega)
  subst hpd_
  obtain rfl : n0 = nd := by have := HE.out; omega
  clear hnd_
  go_wp2
  go_loopw [7] (fun i wr => ∃ k : Nat, i = .int .i64 (k : Int) ∧ k ≤ q ∧ (w2).grownBy wr none) (fun i _ => n0 - (intOf i).toNat)
  case atStart => exact ⟨0, rfl, by omega, gby_refl _ _⟩
  case round =>
    clear A_0_ A_1_ A_2_ R_0_ R_1_ R_2_ B_0_ B_1_ B_2_
    obtain ⟨k, rfl, hk, hg⟩ := hrel
    have szrwr := hg.size
    try simp only [World.size_alloc] at szrwr
    try simp only [World.size_setCell] at szrwr
    have szr_ := szrwr
    have rA18_ := Lib.hid (show (wr).heap[W.heap.size]? = some (.cells #[.int .i64 m, .slice a0 n0 cap0, .int .i64 r] 29 (0, 0)) from row_held hg rA13_.out)
    clear rA13_
    have rR19_ := Lib.hid (show (wr).heap[W.heap.size + 1]? = some (.cells #[.int .i64 0, .slice none 0 0, .int .i64 0] 29 (0, 0)) from row_held hg rR14_.out)
    clear rR14_
    have rB20_ := Lib.hid (show (wr).heap[w1.heap.size]? = some (.cells #[.int .i64 m, .slice (some ⟨gd, od, none⟩) n0 cd, .int .i64 r] 29 (0, 0)) from row_held hg rB15_.out)
    clear rB15_
    have oC21_ := Lib.hid (show OwU (wr) (W.heap.size + 1 + 1) (w1.heap.size) [] [own shFrame (.slice (some ⟨gd, od, none⟩) n0 cd) xs] from OwU.grow oC16_.out hg)
    clear oC16_
    have G22_ := Lib.hid (show (W).grownBy (wr) none from gby_trans G17_.out hg)
    have HTB_ := Lib.hid hg
    clear hg
    have A_0_ : (wr).cell? ⟨W.heap.size, 0, none⟩ = some (.int .i64 m) := cell_of_row _ _ 0 _ _ _ rA18_.out
    have A_1_ : (wr).cell? ⟨W.heap.size, 1, none⟩ = some (.slice a0 n0 cap0) := cell_of_row _ _ 1 _ _ _ rA18_.out
    have A_2_ : (wr).cell? ⟨W.heap.size, 2, none⟩ = some (.int .i64 r) := cell_of_row _ _ 2 _ _ _ rA18_.out
    have R_0_ : (wr).cell? ⟨W.heap.size + 1, 0, none⟩ = some (.int .i64 0) := cell_of_row _ _ 0 _ _ _ rR19_.out
    have R_1_ : (wr).cell? ⟨W.heap.size + 1, 1, none⟩ = some (.slice none 0 0) := cell_of_row _ _ 1 _ _ _ rR19_.out
    have R_2_ : (wr).cell? ⟨W.heap.size + 1, 2, none⟩ = some (.int .i64 0) := cell_of_row _ _ 2 _ _ _ rR19_.out
    have B_0_ : (wr).cell? ⟨w1.heap.size, 0, none⟩ = some (.int .i64 m) := cell_of_row _ _ 0 _ _ _ rB20_.out
    have B_1_ : (wr).cell? ⟨w1.heap.size, 1, none⟩ = some (.slice (some ⟨gd, od, none⟩) n0 cd) := cell_of_row _ _ 1 _ _ _ rB20_.out
    have B_2_ : (wr).cell? ⟨w1.heap.size, 2, none⟩ = some (.int .i64 r) := cell_of_row _ _ 2 _ _ _ rB20_.out
    have hk0 : (0 : Int) ≤ (k : Int) := by omega
    have htk : ((k : Int)).toNat = k := by omega
    have hki : (k : Int) < (n0 : Int) := by omega
    obtain ⟨ab, ao, ha_, hce_⟩ := rd_el HX.out (by have := HE.out; omega)
    subst ha_
    have HCE := Lib.hid (show ∀ k, k < n0 → _ from fun k hk => hce_ k (by have := HE.out; omega))
    have HS := HL
    clear hce_
    have hq_ : k < n0 := by omega
    obtain ⟨cs_, hat_, hrd_⟩ := HCE.out k (by omega)
    obtain ⟨xk, hx_⟩ : ∃ x, x = xs.getD k default := ⟨_, rfl⟩
    rw [← hx_] at hrd_
    have hzk_ : szL shI xk.f1 ≤ 1048576 := by have q1 := szL_at shFrame xs k (by have := HE.out; omega); rw [← hx_] at q1; exact Nat.le_trans q1 HS.out
    have HXk := Lib.hid (show xk = fr xs k from hx_)
    obtain ⟨v1_, rfl, r1_⟩ := hrd_
    obtain ⟨pk, nk, ck, hv_⟩ := RdL.form r1_
    subst hv_
    have Rk := Lib.hid r1_
    have HEk0 := Lib.hid (show W.cell? ⟨ab, ao + k * 2, none⟩ = some (.int .i64 xk.f0) from at_cell (j := 0) hat_ rfl)
    have HEk1 := Lib.hid (show W.cell? ⟨ab, ao + k * 2 + 1, none⟩ = some (.slice pk nk ck) from at_cell (j := 1) hat_ rfl)
    clear hat_ r1_ hx_ hq_
    have ek0_ := (G22_.out).cell HEk0.out (by simp)
    have ek1_ := (G22_.out).cell HEk1.out (by simp)
    by_cases hlt : k < q
    · skip
      have ne_ : (xk.f0 == seq) = false := by have q := HQ.out.2.2 k hlt; rw [← HXk.out] at q; simpa using q
      go_wp2
      refine ⟨⟨k + 1, by go_num, by omega, HTB_.out⟩, by simp [intOf]; omega⟩
    · obtain rfl : k = q := by omega
      have eq_ : (xk.f0 == seq) = true := by have q := HQ.out.2.1; rw [← HXk.out] at q; simpa using q
      have hs1_ : (0 : Int) ≤ (k : Int) + 1 := by omega
      have hs2_ : (k : Int) + 1 ≤ (n0 : Int) := by omega
      have hs3_ : (n0 : Int) ≤ (cd : Int) := by omega
      have ht1_ : ((k : Int) + 1).toNat = k + 1 := by omega
      have HW1 := Lib.hid (show IntKind.i64.wrap ((k : Int) + 1) = (k : Int) + 1 from IntWalk.i64_in _ (by omega))
      have HW2 := Lib.hid (show IntKind.i64.wrap (r - (k : Int)) = r - (k : Int) from IntWalk.i64_in _ (by omega))
      have HW3 := Lib.hid (show IntKind.i64.wrap (r - (k : Int) - 1) = r - (k : Int) - 1 from IntWalk.i64_in _ (by omega))
      clear A_0_ A_1_ A_2_ R_0_ R_1_ R_2_ B_0_ B_1_ B_2_ ek0_ ek1_
      have A_0_ : (wr).cell? ⟨W.heap.size, 0, none⟩ = some (.int .i64 m) := cell_of_row _ _ 0 _ _ _ rA18_.out
      have A_1_ : (wr).cell? ⟨W.heap.size, 1, none⟩ = some (.slice (some ⟨ab, ao, none⟩) n0 cap0) := cell_of_row _ _ 1 _ _ _ rA18_.out
      have A_2_ : (wr).cell? ⟨W.heap.size, 2, none⟩ = some (.int .i64 r) := cell_of_row _ _ 2 _ _ _ rA18_.out
      have R_0_ : (wr).cell? ⟨W.heap.size + 1, 0, none⟩ = some (.int .i64 0) := cell_of_row _ _ 0 _ _ _ rR19_.out
      have R_1_ : (wr).cell? ⟨W.heap.size + 1, 1, none⟩ = some (.slice none 0 0) := cell_of_row _ _ 1 _ _ _ rR19_.out
      have R_2_ : (wr).cell? ⟨W.heap.size + 1, 2, none⟩ = some (.int .i64 0) := cell_of_row _ _ 2 _ _ _ rR19_.out
      have Rf0_ : (wr).frozen? ⟨W.heap.size + 1, 0, none⟩ = false := frozen_of_row _ _ 0 _ _ rR19_.out
      have Rf1_ : (wr).frozen? ⟨W.heap.size + 1, 1, none⟩ = false := frozen_of_row _ _ 1 _ _ rR19_.out
      have Rf2_ : (wr).frozen? ⟨W.heap.size + 1, 2, none⟩ = false := frozen_of_row _ _ 2 _ _ rR19_.out
      have B_0_ : (wr).cell? ⟨w1.heap.size, 0, none⟩ = some (.int .i64 m) := cell_of_row _ _ 0 _ _ _ rB20_.out
      have B_1_ : (wr).cell? ⟨w1.heap.size, 1, none⟩ = some (.slice (some ⟨gd, od, none⟩) n0 cd) := cell_of_row _ _ 1 _ _ _ rB20_.out
      have B_2_ : (wr).cell? ⟨w1.heap.size, 2, none⟩ = some (.int .i64 r) := cell_of_row _ _ 2 _ _ _ rB20_.out
      have Bf0_ : (wr).frozen? ⟨w1.heap.size, 0, none⟩ = false := frozen_of_row _ _ 0 _ _ rB20_.out
      have Bf1_ : (wr).frozen? ⟨w1.heap.size, 1, none⟩ = false := frozen_of_row _ _ 1 _ _ rB20_.out
      have Bf2_ : (wr).frozen? ⟨w1.heap.size, 2, none⟩ = false := frozen_of_row _ _ 2 _ _ rB20_.out
      have ek0_ := (G22_.out).cell HEk0.out (by simp)
      have ek1_ := (G22_.out).cell HEk1.out (by simp)
      have hlo_ : W.heap.size ≤ W.heap.size + 1 + 1 := by omega
      have hw1_ := HW1.out
      have hw2_ := HW2.out
      have hw3_ := HW3.out
      go_wp2
      all_goals
        clear hw1_ hw2_ hw3_
        by_cases hz_ : cd = k + 1
        · by_cases hm_ : (k : Int) + 1 < r
          · first
            | (exfalso; omega)
            | (have hM_ : max 0 (r - (k : Int) - 1) = (r - (k : Int) - 1) := by omega
               have e_ : xs.length - (k + 1) = (n0 - (k + 1)) := by have := HE.out; omega
               have q_ := owU_drop oC21_.out (k + 1) od 0 (.inr (by have := HE.out; omega)) (by have := HE.out; omega)
               rw [e_] at q_
               have HD_ := Lib.hid q_
               clear q_ e_
               rw [hM_]
               clear hM_
               refine bodyPost_ret (v := .tuple #[.agg #[.int .i64 m, .slice (some ⟨gd, od, none⟩) (n0 - (k + 1)) 0, .int .i64 (r - (k : Int) - 1)], .bool true]) (by simp [results, go_sem, R_0_, R_1_, R_2_]; done) rfl ⟨_, rfl, ?_, ?_⟩
               · refine OwU.wide (lo := W.heap.size + 1 + 1) (hi := w1.heap.size) hlo_ (by simp only [World.size_setCell]; omega) ?_
                 iterate 5 (with_reducible refine OwU.keep (chg_one _ _ _ _) (by omega) ?_)
                 exact HD_.out
               · exact (gby_setnew (gby_setnew (gby_setnew (gby_setnew (gby_setnew G22_.out _ (by dsimp only; omega) _) _ (by dsimp only; omega) _) _ (by dsimp only; omega) _) _ (by dsimp only; omega) _) _ (by dsimp only; omega) _))
          · first
            | (exfalso; omega)
            | (have hM_ : max 0 (r - (k : Int) - 1) = 0 := by omega
               have e_ : xs.length - (k + 1) = (n0 - (k + 1)) := by have := HE.out; omega
               have q_ := owU_drop oC21_.out (k + 1) od 0 (.inr (by have := HE.out; omega)) (by have := HE.out; omega)
               rw [e_] at q_
               have HD_ := Lib.hid q_
               clear q_ e_
               rw [hM_]
               clear hM_
               refine bodyPost_ret (v := .tuple #[.agg #[.int .i64 m, .slice (some ⟨gd, od, none⟩) (n0 - (k + 1)) 0, .int .i64 0], .bool true]) (by simp [results, go_sem, R_0_, R_1_, R_2_]; done) rfl ⟨_, rfl, ?_, ?_⟩
               · refine OwU.wide (lo := W.heap.size + 1 + 1) (hi := w1.heap.size) hlo_ (by simp only [World.size_setCell]; omega) ?_
                 iterate 5 (with_reducible refine OwU.keep (chg_one _ _ _ _) (by omega) ?_)
                 exact HD_.out
               · exact (gby_setnew (gby_setnew (gby_setnew (gby_setnew (gby_setnew G22_.out _ (by dsimp only; omega) _) _ (by dsimp only; omega) _) _ (by dsimp only; omega) _) _ (by dsimp only; omega) _) _ (by dsimp only; omega) _))
        · by_cases hm_ : (k : Int) + 1 < r
          · first
            | (exfalso; omega)
            | (have hM_ : max 0 (r - (k : Int) - 1) = (r - (k : Int) - 1) := by omega
               have e_ : xs.length - (k + 1) = (n0 - (k + 1)) := by have := HE.out; omega
               have q_ := owU_drop oC21_.out (k + 1) (od + (k + 1) * 2) (cd - (k + 1)) (.inl rfl) (by have := HE.out; omega)
               rw [e_] at q_
               have HD_ := Lib.hid q_
               clear q_ e_
               rw [hM_]
               clear hM_
               refine bodyPost_ret (v := .tuple #[.agg #[.int .i64 m, .slice (some ⟨gd, (od + (k + 1) * 2), none⟩) (n0 - (k + 1)) (cd - (k + 1)), .int .i64 (r - (k : Int) - 1)], .bool true]) (by simp [results, go_sem, R_0_, R_1_, R_2_]; done) rfl ⟨_, rfl, ?_, ?_⟩
               · refine OwU.wide (lo := W.heap.size + 1 + 1) (hi := w1.heap.size) hlo_ (by simp only [World.size_setCell]; omega) ?_
                 iterate 5 (with_reducible refine OwU.keep (chg_one _ _ _ _) (by omega) ?_)
                 exact HD_.out
               · exact (gby_setnew (gby_setnew (gby_setnew (gby_setnew (gby_setnew G22_.out _ (by dsimp only; omega) _) _ (by dsimp only; omega) _) _ (by dsimp only; omega) _) _ (by dsimp only; omega) _) _ (by dsimp only; omega) _))
          · first
            | (exfalso; omega)
            | (have hM_ : max 0 (r - (k : Int) - 1) = 0 := by omega
               have e_ : xs.length - (k + 1) = (n0 - (k + 1)) := by have := HE.out; omega
               have q_ := owU_drop oC21_.out (k + 1) (od + (k + 1) * 2) (cd - (k + 1)) (.inl rfl) (by have := HE.out; omega)
               rw [e_] at q_
               have HD_ := Lib.hid q_
               clear q_ e_
               rw [hM_]
               clear hM_
               refine bodyPost_ret (v := .tuple #[.agg #[.int .i64 m, .slice (some ⟨gd, (od + (k + 1) * 2), none⟩) (n0 - (k + 1)) (cd - (k + 1)), .int .i64 0], .bool true]) (by simp [results, go_sem, R_0_, R_1_, R_2_]; done) rfl ⟨_, rfl, ?_, ?_⟩
               · refine OwU.wide (lo := W.heap.size + 1 + 1) (hi := w1.heap.size) hlo_ (by simp only [World.size_setCell]; omega) ?_
                 iterate 5 (with_reducible refine OwU.keep (chg_one _ _ _ _) (by omega) ?_)
                 exact HD_.out
               · exact (gby_setnew (gby_setnew (gby_setnew (gby_setnew (gby_setnew G22_.out _ (by dsimp only; omega) _) _ (by dsimp only; omega) _) _ (by dsimp only; omega) _) _ (by dsimp only; omega) _) _ (by dsimp only; omega) _))

set_option maxRecDepth 8000 in
set_option maxHeartbeats 4000000 in
theorem implAck_bad (W : World) (m r : Int) (v : Value) (xs : List DFrame) (H : RdL shFrame W v xs) (hl : szL shFrame xs ≤ 1048576) (seq : Int) (hv : ¬ SndP m r xs) : Calls Try.prog 23 #[.agg #[.int .i64 m, v, .int .i64 r], .int .i64 seq] W (ResITakeAck m xs r false W) := by
  have HV := Lib.hid hv
  clear hv
  have HX := Lib.hid H
  have HL := Lib.hid hl
  obtain ⟨a0, n0, cap0, rfl⟩ := RdL.form H
  have hn0 : n0 = xs.length := by obtain ⟨_, _, e, _⟩ := H; injection e
  have HE := Lib.hid hn0
  have hlx : n0 ≤ 1048576 := by have := szL_len shFrame xs; omega
  clear H hl hn0
  go_enter Try.func23, Try.ntmps23
  have rA1_ := Lib.hid (show (((W.alloc (.cells #[.int .i64 m, .slice a0 n0 cap0, .int .i64 r] 29)).alloc (.cells #[.int .i64 0, .slice none 0 0, .int .i64 0] 29))).heap[W.heap.size]? = some (.cells #[.int .i64 m, .slice a0 n0 cap0, .int .i64 r] 29 (0, 0)) from by rw [heap_alloc_old _ _ (by simp only [World.size_alloc]; omega)]; exact heap_alloc_new _ _)
  have rR2_ := Lib.hid (show (((W.alloc (.cells #[.int .i64 m, .slice a0 n0 cap0, .int .i64 r] 29)).alloc (.cells #[.int .i64 0, .slice none 0 0, .int .i64 0] 29))).heap[W.heap.size + 1]? = some (.cells #[.int .i64 0, .slice none 0 0, .int .i64 0] 29 (0, 0)) from by exact heap_pair _ _ _)
  have G3_ := Lib.hid (show (W).grownBy (((W.alloc (.cells #[.int .i64 m, .slice a0 n0 cap0, .int .i64 r] 29)).alloc (.cells #[.int .i64 0, .slice none 0 0, .int .i64 0] 29))) none from (gby_alloc (gby_alloc (gby_refl _ _) _) _))
  have A_0_ : (((W.alloc (.cells #[.int .i64 m, .slice a0 n0 cap0, .int .i64 r] 29)).alloc (.cells #[.int .i64 0, .slice none 0 0, .int .i64 0] 29))).cell? ⟨W.heap.size, 0, none⟩ = some (.int .i64 m) := cell_of_row _ _ 0 _ _ _ rA1_.out
  have A_1_ : (((W.alloc (.cells #[.int .i64 m, .slice a0 n0 cap0, .int .i64 r] 29)).alloc (.cells #[.int .i64 0, .slice none 0 0, .int .i64 0] 29))).cell? ⟨W.heap.size, 1, none⟩ = some (.slice a0 n0 cap0) := cell_of_row _ _ 1 _ _ _ rA1_.out
  have A_2_ : (((W.alloc (.cells #[.int .i64 m, .slice a0 n0 cap0, .int .i64 r] 29)).alloc (.cells #[.int .i64 0, .slice none 0 0, .int .i64 0] 29))).cell? ⟨W.heap.size, 2, none⟩ = some (.int .i64 r) := cell_of_row _ _ 2 _ _ _ rA1_.out
  have R_0_ : (((W.alloc (.cells #[.int .i64 m, .slice a0 n0 cap0, .int .i64 r] 29)).alloc (.cells #[.int .i64 0, .slice none 0 0, .int .i64 0] 29))).cell? ⟨W.heap.size + 1, 0, none⟩ = some (.int .i64 0) := cell_of_row _ _ 0 _ _ _ rR2_.out
  have R_1_ : (((W.alloc (.cells #[.int .i64 m, .slice a0 n0 cap0, .int .i64 r] 29)).alloc (.cells #[.int .i64 0, .slice none 0 0, .int .i64 0] 29))).cell? ⟨W.heap.size + 1, 1, none⟩ = some (.slice none 0 0) := cell_of_row _ _ 1 _ _ _ rR2_.out
  have R_2_ : (((W.alloc (.cells #[.int .i64 m, .slice a0 n0 cap0, .int .i64 r] 29)).alloc (.cells #[.int .i64 0, .slice none 0 0, .int .i64 0] 29))).cell? ⟨W.heap.size + 1, 2, none⟩ = some (.int .i64 0) := cell_of_row _ _ 2 _ _ _ rR2_.out
  go_wp2_with fail
  go_at_call 41
  refine (copiedSnd_d _ m r _ xs (HX.out.grow G3_.out) HL.out).mono ?_
  rintro e w1 ⟨d_, rfl, o, g⟩
  have szw1 := g.size
  try simp only [World.size_alloc] at szw1 o
  try unfold vSender
  clear A_0_ A_1_ A_2_ R_0_ R_1_ R_2_
  have rA4_ := Lib.hid (show (w1).heap[W.heap.size]? = some (.cells #[.int .i64 m, .slice a0 n0 cap0, .int .i64 r] 29 (0, 0)) from row_held g rA1_.out)
  clear rA1_
  have rR5_ := Lib.hid (show (w1).heap[W.heap.size + 1]? = some (.cells #[.int .i64 0, .slice none 0 0, .int .i64 0] 29 (0, 0)) from row_held g rR2_.out)
  clear rR2_
  have G6_ := Lib.hid (show (W).grownBy (w1) none from gby_trans G3_.out g)
  obtain ⟨pd, nd, cd, hv_⟩ := RdL.form (OwU.rd o)
  subst hv_
  clear g
  have oC7_ := Lib.hid (show OwU (w1) (W.heap.size + 1 + 1) (w1.heap.size) [] [own shFrame (.slice pd nd cd) xs] from o)
  clear o
  have A_0_ : (w1).cell? ⟨W.heap.size, 0, none⟩ = some (.int .i64 m) := cell_of_row _ _ 0 _ _ _ rA4_.out
  have A_1_ : (w1).cell? ⟨W.heap.size, 1, none⟩ = some (.slice a0 n0 cap0) := cell_of_row _ _ 1 _ _ _ rA4_.out
  have A_2_ : (w1).cell? ⟨W.heap.size, 2, none⟩ = some (.int .i64 r) := cell_of_row _ _ 2 _ _ _ rA4_.out
  have Af0_ : (w1).frozen? ⟨W.heap.size, 0, none⟩ = false := frozen_of_row _ _ 0 _ _ rA4_.out
  have Af1_ : (w1).frozen? ⟨W.heap.size, 1, none⟩ = false := frozen_of_row _ _ 1 _ _ rA4_.out
  have Af2_ : (w1).frozen? ⟨W.heap.size, 2, none⟩ = false := frozen_of_row _ _ 2 _ _ rA4_.out
  have R_0_ : (w1).cell? ⟨W.heap.size + 1, 0, none⟩ = some (.int .i64 0) := cell_of_row _ _ 0 _ _ _ rR5_.out
  have R_1_ : (w1).cell? ⟨W.heap.size + 1, 1, none⟩ = some (.slice none 0 0) := cell_of_row _ _ 1 _ _ _ rR5_.out
  have R_2_ : (w1).cell? ⟨W.heap.size + 1, 2, none⟩ = some (.int .i64 0) := cell_of_row _ _ 2 _ _ _ rR5_.out
  have zA_ := Lib.hid (show ((((w1.setCell ⟨W.heap.size, 0, none⟩ (.int .i64 m)).setCell ⟨W.heap.size, 1, none⟩ (.slice pd nd cd)).setCell ⟨W.heap.size, 2, none⟩ (.int .i64 r))).heap[W.heap.size]? = some (.cells #[.int .i64 m, .slice pd nd cd, .int .i64 r] 29 (0, 0)) from (heap_setCell_same _ _ 2 _ _ _ (heap_setCell_same _ _ 1 _ _ _ (heap_setCell_same _ _ 0 _ _ _ rA4_.out))))
  have z0_ : ((((w1.setCell ⟨W.heap.size, 0, none⟩ (.int .i64 m)).setCell ⟨W.heap.size, 1, none⟩ (.slice pd nd cd)).setCell ⟨W.heap.size, 2, none⟩ (.int .i64 r))).cell? ⟨W.heap.size, 0, none⟩ = some (.int .i64 m) := cell_of_row _ _ 0 _ _ _ zA_.out
  have z1_ : ((((w1.setCell ⟨W.heap.size, 0, none⟩ (.int .i64 m)).setCell ⟨W.heap.size, 1, none⟩ (.slice pd nd cd)).setCell ⟨W.heap.size, 2, none⟩ (.int .i64 r))).cell? ⟨W.heap.size, 1, none⟩ = some (.slice pd nd cd) := cell_of_row _ _ 1 _ _ _ zA_.out
  have z2_ : ((((w1.setCell ⟨W.heap.size, 0, none⟩ (.int .i64 m)).setCell ⟨W.heap.size, 1, none⟩ (.slice pd nd cd)).setCell ⟨W.heap.size, 2, none⟩ (.int .i64 r))).cell? ⟨W.heap.size, 2, none⟩ = some (.int .i64 r) := cell_of_row _ _ 2 _ _ _ zA_.out
  go_wp2_with fail
  go_at_call 11
  clear zA_ z0_ z1_ z2_
  clear A_0_ A_1_ A_2_ Af0_ Af1_ Af2_ R_0_ R_1_ R_2_
  have rA8_ := Lib.hid (show ((((w1.setCell ⟨W.heap.size, 0, none⟩ (.int .i64 m)).setCell ⟨W.heap.size, 1, none⟩ (.slice pd nd cd)).setCell ⟨W.heap.size, 2, none⟩ (.int .i64 r))).heap[W.heap.size]? = some (.cells #[.int .i64 m, .slice pd nd cd, .int .i64 r] 29 (0, 0)) from (heap_setCell_same _ _ 2 _ _ _ (heap_setCell_same _ _ 1 _ _ _ (heap_setCell_same _ _ 0 _ _ _ rA4_.out))))
  have rR9_ := Lib.hid (show ((((w1.setCell ⟨W.heap.size, 0, none⟩ (.int .i64 m)).setCell ⟨W.heap.size, 1, none⟩ (.slice pd nd cd)).setCell ⟨W.heap.size, 2, none⟩ (.int .i64 r))).heap[W.heap.size + 1]? = some (.cells #[.int .i64 0, .slice none 0 0, .int .i64 0] 29 (0, 0)) from (set_far (set_far (set_far rR5_.out (by dsimp only; omega)) (by dsimp only; omega)) (by dsimp only; omega)))
  have oC10_ := Lib.hid (show OwU ((((w1.setCell ⟨W.heap.size, 0, none⟩ (.int .i64 m)).setCell ⟨W.heap.size, 1, none⟩ (.slice pd nd cd)).setCell ⟨W.heap.size, 2, none⟩ (.int .i64 r))) (W.heap.size + 1 + 1) (w1.heap.size) [] [own shFrame (.slice pd nd cd) xs] from (OwU.keep (chg_one _ (W.heap.size) 2 (.int .i64 r)) (by omega) (OwU.keep (chg_one _ (W.heap.size) 1 (.slice pd nd cd)) (by omega) (OwU.keep (chg_one _ (W.heap.size) 0 (.int .i64 m)) (by omega) oC7_.out))))
  have G11_ := Lib.hid (show (W).grownBy ((((w1.setCell ⟨W.heap.size, 0, none⟩ (.int .i64 m)).setCell ⟨W.heap.size, 1, none⟩ (.slice pd nd cd)).setCell ⟨W.heap.size, 2, none⟩ (.int .i64 r))) none from (gby_setnew (gby_setnew (gby_setnew G6_.out _ (by dsimp only; omega) _) _ (by dsimp only; omega) _) _ (by dsimp only; omega) _))
  have hszwc_ : ((((w1.setCell ⟨W.heap.size, 0, none⟩ (.int .i64 m)).setCell ⟨W.heap.size, 1, none⟩ (.slice pd nd cd)).setCell ⟨W.heap.size, 2, none⟩ (.int .i64 r))).heap.size = (w1).heap.size := by simp only [World.size_setCell]
  generalize (((w1.setCell ⟨W.heap.size, 0, none⟩ (.int .i64 m)).setCell ⟨W.heap.size, 1, none⟩ (.slice pd nd cd)).setCell ⟨W.heap.size, 2, none⟩ (.int .i64 r)) = wc at rA8_ rR9_ oC10_ G11_ hszwc_ ⊢
  try simp only [World.size_alloc] at hszwc_
  clear rA4_
  clear rR5_
  clear oC7_
  refine ((implSnd _ m r _ xs (OwU.rd oC10_.out) HL.out).mono (bpost_no HV.out)).mono ?_
  rintro e w2 ⟨rfl, g⟩
  have szw2 := g.size
  have rA12_ := Lib.hid (show (w2).heap[W.heap.size]? = some (.cells #[.int .i64 m, .slice pd nd cd, .int .i64 r] 29 (0, 0)) from row_held g rA8_.out)
  clear rA8_
  have rR13_ := Lib.hid (show (w2).heap[W.heap.size + 1]? = some (.cells #[.int .i64 0, .slice none 0 0, .int .i64 0] 29 (0, 0)) from row_held g rR9_.out)
  clear rR9_
  have oC14_ := Lib.hid (show OwU (w2) (W.heap.size + 1 + 1) (w1.heap.size) [] [own shFrame (.slice pd nd cd) xs] from OwU.grow oC10_.out g)
  clear oC10_
  have G15_ := Lib.hid (show (W).grownBy (w2) none from gby_trans G11_.out g)
  clear g
  have A_0_ : (w2).cell? ⟨W.heap.size, 0, none⟩ = some (.int .i64 m) := cell_of_row _ _ 0 _ _ _ rA12_.out
  have A_1_ : (w2).cell? ⟨W.heap.size, 1, none⟩ = some (.slice pd nd cd) := cell_of_row _ _ 1 _ _ _ rA12_.out
  have A_2_ : (w2).cell? ⟨W.heap.size, 2, none⟩ = some (.int .i64 r) := cell_of_row _ _ 2 _ _ _ rA12_.out
  have R_0_ : (w2).cell? ⟨W.heap.size + 1, 0, none⟩ = some (.int .i64 0) := cell_of_row _ _ 0 _ _ _ rR13_.out
  have R_1_ : (w2).cell? ⟨W.heap.size + 1, 1, none⟩ = some (.slice none 0 0) := cell_of_row _ _ 1 _ _ _ rR13_.out
  have R_2_ : (w2).cell? ⟨W.heap.size + 1, 2, none⟩ = some (.int .i64 0) := cell_of_row _ _ 2 _ _ _ rR13_.out
  clear A_0_ A_1_ A_2_ R_0_ R_1_ R_2_
  have A_0_ : (w2).cell? ⟨W.heap.size, 0, none⟩ = some (.int .i64 m) := cell_of_row _ _ 0 _ _ _ rA12_.out
  have A_1_ : (w2).cell? ⟨W.heap.size, 1, none⟩ = some (.slice pd nd cd) := cell_of_row _ _ 1 _ _ _ rA12_.out
  have A_2_ : (w2).cell? ⟨W.heap.size, 2, none⟩ = some (.int .i64 r) := cell_of_row _ _ 2 _ _ _ rA12_.out
  have R_0_ : (w2).cell? ⟨W.heap.size + 1, 0, none⟩ = some (.int .i64 0) := cell_of_row _ _ 0 _ _ _ rR13_.out
  have R_1_ : (w2).cell? ⟨W.heap.size + 1, 1, none⟩ = some (.slice none 0 0) := cell_of_row _ _ 1 _ _ _ rR13_.out
  have R_2_ : (w2).cell? ⟨W.heap.size + 1, 2, none⟩ = some (.int .i64 0) := cell_of_row _ _ 2 _ _ _ rR13_.out
  have Rf0_ : (w2).frozen? ⟨W.heap.size + 1, 0, none⟩ = false := frozen_of_row _ _ 0 _ _ rR13_.out
  have Rf1_ : (w2).frozen? ⟨W.heap.size + 1, 1, none⟩ = false := frozen_of_row _ _ 1 _ _ rR13_.out
  have Rf2_ : (w2).frozen? ⟨W.heap.size + 1, 2, none⟩ = false := frozen_of_row _ _ 2 _ _ rR13_.out
  have hlo_ : W.heap.size ≤ W.heap.size + 1 + 1 := by omega
  go_wp2
  refine bodyPost_ret (v := .tuple #[.agg #[.int .i64 m, .slice pd nd cd, .int .i64 r], .bool false]) (by simp [results, go_sem, R_0_, R_1_, R_2_]) rfl ⟨_, rfl, ?_, ?_⟩
  · exact OwU.wide (lo := W.heap.size + 1 + 1) (hi := w1.heap.size) hlo_ (by simp only [World.size_setCell]; omega) (OwU.keep (chg_one _ (W.heap.size + 1) 2 (.int .i64 r)) (by omega) (OwU.keep (chg_one _ (W.heap.size + 1) 1 (.slice pd nd cd)) (by omega) (OwU.keep (chg_one _ (W.heap.size + 1) 0 (.int .i64 m)) (by omega) oC14_.out)))
  · exact (gby_setnew (gby_setnew (gby_setnew G15_.out _ (by dsimp only; omega) _) _ (by dsimp only; omega) _) _ (by dsimp only; omega) _)

set_option maxRecDepth 8000 in
set_option maxHeartbeats 4000000 in
theorem implAck_miss (W : World) (m r : Int) (v : Value) (xs : List DFrame) (H : RdL shFrame W v xs) (hl : szL shFrame xs ≤ 1048576) (seq : Int) (hv : SndP m r xs) (hq : NoAck xs seq) : Calls Try.prog 23 #[.agg #[.int .i64 m, v, .int .i64 r], .int .i64 seq] W (ResITakeAck m xs r false W) := by
  have HV := Lib.hid hv
  have HQ := Lib.hid hq
  clear hv hq
  have HX := Lib.hid H
  have HL := Lib.hid hl
  obtain ⟨a0, n0, cap0, rfl⟩ := RdL.form H
  have hn0 : n0 = xs.length := by obtain ⟨_, _, e, _⟩ := H; injection e
  have HE := Lib.hid hn0
  have hlx : n0 ≤ 1048576 := by have := szL_len shFrame xs; omega
  clear H hl hn0
  go_enter Try.func23, Try.ntmps23
  have rA1_ := Lib.hid (show (((W.alloc (.cells #[.int .i64 m, .slice a0 n0 cap0, .int .i64 r] 29)).alloc (.cells #[.int .i64 0, .slice none 0 0, .int .i64 0] 29))).heap[W.heap.size]? = some (.cells #[.int .i64 m, .slice a0 n0 cap0, .int .i64 r] 29 (0, 0)) from by rw [heap_alloc_old _ _ (by simp only [World.size_alloc]; omega)]; exact heap_alloc_new _ _)
  have rR2_ := Lib.hid (show (((W.alloc (.cells #[.int .i64 m, .slice a0 n0 cap0, .int .i64 r] 29)).alloc (.cells #[.int .i64 0, .slice none 0 0, .int .i64 0] 29))).heap[W.heap.size + 1]? = some (.cells #[.int .i64 0, .slice none 0 0, .int .i64 0] 29 (0, 0)) from by exact heap_pair _ _ _)
  have G3_ := Lib.hid (show (W).grownBy (((W.alloc (.cells #[.int .i64 m, .slice a0 n0 cap0, .int .i64 r] 29)).alloc (.cells #[.int .i64 0, .slice none 0 0, .int .i64 0] 29))) none from (gby_alloc (gby_alloc (gby_refl _ _) _) _))
  have A_0_ : (((W.alloc (.cells #[.int .i64 m, .slice a0 n0 cap0, .int .i64 r] 29)).alloc (.cells #[.int .i64 0, .slice none 0 0, .int .i64 0] 29))).cell? ⟨W.heap.size, 0, none⟩ = some (.int .i64 m) := cell_of_row _ _ 0 _ _ _ rA1_.out
  have A_1_ : (((W.alloc (.cells #[.int .i64 m, .slice a0 n0 cap0, .int .i64 r] 29)).alloc (.cells #[.int .i64 0, .slice none 0 0, .int .i64 0] 29))).cell? ⟨W.heap.size, 1, none⟩ = some (.slice a0 n0 cap0) := cell_of_row _ _ 1 _ _ _ rA1_.out
  have A_2_ : (((W.alloc (.cells #[.int .i64 m, .slice a0 n0 cap0, .int .i64 r] 29)).alloc (.cells #[.int .i64 0, .slice none 0 0, .int .i64 0] 29))).cell? ⟨W.heap.size, 2, none⟩ = some (.int .i64 r) := cell_of_row _ _ 2 _ _ _ rA1_.out
  have R_0_ : (((W.alloc (.cells #[.int .i64 m, .slice a0 n0 cap0, .int .i64 r] 29)).alloc (.cells #[.int .i64 0, .slice none 0 0, .int .i64 0] 29))).cell? ⟨W.heap.size + 1, 0, none⟩ = some (.int .i64 0) := cell_of_row _ _ 0 _ _ _ rR2_.out
  have R_1_ : (((W.alloc (.cells #[.int .i64 m, .slice a0 n0 cap0, .int .i64 r] 29)).alloc (.cells #[.int .i64 0, .slice none 0 0, .int .i64 0] 29))).cell? ⟨W.heap.size + 1, 1, none⟩ = some (.slice none 0 0) := cell_of_row _ _ 1 _ _ _ rR2_.out
  have R_2_ : (((W.alloc (.cells #[.int .i64 m, .slice a0 n0 cap0, .int .i64 r] 29)).alloc (.cells #[.int .i64 0, .slice none 0 0, .int .i64 0] 29))).cell? ⟨W.heap.size + 1, 2, none⟩ = some (.int .i64 0) := cell_of_row _ _ 2 _ _ _ rR2_.out
  go_wp2_with fail
  go_at_call 41
  refine (copiedSnd_d _ m r _ xs (HX.out.grow G3_.out) HL.out).mono ?_
  rintro e w1 ⟨d_, rfl, o, g⟩
  have szw1 := g.size
  try simp only [World.size_alloc] at szw1 o
  try unfold vSender
  clear A_0_ A_1_ A_2_ R_0_ R_1_ R_2_
  have rA4_ := Lib.hid (show (w1).heap[W.heap.size]? = some (.cells #[.int .i64 m, .slice a0 n0 cap0, .int .i64 r] 29 (0, 0)) from row_held g rA1_.out)
  clear rA1_
  have rR5_ := Lib.hid (show (w1).heap[W.heap.size + 1]? = some (.cells #[.int .i64 0, .slice none 0 0, .int .i64 0] 29 (0, 0)) from row_held g rR2_.out)
  clear rR2_
  have G6_ := Lib.hid (show (W).grownBy (w1) none from gby_trans G3_.out g)
  obtain ⟨pd, nd, cd, hv_⟩ := RdL.form (OwU.rd o)
  subst hv_
  clear g
  have oC7_ := Lib.hid (show OwU (w1) (W.heap.size + 1 + 1) (w1.heap.size) [] [own shFrame (.slice pd nd cd) xs] from o)
  clear o
  have A_0_ : (w1).cell? ⟨W.heap.size, 0, none⟩ = some (.int .i64 m) := cell_of_row _ _ 0 _ _ _ rA4_.out
  have A_1_ : (w1).cell? ⟨W.heap.size, 1, none⟩ = some (.slice a0 n0 cap0) := cell_of_row _ _ 1 _ _ _ rA4_.out
  have A_2_ : (w1).cell? ⟨W.heap.size, 2, none⟩ = some (.int .i64 r) := cell_of_row _ _ 2 _ _ _ rA4_.out
  have Af0_ : (w1).frozen? ⟨W.heap.size, 0, none⟩ = false := frozen_of_row _ _ 0 _ _ rA4_.out
  have Af1_ : (w1).frozen? ⟨W.heap.size, 1, none⟩ = false := frozen_of_row _ _ 1 _ _ rA4_.out
  have Af2_ : (w1).frozen? ⟨W.heap.size, 2, none⟩ = false := frozen_of_row _ _ 2 _ _ rA4_.out
  have R_0_ : (w1).cell? ⟨W.heap.size + 1, 0, none⟩ = some (.int .i64 0) := cell_of_row _ _ 0 _ _ _ rR5_.out
  have R_1_ : (w1).cell? ⟨W.heap.size + 1, 1, none⟩ = some (.slice none 0 0) := cell_of_row _ _ 1 _ _ _ rR5_.out
  have R_2_ : (w1).cell? ⟨W.heap.size + 1, 2, none⟩ = some (.int .i64 0) := cell_of_row _ _ 2 _ _ _ rR5_.out
  have zA_ := Lib.hid (show ((((w1.setCell ⟨W.heap.size, 0, none⟩ (.int .i64 m)).setCell ⟨W.heap.size, 1, none⟩ (.slice pd nd cd)).setCell ⟨W.heap.size, 2, none⟩ (.int .i64 r))).heap[W.heap.size]? = some (.cells #[.int .i64 m, .slice pd nd cd, .int .i64 r] 29 (0, 0)) from (heap_setCell_same _ _ 2 _ _ _ (heap_setCell_same _ _ 1 _ _ _ (heap_setCell_same _ _ 0 _ _ _ rA4_.out))))
  have z0_ : ((((w1.setCell ⟨W.heap.size, 0, none⟩ (.int .i64 m)).setCell ⟨W.heap.size, 1, none⟩ (.slice pd nd cd)).setCell ⟨W.heap.size, 2, none⟩ (.int .i64 r))).cell? ⟨W.heap.size, 0, none⟩ = some (.int .i64 m) := cell_of_row _ _ 0 _ _ _ zA_.out
  have z1_ : ((((w1.setCell ⟨W.heap.size, 0, none⟩ (.int .i64 m)).setCell ⟨W.heap.size, 1, none⟩ (.slice pd nd cd)).setCell ⟨W.heap.size, 2, none⟩ (.int .i64 r))).cell? ⟨W.heap.size, 1, none⟩ = some (.slice pd nd cd) := cell_of_row _ _ 1 _ _ _ zA_.out
  have z2_ : ((((w1.setCell ⟨W.heap.size, 0, none⟩ (.int .i64 m)).setCell ⟨W.heap.size, 1, none⟩ (.slice pd nd cd)).setCell ⟨W.heap.size, 2, none⟩ (.int .i64 r))).cell? ⟨W.heap.size, 2, none⟩ = some (.int .i64 r) := cell_of_row _ _ 2 _ _ _ zA_.out
  go_wp2_with fail
  go_at_call 11
  clear zA_ z0_ z1_ z2_
  clear A_0_ A_1_ A_2_ Af0_ Af1_ Af2_ R_0_ R_1_ R_2_
  have rA8_ := Lib.hid (show ((((w1.setCell ⟨W.heap.size, 0, none⟩ (.int .i64 m)).setCell ⟨W.heap.size, 1, none⟩ (.slice pd nd cd)).setCell ⟨W.heap.size, 2, none⟩ (.int .i64 r))).heap[W.heap.size]? = some (.cells #[.int .i64 m, .slice pd nd cd, .int .i64 r] 29 (0, 0)) from (heap_setCell_same _ _ 2 _ _ _ (heap_setCell_same _ _ 1 _ _ _ (heap_setCell_same _ _ 0 _ _ _ rA4_.out))))
  have rR9_ := Lib.hid (show ((((w1.setCell ⟨W.heap.size, 0, none⟩ (.int .i64 m)).setCell ⟨W.heap.size, 1, none⟩ (.slice pd nd cd)).setCell ⟨W.heap.size, 2, none⟩ (.int .i64 r))).heap[W.heap.size + 1]? = some (.cells #[.int .i64 0, .slice none 0 0, .int .i64 0] 29 (0, 0)) from (set_far (set_far (set_far rR5_.out (by dsimp only; omega)) (by dsimp only; omega)) (by dsimp only; omega)))
  have oC10_ := Lib.hid (show OwU ((((w1.setCell ⟨W.heap.size, 0, none⟩ (.int .i64 m)).setCell ⟨W.heap.size, 1, none⟩ (.slice pd nd cd)).setCell ⟨W.heap.size, 2, none⟩ (.int .i64 r))) (W.heap.size + 1 + 1) (w1.heap.size) [] [own shFrame (.slice pd nd cd) xs] from (OwU.keep (chg_one _ (W.heap.size) 2 (.int .i64 r)) (by omega) (OwU.keep (chg_one _ (W.heap.size) 1 (.slice pd nd cd)) (by omega) (OwU.keep (chg_one _ (W.heap.size) 0 (.int .i64 m)) (by omega) oC7_.out))))
  have G11_ := Lib.hid (show (W).grownBy ((((w1.setCell ⟨W.heap.size, 0, none⟩ (.int .i64 m)).setCell ⟨W.heap.size, 1, none⟩ (.slice pd nd cd)).setCell ⟨W.heap.size, 2, none⟩ (.int .i64 r))) none from (gby_setnew (gby_setnew (gby_setnew G6_.out _ (by dsimp only; omega) _) _ (by dsimp only; omega) _) _ (by dsimp only; omega) _))
  have hszwc_ : ((((w1.setCell ⟨W.heap.size, 0, none⟩ (.int .i64 m)).setCell ⟨W.heap.size, 1, none⟩ (.slice pd nd cd)).setCell ⟨W.heap.size, 2, none⟩ (.int .i64 r))).heap.size = (w1).heap.size := by simp only [World.size_setCell]
  generalize (((w1.setCell ⟨W.heap.size, 0, none⟩ (.int .i64 m)).setCell ⟨W.heap.size, 1, none⟩ (.slice pd nd cd)).setCell ⟨W.heap.size, 2, none⟩ (.int .i64 r)) = wc at rA8_ rR9_ oC10_ G11_ hszwc_ ⊢
  try simp only [World.size_alloc] at hszwc_
  clear rA4_
  clear rR5_
  clear oC7_
  refine ((implSnd _ m r _ xs (OwU.rd oC10_.out) HL.out).mono (bpost_yes HV.out)).mono ?_
  rintro e w2 ⟨rfl, g⟩
  have szw2 := g.size
  have rA12_ := Lib.hid (show (w2).heap[W.heap.size]? = some (.cells #[.int .i64 m, .slice pd nd cd, .int .i64 r] 29 (0, 0)) from row_held g rA8_.out)
  clear rA8_
  have rR13_ := Lib.hid (show (w2).heap[W.heap.size + 1]? = some (.cells #[.int .i64 0, .slice none 0 0, .int .i64 0] 29 (0, 0)) from row_held g rR9_.out)
  clear rR9_
  have oC14_ := Lib.hid (show OwU (w2) (W.heap.size + 1 + 1) (w1.heap.size) [] [own shFrame (.slice pd nd cd) xs] from OwU.grow oC10_.out g)
  clear oC10_
  have G15_ := Lib.hid (show (W).grownBy (w2) none from gby_trans G11_.out g)
  clear g
  have A_0_ : (w2).cell? ⟨W.heap.size, 0, none⟩ = some (.int .i64 m) := cell_of_row _ _ 0 _ _ _ rA12_.out
  have A_1_ : (w2).cell? ⟨W.heap.size, 1, none⟩ = some (.slice pd nd cd) := cell_of_row _ _ 1 _ _ _ rA12_.out
  have A_2_ : (w2).cell? ⟨W.heap.size, 2, none⟩ = some (.int .i64 r) := cell_of_row _ _ 2 _ _ _ rA12_.out
  have R_0_ : (w2).cell? ⟨W.heap.size + 1, 0, none⟩ = some (.int .i64 0) := cell_of_row _ _ 0 _ _ _ rR13_.out
  have R_1_ : (w2).cell? ⟨W.heap.size + 1, 1, none⟩ = some (.slice none 0 0) := cell_of_row _ _ 1 _ _ _ rR13_.out
  have R_2_ : (w2).cell? ⟨W.heap.size + 1, 2, none⟩ = some (.int .i64 0) := cell_of_row _ _ 2 _ _ _ rR13_.out
  clear A_0_ A_1_ A_2_ R_0_ R_1_ R_2_
  have A_0_ : (w2).cell? ⟨W.heap.size, 0, none⟩ = some (.int .i64 m) := cell_of_row _ _ 0 _ _ _ rA12_.out
  have A_1_ : (w2).cell? ⟨W.heap.size, 1, none⟩ = some (.slice pd nd cd) := cell_of_row _ _ 1 _ _ _ rA12_.out
  have A_2_ : (w2).cell? ⟨W.heap.size, 2, none⟩ = some (.int .i64 r) := cell_of_row _ _ 2 _ _ _ rA12_.out
  have Af0_ : (w2).frozen? ⟨W.heap.size, 0, none⟩ = false := frozen_of_row _ _ 0 _ _ rA12_.out
  have Af1_ : (w2).frozen? ⟨W.heap.size, 1, none⟩ = false := frozen_of_row _ _ 1 _ _ rA12_.out
  have Af2_ : (w2).frozen? ⟨W.heap.size, 2, none⟩ = false := frozen_of_row _ _ 2 _ _ rA12_.out
  go_wp2_with fail
  go_at_call 48
  refine (takeAck_miss _ _ m r seq nd cd pd xs rA12_.out (OwU.rd oC14_.out) HL.out HQ.out).mono ?_
  rintro e w3 ⟨rfl, g⟩
  have szw3 := g.size
  try simp only [World.size_alloc] at szw3
  try simp only [World.size_setCell] at szw3
  clear A_0_ A_1_ A_2_ Af0_ Af1_ Af2_
  have rA16_ := Lib.hid (show (w3).heap[W.heap.size]? = some (.cells #[.int .i64 m, .slice pd nd cd, .int .i64 r] 29 (0, 0)) from row_held g rA12_.out)
  clear rA12_
  have rR17_ := Lib.hid (show (w3).heap[W.heap.size + 1]? = some (.cells #[.int .i64 0, .slice none 0 0, .int .i64 0] 29 (0, 0)) from row_held g rR13_.out)
  clear rR13_
  have oC18_ := Lib.hid (show OwU (w3) (W.heap.size + 1 + 1) (w1.heap.size) [] [own shFrame (.slice pd nd cd) xs] from OwU.grow oC14_.out g)
  clear oC14_
  have G19_ := Lib.hid (show (W).grownBy (w3) none from gby_trans G15_.out g)
  clear g
  have A_0_ : (w3).cell? ⟨W.heap.size, 0, none⟩ = some (.int .i64 m) := cell_of_row _ _ 0 _ _ _ rA16_.out
  have A_1_ : (w3).cell? ⟨W.heap.size, 1, none⟩ = some (.slice pd nd cd) := cell_of_row _ _ 1 _ _ _ rA16_.out
  have A_2_ : (w3).cell? ⟨W.heap.size, 2, none⟩ = some (.int .i64 r) := cell_of_row _ _ 2 _ _ _ rA16_.out
  have R_0_ : (w3).cell? ⟨W.heap.size + 1, 0, none⟩ = some (.int .i64 0) := cell_of_row _ _ 0 _ _ _ rR17_.out
  have R_1_ : (w3).cell? ⟨W.heap.size + 1, 1, none⟩ = some (.slice none 0 0) := cell_of_row _ _ 1 _ _ _ rR17_.out
  have R_2_ : (w3).cell? ⟨W.heap.size + 1, 2, none⟩ = some (.int .i64 0) := cell_of_row _ _ 2 _ _ _ rR17_.out
  clear A_0_ A_1_ A_2_ R_0_ R_1_ R_2_
  have A_0_ : (w3).cell? ⟨W.heap.size, 0, none⟩ = some (.int .i64 m) := cell_of_row _ _ 0 _ _ _ rA16_.out
  have A_1_ : (w3).cell? ⟨W.heap.size, 1, none⟩ = some (.slice pd nd cd) := cell_of_row _ _ 1 _ _ _ rA16_.out
  have A_2_ : (w3).cell? ⟨W.heap.size, 2, none⟩ = some (.int .i64 r) := cell_of_row _ _ 2 _ _ _ rA16_.out
  have R_0_ : (w3).cell? ⟨W.heap.size + 1, 0, none⟩ = some (.int .i64 0) := cell_of_row _ _ 0 _ _ _ rR17_.out
  have R_1_ : (w3).cell? ⟨W.heap.size + 1, 1, none⟩ = some (.slice none 0 0) := cell_of_row _ _ 1 _ _ _ rR17_.out
  have R_2_ : (w3).cell? ⟨W.heap.size + 1, 2, none⟩ = some (.int .i64 0) := cell_of_row _ _ 2 _ _ _ rR17_.out
  have Rf0_ : (w3).frozen? ⟨W.heap.size + 1, 0, none⟩ = false := frozen_of_row _ _ 0 _ _ rR17_.out
  have Rf1_ : (w3).frozen? ⟨W.heap.size + 1, 1, none⟩ = false := frozen_of_row _ _ 1 _ _ rR17_.out
  have Rf2_ : (w3).frozen? ⟨W.heap.size + 1, 2, none⟩ = false := frozen_of_row _ _ 2 _ _ rR17_.out
  have hlo_ : W.heap.size ≤ W.heap.size + 1 + 1 := by omega
  go_wp2
  refine bodyPost_ret (v := .tuple #[.agg #[.int .i64 m, .slice pd nd cd, .int .i64 r], .bool false]) (by simp [results, go_sem, R_0_, R_1_, R_2_]) rfl ⟨_, rfl, ?_, ?_⟩
  · exact OwU.wide (lo := W.heap.size + 1 + 1) (hi := w1.heap.size) hlo_ (by simp only [World.size_setCell]; omega) (OwU.keep (chg_one _ (W.heap.size + 1) 2 (.int .i64 r)) (by omega) (OwU.keep (chg_one _ (W.heap.size + 1) 1 (.slice pd nd cd)) (by omega) (OwU.keep (chg_one _ (W.heap.size + 1) 0 (.int .i64 m)) (by omega) oC18_.out)))
  · exact (gby_setnew (gby_setnew (gby_setnew G19_.out _ (by dsimp only; omega) _) _ (by dsimp only; omega) _) _ (by dsimp only; omega) _)

set_option maxRecDepth 8000 in
set_option maxHeartbeats 4000000 in
theorem implAck_hit (W : World) (m r : Int) (v : Value) (xs : List DFrame) (H : RdL shFrame W v xs) (hl : szL shFrame xs ≤ 1048576) (seq : Int) (hv : SndP m r xs) (q : Nat) (hq : AckAt xs seq q) : Calls Try.prog 23 #[.agg #[.int .i64 m, v, .int .i64 r], .int .i64 seq] W (ResITakeAck m (xs.drop (q + 1)) (max 0 (r - (q : Int) - 1)) true W) := by
  have HV := Lib.hid hv
  have HQ := Lib.hid hq
  have hql_ := hq.1
  clear hv hq
  have HX := Lib.hid H
  have HL := Lib.hid hl
  obtain ⟨a0, n0, cap0, rfl⟩ := RdL.form H
  have hn0 : n0 = xs.length := by obtain ⟨_, _, e, _⟩ := H; injection e
  have HE := Lib.hid hn0
  have hlx : n0 ≤ 1048576 := by have := szL_len shFrame xs; omega
  clear H hl hn0
  have h7_ : n0 ≤ 7 := by have := HV.out.2.1; have := HE.out; omega
  have hr0_ : 0 ≤ r := HV.out.2.2.1.1
  have hrn_ : r ≤ (n0 : Int) := by have := HV.out.2.2.1.2; have := HE.out; omega
  have hqn_ : q < n0 := by have := HE.out; omega
  go_enter Try.func23, Try.ntmps23
  have rA1_ := Lib.hid (show (((W.alloc (.cells #[.int .i64 m, .slice a0 n0 cap0, .int .i64 r] 29)).alloc (.cells #[.int .i64 0, .slice none 0 0, .int .i64 0] 29))).heap[W.heap.size]? = some (.cells #[.int .i64 m, .slice a0 n0 cap0, .int .i64 r] 29 (0, 0)) from by rw [heap_alloc_old _ _ (by simp only [World.size_alloc]; omega)]; exact heap_alloc_new _ _)
  have rR2_ := Lib.hid (show (((W.alloc (.cells #[.int .i64 m, .slice a0 n0 cap0, .int .i64 r] 29)).alloc (.cells #[.int .i64 0, .slice none 0 0, .int .i64 0] 29))).heap[W.heap.size + 1]? = some (.cells #[.int .i64 0, .slice none 0 0, .int .i64 0] 29 (0, 0)) from by exact heap_pair _ _ _)
  have G3_ := Lib.hid (show (W).grownBy (((W.alloc (.cells #[.int .i64 m, .slice a0 n0 cap0, .int .i64 r] 29)).alloc (.cells #[.int .i64 0, .slice none 0 0, .int .i64 0] 29))) none from (gby_alloc (gby_alloc (gby_refl _ _) _) _))
  have A_0_ : (((W.alloc (.cells #[.int .i64 m, .slice a0 n0 cap0, .int .i64 r] 29)).alloc (.cells #[.int .i64 0, .slice none 0 0, .int .i64 0] 29))).cell? ⟨W.heap.size, 0, none⟩ = some (.int .i64 m) := cell_of_row _ _ 0 _ _ _ rA1_.out
  have A_1_ : (((W.alloc (.cells #[.int .i64 m, .slice a0 n0 cap0, .int .i64 r] 29)).alloc (.cells #[.int .i64 0, .slice none 0 0, .int .i64 0] 29))).cell? ⟨W.heap.size, 1, none⟩ = some (.slice a0 n0 cap0) := cell_of_row _ _ 1 _ _ _ rA1_.out
  have A_2_ : (((W.alloc (.cells #[.int .i64 m, .slice a0 n0 cap0, .int .i64 r] 29)).alloc (.cells #[.int .i64 0, .slice none 0 0, .int .i64 0] 29))).cell? ⟨W.heap.size, 2, none⟩ = some (.int .i64 r) := cell_of_row _ _ 2 _ _ _ rA1_.out
  have R_0_ : (((W.alloc (.cells #[.int .i64 m, .slice a0 n0 cap0, .int .i64 r] 29)).alloc (.cells #[.int .i64 0, .slice none 0 0, .int .i64 0] 29))).cell? ⟨W.heap.size + 1, 0, none⟩ = some (.int .i64 0) := cell_of_row _ _ 0 _ _ _ rR2_.out
  have R_1_ : (((W.alloc (.cells #[.int .i64 m, .slice a0 n0 cap0, .int .i64 r] 29)).alloc (.cells #[.int .i64 0, .slice none 0 0, .int .i64 0] 29))).cell? ⟨W.heap.size + 1, 1, none⟩ = some (.slice none 0 0) := cell_of_row _ _ 1 _ _ _ rR2_.out
  have R_2_ : (((W.alloc (.cells #[.int .i64 m, .slice a0 n0 cap0, .int .i64 r] 29)).alloc (.cells #[.int .i64 0, .slice none 0 0, .int .i64 0] 29))).cell? ⟨W.heap.size + 1, 2, none⟩ = some (.int .i64 0) := cell_of_row _ _ 2 _ _ _ rR2_.out
  go_wp2_with fail
  go_at_call 41
  refine (copiedSnd_d _ m r _ xs (HX.out.grow G3_.out) HL.out).mono ?_
  rintro e w1 ⟨d_, rfl, o, g⟩
  have szw1 := g.size
  try simp only [World.size_alloc] at szw1 o
  try unfold vSender
  clear A_0_ A_1_ A_2_ R_0_ R_1_ R_2_
  have rA4_ := Lib.hid (show (w1).heap[W.heap.size]? = some (.cells #[.int .i64 m, .slice a0 n0 cap0, .int .i64 r] 29 (0, 0)) from row_held g rA1_.out)
  clear rA1_
  have rR5_ := Lib.hid (show (w1).heap[W.heap.size + 1]? = some (.cells #[.int .i64 0, .slice none 0 0, .int .i64 0] 29 (0, 0)) from row_held g rR2_.out)
  clear rR2_
  have G6_ := Lib.hid (show (W).grownBy (w1) none from gby_trans G3_.out g)
  obtain ⟨pd, nd, cd, hv_⟩ := RdL.form (OwU.rd o)
  subst hv_
  clear g
  have oC7_ := Lib.hid (show OwU (w1) (W.heap.size + 1 + 1) (w1.heap.size) [] [own shFrame (.slice pd nd cd) xs] from o)
  clear o
  have A_0_ : (w1).cell? ⟨W.heap.size, 0, none⟩ = some (.int .i64 m) := cell_of_row _ _ 0 _ _ _ rA4_.out
  have A_1_ : (w1).cell? ⟨W.heap.size, 1, none⟩ = some (.slice a0 n0 cap0) := cell_of_row _ _ 1 _ _ _ rA4_.out
  have A_2_ : (w1).cell? ⟨W.heap.size, 2, none⟩ = some (.int .i64 r) := cell_of_row _ _ 2 _ _ _ rA4_.out
  have Af0_ : (w1).frozen? ⟨W.heap.size, 0, none⟩ = false := frozen_of_row _ _ 0 _ _ rA4_.out
  have Af1_ : (w1).frozen? ⟨W.heap.size, 1, none⟩ = false := frozen_of_row _ _ 1 _ _ rA4_.out
  have Af2_ : (w1).frozen? ⟨W.heap.size, 2, none⟩ = false := frozen_of_row _ _ 2 _ _ rA4_.out
  have R_0_ : (w1).cell? ⟨W.heap.size + 1, 0, none⟩ = some (.int .i64 0) := cell_of_row _ _ 0 _ _ _ rR5_.out
  have R_1_ : (w1).cell? ⟨W.heap.size + 1, 1, none⟩ = some (.slice none 0 0) := cell_of_row _ _ 1 _ _ _ rR5_.out
  have R_2_ : (w1).cell? ⟨W.heap.size + 1, 2, none⟩ = some (.int .i64 0) := cell_of_row _ _ 2 _ _ _ rR5_.out
  have zA_ := Lib.hid (show ((((w1.setCell ⟨W.heap.size, 0, none⟩ (.int .i64 m)).setCell ⟨W.heap.size, 1, none⟩ (.slice pd nd cd)).setCell ⟨W.heap.size, 2, none⟩ (.int .i64 r))).heap[W.heap.size]? = some (.cells #[.int .i64 m, .slice pd nd cd, .int .i64 r] 29 (0, 0)) from (heap_setCell_same _ _ 2 _ _ _ (heap_setCell_same _ _ 1 _ _ _ (heap_setCell_same _ _ 0 _ _ _ rA4_.out))))
  have z0_ : ((((w1.setCell ⟨W.heap.size, 0, none⟩ (.int .i64 m)).setCell ⟨W.heap.size, 1, none⟩ (.slice pd nd cd)).setCell ⟨W.heap.size, 2, none⟩ (.int .i64 r))).cell? ⟨W.heap.size, 0, none⟩ = some (.int .i64 m) := cell_of_row _ _ 0 _ _ _ zA_.out
  have z1_ : ((((w1.setCell ⟨W.heap.size, 0, none⟩ (.int .i64 m)).setCell ⟨W.heap.size, 1, none⟩ (.slice pd nd cd)).setCell ⟨W.heap.size, 2, none⟩ (.int .i64 r))).cell? ⟨W.heap.size, 1, none⟩ = some (.slice pd nd cd) := cell_of_row _ _ 1 _ _ _ zA_.out
  have z2_ : ((((w1.setCell ⟨W.heap.size, 0, none⟩ (.int .i64 m)).setCell ⟨W.heap.size, 1, none⟩ (.slice pd nd cd)).setCell ⟨W.heap.size, 2, none⟩ (.int .i64 r))).cell? ⟨W.heap.size, 2, none⟩ = some (.int .i64 r) := cell_of_row _ _ 2 _ _ _ zA_.out
  go_wp2_with fail
  go_at_call 11
  clear zA_ z0_ z1_ z2_
  clear A_0_ A_1_ A_2_ Af0_ Af1_ Af2_ R_0_ R_1_ R_2_
  have rA8_ := Lib.hid (show ((((w1.setCell ⟨W.heap.size, 0, none⟩ (.int .i64 m)).setCell ⟨W.heap.size, 1, none⟩ (.slice pd nd cd)).setCell ⟨W.heap.size, 2, none⟩ (.int .i64 r))).heap[W.heap.size]? = some (.cells #[.int .i64 m, .slice pd nd cd, .int .i64 r] 29 (0, 0)) from (heap_setCell_same _ _ 2 _ _ _ (heap_setCell_same _ _ 1 _ _ _ (heap_setCell_same _ _ 0 _ _ _ rA4_.out))))
  have rR9_ := Lib.hid (show ((((w1.setCell ⟨W.heap.size, 0, none⟩ (.int .i64 m)).setCell ⟨W.heap.size, 1, none⟩ (.slice pd nd cd)).setCell ⟨W.heap.size, 2, none⟩ (.int .i64 r))).heap[W.heap.size + 1]? = some (.cells #[.int .i64 0, .slice none 0 0, .int .i64 0] 29 (0, 0)) from (set_far (set_far (set_far rR5_.out (by dsimp only; omega)) (by dsimp only; omega)) (by dsimp only; omega)))
  have oC10_ := Lib.hid (show OwU ((((w1.setCell ⟨W.heap.size, 0, none⟩ (.int .i64 m)).setCell ⟨W.heap.size, 1, none⟩ (.slice pd nd cd)).setCell ⟨W.heap.size, 2, none⟩ (.int .i64 r))) (W.heap.size + 1 + 1) (w1.heap.size) [] [own shFrame (.slice pd nd cd) xs] from (OwU.keep (chg_one _ (W.heap.size) 2 (.int .i64 r)) (by omega) (OwU.keep (chg_one _ (W.heap.size) 1 (.slice pd nd cd)) (by omega) (OwU.keep (chg_one _ (W.heap.size) 0 (.int .i64 m)) (by omega) oC7_.out))))
  have G11_ := Lib.hid (show (W).grownBy ((((w1.setCell ⟨W.heap.size, 0, none⟩ (.int .i64 m)).setCell ⟨W.heap.size, 1, none⟩ (.slice pd nd cd)).setCell ⟨W.heap.size, 2, none⟩ (.int .i64 r))) none from (gby_setnew (gby_setnew (gby_setnew G6_.out _ (by dsimp only; omega) _) _ (by dsimp only; omega) _) _ (by dsimp only; omega) _))
  have hszwc_ : ((((w1.setCell ⟨W.heap.size, 0, none⟩ (.int .i64 m)).setCell ⟨W.heap.size, 1, none⟩ (.slice pd nd cd)).setCell ⟨W.heap.size, 2, none⟩ (.int .i64 r))).heap.size = (w1).heap.size := by simp only [World.size_setCell]
  generalize (((w1.setCell ⟨W.heap.size, 0, none⟩ (.int .i64 m)).setCell ⟨W.heap.size, 1, none⟩ (.slice pd nd cd)).setCell ⟨W.heap.size, 2, none⟩ (.int .i64 r)) = wc at rA8_ rR9_ oC10_ G11_ hszwc_ ⊢
  try simp only [World.size_alloc] at hszwc_
  clear rA4_
  clear rR5_
  clear oC7_
  refine ((implSnd _ m r _ xs (OwU.rd oC10_.out) HL.out).mono (bpost_yes HV.out)).mono ?_
  rintro e w2 ⟨rfl, g⟩
  have szw2 := g.size
  have rA12_ := Lib.hid (show (w2).heap[W.heap.size]? = some (.cells #[.int .i64 m, .slice pd nd cd, .int .i64 r] 29 (0, 0)) from row_held g rA8_.out)
  clear rA8_
  have rR13_ := Lib.hid (show (w2).heap[W.heap.size + 1]? = some (.cells #[.int .i64 0, .slice none 0 0, .int .i64 0] 29 (0, 0)) from row_held g rR9_.out)
  clear rR9_
  have oC14_ := Lib.hid (show OwU (w2) (W.heap.size + 1 + 1) (w1.heap.size) [] [own shFrame (.slice pd nd cd) xs] from OwU.grow oC10_.out g)
  clear oC10_
  have G15_ := Lib.hid (show (W).grownBy (w2) none from gby_trans G11_.out g)
  clear g
  have A_0_ : (w2).cell? ⟨W.heap.size, 0, none⟩ = some (.int .i64 m) := cell_of_row _ _ 0 _ _ _ rA12_.out
  have A_1_ : (w2).cell? ⟨W.heap.size, 1, none⟩ = some (.slice pd nd cd) := cell_of_row _ _ 1 _ _ _ rA12_.out
  have A_2_ : (w2).cell? ⟨W.heap.size, 2, none⟩ = some (.int .i64 r) := cell_of_row _ _ 2 _ _ _ rA12_.out
  have R_0_ : (w2).cell? ⟨W.heap.size + 1, 0, none⟩ = some (.int .i64 0) := cell_of_row _ _ 0 _ _ _ rR13_.out
  have R_1_ : (w2).cell? ⟨W.heap.size + 1, 1, none⟩ = some (.slice none 0 0) := cell_of_row _ _ 1 _ _ _ rR13_.out
  have R_2_ : (w2).cell? ⟨W.heap.size + 1, 2, none⟩ = some (.int .i64 0) := cell_of_row _ _ 2 _ _ _ rR13_.out
  obtain ⟨gd, od, hpd_, hnd_, hcd_⟩ := rd_some (OwU.rd oC14_.out) (by have := HE.out; omega)
  subst hpd_
  obtain rfl : n0 = nd := by have := HE.out; omega
  clear hnd_
  clear A_0_ A_1_ A_2_ R_0_ R_1_ R_2_
  have A_0_ : (w2).cell? ⟨W.heap.size, 0, none⟩ = some (.int .i64 m) := cell_of_row _ _ 0 _ _ _ rA12_.out
  have A_1_ : (w2).cell? ⟨W.heap.size, 1, none⟩ = some (.slice (some ⟨gd, od, none⟩) n0 cd) := cell_of_row _ _ 1 _ _ _ rA12_.out
  have A_2_ : (w2).cell? ⟨W.heap.size, 2, none⟩ = some (.int .i64 r) := cell_of_row _ _ 2 _ _ _ rA12_.out
  have Af0_ : (w2).frozen? ⟨W.heap.size, 0, none⟩ = false := frozen_of_row _ _ 0 _ _ rA12_.out
  have Af1_ : (w2).frozen? ⟨W.heap.size, 1, none⟩ = false := frozen_of_row _ _ 1 _ _ rA12_.out
  have Af2_ : (w2).frozen? ⟨W.heap.size, 2, none⟩ = false := frozen_of_row _ _ 2 _ _ rA12_.out
  go_wp2_with fail
  go_at_call 48
  refine (takeAck_hit _ _ m r seq n0 cd gd od xs rA12_.out (OwU.rd oC14_.out) HL.out HE.out h7_ hr0_ hrn_ (by omega) q HQ.out).mono ?_
  rintro e w3 ⟨rfl, wz, of_, gz, hof_, hwz_⟩
  subst hwz_
  have szz_ := gz.size
  clear A_0_ A_1_ A_2_ Af0_ Af1_ Af2_
  have rA16_ := Lib.hid (show (wz).heap[W.heap.size]? = some (.cells #[.int .i64 m, .slice (some ⟨gd, od, none⟩) n0 cd, .int .i64 r] 29 (0, 0)) from row_held gz rA12_.out)
  clear rA12_
  have rR17_ := Lib.hid (show (wz).heap[W.heap.size + 1]? = some (.cells #[.int .i64 0, .slice none 0 0, .int .i64 0] 29 (0, 0)) from row_held gz rR13_.out)
  clear rR13_
  have oC18_ := Lib.hid (show OwU (wz) (W.heap.size + 1 + 1) (w1.heap.size) [] [own shFrame (.slice (some ⟨gd, od, none⟩) n0 cd) xs] from OwU.grow oC14_.out gz)
  clear oC14_
  have G19_ := Lib.hid (show (W).grownBy (wz) none from gby_trans G15_.out gz)
  clear gz
  have rA20_ := Lib.hid (show (((wz.setCell ⟨W.heap.size, 1, none⟩ (.slice (some ⟨gd, of_, none⟩) (n0 - (q + 1)) (n0 - (q + 1)))).setCell ⟨W.heap.size, 2, none⟩ (.int .i64 (max 0 (r - (q : Int) - 1))))).heap[W.heap.size]? = some (.cells #[.int .i64 m, .slice (some ⟨gd, of_, none⟩) (n0 - (q + 1)) (n0 - (q + 1)), .int .i64 (max 0 (r - (q : Int) - 1))] 29 (0, 0)) from (heap_setCell_same _ _ 2 _ _ _ (heap_setCell_same _ _ 1 _ _ _ rA16_.out)))
  have rR21_ := Lib.hid (show (((wz.setCell ⟨W.heap.size, 1, none⟩ (.slice (some ⟨gd, of_, none⟩) (n0 - (q + 1)) (n0 - (q + 1)))).setCell ⟨W.heap.size, 2, none⟩ (.int .i64 (max 0 (r - (q : Int) - 1))))).heap[W.heap.size + 1]? = some (.cells #[.int .i64 0, .slice none 0 0, .int .i64 0] 29 (0, 0)) from (set_far (set_far rR17_.out (by dsimp only; omega)) (by dsimp only; omega)))
  have oC22_ := Lib.hid (show OwU (((wz.setCell ⟨W.heap.size, 1, none⟩ (.slice (some ⟨gd, of_, none⟩) (n0 - (q + 1)) (n0 - (q + 1)))).setCell ⟨W.heap.size, 2, none⟩ (.int .i64 (max 0 (r - (q : Int) - 1))))) (W.heap.size + 1 + 1) (w1.heap.size) [] [own shFrame (.slice (some ⟨gd, od, none⟩) n0 cd) xs] from (OwU.keep (chg_one _ (W.heap.size) 2 (.int .i64 (max 0 (r - (q : Int) - 1)))) (by omega) (OwU.keep (chg_one _ (W.heap.size) 1 (.slice (some ⟨gd, of_, none⟩) (n0 - (q + 1)) (n0 - (q + 1)))) (by omega) oC18_.out)))
  have G23_ := Lib.hid (show (W).grownBy (((wz.setCell ⟨W.heap.size, 1, none⟩ (.slice (some ⟨gd, of_, none⟩) (n0 - (q + 1)) (n0 - (q + 1)))).setCell ⟨W.heap.size, 2, none⟩ (.int .i64 (max 0 (r - (q : Int) - 1))))) none from (gby_setnew (gby_setnew G19_.out _ (by dsimp only; omega) _) _ (by dsimp only; omega) _))
  have hszwy_ : (((wz.setCell ⟨W.heap.size, 1, none⟩ (.slice (some ⟨gd, of_, none⟩) (n0 - (q + 1)) (n0 - (q + 1)))).setCell ⟨W.heap.size, 2, none⟩ (.int .i64 (max 0 (r - (q : Int) - 1))))).heap.size = (wz).heap.size := by simp only [World.size_setCell]
  generalize ((wz.setCell ⟨W.heap.size, 1, none⟩ (.slice (some ⟨gd, of_, none⟩) (n0 - (q + 1)) (n0 - (q + 1)))).setCell ⟨W.heap.size, 2, none⟩ (.int .i64 (max 0 (r - (q : Int) - 1)))) = wy at rA20_ rR21_ oC22_ G23_ hszwy_ ⊢
  try simp only [World.size_alloc] at hszwy_
  clear rA16_
  clear rR17_
  clear oC18_
  have oC24_ := Lib.hid (show OwU (wy) (W.heap.size + 1 + 1) (w1.heap.size) [] [own shFrame (.slice (some ⟨gd, of_, none⟩) (n0 - (q + 1)) (n0 - (q + 1))) (xs.drop (q + 1))] from by
    have e_ : xs.length - (q + 1) = (n0 - (q + 1)) := by have := HE.out; omega
    have q_ := owU_drop oC22_.out (q + 1) (of_) ((n0 - (q + 1))) (by rcases hof_ with h | h; exact .inl h; exact .inr (by have := HE.out; omega)) (by have := HE.out; omega)
    rw [e_] at q_
    exact q_)
  clear oC22_
  have A_0_ : (wy).cell? ⟨W.heap.size, 0, none⟩ = some (.int .i64 m) := cell_of_row _ _ 0 _ _ _ rA20_.out
  have A_1_ : (wy).cell? ⟨W.heap.size, 1, none⟩ = some (.slice (some ⟨gd, of_, none⟩) (n0 - (q + 1)) (n0 - (q + 1))) := cell_of_row _ _ 1 _ _ _ rA20_.out
  have A_2_ : (wy).cell? ⟨W.heap.size, 2, none⟩ = some (.int .i64 (max 0 (r - (q : Int) - 1))) := cell_of_row _ _ 2 _ _ _ rA20_.out
  have R_0_ : (wy).cell? ⟨W.heap.size + 1, 0, none⟩ = some (.int .i64 0) := cell_of_row _ _ 0 _ _ _ rR21_.out
  have R_1_ : (wy).cell? ⟨W.heap.size + 1, 1, none⟩ = some (.slice none 0 0) := cell_of_row _ _ 1 _ _ _ rR21_.out
  have R_2_ : (wy).cell? ⟨W.heap.size + 1, 2, none⟩ = some (.int .i64 0) := cell_of_row _ _ 2 _ _ _ rR21_.out
  have Rf0_ : (wy).frozen? ⟨W.heap.size + 1, 0, none⟩ = false := frozen_of_row _ _ 0 _ _ rR21_.out
  have Rf1_ : (wy).frozen? ⟨W.heap.size + 1, 1, none⟩ = false := frozen_of_row _ _ 1 _ _ rR21_.out
  have Rf2_ : (wy).frozen? ⟨W.heap.size + 1, 2, none⟩ = false := frozen_of_row _ _ 2 _ _ rR21_.out
  have hlo_ : W.heap.size ≤ W.heap.size + 1 + 1 := by omega
  go_wp2
  refine bodyPost_ret (v := .tuple #[.agg #[.int .i64 m, .slice (some ⟨gd, of_, none⟩) (n0 - (q + 1)) (n0 - (q + 1)), .int .i64 (max 0 (r - (q : Int) - 1))], .bool true]) (by simp [results, go_sem, R_0_, R_1_, R_2_]) rfl ⟨_, rfl, ?_, ?_⟩
  · exact OwU.wide (lo := W.heap.size + 1 + 1) (hi := w1.heap.size) hlo_ (by simp only [World.size_setCell]; omega) (OwU.keep (chg_one _ (W.heap.size + 1) 2 (.int .i64 (max 0 (r - (q : Int) - 1)))) (by omega) (OwU.keep (chg_one _ (W.heap.size + 1) 1 (.slice (some ⟨gd, of_, none⟩) (n0 - (q + 1)) (n0 - (q + 1)))) (by omega) (OwU.keep (chg_one _ (W.heap.size + 1) 0 (.int .i64 m)) (by omega) oC24_.out)))
  · exact (gby_setnew (gby_setnew (gby_setnew G23_.out _ (by dsimp only; omega) _) _ (by dsimp only; omega) _) _ (by dsimp only; omega) _)

theorem takeAck_both (i0_0 : Int) (xs0_1 : List DFrame) (i0_2 : Int) (i1 : Int) (h1 : szL shFrame xs0_1 ≤ 1048576) : ∃ (ir0_0 : Int) (xsr0_1 : List DFrame) (ir0_2 : Int) (br1 : Bool), szL shFrame xsr0_1 ≤ 1048576 ∧ (∀ (W : World), ∀ u0_1, RdL shFrame W u0_1 xs0_1 → Calls Try.prog 22 #[.agg #[.int .i64 i0_0, u0_1, .int .i64 i0_2], .int .i64 i1] W (ResSTakeAck ir0_0 xsr0_1 ir0_2 br1 W)) ∧ ∀ (W : World), ∀ u0_1, RdL shFrame W u0_1 xs0_1 → Calls Try.prog 23 #[.agg #[.int .i64 i0_0, u0_1, .int .i64 i0_2], .int .i64 i1] W (ResITakeAck ir0_0 xsr0_1 ir0_2 br1 W) := by
  by_cases h : SndP i0_0 i0_2 xs0_1
  · rcases ack_ex xs0_1 i1 with ⟨q, hq⟩ | hq
    · refine ⟨_, _, _, _, ?_, fun W u H => (specAck_hit W _ _ u _ H h1 i1 h q hq).mono (fun e w q => resS_ofTakeAck e w q), fun W u H => implAck_hit W _ _ u _ H h1 i1 h q hq⟩
      have e : (xs0_1.drop (q + 1)).length + ((xs0_1.drop (q + 1)).map shFrame.size).sum ≤ xs0_1.length + (xs0_1.map shFrame.size).sum := by
        have hh := congrArg (fun l => (l.map shFrame.size).sum) (List.take_append_drop (q + 1) xs0_1)
        simp only [List.map_append, List.sum_append] at hh
        rw [List.length_drop]
        omega
      exact Nat.le_trans e h1
    · exact ⟨_, _, _, _, h1, fun W u H => (specAck_miss W _ _ u _ H h1 i1 h hq).mono (fun e w q => resS_ofTakeAck e w q), fun W u H => implAck_miss W _ _ u _ H h1 i1 h hq⟩
  · exact ⟨_, _, _, _, h1, fun W u H => (specAck_bad W _ _ u _ H h1 i1 h).mono (fun e w q => resS_ofTakeAck e w q), fun W u H => implAck_bad W _ _ u _ H h1 i1 h⟩

end Go.Proofs.Ytcenngekjopjpaa
