/-
  Credits given back by the program's method.
-/
import Derived.Test.YtgagbhkidponnacCrSp
namespace Go.Proofs.Ytgagbhkidponnac
open Go Go.RowKit
set_option linter.unusedVariables false

set_option maxRecDepth 8000 in
set_option maxHeartbeats 4000000 in
theorem give_full1 (W : World) (gb lo hi k : Nat) (v0 v1 vp : Value) (xs ys : List Int) (p : DPacket) (hg : W.heap[gb]? = some (.cells #[v0, v1] 54 (0, 0))) (ho : OwU W lo hi [] [own shI v0 xs, own shI v1 ys]) (hgo : gb < lo ∨ hi ≤ gb) (hhi : hi ≤ W.heap.size) (hp : RdL shI W vp p.f7) (hpf : ∀ w, Chg W w lo hi → RdL shI w vp p.f7) (hl : szL shI p.f7 ≤ 1048576) (hc : clsD p = (k : Int)) (hk3 : k < 3) (hcr : CrdOk xs ys) (u : Int) (hu : untD p = u) (hu0 : 0 ≤ u) (hu9 : u ≤ 1000000) (hw : xs.getD k 0 + 1 > 30) : Calls Try.prog 90 #[.pointer (some ⟨gb, 0, none⟩), (vPacket p.f0 p.f1 p.f2 p.f3 p.f4 p.f5 p.f6 vp)] W (SpPost false lo hi v0 v1 xs ys W) := by
  have HP := Lib.hid hp
  have HPF := Lib.hid hpf
  have HL := Lib.hid hl
  have HC := Lib.hid hc
  have HU := Lib.hid hu
  have HCR := Lib.hid hcr
  have hx1 := crd_at hcr hk3
  obtain ⟨x, hx⟩ : ∃ x, x = xs.getD k 0 := ⟨_, rfl⟩
  obtain ⟨y, hy⟩ : ∃ y, y = ys.getD k 0 := ⟨_, rfl⟩
  rw [← hx, ← hy] at hx1
  obtain ⟨hxl, hyl, hx0, hx30, hy0, hy30⟩ := hx1
  have HX := Lib.hid hx
  have HY := Lib.hid hy
  have HXL := Lib.hid (show szL shI xs ≤ 1048576 by rw [szL_I]; omega)
  have HYL := Lib.hid (show szL shI ys ≤ 1048576 by rw [szL_I]; omega)
  have hgl_ : gb < W.heap.size := lt_of_block hg
  clear hp hpf hl hc hu hcr hx hy
  unfold vPacket
  have HCL := Lib.hid (show ∀ (W : World) (v : Value), RdL shI W v p.f7 → Calls Try.prog 125 #[vPacket p.f0 p.f1 p.f2 p.f3 p.f4 p.f5 p.f6 v] W (AnsN (.int .i64 (k : Int)) W) from fun W v H => by have q := implClsD W p v H HL.out; rw [HC.out] at q; exact q)
  have HUN := Lib.hid (show ∀ (W : World) (v : Value), RdL shI W v p.f7 → Calls Try.prog 126 #[vPacket p.f0 p.f1 p.f2 p.f3 p.f4 p.f5 p.f6 v] W (AnsN (.int .i64 u) W) from fun W v H => by have q := implUntD W p v H HL.out (by rw [HC.out]; omega); rw [HU.out] at q; exact q)
  rw [← HX.out] at hw
  go_enter Try.func90, Try.ntmps90
  have rK1_ := Lib.hid (show ((W.alloc (.cells #[.int .i64 p.f0, .int .i64 p.f1, .int .i64 p.f2, .int .i64 p.f3, .int .i64 p.f4, .int .i64 p.f5, .int .i64 p.f6, vp] 29))).heap[W.heap.size]? = some (.cells #[.int .i64 p.f0, .int .i64 p.f1, .int .i64 p.f2, .int .i64 p.f3, .int .i64 p.f4, .int .i64 p.f5, .int .i64 p.f6, vp] 29 (0, 0)) from by exact heap_alloc_new _ _)
  have G2_ := Lib.hid (show (W).grownBy ((W.alloc (.cells #[.int .i64 p.f0, .int .i64 p.f1, .int .i64 p.f2, .int .i64 p.f3, .int .i64 p.f4, .int .i64 p.f5, .int .i64 p.f6, vp] 29))) none from (gby_alloc (gby_refl _ _) _))
  have K_0_ : ((W.alloc (.cells #[.int .i64 p.f0, .int .i64 p.f1, .int .i64 p.f2, .int .i64 p.f3, .int .i64 p.f4, .int .i64 p.f5, .int .i64 p.f6, vp] 29))).cell? ⟨W.heap.size, 0, none⟩ = some (.int .i64 p.f0) := cell_of_row _ _ 0 _ _ _ rK1_.out
  have K_1_ : ((W.alloc (.cells #[.int .i64 p.f0, .int .i64 p.f1, .int .i64 p.f2, .int .i64 p.f3, .int .i64 p.f4, .int .i64 p.f5, .int .i64 p.f6, vp] 29))).cell? ⟨W.heap.size, 1, none⟩ = some (.int .i64 p.f1) := cell_of_row _ _ 1 _ _ _ rK1_.out
  have K_2_ : ((W.alloc (.cells #[.int .i64 p.f0, .int .i64 p.f1, .int .i64 p.f2, .int .i64 p.f3, .int .i64 p.f4, .int .i64 p.f5, .int .i64 p.f6, vp] 29))).cell? ⟨W.heap.size, 2, none⟩ = some (.int .i64 p.f2) := cell_of_row _ _ 2 _ _ _ rK1_.out
  have K_3_ : ((W.alloc (.cells #[.int .i64 p.f0, .int .i64 p.f1, .int .i64 p.f2, .int .i64 p.f3, .int .i64 p.f4, .int .i64 p.f5, .int .i64 p.f6, vp] 29))).cell? ⟨W.heap.size, 3, none⟩ = some (.int .i64 p.f3) := cell_of_row _ _ 3 _ _ _ rK1_.out
  have K_4_ : ((W.alloc (.cells #[.int .i64 p.f0, .int .i64 p.f1, .int .i64 p.f2, .int .i64 p.f3, .int .i64 p.f4, .int .i64 p.f5, .int .i64 p.f6, vp] 29))).cell? ⟨W.heap.size, 4, none⟩ = some (.int .i64 p.f4) := cell_of_row _ _ 4 _ _ _ rK1_.out
  have K_5_ : ((W.alloc (.cells #[.int .i64 p.f0, .int .i64 p.f1, .int .i64 p.f2, .int .i64 p.f3, .int .i64 p.f4, .int .i64 p.f5, .int .i64 p.f6, vp] 29))).cell? ⟨W.heap.size, 5, none⟩ = some (.int .i64 p.f5) := cell_of_row _ _ 5 _ _ _ rK1_.out
  have K_6_ : ((W.alloc (.cells #[.int .i64 p.f0, .int .i64 p.f1, .int .i64 p.f2, .int .i64 p.f3, .int .i64 p.f4, .int .i64 p.f5, .int .i64 p.f6, vp] 29))).cell? ⟨W.heap.size, 6, none⟩ = some (.int .i64 p.f6) := cell_of_row _ _ 6 _ _ _ rK1_.out
  have K_7_ : ((W.alloc (.cells #[.int .i64 p.f0, .int .i64 p.f1, .int .i64 p.f2, .int .i64 p.f3, .int .i64 p.f4, .int .i64 p.f5, .int .i64 p.f6, vp] 29))).cell? ⟨W.heap.size, 7, none⟩ = some (vp) := cell_of_row _ _ 7 _ _ _ rK1_.out
  have rG3_ := Lib.hid (show ((W.alloc (.cells #[.int .i64 p.f0, .int .i64 p.f1, .int .i64 p.f2, .int .i64 p.f3, .int .i64 p.f4, .int .i64 p.f5, .int .i64 p.f6, vp] 29))).heap[gb]? = some (.cells #[v0, v1] 54 (0, 0)) from row_held G2_.out hg)
  have oC4_ := Lib.hid (show OwU ((W.alloc (.cells #[.int .i64 p.f0, .int .i64 p.f1, .int .i64 p.f2, .int .i64 p.f3, .int .i64 p.f4, .int .i64 p.f5, .int .i64 p.f6, vp] 29))) (lo) (hi) [] [own shI v0 xs, own shI v1 ys] from ho.grow G2_.out)
  clear hg ho
  have G_0_ : ((W.alloc (.cells #[.int .i64 p.f0, .int .i64 p.f1, .int .i64 p.f2, .int .i64 p.f3, .int .i64 p.f4, .int .i64 p.f5, .int .i64 p.f6, vp] 29))).cell? ⟨gb, 0, none⟩ = some (v0) := cell_of_row _ _ 0 _ _ _ rG3_.out
  have G_1_ : ((W.alloc (.cells #[.int .i64 p.f0, .int .i64 p.f1, .int .i64 p.f2, .int .i64 p.f3, .int .i64 p.f4, .int .i64 p.f5, .int .i64 p.f6, vp] 29))).cell? ⟨gb, 1, none⟩ = some (v1) := cell_of_row _ _ 1 _ _ _ rG3_.out
  go_wp2_with fail
  go_at_call 125
  refine (HCL.out _ _ (HP.out.grow G2_.out)).mono ?_
  rintro e w1 ⟨rfl, g⟩
  have szw1 := g.size
  try simp only [World.size_alloc] at szw1
  try simp only [World.size_setCell] at szw1
  clear K_0_ K_1_ K_2_ K_3_ K_4_ K_5_ K_6_ K_7_ G_0_ G_1_
  have rK5_ := Lib.hid (show (w1).heap[W.heap.size]? = some (.cells #[.int .i64 p.f0, .int .i64 p.f1, .int .i64 p.f2, .int .i64 p.f3, .int .i64 p.f4, .int .i64 p.f5, .int .i64 p.f6, vp] 29 (0, 0)) from row_held g rK1_.out)
  clear rK1_
  have rG6_ := Lib.hid (show (w1).heap[gb]? = some (.cells #[v0, v1] 54 (0, 0)) from row_held g rG3_.out)
  clear rG3_
  have oC7_ := Lib.hid (show OwU (w1) (lo) (hi) [] [own shI v0 xs, own shI v1 ys] from OwU.grow oC4_.out g)
  clear oC4_
  have G8_ := Lib.hid (show (W).grownBy (w1) none from gby_trans G2_.out g)
  clear g
  have K_0_ : (w1).cell? ⟨W.heap.size, 0, none⟩ = some (.int .i64 p.f0) := cell_of_row _ _ 0 _ _ _ rK5_.out
  have K_1_ : (w1).cell? ⟨W.heap.size, 1, none⟩ = some (.int .i64 p.f1) := cell_of_row _ _ 1 _ _ _ rK5_.out
  have K_2_ : (w1).cell? ⟨W.heap.size, 2, none⟩ = some (.int .i64 p.f2) := cell_of_row _ _ 2 _ _ _ rK5_.out
  have K_3_ : (w1).cell? ⟨W.heap.size, 3, none⟩ = some (.int .i64 p.f3) := cell_of_row _ _ 3 _ _ _ rK5_.out
  have K_4_ : (w1).cell? ⟨W.heap.size, 4, none⟩ = some (.int .i64 p.f4) := cell_of_row _ _ 4 _ _ _ rK5_.out
  have K_5_ : (w1).cell? ⟨W.heap.size, 5, none⟩ = some (.int .i64 p.f5) := cell_of_row _ _ 5 _ _ _ rK5_.out
  have K_6_ : (w1).cell? ⟨W.heap.size, 6, none⟩ = some (.int .i64 p.f6) := cell_of_row _ _ 6 _ _ _ rK5_.out
  have K_7_ : (w1).cell? ⟨W.heap.size, 7, none⟩ = some (vp) := cell_of_row _ _ 7 _ _ _ rK5_.out
  have G_0_ : (w1).cell? ⟨gb, 0, none⟩ = some (v0) := cell_of_row _ _ 0 _ _ _ rG6_.out
  have G_1_ : (w1).cell? ⟨gb, 1, none⟩ = some (v1) := cell_of_row _ _ 1 _ _ _ rG6_.out
  obtain ⟨b0, o0, c0, hv0, l0, h0, ce0, fr0, _⟩ := cset1 oC7_.out k (by omega)
  obtain ⟨b1, o1, c1, hv1, l1, h1, ce1, fr1, _⟩ := cset2 oC7_.out k (by omega)
  subst hv0 hv1
  rw [← HX.out] at ce0
  rw [← HY.out] at ce1
  have hk0 : (0 : Int) ≤ (k : Int) := by omega
  have htk : ((k : Int)).toNat = k := by omega
  have hkx : (k : Int) < (xs.length : Int) := by omega
  have hky : (k : Int) < (ys.length : Int) := by omega
  have hk3i : (k : Int) < 3 := by omega
  have e1_ : IntKind.i64.wrap (x + 1) = x + 1 := IntWalk.i64_in _ (by omega)
  have e2_ : IntKind.i64.wrap (y + u) = y + u := IntWalk.i64_in _ (by omega)
  clear K_0_ K_1_ K_2_ K_3_ K_4_ K_5_ K_6_ K_7_ G_0_ G_1_
  have K_0_ : (w1).cell? ⟨W.heap.size, 0, none⟩ = some (.int .i64 p.f0) := cell_of_row _ _ 0 _ _ _ rK5_.out
  have K_1_ : (w1).cell? ⟨W.heap.size, 1, none⟩ = some (.int .i64 p.f1) := cell_of_row _ _ 1 _ _ _ rK5_.out
  have K_2_ : (w1).cell? ⟨W.heap.size, 2, none⟩ = some (.int .i64 p.f2) := cell_of_row _ _ 2 _ _ _ rK5_.out
  have K_3_ : (w1).cell? ⟨W.heap.size, 3, none⟩ = some (.int .i64 p.f3) := cell_of_row _ _ 3 _ _ _ rK5_.out
  have K_4_ : (w1).cell? ⟨W.heap.size, 4, none⟩ = some (.int .i64 p.f4) := cell_of_row _ _ 4 _ _ _ rK5_.out
  have K_5_ : (w1).cell? ⟨W.heap.size, 5, none⟩ = some (.int .i64 p.f5) := cell_of_row _ _ 5 _ _ _ rK5_.out
  have K_6_ : (w1).cell? ⟨W.heap.size, 6, none⟩ = some (.int .i64 p.f6) := cell_of_row _ _ 6 _ _ _ rK5_.out
  have K_7_ : (w1).cell? ⟨W.heap.size, 7, none⟩ = some (vp) := cell_of_row _ _ 7 _ _ _ rK5_.out
  have G_0_ : (w1).cell? ⟨gb, 0, none⟩ = some (.slice (some ⟨b0, o0, none⟩) xs.length c0) := cell_of_row _ _ 0 _ _ _ rG6_.out
  have G_1_ : (w1).cell? ⟨gb, 1, none⟩ = some (.slice (some ⟨b1, o1, none⟩) ys.length c1) := cell_of_row _ _ 1 _ _ _ rG6_.out
  have t1_ : decide (x + 1 > 30) = true := decide_eq_true hw
  have t1b_ : (30 : Int) < x + 1 := by omega
  have HP0 := Lib.hid (HP.out.grow G8_.out)
  go_wp2_with fail
  refine wp_region_held_drew (S := fun w' => w'.cell? ⟨b0, o0 + k, none⟩ = some (.int .i64 x) ∧ w'.cell? ⟨b1, o1 + k, none⟩ = some (.int .i64 y) ∧ w'.cell? ⟨gb, 0, none⟩ = some (.slice (some ⟨b0, o0, none⟩) xs.length c0) ∧ w'.cell? ⟨gb, 1, none⟩ = some (.slice (some ⟨b1, o1, none⟩) ys.length c1) ∧ w'.cell? ⟨W.heap.size, 0, none⟩ = some (.int .i64 p.f0) ∧ w'.cell? ⟨W.heap.size, 1, none⟩ = some (.int .i64 p.f1) ∧ w'.cell? ⟨W.heap.size, 2, none⟩ = some (.int .i64 p.f2) ∧ w'.cell? ⟨W.heap.size, 3, none⟩ = some (.int .i64 p.f3) ∧ w'.cell? ⟨W.heap.size, 4, none⟩ = some (.int .i64 p.f4) ∧ w'.cell? ⟨W.heap.size, 5, none⟩ = some (.int .i64 p.f5) ∧ w'.cell? ⟨W.heap.size, 6, none⟩ = some (.int .i64 p.f6) ∧ w'.cell? ⟨W.heap.size, 7, none⟩ = some (vp)) (by kernel_rfl) (by (try dsimp only); exact ⟨ce0, ce1, G_0_, G_1_, K_0_, K_1_, K_2_, K_3_, K_4_, K_5_, K_6_, K_7_⟩) (fun hHeld => ?_)
  refine wpAnyH_take (i := 0) (oi := { dst := some 8, op := Op.move (Operand.tmp 0), type := 131, pos := "l14_credit.go:72", after := #[], guard := none }) (v := ?v0_r1_1) rfl (by kernel_rfl) (by kernel_rfl) (by kernel_rfl) (fun _ _ _ h => h) (Or.inl ⟨by rfl, ?y0_r1_1⟩) (by assumption) ?r0_r1_1
  case y0_r1_1 => (intro w hSw; (try dsimp only at hSw); go_simp; all_goals (with_reducible rfl))
  try simp only [Act.put, List.setIfInBounds_toArray, List.set_cons_zero, List.set_cons_succ]
  refine wpAnyH_take (i := 1) (oi := { dst := some 9, op := Op.nilCheck (Operand.tmp 8), type := 0, pos := "l14_credit.go:72", after := #[{ on := 0, ground := Ground.data }], guard := none }) (v := ?v1_r1_2) rfl (by kernel_rfl) (by kernel_rfl) (by kernel_rfl) (fun _ _ _ h => h) (Or.inl ⟨by rfl, ?y1_r1_2⟩) (by assumption) ?r1_r1_2
  case y1_r1_2 => (intro w hSw; (try dsimp only at hSw); go_simp; all_goals (with_reducible rfl))
  try simp only [Act.put, List.setIfInBounds_toArray, List.set_cons_zero, List.set_cons_succ]
  refine wpAnyH_take (i := 2) (oi := { dst := some 10, op := Op.fieldAddr 54 (Operand.tmp 9) 0, type := 0, pos := "l14_credit.go:72", after := #[{ on := 1, ground := Ground.data }], guard := none }) (v := ?v2_r1_3) rfl (by kernel_rfl) (by kernel_rfl) (by kernel_rfl) (fun _ _ _ h => h) (Or.inl ⟨by rfl, ?y2_r1_3⟩) (by assumption) ?r2_r1_3
  case y2_r1_3 => (intro w hSw; (try dsimp only at hSw); go_simp; all_goals (with_reducible rfl))
  try simp only [Act.put, List.setIfInBounds_toArray, List.set_cons_zero, List.set_cons_succ]
  refine wpAnyH_take (i := 3) (oi := { dst := some 11, op := Op.load 27 (Operand.tmp 10), type := 27, pos := "l14_credit.go:72", after := #[{ on := 2, ground := Ground.data }], guard := none }) (v := ?v3_r1_4) rfl (by kernel_rfl) (by kernel_rfl) (by kernel_rfl) (fun _ _ _ h => h) (Or.inl ⟨by rfl, ?y3_r1_4⟩) (by assumption) ?r3_r1_4
  case y3_r1_4 => (intro w hSw; (try dsimp only at hSw); go_simp; all_goals (with_reducible rfl))
  try simp only [Act.put, List.setIfInBounds_toArray, List.set_cons_zero, List.set_cons_succ]
  refine wpAnyH_take (i := 4) (oi := { dst := some 12, op := Op.move (Operand.tmp 5), type := 3, pos := "l14_credit.go:72", after := #[], guard := none }) (v := ?v4_r1_5) rfl (by kernel_rfl) (by kernel_rfl) (by kernel_rfl) (fun _ _ _ h => h) (Or.inl ⟨by rfl, ?y4_r1_5⟩) (by assumption) ?r4_r1_5
  case y4_r1_5 => (intro w hSw; (try dsimp only at hSw); go_simp; all_goals (with_reducible rfl))
  try simp only [Act.put, List.setIfInBounds_toArray, List.set_cons_zero, List.set_cons_succ]
  refine wpAnyH_take (i := 5) (oi := { dst := some 13, op := Op.indexAddr 27 (Operand.tmp 11) (Operand.tmp 12), type := 0, pos := "l14_credit.go:72", after := #[{ on := 3, ground := Ground.data }, { on := 4, ground := Ground.data }], guard := none }) (v := ?v5_r1_6) rfl (by kernel_rfl) (by kernel_rfl) (by kernel_rfl) (fun _ _ _ h => h) (Or.inl ⟨by rfl, ?y5_r1_6⟩) (by assumption) ?r5_r1_6
  case y5_r1_6 => (intro w hSw; (try dsimp only at hSw); go_simp; all_goals (with_reducible rfl))
  try simp only [Act.put, List.setIfInBounds_toArray, List.set_cons_zero, List.set_cons_succ]
  refine wpAnyH_take (i := 6) (oi := { dst := some 14, op := Op.load 3 (Operand.tmp 13), type := 3, pos := "l14_credit.go:72", after := #[{ on := 5, ground := Ground.data }], guard := none }) (v := ?v6_r1_7) rfl (by kernel_rfl) (by kernel_rfl) (by kernel_rfl) (fun _ _ _ h => h) (Or.inl ⟨by rfl, ?y6_r1_7⟩) (by assumption) ?r6_r1_7
  case y6_r1_7 => (intro w hSw; (try dsimp only at hSw); go_simp; all_goals (with_reducible rfl))
  try simp only [Act.put, List.setIfInBounds_toArray, List.set_cons_zero, List.set_cons_succ]
  refine wpAnyH_take (i := 7) (oi := { dst := some 15, op := Op.binOp BinOp.add 3 (Operand.tmp 14) (Operand.const (Value.int IntKind.i64 1)) 3, type := 3, pos := "l14_credit.go:72", after := #[{ on := 6, ground := Ground.data }], guard := none }) (v := ?v7_r1_8) rfl (by kernel_rfl) (by kernel_rfl) (by kernel_rfl) (fun _ _ _ h => h) (Or.inl ⟨by rfl, ?y7_r1_8⟩) (by assumption) ?r7_r1_8
  case y7_r1_8 => (intro w hSw; (try dsimp only at hSw); go_simp; all_goals (with_reducible rfl))
  try simp only [Act.put, List.setIfInBounds_toArray, List.set_cons_zero, List.set_cons_succ]
  refine wpAnyH_take (i := 8) (oi := { dst := some 16, op := Op.binOp BinOp.gtr 3 (Operand.tmp 15) (Operand.const (Value.int IntKind.i64 30)) 3, type := 4, pos := "l14_credit.go:72", after := #[{ on := 7, ground := Ground.data }], guard := none }) (v := ?v8_r1_9) rfl (by kernel_rfl) (by kernel_rfl) (by kernel_rfl) (fun _ _ _ h => h) (Or.inl ⟨by rfl, ?y8_r1_9⟩) (by assumption) ?r8_r1_9
  case y8_r1_9 => (intro w hSw; (try dsimp only at hSw); go_simp; all_goals (with_reducible rfl))
  try simp only [Act.put, List.setIfInBounds_toArray, List.set_cons_zero, List.set_cons_succ]
  refine wpAnyH_take (i := 9) (oi := { dst := some 17, op := Op.move (Operand.tmp 16), type := 4, pos := "l14_credit.go:72", after := #[{ on := 8, ground := Ground.data }], guard := none }) (v := ?v9_r1_10) rfl (by kernel_rfl) (by kernel_rfl) (by kernel_rfl) (fun _ _ _ h => h) (Or.inl ⟨by rfl, ?y9_r1_10⟩) (by assumption) ?r9_r1_10
  case y9_r1_10 => (intro w hSw; (try dsimp only at hSw); go_simp; all_goals (with_reducible rfl))
  try simp only [Act.put, List.setIfInBounds_toArray, List.set_cons_zero, List.set_cons_succ]
  refine wpAnyH_take (i := 10) (oi := { dst := some 18, op := Op.move (Operand.tmp 0), type := 131, pos := "l14_credit.go:72", after := #[{ on := 9, ground := Ground.guard }], guard := some (9, false) }) (v := undef) rfl (by kernel_rfl) (by kernel_rfl) (by kernel_rfl) (fun _ _ _ h => h) (Or.inr ⟨by rfl, rfl⟩) (by assumption) ?r10_r1_11
  try simp only [Act.put, List.setIfInBounds_toArray, List.set_cons_zero, List.set_cons_succ]
  refine wpAnyH_take (i := 11) (oi := { dst := some 19, op := Op.nilCheck (Operand.tmp 18), type := 0, pos := "l14_credit.go:72", after := #[{ on := 10, ground := Ground.data }, { on := 9, ground := Ground.guard }], guard := some (9, false) }) (v := undef) rfl (by kernel_rfl) (by kernel_rfl) (by kernel_rfl) (fun _ _ _ h => h) (Or.inr ⟨by rfl, rfl⟩) (by assumption) ?r11_r1_12
  try simp only [Act.put, List.setIfInBounds_toArray, List.set_cons_zero, List.set_cons_succ]
  refine wpAnyH_take (i := 12) (oi := { dst := some 20, op := Op.fieldAddr 54 (Operand.tmp 19) 1, type := 0, pos := "l14_credit.go:72", after := #[{ on := 11, ground := Ground.data }, { on := 9, ground := Ground.guard }], guard := some (9, false) }) (v := undef) rfl (by kernel_rfl) (by kernel_rfl) (by kernel_rfl) (fun _ _ _ h => h) (Or.inr ⟨by rfl, rfl⟩) (by assumption) ?r12_r1_13
  try simp only [Act.put, List.setIfInBounds_toArray, List.set_cons_zero, List.set_cons_succ]
  refine wpAnyH_take (i := 13) (oi := { dst := some 21, op := Op.load 27 (Operand.tmp 20), type := 27, pos := "l14_credit.go:72", after := #[{ on := 12, ground := Ground.data }, { on := 9, ground := Ground.guard }], guard := some (9, false) }) (v := undef) rfl (by kernel_rfl) (by kernel_rfl) (by kernel_rfl) (fun _ _ _ h => h) (Or.inr ⟨by rfl, rfl⟩) (by assumption) ?r13_r1_14
  try simp only [Act.put, List.setIfInBounds_toArray, List.set_cons_zero, List.set_cons_succ]
  refine wpAnyH_take (i := 14) (oi := { dst := some 22, op := Op.move (Operand.tmp 5), type := 3, pos := "l14_credit.go:72", after := #[{ on := 9, ground := Ground.guard }], guard := some (9, false) }) (v := undef) rfl (by kernel_rfl) (by kernel_rfl) (by kernel_rfl) (fun _ _ _ h => h) (Or.inr ⟨by rfl, rfl⟩) (by assumption) ?r14_r1_15
  try simp only [Act.put, List.setIfInBounds_toArray, List.set_cons_zero, List.set_cons_succ]
  refine wpAnyH_take (i := 15) (oi := { dst := some 23, op := Op.indexAddr 27 (Operand.tmp 21) (Operand.tmp 22), type := 0, pos := "l14_credit.go:72", after := #[{ on := 13, ground := Ground.data }, { on := 14, ground := Ground.data }, { on := 9, ground := Ground.guard }], guard := some (9, false) }) (v := undef) rfl (by kernel_rfl) (by kernel_rfl) (by kernel_rfl) (fun _ _ _ h => h) (Or.inr ⟨by rfl, rfl⟩) (by assumption) ?r15_r1_16
  try simp only [Act.put, List.setIfInBounds_toArray, List.set_cons_zero, List.set_cons_succ]
  refine wpAnyH_take (i := 16) (oi := { dst := some 24, op := Op.load 3 (Operand.tmp 23), type := 3, pos := "l14_credit.go:72", after := #[{ on := 15, ground := Ground.data }, { on := 9, ground := Ground.guard }], guard := some (9, false) }) (v := undef) rfl (by kernel_rfl) (by kernel_rfl) (by kernel_rfl) (fun _ _ _ h => h) (Or.inr ⟨by rfl, rfl⟩) (by assumption) ?r16_r1_17
  try simp only [Act.put, List.setIfInBounds_toArray, List.set_cons_zero, List.set_cons_succ]
  refine wpAnyH_take (i := 17) (oi := { dst := some 25, op := Op.load 29 (Operand.tmp 3), type := 29, pos := "l14_credit.go:72", after := #[{ on := 9, ground := Ground.guard }], guard := some (9, false) }) (v := undef) rfl (by kernel_rfl) (by kernel_rfl) (by kernel_rfl) (fun _ _ _ h => h) (Or.inr ⟨by rfl, rfl⟩) (by assumption) ?r17_r1_18
  try simp only [Act.put, List.setIfInBounds_toArray, List.set_cons_zero, List.set_cons_succ]
  refine wpAnyH_take (i := 18) (oi := { dst := some 26, op := Op.call { callee := Callee.value (Operand.func 126), args := #[Operand.tmp 25], argTypes := #[29] }, type := 3, pos := "l14_credit.go:72", after := #[{ on := 17, ground := Ground.data }, { on := 9, ground := Ground.chain }, { on := 9, ground := Ground.guard }], guard := some (9, false) }) (v := undef) rfl (by kernel_rfl) (by kernel_rfl) (by kernel_rfl) (fun _ _ _ h => h) (Or.inr ⟨by rfl, rfl⟩) (by assumption) ?r18_r1_19
  try simp only [Act.put, List.setIfInBounds_toArray, List.set_cons_zero, List.set_cons_succ]
  refine wpAnyH_take (i := 19) (oi := { dst := some 27, op := Op.binOp BinOp.add 3 (Operand.tmp 24) (Operand.tmp 26) 3, type := 3, pos := "l14_credit.go:72", after := #[{ on := 16, ground := Ground.data }, { on := 18, ground := Ground.data }, { on := 9, ground := Ground.guard }], guard := some (9, false) }) (v := undef) rfl (by kernel_rfl) (by kernel_rfl) (by kernel_rfl) (fun _ _ _ h => h) (Or.inr ⟨by rfl, rfl⟩) (by assumption) ?r19_r1_20
  try simp only [Act.put, List.setIfInBounds_toArray, List.set_cons_zero, List.set_cons_succ]
  refine wpAnyH_take (i := 20) (oi := { dst := some 28, op := Op.binOp BinOp.gtr 3 (Operand.tmp 27) (Operand.const (Value.int IntKind.i64 30)) 3, type := 4, pos := "l14_credit.go:72", after := #[{ on := 19, ground := Ground.data }, { on := 9, ground := Ground.guard }], guard := some (9, false) }) (v := undef) rfl (by kernel_rfl) (by kernel_rfl) (by kernel_rfl) (fun _ _ _ h => h) (Or.inr ⟨by rfl, rfl⟩) (by assumption) ?r20_r1_21
  try simp only [Act.put, List.setIfInBounds_toArray, List.set_cons_zero, List.set_cons_succ]
  refine wpAnyH_take (i := 21) (oi := { dst := some 29, op := Op.pick (Operand.tmp 17) (Operand.const (Value.bool true)) (Operand.tmp 28), type := 4, pos := "l14_credit.go:72", after := #[{ on := 9, ground := Ground.data }, { on := 20, ground := Ground.data }], guard := none }) (v := ?v21_r1_22) rfl (by kernel_rfl) (by kernel_rfl) (by kernel_rfl) (fun _ _ _ h => h) (Or.inl ⟨by rfl, ?y21_r1_22⟩) (by assumption) ?r21_r1_22
  case y21_r1_22 => (intro w hSw; (try dsimp only at hSw); go_simp; all_goals (with_reducible rfl))
  try simp only [Act.put, List.setIfInBounds_toArray, List.set_cons_zero, List.set_cons_succ]
  refine wpAnyH_done (by kernel_rfl) ?_ _
  have gR_ : (w1).grownBy ((w1).drew) none := (gby_drew (gby_refl _ none))
  clear K_0_ K_1_ K_2_ K_3_ K_4_ K_5_ K_6_ K_7_ G_0_ G_1_
  have rK9_ := Lib.hid (show ((w1).drew).heap[W.heap.size]? = some (.cells #[.int .i64 p.f0, .int .i64 p.f1, .int .i64 p.f2, .int .i64 p.f3, .int .i64 p.f4, .int .i64 p.f5, .int .i64 p.f6, vp] 29 (0, 0)) from row_held gR_ rK5_.out)
  clear rK5_
  have rG10_ := Lib.hid (show ((w1).drew).heap[gb]? = some (.cells #[.slice (some ⟨b0, o0, none⟩) xs.length c0, .slice (some ⟨b1, o1, none⟩) ys.length c1] 54 (0, 0)) from row_held gR_ rG6_.out)
  clear rG6_
  have oC11_ := Lib.hid (show OwU ((w1).drew) (lo) (hi) [] [own shI (.slice (some ⟨b0, o0, none⟩) xs.length c0) xs, own shI (.slice (some ⟨b1, o1, none⟩) ys.length c1) ys] from OwU.grow oC7_.out gR_)
  clear oC7_
  have G12_ := Lib.hid (show (W).grownBy ((w1).drew) none from gby_trans G8_.out gR_)
  clear gR_
  have szd_ : ((w1).drew).heap.size = (w1).heap.size := rfl
  have K_0_ : ((w1).drew).cell? ⟨W.heap.size, 0, none⟩ = some (.int .i64 p.f0) := cell_of_row _ _ 0 _ _ _ rK9_.out
  have K_1_ : ((w1).drew).cell? ⟨W.heap.size, 1, none⟩ = some (.int .i64 p.f1) := cell_of_row _ _ 1 _ _ _ rK9_.out
  have K_2_ : ((w1).drew).cell? ⟨W.heap.size, 2, none⟩ = some (.int .i64 p.f2) := cell_of_row _ _ 2 _ _ _ rK9_.out
  have K_3_ : ((w1).drew).cell? ⟨W.heap.size, 3, none⟩ = some (.int .i64 p.f3) := cell_of_row _ _ 3 _ _ _ rK9_.out
  have K_4_ : ((w1).drew).cell? ⟨W.heap.size, 4, none⟩ = some (.int .i64 p.f4) := cell_of_row _ _ 4 _ _ _ rK9_.out
  have K_5_ : ((w1).drew).cell? ⟨W.heap.size, 5, none⟩ = some (.int .i64 p.f5) := cell_of_row _ _ 5 _ _ _ rK9_.out
  have K_6_ : ((w1).drew).cell? ⟨W.heap.size, 6, none⟩ = some (.int .i64 p.f6) := cell_of_row _ _ 6 _ _ _ rK9_.out
  have K_7_ : ((w1).drew).cell? ⟨W.heap.size, 7, none⟩ = some (vp) := cell_of_row _ _ 7 _ _ _ rK9_.out
  have G_0_ : ((w1).drew).cell? ⟨gb, 0, none⟩ = some (.slice (some ⟨b0, o0, none⟩) xs.length c0) := cell_of_row _ _ 0 _ _ _ rG10_.out
  have G_1_ : ((w1).drew).cell? ⟨gb, 1, none⟩ = some (.slice (some ⟨b1, o1, none⟩) ys.length c1) := cell_of_row _ _ 1 _ _ _ rG10_.out
  go_wp2
  go_ret
  exact ⟨rfl, oC11_.out, chg_gby G12_.out lo hi⟩

set_option maxRecDepth 8000 in
set_option maxHeartbeats 4000000 in
theorem give_full2 (W : World) (gb lo hi k : Nat) (v0 v1 vp : Value) (xs ys : List Int) (p : DPacket) (hg : W.heap[gb]? = some (.cells #[v0, v1] 54 (0, 0))) (ho : OwU W lo hi [] [own shI v0 xs, own shI v1 ys]) (hgo : gb < lo ∨ hi ≤ gb) (hhi : hi ≤ W.heap.size) (hp : RdL shI W vp p.f7) (hpf : ∀ w, Chg W w lo hi → RdL shI w vp p.f7) (hl : szL shI p.f7 ≤ 1048576) (hc : clsD p = (k : Int)) (hk3 : k < 3) (hcr : CrdOk xs ys) (u : Int) (hu : untD p = u) (hu0 : 0 ≤ u) (hu9 : u ≤ 1000000) (hw : ¬ xs.getD k 0 + 1 > 30 ∧ ys.getD k 0 + u > 30) : Calls Try.prog 90 #[.pointer (some ⟨gb, 0, none⟩), (vPacket p.f0 p.f1 p.f2 p.f3 p.f4 p.f5 p.f6 vp)] W (SpPost false lo hi v0 v1 xs ys W) := by
  have HP := Lib.hid hp
  have HPF := Lib.hid hpf
  have HL := Lib.hid hl
  have HC := Lib.hid hc
  have HU := Lib.hid hu
  have HCR := Lib.hid hcr
  have hx1 := crd_at hcr hk3
  obtain ⟨x, hx⟩ : ∃ x, x = xs.getD k 0 := ⟨_, rfl⟩
  obtain ⟨y, hy⟩ : ∃ y, y = ys.getD k 0 := ⟨_, rfl⟩
  rw [← hx, ← hy] at hx1
  obtain ⟨hxl, hyl, hx0, hx30, hy0, hy30⟩ := hx1
  have HX := Lib.hid hx
  have HY := Lib.hid hy
  have HXL := Lib.hid (show szL shI xs ≤ 1048576 by rw [szL_I]; omega)
  have HYL := Lib.hid (show szL shI ys ≤ 1048576 by rw [szL_I]; omega)
  have hgl_ : gb < W.heap.size := lt_of_block hg
  clear hp hpf hl hc hu hcr hx hy
  unfold vPacket
  have HCL := Lib.hid (show ∀ (W : World) (v : Value), RdL shI W v p.f7 → Calls Try.prog 125 #[vPacket p.f0 p.f1 p.f2 p.f3 p.f4 p.f5 p.f6 v] W (AnsN (.int .i64 (k : Int)) W) from fun W v H => by have q := implClsD W p v H HL.out; rw [HC.out] at q; exact q)
  have HUN := Lib.hid (show ∀ (W : World) (v : Value), RdL shI W v p.f7 → Calls Try.prog 126 #[vPacket p.f0 p.f1 p.f2 p.f3 p.f4 p.f5 p.f6 v] W (AnsN (.int .i64 u) W) from fun W v H => by have q := implUntD W p v H HL.out (by rw [HC.out]; omega); rw [HU.out] at q; exact q)
  rw [← HX.out, ← HY.out] at hw
  go_enter Try.func90, Try.ntmps90
  have rK1_ := Lib.hid (show ((W.alloc (.cells #[.int .i64 p.f0, .int .i64 p.f1, .int .i64 p.f2, .int .i64 p.f3, .int .i64 p.f4, .int .i64 p.f5, .int .i64 p.f6, vp] 29))).heap[W.heap.size]? = some (.cells #[.int .i64 p.f0, .int .i64 p.f1, .int .i64 p.f2, .int .i64 p.f3, .int .i64 p.f4, .int .i64 p.f5, .int .i64 p.f6, vp] 29 (0, 0)) from by exact heap_alloc_new _ _)
  have G2_ := Lib.hid (show (W).grownBy ((W.alloc (.cells #[.int .i64 p.f0, .int .i64 p.f1, .int .i64 p.f2, .int .i64 p.f3, .int .i64 p.f4, .int .i64 p.f5, .int .i64 p.f6, vp] 29))) none from (gby_alloc (gby_refl _ _) _))
  have K_0_ : ((W.alloc (.cells #[.int .i64 p.f0, .int .i64 p.f1, .int .i64 p.f2, .int .i64 p.f3, .int .i64 p.f4, .int .i64 p.f5, .int .i64 p.f6, vp] 29))).cell? ⟨W.heap.size, 0, none⟩ = some (.int .i64 p.f0) := cell_of_row _ _ 0 _ _ _ rK1_.out
  have K_1_ : ((W.alloc (.cells #[.int .i64 p.f0, .int .i64 p.f1, .int .i64 p.f2, .int .i64 p.f3, .int .i64 p.f4, .int .i64 p.f5, .int .i64 p.f6, vp] 29))).cell? ⟨W.heap.size, 1, none⟩ = some (.int .i64 p.f1) := cell_of_row _ _ 1 _ _ _ rK1_.out
  have K_2_ : ((W.alloc (.cells #[.int .i64 p.f0, .int .i64 p.f1, .int .i64 p.f2, .int .i64 p.f3, .int .i64 p.f4, .int .i64 p.f5, .int .i64 p.f6, vp] 29))).cell? ⟨W.heap.size, 2, none⟩ = some (.int .i64 p.f2) := cell_of_row _ _ 2 _ _ _ rK1_.out
  have K_3_ : ((W.alloc (.cells #[.int .i64 p.f0, .int .i64 p.f1, .int .i64 p.f2, .int .i64 p.f3, .int .i64 p.f4, .int .i64 p.f5, .int .i64 p.f6, vp] 29))).cell? ⟨W.heap.size, 3, none⟩ = some (.int .i64 p.f3) := cell_of_row _ _ 3 _ _ _ rK1_.out
  have K_4_ : ((W.alloc (.cells #[.int .i64 p.f0, .int .i64 p.f1, .int .i64 p.f2, .int .i64 p.f3, .int .i64 p.f4, .int .i64 p.f5, .int .i64 p.f6, vp] 29))).cell? ⟨W.heap.size, 4, none⟩ = some (.int .i64 p.f4) := cell_of_row _ _ 4 _ _ _ rK1_.out
  have K_5_ : ((W.alloc (.cells #[.int .i64 p.f0, .int .i64 p.f1, .int .i64 p.f2, .int .i64 p.f3, .int .i64 p.f4, .int .i64 p.f5, .int .i64 p.f6, vp] 29))).cell? ⟨W.heap.size, 5, none⟩ = some (.int .i64 p.f5) := cell_of_row _ _ 5 _ _ _ rK1_.out
  have K_6_ : ((W.alloc (.cells #[.int .i64 p.f0, .int .i64 p.f1, .int .i64 p.f2, .int .i64 p.f3, .int .i64 p.f4, .int .i64 p.f5, .int .i64 p.f6, vp] 29))).cell? ⟨W.heap.size, 6, none⟩ = some (.int .i64 p.f6) := cell_of_row _ _ 6 _ _ _ rK1_.out
  have K_7_ : ((W.alloc (.cells #[.int .i64 p.f0, .int .i64 p.f1, .int .i64 p.f2, .int .i64 p.f3, .int .i64 p.f4, .int .i64 p.f5, .int .i64 p.f6, vp] 29))).cell? ⟨W.heap.size, 7, none⟩ = some (vp) := cell_of_row _ _ 7 _ _ _ rK1_.out
  have rG3_ := Lib.hid (show ((W.alloc (.cells #[.int .i64 p.f0, .int .i64 p.f1, .int .i64 p.f2, .int .i64 p.f3, .int .i64 p.f4, .int .i64 p.f5, .int .i64 p.f6, vp] 29))).heap[gb]? = some (.cells #[v0, v1] 54 (0, 0)) from row_held G2_.out hg)
  have oC4_ := Lib.hid (show OwU ((W.alloc (.cells #[.int .i64 p.f0, .int .i64 p.f1, .int .i64 p.f2, .int .i64 p.f3, .int .i64 p.f4, .int .i64 p.f5, .int .i64 p.f6, vp] 29))) (lo) (hi) [] [own shI v0 xs, own shI v1 ys] from ho.grow G2_.out)
  clear hg ho
  have G_0_ : ((W.alloc (.cells #[.int .i64 p.f0, .int .i64 p.f1, .int .i64 p.f2, .int .i64 p.f3, .int .i64 p.f4, .int .i64 p.f5, .int .i64 p.f6, vp] 29))).cell? ⟨gb, 0, none⟩ = some (v0) := cell_of_row _ _ 0 _ _ _ rG3_.out
  have G_1_ : ((W.alloc (.cells #[.int .i64 p.f0, .int .i64 p.f1, .int .i64 p.f2, .int .i64 p.f3, .int .i64 p.f4, .int .i64 p.f5, .int .i64 p.f6, vp] 29))).cell? ⟨gb, 1, none⟩ = some (v1) := cell_of_row _ _ 1 _ _ _ rG3_.out
  go_wp2_with fail
  go_at_call 125
  refine (HCL.out _ _ (HP.out.grow G2_.out)).mono ?_
  rintro e w1 ⟨rfl, g⟩
  have szw1 := g.size
  try simp only [World.size_alloc] at szw1
  try simp only [World.size_setCell] at szw1
  clear K_0_ K_1_ K_2_ K_3_ K_4_ K_5_ K_6_ K_7_ G_0_ G_1_
  have rK5_ := Lib.hid (show (w1).heap[W.heap.size]? = some (.cells #[.int .i64 p.f0, .int .i64 p.f1, .int .i64 p.f2, .int .i64 p.f3, .int .i64 p.f4, .int .i64 p.f5, .int .i64 p.f6, vp] 29 (0, 0)) from row_held g rK1_.out)
  clear rK1_
  have rG6_ := Lib.hid (show (w1).heap[gb]? = some (.cells #[v0, v1] 54 (0, 0)) from row_held g rG3_.out)
  clear rG3_
  have oC7_ := Lib.hid (show OwU (w1) (lo) (hi) [] [own shI v0 xs, own shI v1 ys] from OwU.grow oC4_.out g)
  clear oC4_
  have G8_ := Lib.hid (show (W).grownBy (w1) none from gby_trans G2_.out g)
  clear g
  have K_0_ : (w1).cell? ⟨W.heap.size, 0, none⟩ = some (.int .i64 p.f0) := cell_of_row _ _ 0 _ _ _ rK5_.out
  have K_1_ : (w1).cell? ⟨W.heap.size, 1, none⟩ = some (.int .i64 p.f1) := cell_of_row _ _ 1 _ _ _ rK5_.out
  have K_2_ : (w1).cell? ⟨W.heap.size, 2, none⟩ = some (.int .i64 p.f2) := cell_of_row _ _ 2 _ _ _ rK5_.out
  have K_3_ : (w1).cell? ⟨W.heap.size, 3, none⟩ = some (.int .i64 p.f3) := cell_of_row _ _ 3 _ _ _ rK5_.out
  have K_4_ : (w1).cell? ⟨W.heap.size, 4, none⟩ = some (.int .i64 p.f4) := cell_of_row _ _ 4 _ _ _ rK5_.out
  have K_5_ : (w1).cell? ⟨W.heap.size, 5, none⟩ = some (.int .i64 p.f5) := cell_of_row _ _ 5 _ _ _ rK5_.out
  have K_6_ : (w1).cell? ⟨W.heap.size, 6, none⟩ = some (.int .i64 p.f6) := cell_of_row _ _ 6 _ _ _ rK5_.out
  have K_7_ : (w1).cell? ⟨W.heap.size, 7, none⟩ = some (vp) := cell_of_row _ _ 7 _ _ _ rK5_.out
  have G_0_ : (w1).cell? ⟨gb, 0, none⟩ = some (v0) := cell_of_row _ _ 0 _ _ _ rG6_.out
  have G_1_ : (w1).cell? ⟨gb, 1, none⟩ = some (v1) := cell_of_row _ _ 1 _ _ _ rG6_.out
  obtain ⟨b0, o0, c0, hv0, l0, h0, ce0, fr0, _⟩ := cset1 oC7_.out k (by omega)
  obtain ⟨b1, o1, c1, hv1, l1, h1, ce1, fr1, _⟩ := cset2 oC7_.out k (by omega)
  subst hv0 hv1
  rw [← HX.out] at ce0
  rw [← HY.out] at ce1
  have hk0 : (0 : Int) ≤ (k : Int) := by omega
  have htk : ((k : Int)).toNat = k := by omega
  have hkx : (k : Int) < (xs.length : Int) := by omega
  have hky : (k : Int) < (ys.length : Int) := by omega
  have hk3i : (k : Int) < 3 := by omega
  have e1_ : IntKind.i64.wrap (x + 1) = x + 1 := IntWalk.i64_in _ (by omega)
  have e2_ : IntKind.i64.wrap (y + u) = y + u := IntWalk.i64_in _ (by omega)
  clear K_0_ K_1_ K_2_ K_3_ K_4_ K_5_ K_6_ K_7_ G_0_ G_1_
  have K_0_ : (w1).cell? ⟨W.heap.size, 0, none⟩ = some (.int .i64 p.f0) := cell_of_row _ _ 0 _ _ _ rK5_.out
  have K_1_ : (w1).cell? ⟨W.heap.size, 1, none⟩ = some (.int .i64 p.f1) := cell_of_row _ _ 1 _ _ _ rK5_.out
  have K_2_ : (w1).cell? ⟨W.heap.size, 2, none⟩ = some (.int .i64 p.f2) := cell_of_row _ _ 2 _ _ _ rK5_.out
  have K_3_ : (w1).cell? ⟨W.heap.size, 3, none⟩ = some (.int .i64 p.f3) := cell_of_row _ _ 3 _ _ _ rK5_.out
  have K_4_ : (w1).cell? ⟨W.heap.size, 4, none⟩ = some (.int .i64 p.f4) := cell_of_row _ _ 4 _ _ _ rK5_.out
  have K_5_ : (w1).cell? ⟨W.heap.size, 5, none⟩ = some (.int .i64 p.f5) := cell_of_row _ _ 5 _ _ _ rK5_.out
  have K_6_ : (w1).cell? ⟨W.heap.size, 6, none⟩ = some (.int .i64 p.f6) := cell_of_row _ _ 6 _ _ _ rK5_.out
  have K_7_ : (w1).cell? ⟨W.heap.size, 7, none⟩ = some (vp) := cell_of_row _ _ 7 _ _ _ rK5_.out
  have G_0_ : (w1).cell? ⟨gb, 0, none⟩ = some (.slice (some ⟨b0, o0, none⟩) xs.length c0) := cell_of_row _ _ 0 _ _ _ rG6_.out
  have G_1_ : (w1).cell? ⟨gb, 1, none⟩ = some (.slice (some ⟨b1, o1, none⟩) ys.length c1) := cell_of_row _ _ 1 _ _ _ rG6_.out
  have t1_ : decide (x + 1 > 30) = false := decide_eq_false (by omega)
  have t1b_ : ¬ (30 : Int) < x + 1 := by omega
  have t1c_ : decide ((30 : Int) < x + 1) = false := decide_eq_false t1b_
  have t2_ : decide (y + u > 30) = true := decide_eq_true hw.2
  have t2b_ : (30 : Int) < y + u := by omega
  have t2c_ : decide ((30 : Int) < y + u) = true := decide_eq_true t2b_
  have HP0 := Lib.hid (HP.out.grow G8_.out)
  go_wp2_with fail
  refine wp_region_held_drew (S := fun w' => w'.cell? ⟨b0, o0 + k, none⟩ = some (.int .i64 x) ∧ w'.cell? ⟨b1, o1 + k, none⟩ = some (.int .i64 y) ∧ w'.cell? ⟨gb, 0, none⟩ = some (.slice (some ⟨b0, o0, none⟩) xs.length c0) ∧ w'.cell? ⟨gb, 1, none⟩ = some (.slice (some ⟨b1, o1, none⟩) ys.length c1) ∧ w'.cell? ⟨W.heap.size, 0, none⟩ = some (.int .i64 p.f0) ∧ w'.cell? ⟨W.heap.size, 1, none⟩ = some (.int .i64 p.f1) ∧ w'.cell? ⟨W.heap.size, 2, none⟩ = some (.int .i64 p.f2) ∧ w'.cell? ⟨W.heap.size, 3, none⟩ = some (.int .i64 p.f3) ∧ w'.cell? ⟨W.heap.size, 4, none⟩ = some (.int .i64 p.f4) ∧ w'.cell? ⟨W.heap.size, 5, none⟩ = some (.int .i64 p.f5) ∧ w'.cell? ⟨W.heap.size, 6, none⟩ = some (.int .i64 p.f6) ∧ w'.cell? ⟨W.heap.size, 7, none⟩ = some (vp)) (by kernel_rfl) (by (try dsimp only); exact ⟨ce0, ce1, G_0_, G_1_, K_0_, K_1_, K_2_, K_3_, K_4_, K_5_, K_6_, K_7_⟩) (fun hHeld => ?_)
  refine wpAnyH_take (i := 0) (oi := { dst := some 8, op := Op.move (Operand.tmp 0), type := 131, pos := "l14_credit.go:72", after := #[], guard := none }) (v := ?v0_r2_1) rfl (by kernel_rfl) (by kernel_rfl) (by kernel_rfl) (fun _ _ _ h => h) (Or.inl ⟨by rfl, ?y0_r2_1⟩) (by assumption) ?r0_r2_1
  case y0_r2_1 => (intro w hSw; (try dsimp only at hSw); go_simp; all_goals (with_reducible rfl))
  try simp only [Act.put, List.setIfInBounds_toArray, List.set_cons_zero, List.set_cons_succ]
  refine wpAnyH_take (i := 1) (oi := { dst := some 9, op := Op.nilCheck (Operand.tmp 8), type := 0, pos := "l14_credit.go:72", after := #[{ on := 0, ground := Ground.data }], guard := none }) (v := ?v1_r2_2) rfl (by kernel_rfl) (by kernel_rfl) (by kernel_rfl) (fun _ _ _ h => h) (Or.inl ⟨by rfl, ?y1_r2_2⟩) (by assumption) ?r1_r2_2
  case y1_r2_2 => (intro w hSw; (try dsimp only at hSw); go_simp; all_goals (with_reducible rfl))
  try simp only [Act.put, List.setIfInBounds_toArray, List.set_cons_zero, List.set_cons_succ]
  refine wpAnyH_take (i := 2) (oi := { dst := some 10, op := Op.fieldAddr 54 (Operand.tmp 9) 0, type := 0, pos := "l14_credit.go:72", after := #[{ on := 1, ground := Ground.data }], guard := none }) (v := ?v2_r2_3) rfl (by kernel_rfl) (by kernel_rfl) (by kernel_rfl) (fun _ _ _ h => h) (Or.inl ⟨by rfl, ?y2_r2_3⟩) (by assumption) ?r2_r2_3
  case y2_r2_3 => (intro w hSw; (try dsimp only at hSw); go_simp; all_goals (with_reducible rfl))
  try simp only [Act.put, List.setIfInBounds_toArray, List.set_cons_zero, List.set_cons_succ]
  refine wpAnyH_take (i := 3) (oi := { dst := some 11, op := Op.load 27 (Operand.tmp 10), type := 27, pos := "l14_credit.go:72", after := #[{ on := 2, ground := Ground.data }], guard := none }) (v := ?v3_r2_4) rfl (by kernel_rfl) (by kernel_rfl) (by kernel_rfl) (fun _ _ _ h => h) (Or.inl ⟨by rfl, ?y3_r2_4⟩) (by assumption) ?r3_r2_4
  case y3_r2_4 => (intro w hSw; (try dsimp only at hSw); go_simp; all_goals (with_reducible rfl))
  try simp only [Act.put, List.setIfInBounds_toArray, List.set_cons_zero, List.set_cons_succ]
  refine wpAnyH_take (i := 4) (oi := { dst := some 12, op := Op.move (Operand.tmp 5), type := 3, pos := "l14_credit.go:72", after := #[], guard := none }) (v := ?v4_r2_5) rfl (by kernel_rfl) (by kernel_rfl) (by kernel_rfl) (fun _ _ _ h => h) (Or.inl ⟨by rfl, ?y4_r2_5⟩) (by assumption) ?r4_r2_5
  case y4_r2_5 => (intro w hSw; (try dsimp only at hSw); go_simp; all_goals (with_reducible rfl))
  try simp only [Act.put, List.setIfInBounds_toArray, List.set_cons_zero, List.set_cons_succ]
  refine wpAnyH_take (i := 5) (oi := { dst := some 13, op := Op.indexAddr 27 (Operand.tmp 11) (Operand.tmp 12), type := 0, pos := "l14_credit.go:72", after := #[{ on := 3, ground := Ground.data }, { on := 4, ground := Ground.data }], guard := none }) (v := ?v5_r2_6) rfl (by kernel_rfl) (by kernel_rfl) (by kernel_rfl) (fun _ _ _ h => h) (Or.inl ⟨by rfl, ?y5_r2_6⟩) (by assumption) ?r5_r2_6
  case y5_r2_6 => (intro w hSw; (try dsimp only at hSw); go_simp; all_goals (with_reducible rfl))
  try simp only [Act.put, List.setIfInBounds_toArray, List.set_cons_zero, List.set_cons_succ]
  refine wpAnyH_take (i := 6) (oi := { dst := some 14, op := Op.load 3 (Operand.tmp 13), type := 3, pos := "l14_credit.go:72", after := #[{ on := 5, ground := Ground.data }], guard := none }) (v := ?v6_r2_7) rfl (by kernel_rfl) (by kernel_rfl) (by kernel_rfl) (fun _ _ _ h => h) (Or.inl ⟨by rfl, ?y6_r2_7⟩) (by assumption) ?r6_r2_7
  case y6_r2_7 => (intro w hSw; (try dsimp only at hSw); go_simp; all_goals (with_reducible rfl))
  try simp only [Act.put, List.setIfInBounds_toArray, List.set_cons_zero, List.set_cons_succ]
  refine wpAnyH_take (i := 7) (oi := { dst := some 15, op := Op.binOp BinOp.add 3 (Operand.tmp 14) (Operand.const (Value.int IntKind.i64 1)) 3, type := 3, pos := "l14_credit.go:72", after := #[{ on := 6, ground := Ground.data }], guard := none }) (v := ?v7_r2_8) rfl (by kernel_rfl) (by kernel_rfl) (by kernel_rfl) (fun _ _ _ h => h) (Or.inl ⟨by rfl, ?y7_r2_8⟩) (by assumption) ?r7_r2_8
  case y7_r2_8 => (intro w hSw; (try dsimp only at hSw); go_simp; all_goals (with_reducible rfl))
  try simp only [Act.put, List.setIfInBounds_toArray, List.set_cons_zero, List.set_cons_succ]
  refine wpAnyH_take (i := 8) (oi := { dst := some 16, op := Op.binOp BinOp.gtr 3 (Operand.tmp 15) (Operand.const (Value.int IntKind.i64 30)) 3, type := 4, pos := "l14_credit.go:72", after := #[{ on := 7, ground := Ground.data }], guard := none }) (v := ?v8_r2_9) rfl (by kernel_rfl) (by kernel_rfl) (by kernel_rfl) (fun _ _ _ h => h) (Or.inl ⟨by rfl, ?y8_r2_9⟩) (by assumption) ?r8_r2_9
  case y8_r2_9 => (intro w hSw; (try dsimp only at hSw); go_simp; all_goals (with_reducible rfl))
  try simp only [Act.put, List.setIfInBounds_toArray, List.set_cons_zero, List.set_cons_succ]
  refine wpAnyH_take (i := 9) (oi := { dst := some 17, op := Op.move (Operand.tmp 16), type := 4, pos := "l14_credit.go:72", after := #[{ on := 8, ground := Ground.data }], guard := none }) (v := ?v9_r2_10) rfl (by kernel_rfl) (by kernel_rfl) (by kernel_rfl) (fun _ _ _ h => h) (Or.inl ⟨by rfl, ?y9_r2_10⟩) (by assumption) ?r9_r2_10
  case y9_r2_10 => (intro w hSw; (try dsimp only at hSw); go_simp; all_goals (with_reducible rfl))
  try simp only [Act.put, List.setIfInBounds_toArray, List.set_cons_zero, List.set_cons_succ]
  refine wpAnyH_take (i := 10) (oi := { dst := some 18, op := Op.move (Operand.tmp 0), type := 131, pos := "l14_credit.go:72", after := #[{ on := 9, ground := Ground.guard }], guard := some (9, false) }) (v := ?v10_r2_11) rfl (by kernel_rfl) (by kernel_rfl) (by kernel_rfl) (fun _ _ _ h => h) (Or.inl ⟨by rfl, ?y10_r2_11⟩) (by assumption) ?r10_r2_11
  case y10_r2_11 => (intro w hSw; (try dsimp only at hSw); go_simp; all_goals (with_reducible rfl))
  try simp only [Act.put, List.setIfInBounds_toArray, List.set_cons_zero, List.set_cons_succ]
  refine wpAnyH_take (i := 11) (oi := { dst := some 19, op := Op.nilCheck (Operand.tmp 18), type := 0, pos := "l14_credit.go:72", after := #[{ on := 10, ground := Ground.data }, { on := 9, ground := Ground.guard }], guard := some (9, false) }) (v := ?v11_r2_12) rfl (by kernel_rfl) (by kernel_rfl) (by kernel_rfl) (fun _ _ _ h => h) (Or.inl ⟨by rfl, ?y11_r2_12⟩) (by assumption) ?r11_r2_12
  case y11_r2_12 => (intro w hSw; (try dsimp only at hSw); go_simp; all_goals (with_reducible rfl))
  try simp only [Act.put, List.setIfInBounds_toArray, List.set_cons_zero, List.set_cons_succ]
  refine wpAnyH_take (i := 12) (oi := { dst := some 20, op := Op.fieldAddr 54 (Operand.tmp 19) 1, type := 0, pos := "l14_credit.go:72", after := #[{ on := 11, ground := Ground.data }, { on := 9, ground := Ground.guard }], guard := some (9, false) }) (v := ?v12_r2_13) rfl (by kernel_rfl) (by kernel_rfl) (by kernel_rfl) (fun _ _ _ h => h) (Or.inl ⟨by rfl, ?y12_r2_13⟩) (by assumption) ?r12_r2_13
  case y12_r2_13 => (intro w hSw; (try dsimp only at hSw); go_simp; all_goals (with_reducible rfl))
  try simp only [Act.put, List.setIfInBounds_toArray, List.set_cons_zero, List.set_cons_succ]
  refine wpAnyH_take (i := 13) (oi := { dst := some 21, op := Op.load 27 (Operand.tmp 20), type := 27, pos := "l14_credit.go:72", after := #[{ on := 12, ground := Ground.data }, { on := 9, ground := Ground.guard }], guard := some (9, false) }) (v := ?v13_r2_14) rfl (by kernel_rfl) (by kernel_rfl) (by kernel_rfl) (fun _ _ _ h => h) (Or.inl ⟨by rfl, ?y13_r2_14⟩) (by assumption) ?r13_r2_14
  case y13_r2_14 => (intro w hSw; (try dsimp only at hSw); go_simp; all_goals (with_reducible rfl))
  try simp only [Act.put, List.setIfInBounds_toArray, List.set_cons_zero, List.set_cons_succ]
  refine wpAnyH_take (i := 14) (oi := { dst := some 22, op := Op.move (Operand.tmp 5), type := 3, pos := "l14_credit.go:72", after := #[{ on := 9, ground := Ground.guard }], guard := some (9, false) }) (v := ?v14_r2_15) rfl (by kernel_rfl) (by kernel_rfl) (by kernel_rfl) (fun _ _ _ h => h) (Or.inl ⟨by rfl, ?y14_r2_15⟩) (by assumption) ?r14_r2_15
  case y14_r2_15 => (intro w hSw; (try dsimp only at hSw); go_simp; all_goals (with_reducible rfl))
  try simp only [Act.put, List.setIfInBounds_toArray, List.set_cons_zero, List.set_cons_succ]
  refine wpAnyH_take (i := 15) (oi := { dst := some 23, op := Op.indexAddr 27 (Operand.tmp 21) (Operand.tmp 22), type := 0, pos := "l14_credit.go:72", after := #[{ on := 13, ground := Ground.data }, { on := 14, ground := Ground.data }, { on := 9, ground := Ground.guard }], guard := some (9, false) }) (v := ?v15_r2_16) rfl (by kernel_rfl) (by kernel_rfl) (by kernel_rfl) (fun _ _ _ h => h) (Or.inl ⟨by rfl, ?y15_r2_16⟩) (by assumption) ?r15_r2_16
  case y15_r2_16 => (intro w hSw; (try dsimp only at hSw); go_simp; all_goals (with_reducible rfl))
  try simp only [Act.put, List.setIfInBounds_toArray, List.set_cons_zero, List.set_cons_succ]
  refine wpAnyH_take (i := 16) (oi := { dst := some 24, op := Op.load 3 (Operand.tmp 23), type := 3, pos := "l14_credit.go:72", after := #[{ on := 15, ground := Ground.data }, { on := 9, ground := Ground.guard }], guard := some (9, false) }) (v := ?v16_r2_17) rfl (by kernel_rfl) (by kernel_rfl) (by kernel_rfl) (fun _ _ _ h => h) (Or.inl ⟨by rfl, ?y16_r2_17⟩) (by assumption) ?r16_r2_17
  case y16_r2_17 => (intro w hSw; (try dsimp only at hSw); go_simp; all_goals (with_reducible rfl))
  try simp only [Act.put, List.setIfInBounds_toArray, List.set_cons_zero, List.set_cons_succ]
  refine wpAnyH_take (i := 17) (oi := { dst := some 25, op := Op.load 29 (Operand.tmp 3), type := 29, pos := "l14_credit.go:72", after := #[{ on := 9, ground := Ground.guard }], guard := some (9, false) }) (v := ?v17_r2_18) rfl (by kernel_rfl) (by kernel_rfl) (by kernel_rfl) (fun _ _ _ h => h) (Or.inl ⟨by rfl, ?y17_r2_18⟩) (by assumption) ?r17_r2_18
  case y17_r2_18 => (intro w hSw; (try dsimp only at hSw); go_simp; all_goals (with_reducible rfl))
  try simp only [Act.put, List.setIfInBounds_toArray, List.set_cons_zero, List.set_cons_succ]
  refine wpAnyH_ready (rs := [18]) (by kernel_rfl) (by simp) ?_
  refine AllReadyH.cons (o := { dst := some 26, op := Op.call { callee := Callee.value (Operand.func 126), args := #[Operand.tmp 25], argTypes := #[29] }, type := 3, pos := "l14_credit.go:72", after := #[{ on := 17, ground := Ground.data }, { on := 9, ground := Ground.chain }, { on := 9, ground := Ground.guard }], guard := some (9, false) }) rfl (fun K hK => ?_) AllReadyH.nil
  go_simp
  go_at_call 126
  refine (HUN.out _ _ (HP0.out.grow (gby_drew (gby_refl _ none)))).mono ?_
  rintro e wH19_r2 ⟨rfl, gH19_r2⟩
  have m19_ce0 : wH19_r2.cell? _ = some _ := gH19_r2.cell ce0 (by simp); have m19_ce1 : wH19_r2.cell? _ = some _ := gH19_r2.cell ce1 (by simp); have m19_G_0_ : wH19_r2.cell? _ = some _ := gH19_r2.cell G_0_ (by simp); have m19_G_1_ : wH19_r2.cell? _ = some _ := gH19_r2.cell G_1_ (by simp); have m19_K_0_ : wH19_r2.cell? _ = some _ := gH19_r2.cell K_0_ (by simp); have m19_K_1_ : wH19_r2.cell? _ = some _ := gH19_r2.cell K_1_ (by simp); have m19_K_2_ : wH19_r2.cell? _ = some _ := gH19_r2.cell K_2_ (by simp); have m19_K_3_ : wH19_r2.cell? _ = some _ := gH19_r2.cell K_3_ (by simp); have m19_K_4_ : wH19_r2.cell? _ = some _ := gH19_r2.cell K_4_ (by simp); have m19_K_5_ : wH19_r2.cell? _ = some _ := gH19_r2.cell K_5_ (by simp); have m19_K_6_ : wH19_r2.cell? _ = some _ := gH19_r2.cell K_6_ (by simp); have m19_K_7_ : wH19_r2.cell? _ = some _ := gH19_r2.cell K_7_ (by simp)
  go_wp2_with fail
  clear hHeld
  refine hK.out _ _ ?s18_r2_19 (fun hHeld => ?_)
  case s18_r2_19 => exact ⟨m19_ce0, m19_ce1, m19_G_0_, m19_G_1_, m19_K_0_, m19_K_1_, m19_K_2_, m19_K_3_, m19_K_4_, m19_K_5_, m19_K_6_, m19_K_7_⟩
  clear hK K
  try simp only [Act.put, List.setIfInBounds_toArray, List.set_cons_zero, List.set_cons_succ]
  refine wpAnyH_take (i := 19) (oi := { dst := some 27, op := Op.binOp BinOp.add 3 (Operand.tmp 24) (Operand.tmp 26) 3, type := 3, pos := "l14_credit.go:72", after := #[{ on := 16, ground := Ground.data }, { on := 18, ground := Ground.data }, { on := 9, ground := Ground.guard }], guard := some (9, false) }) (v := ?v19_r2_20) rfl (by kernel_rfl) (by kernel_rfl) (by kernel_rfl) (fun _ _ _ h => h) (Or.inl ⟨by rfl, ?y19_r2_20⟩) (by assumption) ?r19_r2_20
  case y19_r2_20 => (intro w hSw; (try dsimp only at hSw); go_simp; all_goals (with_reducible rfl))
  try simp only [Act.put, List.setIfInBounds_toArray, List.set_cons_zero, List.set_cons_succ]
  refine wpAnyH_take (i := 20) (oi := { dst := some 28, op := Op.binOp BinOp.gtr 3 (Operand.tmp 27) (Operand.const (Value.int IntKind.i64 30)) 3, type := 4, pos := "l14_credit.go:72", after := #[{ on := 19, ground := Ground.data }, { on := 9, ground := Ground.guard }], guard := some (9, false) }) (v := ?v20_r2_21) rfl (by kernel_rfl) (by kernel_rfl) (by kernel_rfl) (fun _ _ _ h => h) (Or.inl ⟨by rfl, ?y20_r2_21⟩) (by assumption) ?r20_r2_21
  case y20_r2_21 => (intro w hSw; (try dsimp only at hSw); go_simp; all_goals (with_reducible rfl))
  try simp only [Act.put, List.setIfInBounds_toArray, List.set_cons_zero, List.set_cons_succ]
  refine wpAnyH_take (i := 21) (oi := { dst := some 29, op := Op.pick (Operand.tmp 17) (Operand.const (Value.bool true)) (Operand.tmp 28), type := 4, pos := "l14_credit.go:72", after := #[{ on := 9, ground := Ground.data }, { on := 20, ground := Ground.data }], guard := none }) (v := ?v21_r2_22) rfl (by kernel_rfl) (by kernel_rfl) (by kernel_rfl) (fun _ _ _ h => h) (Or.inl ⟨by rfl, ?y21_r2_22⟩) (by assumption) ?r21_r2_22
  case y21_r2_22 => (intro w hSw; (try dsimp only at hSw); go_simp; all_goals (with_reducible rfl))
  try simp only [Act.put, List.setIfInBounds_toArray, List.set_cons_zero, List.set_cons_succ]
  refine wpAnyH_done (by kernel_rfl) ?_ _
  have gR_ : (w1).grownBy (wH19_r2) none := (gby_trans (gby_drew (gby_refl _ none)) gH19_r2)
  have szwH19_r2 := gR_.size
  try simp only [World.size_alloc] at szwH19_r2
  clear K_0_ K_1_ K_2_ K_3_ K_4_ K_5_ K_6_ K_7_ G_0_ G_1_
  have rK9_ := Lib.hid (show (wH19_r2).heap[W.heap.size]? = some (.cells #[.int .i64 p.f0, .int .i64 p.f1, .int .i64 p.f2, .int .i64 p.f3, .int .i64 p.f4, .int .i64 p.f5, .int .i64 p.f6, vp] 29 (0, 0)) from row_held gR_ rK5_.out)
  clear rK5_
  have rG10_ := Lib.hid (show (wH19_r2).heap[gb]? = some (.cells #[.slice (some ⟨b0, o0, none⟩) xs.length c0, .slice (some ⟨b1, o1, none⟩) ys.length c1] 54 (0, 0)) from row_held gR_ rG6_.out)
  clear rG6_
  have oC11_ := Lib.hid (show OwU (wH19_r2) (lo) (hi) [] [own shI (.slice (some ⟨b0, o0, none⟩) xs.length c0) xs, own shI (.slice (some ⟨b1, o1, none⟩) ys.length c1) ys] from OwU.grow oC7_.out gR_)
  clear oC7_
  have G12_ := Lib.hid (show (W).grownBy (wH19_r2) none from gby_trans G8_.out gR_)
  clear gR_
  have K_0_ : (wH19_r2).cell? ⟨W.heap.size, 0, none⟩ = some (.int .i64 p.f0) := cell_of_row _ _ 0 _ _ _ rK9_.out
  have K_1_ : (wH19_r2).cell? ⟨W.heap.size, 1, none⟩ = some (.int .i64 p.f1) := cell_of_row _ _ 1 _ _ _ rK9_.out
  have K_2_ : (wH19_r2).cell? ⟨W.heap.size, 2, none⟩ = some (.int .i64 p.f2) := cell_of_row _ _ 2 _ _ _ rK9_.out
  have K_3_ : (wH19_r2).cell? ⟨W.heap.size, 3, none⟩ = some (.int .i64 p.f3) := cell_of_row _ _ 3 _ _ _ rK9_.out
  have K_4_ : (wH19_r2).cell? ⟨W.heap.size, 4, none⟩ = some (.int .i64 p.f4) := cell_of_row _ _ 4 _ _ _ rK9_.out
  have K_5_ : (wH19_r2).cell? ⟨W.heap.size, 5, none⟩ = some (.int .i64 p.f5) := cell_of_row _ _ 5 _ _ _ rK9_.out
  have K_6_ : (wH19_r2).cell? ⟨W.heap.size, 6, none⟩ = some (.int .i64 p.f6) := cell_of_row _ _ 6 _ _ _ rK9_.out
  have K_7_ : (wH19_r2).cell? ⟨W.heap.size, 7, none⟩ = some (vp) := cell_of_row _ _ 7 _ _ _ rK9_.out
  have G_0_ : (wH19_r2).cell? ⟨gb, 0, none⟩ = some (.slice (some ⟨b0, o0, none⟩) xs.length c0) := cell_of_row _ _ 0 _ _ _ rG10_.out
  have G_1_ : (wH19_r2).cell? ⟨gb, 1, none⟩ = some (.slice (some ⟨b1, o1, none⟩) ys.length c1) := cell_of_row _ _ 1 _ _ _ rG10_.out
  go_wp2
  go_ret
  exact ⟨rfl, oC11_.out, chg_gby G12_.out lo hi⟩

set_option maxRecDepth 8000 in
set_option maxHeartbeats 4000000 in
theorem give_yes (W : World) (gb lo hi k : Nat) (v0 v1 vp : Value) (xs ys : List Int) (p : DPacket) (hg : W.heap[gb]? = some (.cells #[v0, v1] 54 (0, 0))) (ho : OwU W lo hi [] [own shI v0 xs, own shI v1 ys]) (hgo : gb < lo ∨ hi ≤ gb) (hhi : hi ≤ W.heap.size) (hp : RdL shI W vp p.f7) (hpf : ∀ w, Chg W w lo hi → RdL shI w vp p.f7) (hl : szL shI p.f7 ≤ 1048576) (hc : clsD p = (k : Int)) (hk3 : k < 3) (hcr : CrdOk xs ys) (u : Int) (hu : untD p = u) (hu0 : 0 ≤ u) (hu9 : u ≤ 1000000) (hw : ¬ xs.getD k 0 + 1 > 30) (hw2 : ¬ ys.getD k 0 + u > 30) : Calls Try.prog 90 #[.pointer (some ⟨gb, 0, none⟩), (vPacket p.f0 p.f1 p.f2 p.f3 p.f4 p.f5 p.f6 vp)] W (SpPost true lo hi v0 v1 (xs.set k (xs.getD k 0 + 1)) (ys.set k (ys.getD k 0 + u)) W) := by
  have HP := Lib.hid hp
  have HPF := Lib.hid hpf
  have HL := Lib.hid hl
  have HC := Lib.hid hc
  have HU := Lib.hid hu
  have HCR := Lib.hid hcr
  have hx1 := crd_at hcr hk3
  obtain ⟨x, hx⟩ : ∃ x, x = xs.getD k 0 := ⟨_, rfl⟩
  obtain ⟨y, hy⟩ : ∃ y, y = ys.getD k 0 := ⟨_, rfl⟩
  rw [← hx, ← hy] at hx1
  obtain ⟨hxl, hyl, hx0, hx30, hy0, hy30⟩ := hx1
  have HX := Lib.hid hx
  have HY := Lib.hid hy
  have HXL := Lib.hid (show szL shI xs ≤ 1048576 by rw [szL_I]; omega)
  have HYL := Lib.hid (show szL shI ys ≤ 1048576 by rw [szL_I]; omega)
  have hgl_ : gb < W.heap.size := lt_of_block hg
  clear hp hpf hl hc hu hcr hx hy
  unfold vPacket
  have HCL := Lib.hid (show ∀ (W : World) (v : Value), RdL shI W v p.f7 → Calls Try.prog 125 #[vPacket p.f0 p.f1 p.f2 p.f3 p.f4 p.f5 p.f6 v] W (AnsN (.int .i64 (k : Int)) W) from fun W v H => by have q := implClsD W p v H HL.out; rw [HC.out] at q; exact q)
  have HUN := Lib.hid (show ∀ (W : World) (v : Value), RdL shI W v p.f7 → Calls Try.prog 126 #[vPacket p.f0 p.f1 p.f2 p.f3 p.f4 p.f5 p.f6 v] W (AnsN (.int .i64 u) W) from fun W v H => by have q := implUntD W p v H HL.out (by rw [HC.out]; omega); rw [HU.out] at q; exact q)
  rw [← HX.out, ← HY.out]
  rw [← HX.out] at hw
  rw [← HY.out] at hw2
  go_enter Try.func90, Try.ntmps90
  have rK1_ := Lib.hid (show ((W.alloc (.cells #[.int .i64 p.f0, .int .i64 p.f1, .int .i64 p.f2, .int .i64 p.f3, .int .i64 p.f4, .int .i64 p.f5, .int .i64 p.f6, vp] 29))).heap[W.heap.size]? = some (.cells #[.int .i64 p.f0, .int .i64 p.f1, .int .i64 p.f2, .int .i64 p.f3, .int .i64 p.f4, .int .i64 p.f5, .int .i64 p.f6, vp] 29 (0, 0)) from by exact heap_alloc_new _ _)
  have G2_ := Lib.hid (show (W).grownBy ((W.alloc (.cells #[.int .i64 p.f0, .int .i64 p.f1, .int .i64 p.f2, .int .i64 p.f3, .int .i64 p.f4, .int .i64 p.f5, .int .i64 p.f6, vp] 29))) none from (gby_alloc (gby_refl _ _) _))
  have K_0_ : ((W.alloc (.cells #[.int .i64 p.f0, .int .i64 p.f1, .int .i64 p.f2, .int .i64 p.f3, .int .i64 p.f4, .int .i64 p.f5, .int .i64 p.f6, vp] 29))).cell? ⟨W.heap.size, 0, none⟩ = some (.int .i64 p.f0) := cell_of_row _ _ 0 _ _ _ rK1_.out
  have K_1_ : ((W.alloc (.cells #[.int .i64 p.f0, .int .i64 p.f1, .int .i64 p.f2, .int .i64 p.f3, .int .i64 p.f4, .int .i64 p.f5, .int .i64 p.f6, vp] 29))).cell? ⟨W.heap.size, 1, none⟩ = some (.int .i64 p.f1) := cell_of_row _ _ 1 _ _ _ rK1_.out
  have K_2_ : ((W.alloc (.cells #[.int .i64 p.f0, .int .i64 p.f1, .int .i64 p.f2, .int .i64 p.f3, .int .i64 p.f4, .int .i64 p.f5, .int .i64 p.f6, vp] 29))).cell? ⟨W.heap.size, 2, none⟩ = some (.int .i64 p.f2) := cell_of_row _ _ 2 _ _ _ rK1_.out
  have K_3_ : ((W.alloc (.cells #[.int .i64 p.f0, .int .i64 p.f1, .int .i64 p.f2, .int .i64 p.f3, .int .i64 p.f4, .int .i64 p.f5, .int .i64 p.f6, vp] 29))).cell? ⟨W.heap.size, 3, none⟩ = some (.int .i64 p.f3) := cell_of_row _ _ 3 _ _ _ rK1_.out
  have K_4_ : ((W.alloc (.cells #[.int .i64 p.f0, .int .i64 p.f1, .int .i64 p.f2, .int .i64 p.f3, .int .i64 p.f4, .int .i64 p.f5, .int .i64 p.f6, vp] 29))).cell? ⟨W.heap.size, 4, none⟩ = some (.int .i64 p.f4) := cell_of_row _ _ 4 _ _ _ rK1_.out
  have K_5_ : ((W.alloc (.cells #[.int .i64 p.f0, .int .i64 p.f1, .int .i64 p.f2, .int .i64 p.f3, .int .i64 p.f4, .int .i64 p.f5, .int .i64 p.f6, vp] 29))).cell? ⟨W.heap.size, 5, none⟩ = some (.int .i64 p.f5) := cell_of_row _ _ 5 _ _ _ rK1_.out
  have K_6_ : ((W.alloc (.cells #[.int .i64 p.f0, .int .i64 p.f1, .int .i64 p.f2, .int .i64 p.f3, .int .i64 p.f4, .int .i64 p.f5, .int .i64 p.f6, vp] 29))).cell? ⟨W.heap.size, 6, none⟩ = some (.int .i64 p.f6) := cell_of_row _ _ 6 _ _ _ rK1_.out
  have K_7_ : ((W.alloc (.cells #[.int .i64 p.f0, .int .i64 p.f1, .int .i64 p.f2, .int .i64 p.f3, .int .i64 p.f4, .int .i64 p.f5, .int .i64 p.f6, vp] 29))).cell? ⟨W.heap.size, 7, none⟩ = some (vp) := cell_of_row _ _ 7 _ _ _ rK1_.out
  have rG3_ := Lib.hid (show ((W.alloc (.cells #[.int .i64 p.f0, .int .i64 p.f1, .int .i64 p.f2, .int .i64 p.f3, .int .i64 p.f4, .int .i64 p.f5, .int .i64 p.f6, vp] 29))).heap[gb]? = some (.cells #[v0, v1] 54 (0, 0)) from row_held G2_.out hg)
  have oC4_ := Lib.hid (show OwU ((W.alloc (.cells #[.int .i64 p.f0, .int .i64 p.f1, .int .i64 p.f2, .int .i64 p.f3, .int .i64 p.f4, .int .i64 p.f5, .int .i64 p.f6, vp] 29))) (lo) (hi) [] [own shI v0 xs, own shI v1 ys] from ho.grow G2_.out)
  clear hg ho
  have G_0_ : ((W.alloc (.cells #[.int .i64 p.f0, .int .i64 p.f1, .int .i64 p.f2, .int .i64 p.f3, .int .i64 p.f4, .int .i64 p.f5, .int .i64 p.f6, vp] 29))).cell? ⟨gb, 0, none⟩ = some (v0) := cell_of_row _ _ 0 _ _ _ rG3_.out
  have G_1_ : ((W.alloc (.cells #[.int .i64 p.f0, .int .i64 p.f1, .int .i64 p.f2, .int .i64 p.f3, .int .i64 p.f4, .int .i64 p.f5, .int .i64 p.f6, vp] 29))).cell? ⟨gb, 1, none⟩ = some (v1) := cell_of_row _ _ 1 _ _ _ rG3_.out
  go_wp2_with fail
  go_at_call 125
  refine (HCL.out _ _ (HP.out.grow G2_.out)).mono ?_
  rintro e w1 ⟨rfl, g⟩
  have szw1 := g.size
  try simp only [World.size_alloc] at szw1
  try simp only [World.size_setCell] at szw1
  clear K_0_ K_1_ K_2_ K_3_ K_4_ K_5_ K_6_ K_7_ G_0_ G_1_
  have rK5_ := Lib.hid (show (w1).heap[W.heap.size]? = some (.cells #[.int .i64 p.f0, .int .i64 p.f1, .int .i64 p.f2, .int .i64 p.f3, .int .i64 p.f4, .int .i64 p.f5, .int .i64 p.f6, vp] 29 (0, 0)) from row_held g rK1_.out)
  clear rK1_
  have rG6_ := Lib.hid (show (w1).heap[gb]? = some (.cells #[v0, v1] 54 (0, 0)) from row_held g rG3_.out)
  clear rG3_
  have oC7_ := Lib.hid (show OwU (w1) (lo) (hi) [] [own shI v0 xs, own shI v1 ys] from OwU.grow oC4_.out g)
  clear oC4_
  have G8_ := Lib.hid (show (W).grownBy (w1) none from gby_trans G2_.out g)
  clear g
  have K_0_ : (w1).cell? ⟨W.heap.size, 0, none⟩ = some (.int .i64 p.f0) := cell_of_row _ _ 0 _ _ _ rK5_.out
  have K_1_ : (w1).cell? ⟨W.heap.size, 1, none⟩ = some (.int .i64 p.f1) := cell_of_row _ _ 1 _ _ _ rK5_.out
  have K_2_ : (w1).cell? ⟨W.heap.size, 2, none⟩ = some (.int .i64 p.f2) := cell_of_row _ _ 2 _ _ _ rK5_.out
  have K_3_ : (w1).cell? ⟨W.heap.size, 3, none⟩ = some (.int .i64 p.f3) := cell_of_row _ _ 3 _ _ _ rK5_.out
  have K_4_ : (w1).cell? ⟨W.heap.size, 4, none⟩ = some (.int .i64 p.f4) := cell_of_row _ _ 4 _ _ _ rK5_.out
  have K_5_ : (w1).cell? ⟨W.heap.size, 5, none⟩ = some (.int .i64 p.f5) := cell_of_row _ _ 5 _ _ _ rK5_.out
  have K_6_ : (w1).cell? ⟨W.heap.size, 6, none⟩ = some (.int .i64 p.f6) := cell_of_row _ _ 6 _ _ _ rK5_.out
  have K_7_ : (w1).cell? ⟨W.heap.size, 7, none⟩ = some (vp) := cell_of_row _ _ 7 _ _ _ rK5_.out
  have G_0_ : (w1).cell? ⟨gb, 0, none⟩ = some (v0) := cell_of_row _ _ 0 _ _ _ rG6_.out
  have G_1_ : (w1).cell? ⟨gb, 1, none⟩ = some (v1) := cell_of_row _ _ 1 _ _ _ rG6_.out
  obtain ⟨b0, o0, c0, hv0, l0, h0, ce0, fr0, _⟩ := cset1 oC7_.out k (by omega)
  obtain ⟨b1, o1, c1, hv1, l1, h1, ce1, fr1, _⟩ := cset2 oC7_.out k (by omega)
  subst hv0 hv1
  rw [← HX.out] at ce0
  rw [← HY.out] at ce1
  have hk0 : (0 : Int) ≤ (k : Int) := by omega
  have htk : ((k : Int)).toNat = k := by omega
  have hkx : (k : Int) < (xs.length : Int) := by omega
  have hky : (k : Int) < (ys.length : Int) := by omega
  have hk3i : (k : Int) < 3 := by omega
  have e1_ : IntKind.i64.wrap (x + 1) = x + 1 := IntWalk.i64_in _ (by omega)
  have e2_ : IntKind.i64.wrap (y + u) = y + u := IntWalk.i64_in _ (by omega)
  clear K_0_ K_1_ K_2_ K_3_ K_4_ K_5_ K_6_ K_7_ G_0_ G_1_
  have K_0_ : (w1).cell? ⟨W.heap.size, 0, none⟩ = some (.int .i64 p.f0) := cell_of_row _ _ 0 _ _ _ rK5_.out
  have K_1_ : (w1).cell? ⟨W.heap.size, 1, none⟩ = some (.int .i64 p.f1) := cell_of_row _ _ 1 _ _ _ rK5_.out
  have K_2_ : (w1).cell? ⟨W.heap.size, 2, none⟩ = some (.int .i64 p.f2) := cell_of_row _ _ 2 _ _ _ rK5_.out
  have K_3_ : (w1).cell? ⟨W.heap.size, 3, none⟩ = some (.int .i64 p.f3) := cell_of_row _ _ 3 _ _ _ rK5_.out
  have K_4_ : (w1).cell? ⟨W.heap.size, 4, none⟩ = some (.int .i64 p.f4) := cell_of_row _ _ 4 _ _ _ rK5_.out
  have K_5_ : (w1).cell? ⟨W.heap.size, 5, none⟩ = some (.int .i64 p.f5) := cell_of_row _ _ 5 _ _ _ rK5_.out
  have K_6_ : (w1).cell? ⟨W.heap.size, 6, none⟩ = some (.int .i64 p.f6) := cell_of_row _ _ 6 _ _ _ rK5_.out
  have K_7_ : (w1).cell? ⟨W.heap.size, 7, none⟩ = some (vp) := cell_of_row _ _ 7 _ _ _ rK5_.out
  have G_0_ : (w1).cell? ⟨gb, 0, none⟩ = some (.slice (some ⟨b0, o0, none⟩) xs.length c0) := cell_of_row _ _ 0 _ _ _ rG6_.out
  have G_1_ : (w1).cell? ⟨gb, 1, none⟩ = some (.slice (some ⟨b1, o1, none⟩) ys.length c1) := cell_of_row _ _ 1 _ _ _ rG6_.out
  have t1_ : decide (x + 1 > 30) = false := decide_eq_false (by omega)
  have t1b_ : ¬ (30 : Int) < x + 1 := by omega
  have t1c_ : decide ((30 : Int) < x + 1) = false := decide_eq_false t1b_
  have t2_ : decide (y + u > 30) = false := decide_eq_false (by omega)
  have t2b_ : ¬ (30 : Int) < y + u := by omega
  have t2c_ : decide ((30 : Int) < y + u) = false := decide_eq_false t2b_
  have HP0 := Lib.hid (HP.out.grow G8_.out)
  go_wp2_with fail
  refine wp_region_held_drew (S := fun w' => w'.cell? ⟨b0, o0 + k, none⟩ = some (.int .i64 x) ∧ w'.cell? ⟨b1, o1 + k, none⟩ = some (.int .i64 y) ∧ w'.cell? ⟨gb, 0, none⟩ = some (.slice (some ⟨b0, o0, none⟩) xs.length c0) ∧ w'.cell? ⟨gb, 1, none⟩ = some (.slice (some ⟨b1, o1, none⟩) ys.length c1) ∧ w'.cell? ⟨W.heap.size, 0, none⟩ = some (.int .i64 p.f0) ∧ w'.cell? ⟨W.heap.size, 1, none⟩ = some (.int .i64 p.f1) ∧ w'.cell? ⟨W.heap.size, 2, none⟩ = some (.int .i64 p.f2) ∧ w'.cell? ⟨W.heap.size, 3, none⟩ = some (.int .i64 p.f3) ∧ w'.cell? ⟨W.heap.size, 4, none⟩ = some (.int .i64 p.f4) ∧ w'.cell? ⟨W.heap.size, 5, none⟩ = some (.int .i64 p.f5) ∧ w'.cell? ⟨W.heap.size, 6, none⟩ = some (.int .i64 p.f6) ∧ w'.cell? ⟨W.heap.size, 7, none⟩ = some (vp)) (by kernel_rfl) (by (try dsimp only); exact ⟨ce0, ce1, G_0_, G_1_, K_0_, K_1_, K_2_, K_3_, K_4_, K_5_, K_6_, K_7_⟩) (fun hHeld => ?_)
  refine wpAnyH_take (i := 0) (oi := { dst := some 8, op := Op.move (Operand.tmp 0), type := 131, pos := "l14_credit.go:72", after := #[], guard := none }) (v := ?v0_r3_1) rfl (by kernel_rfl) (by kernel_rfl) (by kernel_rfl) (fun _ _ _ h => h) (Or.inl ⟨by rfl, ?y0_r3_1⟩) (by assumption) ?r0_r3_1
  case y0_r3_1 => (intro w hSw; (try dsimp only at hSw); go_simp; all_goals (with_reducible rfl))
  try simp only [Act.put, List.setIfInBounds_toArray, List.set_cons_zero, List.set_cons_succ]
  refine wpAnyH_take (i := 1) (oi := { dst := some 9, op := Op.nilCheck (Operand.tmp 8), type := 0, pos := "l14_credit.go:72", after := #[{ on := 0, ground := Ground.data }], guard := none }) (v := ?v1_r3_2) rfl (by kernel_rfl) (by kernel_rfl) (by kernel_rfl) (fun _ _ _ h => h) (Or.inl ⟨by rfl, ?y1_r3_2⟩) (by assumption) ?r1_r3_2
  case y1_r3_2 => (intro w hSw; (try dsimp only at hSw); go_simp; all_goals (with_reducible rfl))
  try simp only [Act.put, List.setIfInBounds_toArray, List.set_cons_zero, List.set_cons_succ]
  refine wpAnyH_take (i := 2) (oi := { dst := some 10, op := Op.fieldAddr 54 (Operand.tmp 9) 0, type := 0, pos := "l14_credit.go:72", after := #[{ on := 1, ground := Ground.data }], guard := none }) (v := ?v2_r3_3) rfl (by kernel_rfl) (by kernel_rfl) (by kernel_rfl) (fun _ _ _ h => h) (Or.inl ⟨by rfl, ?y2_r3_3⟩) (by assumption) ?r2_r3_3
  case y2_r3_3 => (intro w hSw; (try dsimp only at hSw); go_simp; all_goals (with_reducible rfl))
  try simp only [Act.put, List.setIfInBounds_toArray, List.set_cons_zero, List.set_cons_succ]
  refine wpAnyH_take (i := 3) (oi := { dst := some 11, op := Op.load 27 (Operand.tmp 10), type := 27, pos := "l14_credit.go:72", after := #[{ on := 2, ground := Ground.data }], guard := none }) (v := ?v3_r3_4) rfl (by kernel_rfl) (by kernel_rfl) (by kernel_rfl) (fun _ _ _ h => h) (Or.inl ⟨by rfl, ?y3_r3_4⟩) (by assumption) ?r3_r3_4
  case y3_r3_4 => (intro w hSw; (try dsimp only at hSw); go_simp; all_goals (with_reducible rfl))
  try simp only [Act.put, List.setIfInBounds_toArray, List.set_cons_zero, List.set_cons_succ]
  refine wpAnyH_take (i := 4) (oi := { dst := some 12, op := Op.move (Operand.tmp 5), type := 3, pos := "l14_credit.go:72", after := #[], guard := none }) (v := ?v4_r3_5) rfl (by kernel_rfl) (by kernel_rfl) (by kernel_rfl) (fun _ _ _ h => h) (Or.inl ⟨by rfl, ?y4_r3_5⟩) (by assumption) ?r4_r3_5
  case y4_r3_5 => (intro w hSw; (try dsimp only at hSw); go_simp; all_goals (with_reducible rfl))
  try simp only [Act.put, List.setIfInBounds_toArray, List.set_cons_zero, List.set_cons_succ]
  refine wpAnyH_take (i := 5) (oi := { dst := some 13, op := Op.indexAddr 27 (Operand.tmp 11) (Operand.tmp 12), type := 0, pos := "l14_credit.go:72", after := #[{ on := 3, ground := Ground.data }, { on := 4, ground := Ground.data }], guard := none }) (v := ?v5_r3_6) rfl (by kernel_rfl) (by kernel_rfl) (by kernel_rfl) (fun _ _ _ h => h) (Or.inl ⟨by rfl, ?y5_r3_6⟩) (by assumption) ?r5_r3_6
  case y5_r3_6 => (intro w hSw; (try dsimp only at hSw); go_simp; all_goals (with_reducible rfl))
  try simp only [Act.put, List.setIfInBounds_toArray, List.set_cons_zero, List.set_cons_succ]
  refine wpAnyH_take (i := 6) (oi := { dst := some 14, op := Op.load 3 (Operand.tmp 13), type := 3, pos := "l14_credit.go:72", after := #[{ on := 5, ground := Ground.data }], guard := none }) (v := ?v6_r3_7) rfl (by kernel_rfl) (by kernel_rfl) (by kernel_rfl) (fun _ _ _ h => h) (Or.inl ⟨by rfl, ?y6_r3_7⟩) (by assumption) ?r6_r3_7
  case y6_r3_7 => (intro w hSw; (try dsimp only at hSw); go_simp; all_goals (with_reducible rfl))
  try simp only [Act.put, List.setIfInBounds_toArray, List.set_cons_zero, List.set_cons_succ]
  refine wpAnyH_take (i := 7) (oi := { dst := some 15, op := Op.binOp BinOp.add 3 (Operand.tmp 14) (Operand.const (Value.int IntKind.i64 1)) 3, type := 3, pos := "l14_credit.go:72", after := #[{ on := 6, ground := Ground.data }], guard := none }) (v := ?v7_r3_8) rfl (by kernel_rfl) (by kernel_rfl) (by kernel_rfl) (fun _ _ _ h => h) (Or.inl ⟨by rfl, ?y7_r3_8⟩) (by assumption) ?r7_r3_8
  case y7_r3_8 => (intro w hSw; (try dsimp only at hSw); go_simp; all_goals (with_reducible rfl))
  try simp only [Act.put, List.setIfInBounds_toArray, List.set_cons_zero, List.set_cons_succ]
  refine wpAnyH_take (i := 8) (oi := { dst := some 16, op := Op.binOp BinOp.gtr 3 (Operand.tmp 15) (Operand.const (Value.int IntKind.i64 30)) 3, type := 4, pos := "l14_credit.go:72", after := #[{ on := 7, ground := Ground.data }], guard := none }) (v := ?v8_r3_9) rfl (by kernel_rfl) (by kernel_rfl) (by kernel_rfl) (fun _ _ _ h => h) (Or.inl ⟨by rfl, ?y8_r3_9⟩) (by assumption) ?r8_r3_9
  case y8_r3_9 => (intro w hSw; (try dsimp only at hSw); go_simp; all_goals (with_reducible rfl))
  try simp only [Act.put, List.setIfInBounds_toArray, List.set_cons_zero, List.set_cons_succ]
  refine wpAnyH_take (i := 9) (oi := { dst := some 17, op := Op.move (Operand.tmp 16), type := 4, pos := "l14_credit.go:72", after := #[{ on := 8, ground := Ground.data }], guard := none }) (v := ?v9_r3_10) rfl (by kernel_rfl) (by kernel_rfl) (by kernel_rfl) (fun _ _ _ h => h) (Or.inl ⟨by rfl, ?y9_r3_10⟩) (by assumption) ?r9_r3_10
  case y9_r3_10 => (intro w hSw; (try dsimp only at hSw); go_simp; all_goals (with_reducible rfl))
  try simp only [Act.put, List.setIfInBounds_toArray, List.set_cons_zero, List.set_cons_succ]
  refine wpAnyH_take (i := 10) (oi := { dst := some 18, op := Op.move (Operand.tmp 0), type := 131, pos := "l14_credit.go:72", after := #[{ on := 9, ground := Ground.guard }], guard := some (9, false) }) (v := ?v10_r3_11) rfl (by kernel_rfl) (by kernel_rfl) (by kernel_rfl) (fun _ _ _ h => h) (Or.inl ⟨by rfl, ?y10_r3_11⟩) (by assumption) ?r10_r3_11
  case y10_r3_11 => (intro w hSw; (try dsimp only at hSw); go_simp; all_goals (with_reducible rfl))
  try simp only [Act.put, List.setIfInBounds_toArray, List.set_cons_zero, List.set_cons_succ]
  refine wpAnyH_take (i := 11) (oi := { dst := some 19, op := Op.nilCheck (Operand.tmp 18), type := 0, pos := "l14_credit.go:72", after := #[{ on := 10, ground := Ground.data }, { on := 9, ground := Ground.guard }], guard := some (9, false) }) (v := ?v11_r3_12) rfl (by kernel_rfl) (by kernel_rfl) (by kernel_rfl) (fun _ _ _ h => h) (Or.inl ⟨by rfl, ?y11_r3_12⟩) (by assumption) ?r11_r3_12
  case y11_r3_12 => (intro w hSw; (try dsimp only at hSw); go_simp; all_goals (with_reducible rfl))
  try simp only [Act.put, List.setIfInBounds_toArray, List.set_cons_zero, List.set_cons_succ]
  refine wpAnyH_take (i := 12) (oi := { dst := some 20, op := Op.fieldAddr 54 (Operand.tmp 19) 1, type := 0, pos := "l14_credit.go:72", after := #[{ on := 11, ground := Ground.data }, { on := 9, ground := Ground.guard }], guard := some (9, false) }) (v := ?v12_r3_13) rfl (by kernel_rfl) (by kernel_rfl) (by kernel_rfl) (fun _ _ _ h => h) (Or.inl ⟨by rfl, ?y12_r3_13⟩) (by assumption) ?r12_r3_13
  case y12_r3_13 => (intro w hSw; (try dsimp only at hSw); go_simp; all_goals (with_reducible rfl))
  try simp only [Act.put, List.setIfInBounds_toArray, List.set_cons_zero, List.set_cons_succ]
  refine wpAnyH_take (i := 13) (oi := { dst := some 21, op := Op.load 27 (Operand.tmp 20), type := 27, pos := "l14_credit.go:72", after := #[{ on := 12, ground := Ground.data }, { on := 9, ground := Ground.guard }], guard := some (9, false) }) (v := ?v13_r3_14) rfl (by kernel_rfl) (by kernel_rfl) (by kernel_rfl) (fun _ _ _ h => h) (Or.inl ⟨by rfl, ?y13_r3_14⟩) (by assumption) ?r13_r3_14
  case y13_r3_14 => (intro w hSw; (try dsimp only at hSw); go_simp; all_goals (with_reducible rfl))
  try simp only [Act.put, List.setIfInBounds_toArray, List.set_cons_zero, List.set_cons_succ]
  refine wpAnyH_take (i := 14) (oi := { dst := some 22, op := Op.move (Operand.tmp 5), type := 3, pos := "l14_credit.go:72", after := #[{ on := 9, ground := Ground.guard }], guard := some (9, false) }) (v := ?v14_r3_15) rfl (by kernel_rfl) (by kernel_rfl) (by kernel_rfl) (fun _ _ _ h => h) (Or.inl ⟨by rfl, ?y14_r3_15⟩) (by assumption) ?r14_r3_15
  case y14_r3_15 => (intro w hSw; (try dsimp only at hSw); go_simp; all_goals (with_reducible rfl))
  try simp only [Act.put, List.setIfInBounds_toArray, List.set_cons_zero, List.set_cons_succ]
  refine wpAnyH_take (i := 15) (oi := { dst := some 23, op := Op.indexAddr 27 (Operand.tmp 21) (Operand.tmp 22), type := 0, pos := "l14_credit.go:72", after := #[{ on := 13, ground := Ground.data }, { on := 14, ground := Ground.data }, { on := 9, ground := Ground.guard }], guard := some (9, false) }) (v := ?v15_r3_16) rfl (by kernel_rfl) (by kernel_rfl) (by kernel_rfl) (fun _ _ _ h => h) (Or.inl ⟨by rfl, ?y15_r3_16⟩) (by assumption) ?r15_r3_16
  case y15_r3_16 => (intro w hSw; (try dsimp only at hSw); go_simp; all_goals (with_reducible rfl))
  try simp only [Act.put, List.setIfInBounds_toArray, List.set_cons_zero, List.set_cons_succ]
  refine wpAnyH_take (i := 16) (oi := { dst := some 24, op := Op.load 3 (Operand.tmp 23), type := 3, pos := "l14_credit.go:72", after := #[{ on := 15, ground := Ground.data }, { on := 9, ground := Ground.guard }], guard := some (9, false) }) (v := ?v16_r3_17) rfl (by kernel_rfl) (by kernel_rfl) (by kernel_rfl) (fun _ _ _ h => h) (Or.inl ⟨by rfl, ?y16_r3_17⟩) (by assumption) ?r16_r3_17
  case y16_r3_17 => (intro w hSw; (try dsimp only at hSw); go_simp; all_goals (with_reducible rfl))
  try simp only [Act.put, List.setIfInBounds_toArray, List.set_cons_zero, List.set_cons_succ]
  refine wpAnyH_take (i := 17) (oi := { dst := some 25, op := Op.load 29 (Operand.tmp 3), type := 29, pos := "l14_credit.go:72", after := #[{ on := 9, ground := Ground.guard }], guard := some (9, false) }) (v := ?v17_r3_18) rfl (by kernel_rfl) (by kernel_rfl) (by kernel_rfl) (fun _ _ _ h => h) (Or.inl ⟨by rfl, ?y17_r3_18⟩) (by assumption) ?r17_r3_18
  case y17_r3_18 => (intro w hSw; (try dsimp only at hSw); go_simp; all_goals (with_reducible rfl))
  try simp only [Act.put, List.setIfInBounds_toArray, List.set_cons_zero, List.set_cons_succ]
  refine wpAnyH_ready (rs := [18]) (by kernel_rfl) (by simp) ?_
  refine AllReadyH.cons (o := { dst := some 26, op := Op.call { callee := Callee.value (Operand.func 126), args := #[Operand.tmp 25], argTypes := #[29] }, type := 3, pos := "l14_credit.go:72", after := #[{ on := 17, ground := Ground.data }, { on := 9, ground := Ground.chain }, { on := 9, ground := Ground.guard }], guard := some (9, false) }) rfl (fun K hK => ?_) AllReadyH.nil
  go_simp
  go_at_call 126
  refine (HUN.out _ _ (HP0.out.grow (gby_drew (gby_refl _ none)))).mono ?_
  rintro e wH19_r3 ⟨rfl, gH19_r3⟩
  have m19_ce0 : wH19_r3.cell? _ = some _ := gH19_r3.cell ce0 (by simp); have m19_ce1 : wH19_r3.cell? _ = some _ := gH19_r3.cell ce1 (by simp); have m19_G_0_ : wH19_r3.cell? _ = some _ := gH19_r3.cell G_0_ (by simp); have m19_G_1_ : wH19_r3.cell? _ = some _ := gH19_r3.cell G_1_ (by simp); have m19_K_0_ : wH19_r3.cell? _ = some _ := gH19_r3.cell K_0_ (by simp); have m19_K_1_ : wH19_r3.cell? _ = some _ := gH19_r3.cell K_1_ (by simp); have m19_K_2_ : wH19_r3.cell? _ = some _ := gH19_r3.cell K_2_ (by simp); have m19_K_3_ : wH19_r3.cell? _ = some _ := gH19_r3.cell K_3_ (by simp); have m19_K_4_ : wH19_r3.cell? _ = some _ := gH19_r3.cell K_4_ (by simp); have m19_K_5_ : wH19_r3.cell? _ = some _ := gH19_r3.cell K_5_ (by simp); have m19_K_6_ : wH19_r3.cell? _ = some _ := gH19_r3.cell K_6_ (by simp); have m19_K_7_ : wH19_r3.cell? _ = some _ := gH19_r3.cell K_7_ (by simp)
  go_wp2_with fail
  clear hHeld
  refine hK.out _ _ ?s18_r3_19 (fun hHeld => ?_)
  case s18_r3_19 => exact ⟨m19_ce0, m19_ce1, m19_G_0_, m19_G_1_, m19_K_0_, m19_K_1_, m19_K_2_, m19_K_3_, m19_K_4_, m19_K_5_, m19_K_6_, m19_K_7_⟩
  clear hK K
  try simp only [Act.put, List.setIfInBounds_toArray, List.set_cons_zero, List.set_cons_succ]
  refine wpAnyH_take (i := 19) (oi := { dst := some 27, op := Op.binOp BinOp.add 3 (Operand.tmp 24) (Operand.tmp 26) 3, type := 3, pos := "l14_credit.go:72", after := #[{ on := 16, ground := Ground.data }, { on := 18, ground := Ground.data }, { on := 9, ground := Ground.guard }], guard := some (9, false) }) (v := ?v19_r3_20) rfl (by kernel_rfl) (by kernel_rfl) (by kernel_rfl) (fun _ _ _ h => h) (Or.inl ⟨by rfl, ?y19_r3_20⟩) (by assumption) ?r19_r3_20
  case y19_r3_20 => (intro w hSw; (try dsimp only at hSw); go_simp; all_goals (with_reducible rfl))
  try simp only [Act.put, List.setIfInBounds_toArray, List.set_cons_zero, List.set_cons_succ]
  refine wpAnyH_take (i := 20) (oi := { dst := some 28, op := Op.binOp BinOp.gtr 3 (Operand.tmp 27) (Operand.const (Value.int IntKind.i64 30)) 3, type := 4, pos := "l14_credit.go:72", after := #[{ on := 19, ground := Ground.data }, { on := 9, ground := Ground.guard }], guard := some (9, false) }) (v := ?v20_r3_21) rfl (by kernel_rfl) (by kernel_rfl) (by kernel_rfl) (fun _ _ _ h => h) (Or.inl ⟨by rfl, ?y20_r3_21⟩) (by assumption) ?r20_r3_21
  case y20_r3_21 => (intro w hSw; (try dsimp only at hSw); go_simp; all_goals (with_reducible rfl))
  try simp only [Act.put, List.setIfInBounds_toArray, List.set_cons_zero, List.set_cons_succ]
  refine wpAnyH_take (i := 21) (oi := { dst := some 29, op := Op.pick (Operand.tmp 17) (Operand.const (Value.bool true)) (Operand.tmp 28), type := 4, pos := "l14_credit.go:72", after := #[{ on := 9, ground := Ground.data }, { on := 20, ground := Ground.data }], guard := none }) (v := ?v21_r3_22) rfl (by kernel_rfl) (by kernel_rfl) (by kernel_rfl) (fun _ _ _ h => h) (Or.inl ⟨by rfl, ?y21_r3_22⟩) (by assumption) ?r21_r3_22
  case y21_r3_22 => (intro w hSw; (try dsimp only at hSw); go_simp; all_goals (with_reducible rfl))
  try simp only [Act.put, List.setIfInBounds_toArray, List.set_cons_zero, List.set_cons_succ]
  refine wpAnyH_done (by kernel_rfl) ?_ _
  have gR_ : (w1).grownBy (wH19_r3) none := (gby_trans (gby_drew (gby_refl _ none)) gH19_r3)
  have szwH19_r3 := gR_.size
  try simp only [World.size_alloc] at szwH19_r3
  clear K_0_ K_1_ K_2_ K_3_ K_4_ K_5_ K_6_ K_7_ G_0_ G_1_
  have rK9_ := Lib.hid (show (wH19_r3).heap[W.heap.size]? = some (.cells #[.int .i64 p.f0, .int .i64 p.f1, .int .i64 p.f2, .int .i64 p.f3, .int .i64 p.f4, .int .i64 p.f5, .int .i64 p.f6, vp] 29 (0, 0)) from row_held gR_ rK5_.out)
  clear rK5_
  have rG10_ := Lib.hid (show (wH19_r3).heap[gb]? = some (.cells #[.slice (some ⟨b0, o0, none⟩) xs.length c0, .slice (some ⟨b1, o1, none⟩) ys.length c1] 54 (0, 0)) from row_held gR_ rG6_.out)
  clear rG6_
  have oC11_ := Lib.hid (show OwU (wH19_r3) (lo) (hi) [] [own shI (.slice (some ⟨b0, o0, none⟩) xs.length c0) xs, own shI (.slice (some ⟨b1, o1, none⟩) ys.length c1) ys] from OwU.grow oC7_.out gR_)
  clear oC7_
  have G12_ := Lib.hid (show (W).grownBy (wH19_r3) none from gby_trans G8_.out gR_)
  clear gR_
  have K_0_ : (wH19_r3).cell? ⟨W.heap.size, 0, none⟩ = some (.int .i64 p.f0) := cell_of_row _ _ 0 _ _ _ rK9_.out
  have K_1_ : (wH19_r3).cell? ⟨W.heap.size, 1, none⟩ = some (.int .i64 p.f1) := cell_of_row _ _ 1 _ _ _ rK9_.out
  have K_2_ : (wH19_r3).cell? ⟨W.heap.size, 2, none⟩ = some (.int .i64 p.f2) := cell_of_row _ _ 2 _ _ _ rK9_.out
  have K_3_ : (wH19_r3).cell? ⟨W.heap.size, 3, none⟩ = some (.int .i64 p.f3) := cell_of_row _ _ 3 _ _ _ rK9_.out
  have K_4_ : (wH19_r3).cell? ⟨W.heap.size, 4, none⟩ = some (.int .i64 p.f4) := cell_of_row _ _ 4 _ _ _ rK9_.out
  have K_5_ : (wH19_r3).cell? ⟨W.heap.size, 5, none⟩ = some (.int .i64 p.f5) := cell_of_row _ _ 5 _ _ _ rK9_.out
  have K_6_ : (wH19_r3).cell? ⟨W.heap.size, 6, none⟩ = some (.int .i64 p.f6) := cell_of_row _ _ 6 _ _ _ rK9_.out
  have K_7_ : (wH19_r3).cell? ⟨W.heap.size, 7, none⟩ = some (vp) := cell_of_row _ _ 7 _ _ _ rK9_.out
  have G_0_ : (wH19_r3).cell? ⟨gb, 0, none⟩ = some (.slice (some ⟨b0, o0, none⟩) xs.length c0) := cell_of_row _ _ 0 _ _ _ rG10_.out
  have G_1_ : (wH19_r3).cell? ⟨gb, 1, none⟩ = some (.slice (some ⟨b1, o1, none⟩) ys.length c1) := cell_of_row _ _ 1 _ _ _ rG10_.out
  go_wp2_with fail
  go_at_call 124
  refine (crAdd _ gb lo hi k (.slice (some ⟨b0, o0, none⟩) xs.length c0) (.slice (some ⟨b1, o1, none⟩) ys.length c1) vp xs ys p 1 u u rG10_.out oC11_.out hgo (by omega) (HP.out.grow G12_.out) (fun w g => HPF.out w (chg_trans (chg_gby G12_.out lo hi) g)) HL.out HC.out (by omega) (by omega) HU.out (by rw [IntWalk.i64_in _ (by omega)]; omega) x y HX.out HY.out (IntWalk.i64_in _ (by omega)) (IntWalk.i64_in _ (by omega))).mono ?_
  rintro e w2 ⟨rfl, o, gc⟩
  rw [show x + 1 = x + 1 by omega, show y + u = y + u by omega] at o
  have HO9 := Lib.hid o
  have GC9 := Lib.hid (chg_trans (chg_gby G12_.out lo hi) gc)
  clear o gc
  clear K_0_ K_1_ K_2_ K_3_ K_4_ K_5_ K_6_ K_7_ G_0_ G_1_
  go_wp2
  go_ret
  exact ⟨rfl, HO9.out, GC9.out⟩

end Go.Proofs.Ytgagbhkidponnac
