/-
  SpendCredits and ReturnCredits of the program.
-/
import Derived.Test.YtgagbhkidponnacCrSp
import Derived.Test.YtgagbhkidponnacRSpendCredits
import Derived.Test.YtgagbhkidponnacRReturnCredits
namespace Go.Proofs.Ytgagbhkidponnac
open Go Go.RowKit
set_option linter.unusedVariables false

set_option maxRecDepth 8000 in
set_option maxHeartbeats 4000000 in
theorem give_full1 (W : World) (gb lo hi k : Nat) (v0 v1 vp : Value) (xs ys : List Int) (p : DPacket) (hg : W.heap[gb]? = some (.cells #[v0, v1] 54 (0, 0))) (ho : OwU W lo hi [] [own shI v0 xs, own shI v1 ys]) (hgo : gb < lo ∨ hi ≤ gb) (hhi : hi ≤ W.heap.size) (hp : RdL shI W vp p.f7) (hpf : ∀ w, Chg W w lo hi → RdL shI w vp p.f7) (hl : szL shI p.f7 ≤ 1048576) (hc : clsD p = (k : Int)) (hk3 : k < 3) (hcr : CrdOk xs ys) (u : Int) (hu : untD p = u) (hu0 : 0 ≤ u) (hu9 : u ≤ 1000000) (hw : xs.getD k 0 + 1 > 30) : Calls Try.prog 90 #[.pointer (some ⟨gb, 0, none⟩), (vPacket p.f0 p.f1 p.f2 p.f3 p.f4 p.f5 p.f6 vp)] W (SpPost false lo hi v0 v1 xs ys W) := by
  have HP := Lib.hid hp
  have HPF := Lib.hid hpf
  have HL := Lib.hid hl
  have HC := Lib.hid hc
  have HU := Lib.hid hu
  have HCR := Lib.hid hcr
  have hx1 := crd_at hcr hk3
  obtain ⟨x, hx⟩ : ∃ x, x = xs.getD k 0 := ⟨_, rfl⟩
  obtain ⟨y, hy⟩ : ∃ y, y = ys.getD k 0 := ⟨_, rfl⟩
  rw [← hx, ← hy] at hx1
  obtain ⟨hxl, hyl, hx0, hx30, hy0, hy30⟩ := hx1
  have HX := Lib.hid hx
  have HY := Lib.hid hy
  have HXL := Lib.hid (show szL shI xs ≤ 1048576 by rw [szL_I]; omega)
  have HYL := Lib.hid (show szL shI ys ≤ 1048576 by rw [szL_I]; omega)
  have hgl_ : gb < W.heap.size := lt_of_block hg
  clear hp hpf hl hc hu hcr hx hy
  unfold vPacket
  have HCL := Lib.hid (show ∀ (W : World) (v : Value), RdL shI W v p.f7 → Calls Try.prog 125 #[vPacket p.f0 p.f1 p.f2 p.f3 p.f4 p.f5 p.f6 v] W (AnsN (.int .i64 (k : Int)) W) from fun W v H => by have q := implClsD W p v H HL.out; rw [HC.out] at q; exact q)
  have HUN := Lib.hid (show ∀ (W : World) (v : Value), RdL shI W v p.f7 → Calls Try.prog 126 #[vPacket p.f0 p.f1 p.f2 p.f3 p.f4 p.f5 p.f6 v] W (AnsN (.int .i64 u) W) from fun W v H => by have q := implUntD W p v H HL.out (by rw [HC.out]; omega); rw [HU.out] at q; exact q)
  rw [← HX.out] at hw
  go_enter Try.func90, Try.ntmps90
  have rK1_ := Lib.hid (show ((W.alloc (.cells #[.int .i64 p.f0, .int .i64 p.f1, .int .i64 p.f2, .int .i64 p.f3, .int .i64 p.f4, .int .i64 p.f5, .int .i64 p.f6, vp] 29))).heap[W.heap.size]? = some (.cells #[.int .i64 p.f0, .int .i64 p.f1, .int .i64 p.f2, .int .i64 p.f3, .int .i64 p.f4, .int .i64 p.f5, .int .i64 p.f6, vp] 29 (0, 0)) from by exact heap_alloc_new _ _)
  have G2_ := Lib.hid (show (W).grownBy ((W.alloc (.cells #[.int .i64 p.f0, .int .i64 p.f1, .int .i64 p.f2, .int .i64 p.f3, .int .i64 p.f4, .int .i64 p.f5, .int .i64 p.f6, vp] 29))) none from (gby_alloc (gby_refl _ _) _))
  have K_0_ : ((W.alloc (.cells #[.int .i64 p.f0, .int .i64 p.f1, .int .i64 p.f2, .int .i64 p.f3, .int .i64 p.f4, .int .i64 p.f5, .int .i64 p.f6, vp] 29))).cell? ⟨W.heap.size, 0, none⟩ = some (.int .i64 p.f0) := cell_of_row _ _ 0 _ _ _ rK1_.out
  have K_1_ : ((W.alloc (.cells #[.int .i64 p.f0, .int .i64 p.f1, .int .i64 p.f2, .int .i64 p.f3, .int .i64 p.f4, .int .i64 p.f5, .int .i64 p.f6, vp] 29))).cell? ⟨W.heap.size, 1, none⟩ = some (.int .i64 p.f1) := cell_of_row _ _ 1 _ _ _ rK1_.out
  have K_2_ : ((W.alloc (.cells #[.int .i64 p.f0, .int .i64 p.f1, .int .i64 p.f2, .int .i64 p.f3, .int .i64 p.f4, .int .i64 p.f5, .int .i64 p.f6, vp] 29))).cell? ⟨W.heap.size, 2, none⟩ = some (.int .i64 p.f2) := cell_of_row _ _ 2 _ _ _ rK1_.out
  have K_3_ : ((W.alloc (.cells #[.int .i64 p.f0, .int .i64 p.f1, .int .i64 p.f2, .int .i64 p.f3, .int .i64 p.f4, .int .i64 p.f5, .int .i64 p.f6, vp] 29))).cell? ⟨W.heap.size, 3, none⟩ = some (.int .i64 p.f3) := cell_of_row _ _ 3 _ _ _ rK1_.out
  have K_4_ : ((W.alloc (.cells #[.int .i64 p.f0, .int .i64 p.f1, .int .i64 p.f2, .int .i64 p.f3, .int .i64 p.f4, .int .i64 p.f5, .int .i64 p.f6, vp] 29))).cell? ⟨W.heap.size, 4, none⟩ = some (.int .i64 p.f4) := cell_of_row _ _ 4 _ _ _ rK1_.out
  have K_5_ : ((W.alloc (.cells #[.int .i64 p.f0, .int .i64 p.f1, .int .i64 p.f2, .int .i64 p.f3, .int .i64 p.f4, .int .i64 p.f5, .int .i64 p.f6, vp] 29))).cell? ⟨W.heap.size, 5, none⟩ = some (.int .i64 p.f5) := cell_of_row _ _ 5 _ _ _ rK1_.out
  have K_6_ : ((W.alloc (.cells #[.int .i64 p.f0, .int .i64 p.f1, .int .i64 p.f2, .int .i64 p.f3, .int .i64 p.f4, .int .i64 p.f5, .int .i64 p.f6, vp] 29))).cell? ⟨W.heap.size, 6, none⟩ = some (.int .i64 p.f6) := cell_of_row _ _ 6 _ _ _ rK1_.out
  have K_7_ : ((W.alloc (.cells #[.int .i64 p.f0, .int .i64 p.f1, .int .i64 p.f2, .int .i64 p.f3, .int .i64 p.f4, .int .i64 p.f5, .int .i64 p.f6, vp] 29))).cell? ⟨W.heap.size, 7, none⟩ = some (vp) := cell_of_row _ _ 7 _ _ _ rK1_.out
  have rG3_ := Lib.hid (show ((W.alloc (.cells #[.int .i64 p.f0, .int .i64 p.f1, .int .i64 p.f2, .int .i64 p.f3, .int .i64 p.f4, .int .i64 p.f5, .int .i64 p.f6, vp] 29))).heap[gb]? = some (.cells #[v0, v1] 54 (0, 0)) from row_held G2_.out hg)
  have oC4_ := Lib.hid (show OwU ((W.alloc (.cells #[.int .i64 p.f0, .int .i64 p.f1, .int .i64 p.f2, .int .i64 p.f3, .int .i64 p.f4, .int .i64 p.f5, .int .i64 p.f6, vp] 29))) (lo) (hi) [] [own shI v0 xs, own shI v1 ys] from ho.grow G2_.out)
  clear hg ho
  have G_0_ : ((W.alloc (.cells #[.int .i64 p.f0, .int .i64 p.f1, .int .i64 p.f2, .int .i64 p.f3, .int .i64 p.f4, .int .i64 p.f5, .int .i64 p.f6, vp] 29))).cell? ⟨gb, 0, none⟩ = some (v0) := cell_of_row _ _ 0 _ _ _ rG3_.out
  have G_1_ : ((W.alloc (.cells #[.int .i64 p.f0, .int .i64 p.f1, .int .i64 p.f2, .int .i64 p.f3, .int .i64 p.f4, .int .i64 p.f5, .int .i64 p.f6, vp] 29))).cell? ⟨gb, 1, none⟩ = some (v1) := cell_of_row _ _ 1 _ _ _ rG3_.out
  go_wp2_with fail
  go_at_call 125
  refine (HCL.out _ _ (HP.out.grow G2_.out)).mono ?_
  rintro e w1 ⟨rfl, g⟩
  have szw1 := g.size
  try simp only [World.size_alloc] at szw1
  try simp only [World.size_setCell] at szw1
  clear K_0_ K_1_ K_2_ K_3_ K_4_ K_5_ K_6_ K_7_ G_0_ G_1_
  have rK5_ := Lib.hid (show (w1).heap[W.heap.size]? = some (.cells #[.int .i64 p.f0, .int .i64 p.f1, .int .i64 p.f2, .int .i64 p.f3, .int .i64 p.f4, .int .i64 p.f5, .int .i64 p.f6, vp] 29 (0, 0)) from row_held g rK1_.out)
  clear rK1_
  have rG6_ := Lib.hid (show (w1).heap[gb]? = some (.cells #[v0, v1] 54 (0, 0)) from row_held g rG3_.out)
  clear rG3_
  have oC7_ := Lib.hid (show OwU (w1) (lo) (hi) [] [own shI v0 xs, own shI v1 ys] from OwU.grow oC4_.out g)
  clear oC4_
  have G8_ := Lib.hid (show (W).grownBy (w1) none from gby_trans G2_.out g)
  clear g
  have K_0_ : (w1).cell? ⟨W.heap.size, 0, none⟩ = some (.int .i64 p.f0) := cell_of_row _ _ 0 _ _ _ rK5_.out
  have K_1_ : (w1).cell? ⟨W.heap.size, 1, none⟩ = some (.int .i64 p.f1) := cell_of_row _ _ 1 _ _ _ rK5_.out
  have K_2_ : (w1).cell? ⟨W.heap.size, 2, none⟩ = some (.int .i64 p.f2) := cell_of_row _ _ 2 _ _ _ rK5_.out
  have K_3_ : (w1).cell? ⟨W.heap.size, 3, none⟩ = some (.int .i64 p.f3) := cell_of_row _ _ 3 _ _ _ rK5_.out
  have K_4_ : (w1).cell? ⟨W.heap.size, 4, none⟩ = some (.int .i64 p.f4) := cell_of_row _ _ 4 _ _ _ rK5_.out
  have K_5_ : (w1).cell? ⟨W.heap.size, 5, none⟩ = some (.int .i64 p.f5) := cell_of_row _ _ 5 _ _ _ rK5_.out
  have K_6_ : (w1).cell? ⟨W.heap.size, 6, none⟩ = some (.int .i64 p.f6) := cell_of_row _ _ 6 _ _ _ rK5_.out
  have K_7_ : (w1).cell? ⟨W.heap.size, 7, none⟩ = some (vp) := cell_of_row _ _ 7 _ _ _ rK5_.out
  have G_0_ : (w1).cell? ⟨gb, 0, none⟩ = some (v0) := cell_of_row _ _ 0 _ _ _ rG6_.out
  have G_1_ : (w1).cell? ⟨gb, 1, none⟩ = some (v1) := cell_of_row _ _ 1 _ _ _ rG6_.out
  obtain ⟨b0, o0, c0, hv0, l0, h0, ce0, fr0, _⟩ := cset1 oC7_.out k (by omega)
  obtain ⟨b1, o1, c1, hv1, l1, h1, ce1, fr1, _⟩ := cset2 oC7_.out k (by omega)
  subst hv0 hv1
  rw [← HX.out] at ce0
  rw [← HY.out] at ce1
  have hk0 : (0 : Int) ≤ (k : Int) := by omega
  have htk : ((k : Int)).toNat = k := by omega
  have hkx : (k : Int) < (xs.length : Int) := by omega
  have hky : (k : Int) < (ys.length : Int) := by omega
  have hk3i : (k : Int) < 3 := by omega
  have e1_ : IntKind.i64.wrap (x + 1) = x + 1 := IntWalk.i64_in _ (by omega)
  have e2_ : IntKind.i64.wrap (y + u) = y + u := IntWalk.i64_in _ (by omega)
  clear K_0_ K_1_ K_2_ K_3_ K_4_ K_5_ K_6_ K_7_ G_0_ G_1_
  have K_0_ : (w1).cell? ⟨W.heap.size, 0, none⟩ = some (.int .i64 p.f0) := cell_of_row _ _ 0 _ _ _ rK5_.out
  have K_1_ : (w1).cell? ⟨W.heap.size, 1, none⟩ = some (.int .i64 p.f1) := cell_of_row _ _ 1 _ _ _ rK5_.out
  have K_2_ : (w1).cell? ⟨W.heap.size, 2, none⟩ = some (.int .i64 p.f2) := cell_of_row _ _ 2 _ _ _ rK5_.out
  have K_3_ : (w1).cell? ⟨W.heap.size, 3, none⟩ = some (.int .i64 p.f3) := cell_of_row _ _ 3 _ _ _ rK5_.out
  have K_4_ : (w1).cell? ⟨W.heap.size, 4, none⟩ = some (.int .i64 p.f4) := cell_of_row _ _ 4 _ _ _ rK5_.out
  have K_5_ : (w1).cell? ⟨W.heap.size, 5, none⟩ = some (.int .i64 p.f5) := cell_of_row _ _ 5 _ _ _ rK5_.out
  have K_6_ : (w1).cell? ⟨W.heap.size, 6, none⟩ = some (.int .i64 p.f6) := cell_of_row _ _ 6 _ _ _ rK5_.out
  have K_7_ : (w1).cell? ⟨W.heap.size, 7, none⟩ = some (vp) := cell_of_row _ _ 7 _ _ _ rK5_.out
  have G_0_ : (w1).cell? ⟨gb, 0, none⟩ = some (.slice (some ⟨b0, o0, none⟩) xs.length c0) := cell_of_row _ _ 0 _ _ _ rG6_.out
  have G_1_ : (w1).cell? ⟨gb, 1, none⟩ = some (.slice (some ⟨b1, o1, none⟩) ys.length c1) := cell_of_row _ _ 1 _ _ _ rG6_.out
  have t1_ : decide (x + 1 > 30) = true := decide_eq_true hw
  have t1b_ : (30 : Int) < x + 1 := by omega
  have HP0 := Lib.hid (HP.out.grow G8_.out)
  go_wp2_with fail
  refine wp_region_held_drew (S := fun w' => w'.cell? ⟨b0, o0 + k, none⟩ = some (.int .i64 x) ∧ w'.cell? ⟨b1, o1 + k, none⟩ = some (.int .i64 y) ∧ w'.cell? ⟨gb, 0, none⟩ = some (.slice (some ⟨b0, o0, none⟩) xs.length c0) ∧ w'.cell? ⟨gb, 1, none⟩ = some (.slice (some ⟨b1, o1, none⟩) ys.length c1) ∧ w'.cell? ⟨W.heap.size, 0, none⟩ = some (.int .i64 p.f0) ∧ w'.cell? ⟨W.heap.size, 1, none⟩ = some (.int .i64 p.f1) ∧ w'.cell? ⟨W.heap.size, 2, none⟩ = some (.int .i64 p.f2) ∧ w'.cell? ⟨W.heap.size, 3, none⟩ = some (.int .i64 p.f3) ∧ w'.cell? ⟨W.heap.size, 4, none⟩ = some (.int .i64 p.f4) ∧ w'.cell? ⟨W.heap.size, 5, none⟩ = some (.int .i64 p.f5) ∧ w'.cell? ⟨W.heap.size, 6, none⟩ = some (.int .i64 p.f6) ∧ w'.cell? ⟨W.heap.size, 7, none⟩ = some (vp)) (by kernel_rfl) (by (try dsimp only); exact ⟨ce0, ce1, G_0_, G_1_, K_0_, K_1_, K_2_, K_3_, K_4_, K_5_, K_6_, K_7_⟩) (fun hHeld => ?_)
  refine wpAnyH_take (i := 0) (oi := { dst := some 8, op := Op.move (Operand.tmp 0), type := 131, pos := "l14_credit.go:72", after := #[], guard := none }) (v := ?v0_r1_1) rfl (by kernel_rfl) (by kernel_rfl) (by kernel_rfl) (fun _ _ _ h => h) (Or.inl ⟨by rfl, ?y0_r1_1⟩) (by assumption) ?r0_r1_1
  case y0_r1_1 => (intro w hSw; (try dsimp only at hSw); go_simp; all_goals (with_reducible rfl))
  try simp only [Act.put, List.setIfInBounds_toArray, List.set_cons_zero, List.set_cons_succ]
  refine wpAnyH_take (i := 1) (oi := { dst := some 9, op := Op.nilCheck (Operand.tmp 8), type := 0, pos := "l14_credit.go:72", after := #[{ on := 0, ground := Ground.data }], guard := none }) (v := ?v1_r1_2) rfl (by kernel_rfl) (by kernel_rfl) (by kernel_rfl) (fun _ _ _ h => h) (Or.inl ⟨by rfl, ?y1_r1_2⟩) (by assumption) ?r1_r1_2
  case y1_r1_2 => (intro w hSw; (try dsimp only at hSw); go_simp; all_goals (with_reducible rfl))
  try simp only [Act.put, List.setIfInBounds_toArray, List.set_cons_zero, List.set_cons_succ]
  refine wpAnyH_take (i := 2) (oi := { dst := some 10, op := Op.fieldAddr 54 (Operand.tmp 9) 0, type := 0, pos := "l14_credit.go:72", after := #[{ on := 1, ground := Ground.data }], guard := none }) (v := ?v2_r1_3) rfl (by kernel_rfl) (by kernel_rfl) (by kernel_rfl) (fun _ _ _ h => h) (Or.inl ⟨by rfl, ?y2_r1_3⟩) (by assumption) ?r2_r1_3
  case y2_r1_3 => (intro w hSw; (try dsimp only at hSw); go_simp; all_goals (with_reducible rfl))
  try simp only [Act.put, List.setIfInBounds_toArray, List.set_cons_zero, List.set_cons_succ]
  refine wpAnyH_take (i := 3) (oi := { dst := some 11, op := Op.load 27 (Operand.tmp 10), type := 27, pos := "l14_credit.go:72", after := #[{ on := 2, ground := Ground.data }], guard := none }) (v := ?v3_r1_4) rfl (by kernel_rfl) (by kernel_rfl) (by kernel_rfl) (fun _ _ _ h => h) (Or.inl ⟨by rfl, ?y3_r1_4⟩) (by assumption) ?r3_r1_4
  case y3_r1_4 => (intro w hSw; (try dsimp only at hSw); go_simp; all_goals (with_reducible rfl))
  try simp only [Act.put, List.setIfInBounds_toArray, List.set_cons_zero, List.set_cons_succ]
  refine wpAnyH_take (i := 4) (oi := { dst := some 12, op := Op.move (Operand.tmp 5), type := 3, pos := "l14_credit.go:72", after := #[], guard := none }) (v := ?v4_r1_5) rfl (by kernel_rfl) (by kernel_rfl) (by kernel_rfl) (fun _ _ _ h => h) (Or.inl ⟨by rfl, ?y4_r1_5⟩) (by assumption) ?r4_r1_5
  case y4_r1_5 => (intro w hSw; (try dsimp only at hSw); go_simp; all_goals (with_reducible rfl))
  try simp only [Act.put, List.setIfInBounds_toArray, List.set_cons_zero, List.set_cons_succ]
  refine wpAnyH_take (i := 5) (oi := { dst := some 13, op := Op.indexAddr 27 (Operand.tmp 11) (Operand.tmp 12), type := 0, pos := "l14_credit.go:72", after := #[{ on := 3, ground := Ground.data }, { on := 4, ground := Ground.data }], guard := none }) (v := ?v5_r1_6) rfl (by kernel_rfl) (by kernel_rfl) (by kernel_rfl) (fun _ _ _ h => h) (Or.inl ⟨by rfl, ?y5_r1_6⟩) (by assumption) ?r5_r1_6
  case y5_r1_6 => (intro w hSw; (try dsimp only at hSw); go_simp; all_goals (with_reducible rfl))
  try simp only [Act.put, List.setIfInBounds_toArray, List.set_cons_zero, List.set_cons_succ]
  refine wpAnyH_take (i := 6) (oi := { dst := some 14, op := Op.load 3 (Operand.tmp 13), type := 3, pos := "l14_credit.go:72", after := #[{ on := 5, ground := Ground.data }], guard := none }) (v := ?v6_r1_7) rfl (by kernel_rfl) (by kernel_rfl) (by kernel_rfl) (fun _ _ _ h => h) (Or.inl ⟨by rfl, ?y6_r1_7⟩) (by assumption) ?r6_r1_7
  case y6_r1_7 => (intro w hSw; (try dsimp only at hSw); go_simp; all_goals (with_reducible rfl))
  try simp only [Act.put, List.setIfInBounds_toArray, List.set_cons_zero, List.set_cons_succ]
  refine wpAnyH_take (i := 7) (oi := { dst := some 15, op := Op.binOp BinOp.add 3 (Operand.tmp 14) (Operand.const (Value.int IntKind.i64 1)) 3, type := 3, pos := "l14_credit.go:72", after := #[{ on := 6, ground := Ground.data }], guard := none }) (v := ?v7_r1_8) rfl (by kernel_rfl) (by kernel_rfl) (by kernel_rfl) (fun _ _ _ h => h) (Or.inl ⟨by rfl, ?y7_r1_8⟩) (by assumption) ?r7_r1_8
  case y7_r1_8 => (intro w hSw; (try dsimp only at hSw); go_simp; all_goals (with_reducible rfl))
  try simp only [Act.put, List.setIfInBounds_toArray, List.set_cons_zero, List.set_cons_succ]
  refine wpAnyH_take (i := 8) (oi := { dst := some 16, op := Op.binOp BinOp.gtr 3 (Operand.tmp 15) (Operand.const (Value.int IntKind.i64 30)) 3, type := 4, pos := "l14_credit.go:72", after := #[{ on := 7, ground := Ground.data }], guard := none }) (v := ?v8_r1_9) rfl (by kernel_rfl) (by kernel_rfl) (by kernel_rfl) (fun _ _ _ h => h) (Or.inl ⟨by rfl, ?y8_r1_9⟩) (by assumption) ?r8_r1_9
  case y8_r1_9 => (intro w hSw; (try dsimp only at hSw); go_simp; all_goals (with_reducible rfl))
  try simp only [Act.put, List.setIfInBounds_toArray, List.set_cons_zero, List.set_cons_succ]
  refine wpAnyH_take (i := 9) (oi := { dst := some 17, op := Op.move (Operand.tmp 16), type := 4, pos := "l14_credit.go:72", after := #[{ on := 8, ground := Ground.data }], guard := none }) (v := ?v9_r1_10) rfl (by kernel_rfl) (by kernel_rfl) (by kernel_rfl) (fun _ _ _ h => h) (Or.inl ⟨by rfl, ?y9_r1_10⟩) (by assumption) ?r9_r1_10
  case y9_r1_10 => (intro w hSw; (try dsimp only at hSw); go_simp; all_goals (with_reducible rfl))
  try simp only [Act.put, List.setIfInBounds_toArray, List.set_cons_zero, List.set_cons_succ]
  refine wpAnyH_take (i := 10) (oi := { dst := some 18, op := Op.move (Operand.tmp 0), type := 131, pos := "l14_credit.go:72", after := #[{ on := 9, ground := Ground.guard }], guard := some (9, false) }) (v := undef) rfl (by kernel_rfl) (by kernel_rfl) (by kernel_rfl) (fun _ _ _ h => h) (Or.inr ⟨by rfl, rfl⟩) (by assumption) ?r10_r1_11
  try simp only [Act.put, List.setIfInBounds_toArray, List.set_cons_zero, List.set_cons_succ]
  refine wpAnyH_take (i := 11) (oi := { dst := some 19, op := Op.nilCheck (Operand.tmp 18), type := 0, pos := "l14_credit.go:72", after := #[{ on := 10, ground := Ground.data }, { on := 9, ground := Ground.guard }], guard := some (9, false) }) (v := undef) rfl (by kernel_rfl) (by kernel_rfl) (by kernel_rfl) (fun _ _ _ h => h) (Or.inr ⟨by rfl, rfl⟩) (by assumption) ?r11_r1_12
  try simp only [Act.put, List.setIfInBounds_toArray, List.set_cons_zero, List.set_cons_succ]
  refine wpAnyH_take (i := 12) (oi := { dst := some 20, op := Op.fieldAddr 54 (Operand.tmp 19) 1, type := 0, pos := "l14_credit.go:72", after := #[{ on := 11, ground := Ground.data }, { on := 9, ground := Ground.guard }], guard := some (9, false) }) (v := undef) rfl (by kernel_rfl) (by kernel_rfl) (by kernel_rfl) (fun _ _ _ h => h) (Or.inr ⟨by rfl, rfl⟩) (by assumption) ?r12_r1_13
  try simp only [Act.put, List.setIfInBounds_toArray, List.set_cons_zero, List.set_cons_succ]
  refine wpAnyH_take (i := 13) (oi := { dst := some 21, op := Op.load 27 (Operand.tmp 20), type := 27, pos := "l14_credit.go:72", after := #[{ on := 12, ground := Ground.data }, { on := 9, ground := Ground.guard }], guard := some (9, false) }) (v := undef) rfl (by kernel_rfl) (by kernel_rfl) (by kernel_rfl) (fun _ _ _ h => h) (Or.inr ⟨by rfl, rfl⟩) (by assumption) ?r13_r1_14
  try simp only [Act.put, List.setIfInBounds_toArray, List.set_cons_zero, List.set_cons_succ]
  refine wpAnyH_take (i := 14) (oi := { dst := some 22, op := Op.move (Operand.tmp 5), type := 3, pos := "l14_credit.go:72", after := #[{ on := 9, ground := Ground.guard }], guard := some (9, false) }) (v := undef) rfl (by kernel_rfl) (by kernel_rfl) (by kernel_rfl) (fun _ _ _ h => h) (Or.inr ⟨by rfl, rfl⟩) (by assumption) ?r14_r1_15
  try simp only [Act.put, List.setIfInBounds_toArray, List.set_cons_zero, List.set_cons_succ]
  refine wpAnyH_take (i := 15) (oi := { dst := some 23, op := Op.indexAddr 27 (Operand.tmp 21) (Operand.tmp 22), type := 0, pos := "l14_credit.go:72", after := #[{ on := 13, ground := Ground.data }, { on := 14, ground := Ground.data }, { on := 9, ground := Ground.guard }], guard := some (9, false) }) (v := undef) rfl (by kernel_rfl) (by kernel_rfl) (by kernel_rfl) (fun _ _ _ h => h) (Or.inr ⟨by rfl, rfl⟩) (by assumption) ?r15_r1_16
  try simp only [Act.put, List.setIfInBounds_toArray, List.set_cons_zero, List.set_cons_succ]
  refine wpAnyH_take (i := 16) (oi := { dst := some 24, op := Op.load 3 (Operand.tmp 23), type := 3, pos := "l14_credit.go:72", after := #[{ on := 15, ground := Ground.data }, { on := 9, ground := Ground.guard }], guard := some (9, false) }) (v := undef) rfl (by kernel_rfl) (by kernel_rfl) (by kernel_rfl) (fun _ _ _ h => h) (Or.inr ⟨by rfl, rfl⟩) (by assumption) ?r16_r1_17
  try simp only [Act.put, List.setIfInBounds_toArray, List.set_cons_zero, List.set_cons_succ]
  refine wpAnyH_take (i := 17) (oi := { dst := some 25, op := Op.load 29 (Operand.tmp 3), type := 29, pos := "l14_credit.go:72", after := #[{ on := 9, ground := Ground.guard }], guard := some (9, false) }) (v := undef) rfl (by kernel_rfl) (by kernel_rfl) (by kernel_rfl) (fun _ _ _ h => h) (Or.inr ⟨by rfl, rfl⟩) (by assumption) ?r17_r1_18
  try simp only [Act.put, List.setIfInBounds_toArray, List.set_cons_zero, List.set_cons_succ]
  refine wpAnyH_take (i := 18) (oi := { dst := some 26, op := Op.call { callee := Callee.value (Operand.func 126), args := #[Operand.tmp 25], argTypes := #[29] }, type := 3, pos := "l14_credit.go:72", after := #[{ on := 17, ground := Ground.data }, { on := 9, ground := Ground.chain }, { on := 9, ground := Ground.guard }], guard := some (9, false) }) (v := undef) rfl (by kernel_rfl) (by kernel_rfl) (by kernel_rfl) (fun _ _ _ h => h) (Or.inr ⟨by rfl, rfl⟩) (by assumption) ?r18_r1_19
  try simp only [Act.put, List.setIfInBounds_toArray, List.set_cons_zero, List.set_cons_succ]
  refine wpAnyH_take (i := 19) (oi := { dst := some 27, op := Op.binOp BinOp.add 3 (Operand.tmp 24) (Operand.tmp 26) 3, type := 3, pos := "l14_credit.go:72", after := #[{ on := 16, ground := Ground.data }, { on := 18, ground := Ground.data }, { on := 9, ground := Ground.guard }], guard := some (9, false) }) (v := undef) rfl (by kernel_rfl) (by kernel_rfl) (by kernel_rfl) (fun _ _ _ h => h) (Or.inr ⟨by rfl, rfl⟩) (by assumption) ?r19_r1_20
  try simp only [Act.put, List.setIfInBounds_toArray, List.set_cons_zero, List.set_cons_succ]
  refine wpAnyH_take (i := 20) (oi := { dst := some 28, op := Op.binOp BinOp.gtr 3 (Operand.tmp 27) (Operand.const (Value.int IntKind.i64 30)) 3, type := 4, pos := "l14_credit.go:72", after := #[{ on := 19, ground := Ground.data }, { on := 9, ground := Ground.guard }], guard := some (9, false) }) (v := undef) rfl (by kernel_rfl) (by kernel_rfl) (by kernel_rfl) (fun _ _ _ h => h) (Or.inr ⟨by rfl, rfl⟩) (by assumption) ?r20_r1_21
  try simp only [Act.put, List.setIfInBounds_toArray, List.set_cons_zero, List.set_cons_succ]
  refine wpAnyH_take (i := 21) (oi := { dst := some 29, op := Op.pick (Operand.tmp 17) (Operand.const (Value.bool true)) (Operand.tmp 28), type := 4, pos := "l14_credit.go:72", after := #[{ on := 9, ground := Ground.data }, { on := 20, ground := Ground.data }], guard := none }) (v := ?v21_r1_22) rfl (by kernel_rfl) (by kernel_rfl) (by kernel_rfl) (fun _ _ _ h => h) (Or.inl ⟨by rfl, ?y21_r1_22⟩) (by assumption) ?r21_r1_22
  case y21_r1_22 => (intro w hSw; (try dsimp only at hSw); go_simp; all_goals (with_reducible rfl))
  try simp only [Act.put, List.setIfInBounds_toArray, List.set_cons_zero, List.set_cons_succ]
  refine wpAnyH_done (by kernel_rfl) ?_ _
  have gR_ : (w1).grownBy ((w1).drew) none := (gby_drew (gby_refl _ none))
  clear K_0_ K_1_ K_2_ K_3_ K_4_ K_5_ K_6_ K_7_ G_0_ G_1_
  have rK9_ := Lib.hid (show ((w1).drew).heap[W.heap.size]? = some (.cells #[.int .i64 p.f0, .int .i64 p.f1, .int .i64 p.f2, .int .i64 p.f3, .int .i64 p.f4, .int .i64 p.f5, .int .i64 p.f6, vp] 29 (0, 0)) from row_held gR_ rK5_.out)
  clear rK5_
  have rG10_ := Lib.hid (show ((w1).drew).heap[gb]? = some (.cells #[.slice (some ⟨b0, o0, none⟩) xs.length c0, .slice (some ⟨b1, o1, none⟩) ys.length c1] 54 (0, 0)) from row_held gR_ rG6_.out)
  clear rG6_
  have oC11_ := Lib.hid (show OwU ((w1).drew) (lo) (hi) [] [own shI (.slice (some ⟨b0, o0, none⟩) xs.length c0) xs, own shI (.slice (some ⟨b1, o1, none⟩) ys.length c1) ys] from OwU.grow oC7_.out gR_)
  clear oC7_
  have G12_ := Lib.hid (show (W).grownBy ((w1).drew) none from gby_trans G8_.out gR_)
  clear gR_
  have szd_ : ((w1).drew).heap.size = (w1).heap.size := rfl
  have K_0_ : ((w1).drew).cell? ⟨W.heap.size, 0, none⟩ = some (.int .i64 p.f0) := cell_of_row _ _ 0 _ _ _ rK9_.out
  have K_1_ : ((w1).drew).cell? ⟨W.heap.size, 1, none⟩ = some (.int .i64 p.f1) := cell_of_row _ _ 1 _ _ _ rK9_.out
  have K_2_ : ((w1).drew).cell? ⟨W.heap.size, 2, none⟩ = some (.int .i64 p.f2) := cell_of_row _ _ 2 _ _ _ rK9_.out
  have K_3_ : ((w1).drew).cell? ⟨W.heap.size, 3, none⟩ = some (.int .i64 p.f3) := cell_of_row _ _ 3 _ _ _ rK9_.out
  have K_4_ : ((w1).drew).cell? ⟨W.heap.size, 4, none⟩ = some (.int .i64 p.f4) := cell_of_row _ _ 4 _ _ _ rK9_.out
  have K_5_ : ((w1).drew).cell? ⟨W.heap.size, 5, none⟩ = some (.int .i64 p.f5) := cell_of_row _ _ 5 _ _ _ rK9_.out
  have K_6_ : ((w1).drew).cell? ⟨W.heap.size, 6, none⟩ = some (.int .i64 p.f6) := cell_of_row _ _ 6 _ _ _ rK9_.out
  have K_7_ : ((w1).drew).cell? ⟨W.heap.size, 7, none⟩ = some (vp) := cell_of_row _ _ 7 _ _ _ rK9_.out
  have G_0_ : ((w1).drew).cell? ⟨gb, 0, none⟩ = some (.slice (some ⟨b0, o0, none⟩) xs.length c0) := cell_of_row _ _ 0 _ _ _ rG10_.out
  have G_1_ : ((w1).drew).cell? ⟨gb, 1, none⟩ = some (.slice (some ⟨b1, o1, none⟩) ys.length c1) := cell_of_row _ _ 1 _ _ _ rG10_.out
  go_wp2
  go_ret
  exact ⟨rfl, oC11_.out, chg_gby G12_.out lo hi⟩

set_option maxRecDepth 8000 in
set_option maxHeartbeats 4000000 in
theorem give_full2 (W : World) (gb lo hi k : Nat) (v0 v1 vp : Value) (xs ys : List Int) (p : DPacket) (hg : W.heap[gb]? = some (.cells #[v0, v1] 54 (0, 0))) (ho : OwU W lo hi [] [own shI v0 xs, own shI v1 ys]) (hgo : gb < lo ∨ hi ≤ gb) (hhi : hi ≤ W.heap.size) (hp : RdL shI W vp p.f7) (hpf : ∀ w, Chg W w lo hi → RdL shI w vp p.f7) (hl : szL shI p.f7 ≤ 1048576) (hc : clsD p = (k : Int)) (hk3 : k < 3) (hcr : CrdOk xs ys) (u : Int) (hu : untD p = u) (hu0 : 0 ≤ u) (hu9 : u ≤ 1000000) (hw : ¬ xs.getD k 0 + 1 > 30 ∧ ys.getD k 0 + u > 30) : Calls Try.prog 90 #[.pointer (some ⟨gb, 0, none⟩), (vPacket p.f0 p.f1 p.f2 p.f3 p.f4 p.f5 p.f6 vp)] W (SpPost false lo hi v0 v1 xs ys W) := by
  have HP := Lib.hid hp
  have HPF := Lib.hid hpf
  have HL := Lib.hid hl
  have HC := Lib.hid hc
  have HU := Lib.hid hu
  have HCR := Lib.hid hcr
  have hx1 := crd_at hcr hk3
  obtain ⟨x, hx⟩ : ∃ x, x = xs.getD k 0 := ⟨_, rfl⟩
  obtain ⟨y, hy⟩ : ∃ y, y = ys.getD k 0 := ⟨_, rfl⟩
  rw [← hx, ← hy] at hx1
  obtain ⟨hxl, hyl, hx0, hx30, hy0, hy30⟩ := hx1
  have HX := Lib.hid hx
  have HY := Lib.hid hy
  have HXL := Lib.hid (show szL shI xs ≤ 1048576 by rw [szL_I]; omega)
  have HYL := Lib.hid (show szL shI ys ≤ 1048576 by rw [szL_I]; omega)
  have hgl_ : gb < W.heap.size := lt_of_block hg
  clear hp hpf hl hc hu hcr hx hy
  unfold vPacket
  have HCL := Lib.hid (show ∀ (W : World) (v : Value), RdL shI W v p.f7 → Calls Try.prog 125 #[vPacket p.f0 p.f1 p.f2 p.f3 p.f4 p.f5 p.f6 v] W (AnsN (.int .i64 (k : Int)) W) from fun W v H => by have q := implClsD W p v H HL.out; rw [HC.out] at q; exact q)
  have HUN := Lib.hid (show ∀ (W : World) (v : Value), RdL shI W v p.f7 → Calls Try.prog 126 #[vPacket p.f0 p.f1 p.f2 p.f3 p.f4 p.f5 p.f6 v] W (AnsN (.int .i64 u) W) from fun W v H => by have q := implUntD W p v H HL.out (by rw [HC.out]; omega); rw [HU.out] at q; exact q)
  rw [← HX.out, ← HY.out] at hw
  go_enter Try.func90, Try.ntmps90
  have rK1_ := Lib.hid (show ((W.alloc (.cells #[.int .i64 p.f0, .int .i64 p.f1, .int .i64 p.f2, .int .i64 p.f3, .int .i64 p.f4, .int .i64 p.f5, .int .i64 p.f6, vp] 29))).heap[W.heap.size]? = some (.cells #[.int .i64 p.f0, .int .i64 p.f1, .int .i64 p.f2, .int .i64 p.f3, .int .i64 p.f4, .int .i64 p.f5, .int .i64 p.f6, vp] 29 (0, 0)) from by exact heap_alloc_new _ _)
  have G2_ := Lib.hid (show (W).grownBy ((W.alloc (.cells #[.int .i64 p.f0, .int .i64 p.f1, .int .i64 p.f2, .int .i64 p.f3, .int .i64 p.f4, .int .i64 p.f5, .int .i64 p.f6, vp] 29))) none from (gby_alloc (gby_refl _ _) _))
  have K_0_ : ((W.alloc (.cells #[.int .i64 p.f0, .int .i64 p.f1, .int .i64 p.f2, .int .i64 p.f3, .int .i64 p.f4, .int .i64 p.f5, .int .i64 p.f6, vp] 29))).cell? ⟨W.heap.size, 0, none⟩ = some (.int .i64 p.f0) := cell_of_row _ _ 0 _ _ _ rK1_.out
  have K_1_ : ((W.alloc (.cells #[.int .i64 p.f0, .int .i64 p.f1, .int .i64 p.f2, .int .i64 p.f3, .int .i64 p.f4, .int .i64 p.f5, .int .i64 p.f6, vp] 29))).cell? ⟨W.heap.size, 1, none⟩ = some (.int .i64 p.f1) := cell_of_row _ _ 1 _ _ _ rK1_.out
  have K_2_ : ((W.alloc (.cells #[.int .i64 p.f0, .int .i64 p.f1, .int .i64 p.f2, .int .i64 p.f3, .int .i64 p.f4, .int .i64 p.f5, .int .i64 p.f6, vp] 29))).cell? ⟨W.heap.size, 2, none⟩ = some (.int .i64 p.f2) := cell_of_row _ _ 2 _ _ _ rK1_.out
  have K_3_ : ((W.alloc (.cells #[.int .i64 p.f0, .int .i64 p.f1, .int .i64 p.f2, .int .i64 p.f3, .int .i64 p.f4, .int .i64 p.f5, .int .i64 p.f6, vp] 29))).cell? ⟨W.heap.size, 3, none⟩ = some (.int .i64 p.f3) := cell_of_row _ _ 3 _ _ _ rK1_.out
  have K_4_ : ((W.alloc (.cells #[.int .i64 p.f0, .int .i64 p.f1, .int .i64 p.f2, .int .i64 p.f3, .int .i64 p.f4, .int .i64 p.f5, .int .i64 p.f6, vp] 29))).cell? ⟨W.heap.size, 4, none⟩ = some (.int .i64 p.f4) := cell_of_row _ _ 4 _ _ _ rK1_.out
  have K_5_ : ((W.alloc (.cells #[.int .i64 p.f0, .int .i64 p.f1, .int .i64 p.f2, .int .i64 p.f3, .int .i64 p.f4, .int .i64 p.f5, .int .i64 p.f6, vp] 29))).cell? ⟨W.heap.size, 5, none⟩ = some (.int .i64 p.f5) := cell_of_row _ _ 5 _ _ _ rK1_.out
  have K_6_ : ((W.alloc (.cells #[.int .i64 p.f0, .int .i64 p.f1, .int .i64 p.f2, .int .i64 p.f3, .int .i64 p.f4, .int .i64 p.f5, .int .i64 p.f6, vp] 29))).cell? ⟨W.heap.size, 6, none⟩ = some (.int .i64 p.f6) := cell_of_row _ _ 6 _ _ _ rK1_.out
  have K_7_ : ((W.alloc (.cells #[.int .i64 p.f0, .int .i64 p.f1, .int .i64 p.f2, .int .i64 p.f3, .int .i64 p.f4, .int .i64 p.f5, .int .i64 p.f6, vp] 29))).cell? ⟨W.heap.size, 7, none⟩ = some (vp) := cell_of_row _ _ 7 _ _ _ rK1_.out
  have rG3_ := Lib.hid (show ((W.alloc (.cells #[.int .i64 p.f0, .int .i64 p.f1, .int .i64 p.f2, .int .i64 p.f3, .int .i64 p.f4, .int .i64 p.f5, .int .i64 p.f6, vp] 29))).heap[gb]? = some (.cells #[v0, v1] 54 (0, 0)) from row_held G2_.out hg)
  have oC4_ := Lib.hid (show OwU ((W.alloc (.cells #[.int .i64 p.f0, .int .i64 p.f1, .int .i64 p.f2, .int .i64 p.f3, .int .i64 p.f4, .int .i64 p.f5, .int .i64 p.f6, vp] 29))) (lo) (hi) [] [own shI v0 xs, own shI v1 ys] from ho.grow G2_.out)
  clear hg ho
  have G_0_ : ((W.alloc (.cells #[.int .i64 p.f0, .int .i64 p.f1, .int .i64 p.f2, .int .i64 p.f3, .int .i64 p.f4, .int .i64 p.f5, .int .i64 p.f6, vp] 29))).cell? ⟨gb, 0, none⟩ = some (v0) := cell_of_row _ _ 0 _ _ _ rG3_.out
  have G_1_ : ((W.alloc (.cells #[.int .i64 p.f0, .int .i64 p.f1, .int .i64 p.f2, .int .i64 p.f3, .int .i64 p.f4, .int .i64 p.f5, .int .i64 p.f6, vp] 29))).cell? ⟨gb, 1, none⟩ = some (v1) := cell_of_row _ _ 1 _ _ _ rG3_.out
  go_wp2_with fail
  go_at_call 125
  refine (HCL.out _ _ (HP.out.grow G2_.out)).mono ?_
  rintro e w1 ⟨rfl, g⟩
  have szw1 := g.size
  try simp only [World.size_alloc] at szw1
  try simp only [World.size_setCell] at szw1
  clear K_0_ K_1_ K_2_ K_3_ K_4_ K_5_ K_6_ K_7_ G_0_ G_1_
  have rK5_ := Lib.hid (show (w1).heap[W.heap.size]? = some (.cells #[.int .i64 p.f0, .int .i64 p.f1, .int .i64 p.f2, .int .i64 p.f3, .int .i64 p.f4, .int .i64 p.f5, .int .i64 p.f6, vp] 29 (0, 0)) from row_held g rK1_.out)
  clear rK1_
  have rG6_ := Lib.hid (show (w1).heap[gb]? = some (.cells #[v0, v1] 54 (0, 0)) from row_held g rG3_.out)
  clear rG3_
  have oC7_ := Lib.hid (show OwU (w1) (lo) (hi) [] [own shI v0 xs, own shI v1 ys] from OwU.grow oC4_.out g)
  clear oC4_
  have G8_ := Lib.hid (show (W).grownBy (w1) none from gby_trans G2_.out g)
  clear g
  have K_0_ : (w1).cell? ⟨W.heap.size, 0, none⟩ = some (.int .i64 p.f0) := cell_of_row _ _ 0 _ _ _ rK5_.out
  have K_1_ : (w1).cell? ⟨W.heap.size, 1, none⟩ = some (.int .i64 p.f1) := cell_of_row _ _ 1 _ _ _ rK5_.out
  have K_2_ : (w1).cell? ⟨W.heap.size, 2, none⟩ = some (.int .i64 p.f2) := cell_of_row _ _ 2 _ _ _ rK5_.out
  have K_3_ : (w1).cell? ⟨W.heap.size, 3, none⟩ = some (.int .i64 p.f3) := cell_of_row _ _ 3 _ _ _ rK5_.out
  have K_4_ : (w1).cell? ⟨W.heap.size, 4, none⟩ = some (.int .i64 p.f4) := cell_of_row _ _ 4 _ _ _ rK5_.out
  have K_5_ : (w1).cell? ⟨W.heap.size, 5, none⟩ = some (.int .i64 p.f5) := cell_of_row _ _ 5 _ _ _ rK5_.out
  have K_6_ : (w1).cell? ⟨W.heap.size, 6, none⟩ = some (.int .i64 p.f6) := cell_of_row _ _ 6 _ _ _ rK5_.out
  have K_7_ : (w1).cell? ⟨W.heap.size, 7, none⟩ = some (vp) := cell_of_row _ _ 7 _ _ _ rK5_.out
  have G_0_ : (w1).cell? ⟨gb, 0, none⟩ = some (v0) := cell_of_row _ _ 0 _ _ _ rG6_.out
  have G_1_ : (w1).cell? ⟨gb, 1, none⟩ = some (v1) := cell_of_row _ _ 1 _ _ _ rG6_.out
  obtain ⟨b0, o0, c0, hv0, l0, h0, ce0, fr0, _⟩ := cset1 oC7_.out k (by omega)
  obtain ⟨b1, o1, c1, hv1, l1, h1, ce1, fr1, _⟩ := cset2 oC7_.out k (by omega)
  subst hv0 hv1
  rw [← HX.out] at ce0
  rw [← HY.out] at ce1
  have hk0 : (0 : Int) ≤ (k : Int) := by omega
  have htk : ((k : Int)).toNat = k := by omega
  have hkx : (k : Int) < (xs.length : Int) := by omega
  have hky : (k : Int) < (ys.length : Int) := by omega
  have hk3i : (k : Int) < 3 := by omega
  have e1_ : IntKind.i64.wrap (x + 1) = x + 1 := IntWalk.i64_in _ (by omega)
  have e2_ : IntKind.i64.wrap (y + u) = y + u := IntWalk.i64_in _ (by omega)
  clear K_0_ K_1_ K_2_ K_3_ K_4_ K_5_ K_6_ K_7_ G_0_ G_1_
  have K_0_ : (w1).cell? ⟨W.heap.size, 0, none⟩ = some (.int .i64 p.f0) := cell_of_row _ _ 0 _ _ _ rK5_.out
  have K_1_ : (w1).cell? ⟨W.heap.size, 1, none⟩ = some (.int .i64 p.f1) := cell_of_row _ _ 1 _ _ _ rK5_.out
  have K_2_ : (w1).cell? ⟨W.heap.size, 2, none⟩ = some (.int .i64 p.f2) := cell_of_row _ _ 2 _ _ _ rK5_.out
  have K_3_ : (w1).cell? ⟨W.heap.size, 3, none⟩ = some (.int .i64 p.f3) := cell_of_row _ _ 3 _ _ _ rK5_.out
  have K_4_ : (w1).cell? ⟨W.heap.size, 4, none⟩ = some (.int .i64 p.f4) := cell_of_row _ _ 4 _ _ _ rK5_.out
  have K_5_ : (w1).cell? ⟨W.heap.size, 5, none⟩ = some (.int .i64 p.f5) := cell_of_row _ _ 5 _ _ _ rK5_.out
  have K_6_ : (w1).cell? ⟨W.heap.size, 6, none⟩ = some (.int .i64 p.f6) := cell_of_row _ _ 6 _ _ _ rK5_.out
  have K_7_ : (w1).cell? ⟨W.heap.size, 7, none⟩ = some (vp) := cell_of_row _ _ 7 _ _ _ rK5_.out
  have G_0_ : (w1).cell? ⟨gb, 0, none⟩ = some (.slice (some ⟨b0, o0, none⟩) xs.length c0) := cell_of_row _ _ 0 _ _ _ rG6_.out
  have G_1_ : (w1).cell? ⟨gb, 1, none⟩ = some (.slice (some ⟨b1, o1, none⟩) ys.length c1) := cell_of_row _ _ 1 _ _ _ rG6_.out
  have t1_ : decide (x + 1 > 30) = false := decide_eq_false (by omega)
  have t1b_ : ¬ (30 : Int) < x + 1 := by omega
  have t1c_ : decide ((30 : Int) < x + 1) = false := decide_eq_false t1b_
  have t2_ : decide (y + u > 30) = true := decide_eq_true hw.2
  have t2b_ : (30 : Int) < y + u := by omega
  have t2c_ : decide ((30 : Int) < y + u) = true := decide_eq_true t2b_
  have HP0 := Lib.hid (HP.out.grow G8_.out)
  go_wp2_with fail
  refine wp_region_held_drew (S := fun w' => w'.cell? ⟨b0, o0 + k, none⟩ = some (.int .i64 x) ∧ w'.cell? ⟨b1, o1 + k, none⟩ = some (.int .i64 y) ∧ w'.cell? ⟨gb, 0, none⟩ = some (.slice (some ⟨b0, o0, none⟩) xs.length c0) ∧ w'.cell? ⟨gb, 1, none⟩ = some (.slice (some ⟨b1, o1, none⟩) ys.length c1) ∧ w'.cell? ⟨W.heap.size, 0, none⟩ = some (.int .i64 p.f0) ∧ w'.cell? ⟨W.heap.size, 1, none⟩ = some (.int .i64 p.f1) ∧ w'.cell? ⟨W.heap.size, 2, none⟩ = some (.int .i64 p.f2) ∧ w'.cell? ⟨W.heap.size, 3, none⟩ = some (.int .i64 p.f3) ∧ w'.cell? ⟨W.heap.size, 4, none⟩ = some (.int .i64 p.f4) ∧ w'.cell? ⟨W.heap.size, 5, none⟩ = some (.int .i64 p.f5) ∧ w'.cell? ⟨W.heap.size, 6, none⟩ = some (.int .i64 p.f6) ∧ w'.cell? ⟨W.heap.size, 7, none⟩ = some (vp)) (by kernel_rfl) (by (try dsimp only); exact ⟨ce0, ce1, G_0_, G_1_, K_0_, K_1_, K_2_, K_3_, K_4_, K_5_, K_6_, K_7_⟩) (fun hHeld => ?_)
  refine wpAnyH_take (i := 0) (oi := { dst := some 8, op := Op.move (Operand.tmp 0), type := 131, pos := "l14_credit.go:72", after := #[], guard := none }) (v := ?v0_r2_1) rfl (by kernel_rfl) (by kernel_rfl) (by kernel_rfl) (fun _ _ _ h => h) (Or.inl ⟨by rfl, ?y0_r2_1⟩) (by assumption) ?r0_r2_1
  case y0_r2_1 => (intro w hSw; (try dsimp only at hSw); go_simp; all_goals (with_reducible rfl))
  try simp only [Act.put, List.setIfInBounds_toArray, List.set_cons_zero, List.set_cons_succ]
  refine wpAnyH_take (i := 1) (oi := { dst := some 9, op := Op.nilCheck (Operand.tmp 8), type := 0, pos := "l14_credit.go:72", after := #[{ on := 0, ground := Ground.data }], guard := none }) (v := ?v1_r2_2) rfl (by kernel_rfl) (by kernel_rfl) (by kernel_rfl) (fun _ _ _ h => h) (Or.inl ⟨by rfl, ?y1_r2_2⟩) (by assumption) ?r1_r2_2
  case y1_r2_2 => (intro w hSw; (try dsimp only at hSw); go_simp; all_goals (with_reducible rfl))
  try simp only [Act.put, List.setIfInBounds_toArray, List.set_cons_zero, List.set_cons_succ]
  refine wpAnyH_take (i := 2) (oi := { dst := some 10, op := Op.fieldAddr 54 (Operand.tmp 9) 0, type := 0, pos := "l14_credit.go:72", after := #[{ on := 1, ground := Ground.data }], guard := none }) (v := ?v2_r2_3) rfl (by kernel_rfl) (by kernel_rfl) (by kernel_rfl) (fun _ _ _ h => h) (Or.inl ⟨by rfl, ?y2_r2_3⟩) (by assumption) ?r2_r2_3
  case y2_r2_3 => (intro w hSw; (try dsimp only at hSw); go_simp; all_goals (with_reducible rfl))
  try simp only [Act.put, List.setIfInBounds_toArray, List.set_cons_zero, List.set_cons_succ]
  refine wpAnyH_take (i := 3) (oi := { dst := some 11, op := Op.load 27 (Operand.tmp 10), type := 27, pos := "l14_credit.go:72", after := #[{ on := 2, ground := Ground.data }], guard := none }) (v := ?v3_r2_4) rfl (by kernel_rfl) (by kernel_rfl) (by kernel_rfl) (fun _ _ _ h => h) (Or.inl ⟨by rfl, ?y3_r2_4⟩) (by assumption) ?r3_r2_4
  case y3_r2_4 => (intro w hSw; (try dsimp only at hSw); go_simp; all_goals (with_reducible rfl))
  try simp only [Act.put, List.setIfInBounds_toArray, List.set_cons_zero, List.set_cons_succ]
  refine wpAnyH_take (i := 4) (oi := { dst := some 12, op := Op.move (Operand.tmp 5), type := 3, pos := "l14_credit.go:72", after := #[], guard := none }) (v := ?v4_r2_5) rfl (by kernel_rfl) (by kernel_rfl) (by kernel_rfl) (fun _ _ _ h => h) (Or.inl ⟨by rfl, ?y4_r2_5⟩) (by assumption) ?r4_r2_5
  case y4_r2_5 => (intro w hSw; (try dsimp only at hSw); go_simp; all_goals (with_reducible rfl))
  try simp only [Act.put, List.setIfInBounds_toArray, List.set_cons_zero, List.set_cons_succ]
  refine wpAnyH_take (i := 5) (oi := { dst := some 13, op := Op.indexAddr 27 (Operand.tmp 11) (Operand.tmp 12), type := 0, pos := "l14_credit.go:72", after := #[{ on := 3, ground := Ground.data }, { on := 4, ground := Ground.data }], guard := none }) (v := ?v5_r2_6) rfl (by kernel_rfl) (by kernel_rfl) (by kernel_rfl) (fun _ _ _ h => h) (Or.inl ⟨by rfl, ?y5_r2_6⟩) (by assumption) ?r5_r2_6
  case y5_r2_6 => (intro w hSw; (try dsimp only at hSw); go_simp; all_goals (with_reducible rfl))
  try simp only [Act.put, List.setIfInBounds_toArray, List.set_cons_zero, List.set_cons_succ]
  refine wpAnyH_take (i := 6) (oi := { dst := some 14, op := Op.load 3 (Operand.tmp 13), type := 3, pos := "l14_credit.go:72", after := #[{ on := 5, ground := Ground.data }], guard := none }) (v := ?v6_r2_7) rfl (by kernel_rfl) (by kernel_rfl) (by kernel_rfl) (fun _ _ _ h => h) (Or.inl ⟨by rfl, ?y6_r2_7⟩) (by assumption) ?r6_r2_7
  case y6_r2_7 => (intro w hSw; (try dsimp only at hSw); go_simp; all_goals (with_reducible rfl))
  try simp only [Act.put, List.setIfInBounds_toArray, List.set_cons_zero, List.set_cons_succ]
  refine wpAnyH_take (i := 7) (oi := { dst := some 15, op := Op.binOp BinOp.add 3 (Operand.tmp 14) (Operand.const (Value.int IntKind.i64 1)) 3, type := 3, pos := "l14_credit.go:72", after := #[{ on := 6, ground := Ground.data }], guard := none }) (v := ?v7_r2_8) rfl (by kernel_rfl) (by kernel_rfl) (by kernel_rfl) (fun _ _ _ h => h) (Or.inl ⟨by rfl, ?y7_r2_8⟩) (by assumption) ?r7_r2_8
  case y7_r2_8 => (intro w hSw; (try dsimp only at hSw); go_simp; all_goals (with_reducible rfl))
  try simp only [Act.put, List.setIfInBounds_toArray, List.set_cons_zero, List.set_cons_succ]
  refine wpAnyH_take (i := 8) (oi := { dst := some 16, op := Op.binOp BinOp.gtr 3 (Operand.tmp 15) (Operand.const (Value.int IntKind.i64 30)) 3, type := 4, pos := "l14_credit.go:72", after := #[{ on := 7, ground := Ground.data }], guard := none }) (v := ?v8_r2_9) rfl (by kernel_rfl) (by kernel_rfl) (by kernel_rfl) (fun _ _ _ h => h) (Or.inl ⟨by rfl, ?y8_r2_9⟩) (by assumption) ?r8_r2_9
  case y8_r2_9 => (intro w hSw; (try dsimp only at hSw); go_simp; all_goals (with_reducible rfl))
  try simp only [Act.put, List.setIfInBounds_toArray, List.set_cons_zero, List.set_cons_succ]
  refine wpAnyH_take (i := 9) (oi := { dst := some 17, op := Op.move (Operand.tmp 16), type := 4, pos := "l14_credit.go:72", after := #[{ on := 8, ground := Ground.data }], guard := none }) (v := ?v9_r2_10) rfl (by kernel_rfl) (by kernel_rfl) (by kernel_rfl) (fun _ _ _ h => h) (Or.inl ⟨by rfl, ?y9_r2_10⟩) (by assumption) ?r9_r2_10
  case y9_r2_10 => (intro w hSw; (try dsimp only at hSw); go_simp; all_goals (with_reducible rfl))
  try simp only [Act.put, List.setIfInBounds_toArray, List.set_cons_zero, List.set_cons_succ]
  refine wpAnyH_take (i := 10) (oi := { dst := some 18, op := Op.move (Operand.tmp 0), type := 131, pos := "l14_credit.go:72", after := #[{ on := 9, ground := Ground.guard }], guard := some (9, false) }) (v := ?v10_r2_11) rfl (by kernel_rfl) (by kernel_rfl) (by kernel_rfl) (fun _ _ _ h => h) (Or.inl ⟨by rfl, ?y10_r2_11⟩) (by assumption) ?r10_r2_11
  case y10_r2_11 => (intro w hSw; (try dsimp only at hSw); go_simp; all_goals (with_reducible rfl))
  try simp only [Act.put, List.setIfInBounds_toArray, List.set_cons_zero, List.set_cons_succ]
  refine wpAnyH_take (i := 11) (oi := { dst := some 19, op := Op.nilCheck (Operand.tmp 18), type := 0, pos := "l14_credit.go:72", after := #[{ on := 10, ground := Ground.data }, { on := 9, ground := Ground.guard }], guard := some (9, false) }) (v := ?v11_r2_12) rfl (by kernel_rfl) (by kernel_rfl) (by kernel_rfl) (fun _ _ _ h => h) (Or.inl ⟨by rfl, ?y11_r2_12⟩) (by assumption) ?r11_r2_12
  case y11_r2_12 => (intro w hSw; (try dsimp only at hSw); go_simp; all_goals (with_reducible rfl))
  try simp only [Act.put, List.setIfInBounds_toArray, List.set_cons_zero, List.set_cons_succ]
  refine wpAnyH_take (i := 12) (oi := { dst := some 20, op := Op.fieldAddr 54 (Operand.tmp 19) 1, type := 0, pos := "l14_credit.go:72", after := #[{ on := 11, ground := Ground.data }, { on := 9, ground := Ground.guard }], guard := some (9, false) }) (v := ?v12_r2_13) rfl (by kernel_rfl) (by kernel_rfl) (by kernel_rfl) (fun _ _ _ h => h) (Or.inl ⟨by rfl, ?y12_r2_13⟩) (by assumption) ?r12_r2_13
  case y12_r2_13 => (intro w hSw; (try dsimp only at hSw); go_simp; all_goals (with_reducible rfl))
  try simp only [Act.put, List.setIfInBounds_toArray, List.set_cons_zero, List.set_cons_succ]
  refine wpAnyH_take (i := 13) (oi := { dst := some 21, op := Op.load 27 (Operand.tmp 20), type := 27, pos := "l14_credit.go:72", after := #[{ on := 12, ground := Ground.data }, { on := 9, ground := Ground.guard }], guard := some (9, false) }) (v := ?v13_r2_14) rfl (by kernel_rfl) (by kernel_rfl) (by kernel_rfl) (fun _ _ _ h => h) (Or.inl ⟨by rfl, ?y13_r2_14⟩) (by assumption) ?r13_r2_14
  case y13_r2_14 => (intro w hSw; (try dsimp only at hSw); go_simp; all_goals (with_reducible rfl))
  try simp only [Act.put, List.setIfInBounds_toArray, List.set_cons_zero, List.set_cons_succ]
  refine wpAnyH_take (i := 14) (oi := { dst := some 22, op := Op.move (Operand.tmp 5), type := 3, pos := "l14_credit.go:72", after := #[{ on := 9, ground := Ground.guard }], guard := some (9, false) }) (v := ?v14_r2_15) rfl (by kernel_rfl) (by kernel_rfl) (by kernel_rfl) (fun _ _ _ h => h) (Or.inl ⟨by rfl, ?y14_r2_15⟩) (by assumption) ?r14_r2_15
  case y14_r2_15 => (intro w hSw; (try dsimp only at hSw); go_simp; all_goals (with_reducible rfl))
  try simp only [Act.put, List.setIfInBounds_toArray, List.set_cons_zero, List.set_cons_succ]
  refine wpAnyH_take (i := 15) (oi := { dst := some 23, op := Op.indexAddr 27 (Operand.tmp 21) (Operand.tmp 22), type := 0, pos := "l14_credit.go:72", after := #[{ on := 13, ground := Ground.data }, { on := 14, ground := Ground.data }, { on := 9, ground := Ground.guard }], guard := some (9, false) }) (v := ?v15_r2_16) rfl (by kernel_rfl) (by kernel_rfl) (by kernel_rfl) (fun _ _ _ h => h) (Or.inl ⟨by rfl, ?y15_r2_16⟩) (by assumption) ?r15_r2_16
  case y15_r2_16 => (intro w hSw; (try dsimp only at hSw); go_simp; all_goals (with_reducible rfl))
  try simp only [Act.put, List.setIfInBounds_toArray, List.set_cons_zero, List.set_cons_succ]
  refine wpAnyH_take (i := 16) (oi := { dst := some 24, op := Op.load 3 (Operand.tmp 23), type := 3, pos := "l14_credit.go:72", after := #[{ on := 15, ground := Ground.data }, { on := 9, ground := Ground.guard }], guard := some (9, false) }) (v := ?v16_r2_17) rfl (by kernel_rfl) (by kernel_rfl) (by kernel_rfl) (fun _ _ _ h => h) (Or.inl ⟨by rfl, ?y16_r2_17⟩) (by assumption) ?r16_r2_17
  case y16_r2_17 => (intro w hSw; (try dsimp only at hSw); go_simp; all_goals (with_reducible rfl))
  try simp only [Act.put, List.setIfInBounds_toArray, List.set_cons_zero, List.set_cons_succ]
  refine wpAnyH_take (i := 17) (oi := { dst := some 25, op := Op.load 29 (Operand.tmp 3), type := 29, pos := "l14_credit.go:72", after := #[{ on := 9, ground := Ground.guard }], guard := some (9, false) }) (v := ?v17_r2_18) rfl (by kernel_rfl) (by kernel_rfl) (by kernel_rfl) (fun _ _ _ h => h) (Or.inl ⟨by rfl, ?y17_r2_18⟩) (by assumption) ?r17_r2_18
  case y17_r2_18 => (intro w hSw; (try dsimp only at hSw); go_simp; all_goals (with_reducible rfl))
  try simp only [Act.put, List.setIfInBounds_toArray, List.set_cons_zero, List.set_cons_succ]
  refine wpAnyH_ready (rs := [18]) (by kernel_rfl) (by simp) ?_
  refine AllReadyH.cons (o := { dst := some 26, op := Op.call { callee := Callee.value (Operand.func 126), args := #[Operand.tmp 25], argTypes := #[29] }, type := 3, pos := "l14_credit.go:72", after := #[{ on := 17, ground := Ground.data }, { on := 9, ground := Ground.chain }, { on := 9, ground := Ground.guard }], guard := some (9, false) }) rfl (fun K hK => ?_) AllReadyH.nil
  go_simp
  go_at_call 126
  refine (HUN.out _ _ (HP0.out.grow (gby_drew (gby_refl _ none)))).mono ?_
  rintro e wH19_r2 ⟨rfl, gH19_r2⟩
  have m19_ce0 : wH19_r2.cell? _ = some _ := gH19_r2.cell ce0 (by simp); have m19_ce1 : wH19_r2.cell? _ = some _ := gH19_r2.cell ce1 (by simp); have m19_G_0_ : wH19_r2.cell? _ = some _ := gH19_r2.cell G_0_ (by simp); have m19_G_1_ : wH19_r2.cell? _ = some _ := gH19_r2.cell G_1_ (by simp); have m19_K_0_ : wH19_r2.cell? _ = some _ := gH19_r2.cell K_0_ (by simp); have m19_K_1_ : wH19_r2.cell? _ = some _ := gH19_r2.cell K_1_ (by simp); have m19_K_2_ : wH19_r2.cell? _ = some _ := gH19_r2.cell K_2_ (by simp); have m19_K_3_ : wH19_r2.cell? _ = some _ := gH19_r2.cell K_3_ (by simp); have m19_K_4_ : wH19_r2.cell? _ = some _ := gH19_r2.cell K_4_ (by simp); have m19_K_5_ : wH19_r2.cell? _ = some _ := gH19_r2.cell K_5_ (by simp); have m19_K_6_ : wH19_r2.cell? _ = some _ := gH19_r2.cell K_6_ (by simp); have m19_K_7_ : wH19_r2.cell? _ = some _ := gH19_r2.cell K_7_ (by simp)
  go_wp2_with fail
  clear hHeld
  refine hK.out _ _ ?s18_r2_19 (fun hHeld => ?_)
  case s18_r2_19 => exact ⟨m19_ce0, m19_ce1, m19_G_0_, m19_G_1_, m19_K_0_, m19_K_1_, m19_K_2_, m19_K_3_, m19_K_4_, m19_K_5_, m19_K_6_, m19_K_7_⟩
  clear hK K
  try simp only [Act.put, List.setIfInBounds_toArray, List.set_cons_zero, List.set_cons_succ]
  refine wpAnyH_take (i := 19) (oi := { dst := some 27, op := Op.binOp BinOp.add 3 (Operand.tmp 24) (Operand.tmp 26) 3, type := 3, pos := "l14_credit.go:72", after := #[{ on := 16, ground := Ground.data }, { on := 18, ground := Ground.data }, { on := 9, ground := Ground.guard }], guard := some (9, false) }) (v := ?v19_r2_20) rfl (by kernel_rfl) (by kernel_rfl) (by kernel_rfl) (fun _ _ _ h => h) (Or.inl ⟨by rfl, ?y19_r2_20⟩) (by assumption) ?r19_r2_20
  case y19_r2_20 => (intro w hSw; (try dsimp only at hSw); go_simp; all_goals (with_reducible rfl))
  try simp only [Act.put, List.setIfInBounds_toArray, List.set_cons_zero, List.set_cons_succ]
  refine wpAnyH_take (i := 20) (oi := { dst := some 28, op := Op.binOp BinOp.gtr 3 (Operand.tmp 27) (Operand.const (Value.int IntKind.i64 30)) 3, type := 4, pos := "l14_credit.go:72", after := #[{ on := 19, ground := Ground.data }, { on := 9, ground := Ground.guard }], guard := some (9, false) }) (v := ?v20_r2_21) rfl (by kernel_rfl) (by kernel_rfl) (by kernel_rfl) (fun _ _ _ h => h) (Or.inl ⟨by rfl, ?y20_r2_21⟩) (by assumption) ?r20_r2_21
  case y20_r2_21 => (intro w hSw; (try dsimp only at hSw); go_simp; all_goals (with_reducible rfl))
  try simp only [Act.put, List.setIfInBounds_toArray, List.set_cons_zero, List.set_cons_succ]
  refine wpAnyH_take (i := 21) (oi := { dst := some 29, op := Op.pick (Operand.tmp 17) (Operand.const (Value.bool true)) (Operand.tmp 28), type := 4, pos := "l14_credit.go:72", after := #[{ on := 9, ground := Ground.data }, { on := 20, ground := Ground.data }], guard := none }) (v := ?v21_r2_22) rfl (by kernel_rfl) (by kernel_rfl) (by kernel_rfl) (fun _ _ _ h => h) (Or.inl ⟨by rfl, ?y21_r2_22⟩) (by assumption) ?r21_r2_22
  case y21_r2_22 => (intro w hSw; (try dsimp only at hSw); go_simp; all_goals (with_reducible rfl))
  try simp only [Act.put, List.setIfInBounds_toArray, List.set_cons_zero, List.set_cons_succ]
  refine wpAnyH_done (by kernel_rfl) ?_ _
  have gR_ : (w1).grownBy (wH19_r2) none := (gby_trans (gby_drew (gby_refl _ none)) gH19_r2)
  have szwH19_r2 := gR_.size
  try simp only [World.size_alloc] at szwH19_r2
  clear K_0_ K_1_ K_2_ K_3_ K_4_ K_5_ K_6_ K_7_ G_0_ G_1_
  have rK9_ := Lib.hid (show (wH19_r2).heap[W.heap.size]? = some (.cells #[.int .i64 p.f0, .int .i64 p.f1, .int .i64 p.f2, .int .i64 p.f3, .int .i64 p.f4, .int .i64 p.f5, .int .i64 p.f6, vp] 29 (0, 0)) from row_held gR_ rK5_.out)
  clear rK5_
  have rG10_ := Lib.hid (show (wH19_r2).heap[gb]? = some (.cells #[.slice (some ⟨b0, o0, none⟩) xs.length c0, .slice (some ⟨b1, o1, none⟩) ys.length c1] 54 (0, 0)) from row_held gR_ rG6_.out)
  clear rG6_
  have oC11_ := Lib.hid (show OwU (wH19_r2) (lo) (hi) [] [own shI (.slice (some ⟨b0, o0, none⟩) xs.length c0) xs, own shI (.slice (some ⟨b1, o1, none⟩) ys.length c1) ys] from OwU.grow oC7_.out gR_)
  clear oC7_
  have G12_ := Lib.hid (show (W).grownBy (wH19_r2) none from gby_trans G8_.out gR_)
  clear gR_
  have K_0_ : (wH19_r2).cell? ⟨W.heap.size, 0, none⟩ = some (.int .i64 p.f0) := cell_of_row _ _ 0 _ _ _ rK9_.out
  have K_1_ : (wH19_r2).cell? ⟨W.heap.size, 1, none⟩ = some (.int .i64 p.f1) := cell_of_row _ _ 1 _ _ _ rK9_.out
  have K_2_ : (wH19_r2).cell? ⟨W.heap.size, 2, none⟩ = some (.int .i64 p.f2) := cell_of_row _ _ 2 _ _ _ rK9_.out
  have K_3_ : (wH19_r2).cell? ⟨W.heap.size, 3, none⟩ = some (.int .i64 p.f3) := cell_of_row _ _ 3 _ _ _ rK9_.out
  have K_4_ : (wH19_r2).cell? ⟨W.heap.size, 4, none⟩ = some (.int .i64 p.f4) := cell_of_row _ _ 4 _ _ _ rK9_.out
  have K_5_ : (wH19_r2).cell? ⟨W.heap.size, 5, none⟩ = some (.int .i64 p.f5) := cell_of_row _ _ 5 _ _ _ rK9_.out
  have K_6_ : (wH19_r2).cell? ⟨W.heap.size, 6, none⟩ = some (.int .i64 p.f6) := cell_of_row _ _ 6 _ _ _ rK9_.out
  have K_7_ : (wH19_r2).cell? ⟨W.heap.size, 7, none⟩ = some (vp) := cell_of_row _ _ 7 _ _ _ rK9_.out
  have G_0_ : (wH19_r2).cell? ⟨gb, 0, none⟩ = some (.slice (some ⟨b0, o0, none⟩) xs.length c0) := cell_of_row _ _ 0 _ _ _ rG10_.out
  have G_1_ : (wH19_r2).cell? ⟨gb, 1, none⟩ = some (.slice (some ⟨b1, o1, none⟩) ys.length c1) := cell_of_row _ _ 1 _ _ _ rG10_.out
  go_wp2
  go_ret
  exact ⟨rfl, oC11_.out, chg_gby G12_.out lo hi⟩

set_option maxRecDepth 8000 in
set_option maxHeartbeats 4000000 in
theorem give_yes (W : World) (gb lo hi k : Nat) (v0 v1 vp : Value) (xs ys : List Int) (p : DPacket) (hg : W.heap[gb]? = some (.cells #[v0, v1] 54 (0, 0))) (ho : OwU W lo hi [] [own shI v0 xs, own shI v1 ys]) (hgo : gb < lo ∨ hi ≤ gb) (hhi : hi ≤ W.heap.size) (hp : RdL shI W vp p.f7) (hpf : ∀ w, Chg W w lo hi → RdL shI w vp p.f7) (hl : szL shI p.f7 ≤ 1048576) (hc : clsD p = (k : Int)) (hk3 : k < 3) (hcr : CrdOk xs ys) (u : Int) (hu : untD p = u) (hu0 : 0 ≤ u) (hu9 : u ≤ 1000000) (hw : ¬ xs.getD k 0 + 1 > 30) (hw2 : ¬ ys.getD k 0 + u > 30) : Calls Try.prog 90 #[.pointer (some ⟨gb, 0, none⟩), (vPacket p.f0 p.f1 p.f2 p.f3 p.f4 p.f5 p.f6 vp)] W (SpPost true lo hi v0 v1 (xs.set k (xs.getD k 0 + 1)) (ys.set k (ys.getD k 0 + u)) W) := by
  have HP := Lib.hid hp
  have HPF := Lib.hid hpf
  have HL := Lib.hid hl
  have HC := Lib.hid hc
  have HU := Lib.hid hu
  have HCR := Lib.hid hcr
  have hx1 := crd_at hcr hk3
  obtain ⟨x, hx⟩ : ∃ x, x = xs.getD k 0 := ⟨_, rfl⟩
  obtain ⟨y, hy⟩ : ∃ y, y = ys.getD k 0 := ⟨_, rfl⟩
  rw [← hx, ← hy] at hx1
  obtain ⟨hxl, hyl, hx0, hx30, hy0, hy30⟩ := hx1
  have HX := Lib.hid hx
  have HY := Lib.hid hy
  have HXL := Lib.hid (show szL shI xs ≤ 1048576 by rw [szL_I]; omega)
  have HYL := Lib.hid (show szL shI ys ≤ 1048576 by rw [szL_I]; omega)
  have hgl_ : gb < W.heap.size := lt_of_block hg
  clear hp hpf hl hc hu hcr hx hy
  unfold vPacket
  have HCL := Lib.hid (show ∀ (W : World) (v : Value), RdL shI W v p.f7 → Calls Try.prog 125 #[vPacket p.f0 p.f1 p.f2 p.f3 p.f4 p.f5 p.f6 v] W (AnsN (.int .i64 (k : Int)) W) from fun W v H => by have q := implClsD W p v H HL.out; rw [HC.out] at q; exact q)
  have HUN := Lib.hid (show ∀ (W : World) (v : Value), RdL shI W v p.f7 → Calls Try.prog 126 #[vPacket p.f0 p.f1 p.f2 p.f3 p.f4 p.f5 p.f6 v] W (AnsN (.int .i64 u) W) from fun W v H => by have q := implUntD W p v H HL.out (by rw [HC.out]; omega); rw [HU.out] at q; exact q)
  rw [← HX.out, ← HY.out]
  rw [← HX.out] at hw
  rw [← HY.out] at hw2
  go_enter Try.func90, Try.ntmps90
  have rK1_ := Lib.hid (show ((W.alloc (.cells #[.int .i64 p.f0, .int .i64 p.f1, .int .i64 p.f2, .int .i64 p.f3, .int .i64 p.f4, .int .i64 p.f5, .int .i64 p.f6, vp] 29))).heap[W.heap.size]? = some (.cells #[.int .i64 p.f0, .int .i64 p.f1, .int .i64 p.f2, .int .i64 p.f3, .int .i64 p.f4, .int .i64 p.f5, .int .i64 p.f6, vp] 29 (0, 0)) from by exact heap_alloc_new _ _)
  have G2_ := Lib.hid (show (W).grownBy ((W.alloc (.cells #[.int .i64 p.f0, .int .i64 p.f1, .int .i64 p.f2, .int .i64 p.f3, .int .i64 p.f4, .int .i64 p.f5, .int .i64 p.f6, vp] 29))) none from (gby_alloc (gby_refl _ _) _))
  have K_0_ : ((W.alloc (.cells #[.int .i64 p.f0, .int .i64 p.f1, .int .i64 p.f2, .int .i64 p.f3, .int .i64 p.f4, .int .i64 p.f5, .int .i64 p.f6, vp] 29))).cell? ⟨W.heap.size, 0, none⟩ = some (.int .i64 p.f0) := cell_of_row _ _ 0 _ _ _ rK1_.out
  have K_1_ : ((W.alloc (.cells #[.int .i64 p.f0, .int .i64 p.f1, .int .i64 p.f2, .int .i64 p.f3, .int .i64 p.f4, .int .i64 p.f5, .int .i64 p.f6, vp] 29))).cell? ⟨W.heap.size, 1, none⟩ = some (.int .i64 p.f1) := cell_of_row _ _ 1 _ _ _ rK1_.out
  have K_2_ : ((W.alloc (.cells #[.int .i64 p.f0, .int .i64 p.f1, .int .i64 p.f2, .int .i64 p.f3, .int .i64 p.f4, .int .i64 p.f5, .int .i64 p.f6, vp] 29))).cell? ⟨W.heap.size, 2, none⟩ = some (.int .i64 p.f2) := cell_of_row _ _ 2 _ _ _ rK1_.out
  have K_3_ : ((W.alloc (.cells #[.int .i64 p.f0, .int .i64 p.f1, .int .i64 p.f2, .int .i64 p.f3, .int .i64 p.f4, .int .i64 p.f5, .int .i64 p.f6, vp] 29))).cell? ⟨W.heap.size, 3, none⟩ = some (.int .i64 p.f3) := cell_of_row _ _ 3 _ _ _ rK1_.out
  have K_4_ : ((W.alloc (.cells #[.int .i64 p.f0, .int .i64 p.f1, .int .i64 p.f2, .int .i64 p.f3, .int .i64 p.f4, .int .i64 p.f5, .int .i64 p.f6, vp] 29))).cell? ⟨W.heap.size, 4, none⟩ = some (.int .i64 p.f4) := cell_of_row _ _ 4 _ _ _ rK1_.out
  have K_5_ : ((W.alloc (.cells #[.int .i64 p.f0, .int .i64 p.f1, .int .i64 p.f2, .int .i64 p.f3, .int .i64 p.f4, .int .i64 p.f5, .int .i64 p.f6, vp] 29))).cell? ⟨W.heap.size, 5, none⟩ = some (.int .i64 p.f5) := cell_of_row _ _ 5 _ _ _ rK1_.out
  have K_6_ : ((W.alloc (.cells #[.int .i64 p.f0, .int .i64 p.f1, .int .i64 p.f2, .int .i64 p.f3, .int .i64 p.f4, .int .i64 p.f5, .int .i64 p.f6, vp] 29))).cell? ⟨W.heap.size, 6, none⟩ = some (.int .i64 p.f6) := cell_of_row _ _ 6 _ _ _ rK1_.out
  have K_7_ : ((W.alloc (.cells #[.int .i64 p.f0, .int .i64 p.f1, .int .i64 p.f2, .int .i64 p.f3, .int .i64 p.f4, .int .i64 p.f5, .int .i64 p.f6, vp] 29))).cell? ⟨W.heap.size, 7, none⟩ = some (vp) := cell_of_row _ _ 7 _ _ _ rK1_.out
  have rG3_ := Lib.hid (show ((W.alloc (.cells #[.int .i64 p.f0, .int .i64 p.f1, .int .i64 p.f2, .int .i64 p.f3, .int .i64 p.f4, .int .i64 p.f5, .int .i64 p.f6, vp] 29))).heap[gb]? = some (.cells #[v0, v1] 54 (0, 0)) from row_held G2_.out hg)
  have oC4_ := Lib.hid (show OwU ((W.alloc (.cells #[.int .i64 p.f0, .int .i64 p.f1, .int .i64 p.f2, .int .i64 p.f3, .int .i64 p.f4, .int .i64 p.f5, .int .i64 p.f6, vp] 29))) (lo) (hi) [] [own shI v0 xs, own shI v1 ys] from ho.grow G2_.out)
  clear hg ho
  have G_0_ : ((W.alloc (.cells #[.int .i64 p.f0, .int .i64 p.f1, .int .i64 p.f2, .int .i64 p.f3, .int .i64 p.f4, .int .i64 p.f5, .int .i64 p.f6, vp] 29))).cell? ⟨gb, 0, none⟩ = some (v0) := cell_of_row _ _ 0 _ _ _ rG3_.out
  have G_1_ : ((W.alloc (.cells #[.int .i64 p.f0, .int .i64 p.f1, .int .i64 p.f2, .int .i64 p.f3, .int .i64 p.f4, .int .i64 p.f5, .int .i64 p.f6, vp] 29))).cell? ⟨gb, 1, none⟩ = some (v1) := cell_of_row _ _ 1 _ _ _ rG3_.out
  go_wp2_with fail
  go_at_call 125
  refine (HCL.out _ _ (HP.out.grow G2_.out)).mono ?_
  rintro e w1 ⟨rfl, g⟩
  have szw1 := g.size
  try simp only [World.size_alloc] at szw1
  try simp only [World.size_setCell] at szw1
  clear K_0_ K_1_ K_2_ K_3_ K_4_ K_5_ K_6_ K_7_ G_0_ G_1_
  have rK5_ := Lib.hid (show (w1).heap[W.heap.size]? = some (.cells #[.int .i64 p.f0, .int .i64 p.f1, .int .i64 p.f2, .int .i64 p.f3, .int .i64 p.f4, .int .i64 p.f5, .int .i64 p.f6, vp] 29 (0, 0)) from row_held g rK1_.out)
  clear rK1_
  have rG6_ := Lib.hid (show (w1).heap[gb]? = some (.cells #[v0, v1] 54 (0, 0)) from row_held g rG3_.out)
  clear rG3_
  have oC7_ := Lib.hid (show OwU (w1) (lo) (hi) [] [own shI v0 xs, own shI v1 ys] from OwU.grow oC4_.out g)
  clear oC4_
  have G8_ := Lib.hid (show (W).grownBy (w1) none from gby_trans G2_.out g)
  clear g
  have K_0_ : (w1).cell? ⟨W.heap.size, 0, none⟩ = some (.int .i64 p.f0) := cell_of_row _ _ 0 _ _ _ rK5_.out
  have K_1_ : (w1).cell? ⟨W.heap.size, 1, none⟩ = some (.int .i64 p.f1) := cell_of_row _ _ 1 _ _ _ rK5_.out
  have K_2_ : (w1).cell? ⟨W.heap.size, 2, none⟩ = some (.int .i64 p.f2) := cell_of_row _ _ 2 _ _ _ rK5_.out
  have K_3_ : (w1).cell? ⟨W.heap.size, 3, none⟩ = some (.int .i64 p.f3) := cell_of_row _ _ 3 _ _ _ rK5_.out
  have K_4_ : (w1).cell? ⟨W.heap.size, 4, none⟩ = some (.int .i64 p.f4) := cell_of_row _ _ 4 _ _ _ rK5_.out
  have K_5_ : (w1).cell? ⟨W.heap.size, 5, none⟩ = some (.int .i64 p.f5) := cell_of_row _ _ 5 _ _ _ rK5_.out
  have K_6_ : (w1).cell? ⟨W.heap.size, 6, none⟩ = some (.int .i64 p.f6) := cell_of_row _ _ 6 _ _ _ rK5_.out
  have K_7_ : (w1).cell? ⟨W.heap.size, 7, none⟩ = some (vp) := cell_of_row _ _ 7 _ _ _ rK5_.out
  have G_0_ : (w1).cell? ⟨gb, 0, none⟩ = some (v0) := cell_of_row _ _ 0 _ _ _ rG6_.out
  have G_1_ : (w1).cell? ⟨gb, 1, none⟩ = some (v1) := cell_of_row _ _ 1 _ _ _ rG6_.out
  obtain ⟨b0, o0, c0, hv0, l0, h0, ce0, fr0, _⟩ := cset1 oC7_.out k (by omega)
  obtain ⟨b1, o1, c1, hv1, l1, h1, ce1, fr1, _⟩ := cset2 oC7_.out k (by omega)
  subst hv0 hv1
  rw [← HX.out] at ce0
  rw [← HY.out] at ce1
  have hk0 : (0 : Int) ≤ (k : Int) := by omega
  have htk : ((k : Int)).toNat = k := by omega
  have hkx : (k : Int) < (xs.length : Int) := by omega
  have hky : (k : Int) < (ys.length : Int) := by omega
  have hk3i : (k : Int) < 3 := by omega
  have e1_ : IntKind.i64.wrap (x + 1) = x + 1 := IntWalk.i64_in _ (by omega)
  have e2_ : IntKind.i64.wrap (y + u) = y + u := IntWalk.i64_in _ (by omega)
  clear K_0_ K_1_ K_2_ K_3_ K_4_ K_5_ K_6_ K_7_ G_0_ G_1_
  have K_0_ : (w1).cell? ⟨W.heap.size, 0, none⟩ = some (.int .i64 p.f0) := cell_of_row _ _ 0 _ _ _ rK5_.out
  have K_1_ : (w1).cell? ⟨W.heap.size, 1, none⟩ = some (.int .i64 p.f1) := cell_of_row _ _ 1 _ _ _ rK5_.out
  have K_2_ : (w1).cell? ⟨W.heap.size, 2, none⟩ = some (.int .i64 p.f2) := cell_of_row _ _ 2 _ _ _ rK5_.out
  have K_3_ : (w1).cell? ⟨W.heap.size, 3, none⟩ = some (.int .i64 p.f3) := cell_of_row _ _ 3 _ _ _ rK5_.out
  have K_4_ : (w1).cell? ⟨W.heap.size, 4, none⟩ = some (.int .i64 p.f4) := cell_of_row _ _ 4 _ _ _ rK5_.out
  have K_5_ : (w1).cell? ⟨W.heap.size, 5, none⟩ = some (.int .i64 p.f5) := cell_of_row _ _ 5 _ _ _ rK5_.out
  have K_6_ : (w1).cell? ⟨W.heap.size, 6, none⟩ = some (.int .i64 p.f6) := cell_of_row _ _ 6 _ _ _ rK5_.out
  have K_7_ : (w1).cell? ⟨W.heap.size, 7, none⟩ = some (vp) := cell_of_row _ _ 7 _ _ _ rK5_.out
  have G_0_ : (w1).cell? ⟨gb, 0, none⟩ = some (.slice (some ⟨b0, o0, none⟩) xs.length c0) := cell_of_row _ _ 0 _ _ _ rG6_.out
  have G_1_ : (w1).cell? ⟨gb, 1, none⟩ = some (.slice (some ⟨b1, o1, none⟩) ys.length c1) := cell_of_row _ _ 1 _ _ _ rG6_.out
  have t1_ : decide (x + 1 > 30) = false := decide_eq_false (by omega)
  have t1b_ : ¬ (30 : Int) < x + 1 := by omega
  have t1c_ : decide ((30 : Int) < x + 1) = false := decide_eq_false t1b_
  have t2_ : decide (y + u > 30) = false := decide_eq_false (by omega)
  have t2b_ : ¬ (30 : Int) < y + u := by omega
  have t2c_ : decide ((30 : Int) < y + u) = false := decide_eq_false t2b_
  have HP0 := Lib.hid (HP.out.grow G8_.out)
  go_wp2_with fail
  refine wp_region_held_drew (S := fun w' => w'.cell? ⟨b0, o0 + k, none⟩ = some (.int .i64 x) ∧ w'.cell? ⟨b1, o1 + k, none⟩ = some (.int .i64 y) ∧ w'.cell? ⟨gb, 0, none⟩ = some (.slice (some ⟨b0, o0, none⟩) xs.length c0) ∧ w'.cell? ⟨gb, 1, none⟩ = some (.slice (some ⟨b1, o1, none⟩) ys.length c1) ∧ w'.cell? ⟨W.heap.size, 0, none⟩ = some (.int .i64 p.f0) ∧ w'.cell? ⟨W.heap.size, 1, none⟩ = some (.int .i64 p.f1) ∧ w'.cell? ⟨W.heap.size, 2, none⟩ = some (.int .i64 p.f2) ∧ w'.cell? ⟨W.heap.size, 3, none⟩ = some (.int .i64 p.f3) ∧ w'.cell? ⟨W.heap.size, 4, none⟩ = some (.int .i64 p.f4) ∧ w'.cell? ⟨W.heap.size, 5, none⟩ = some (.int .i64 p.f5) ∧ w'.cell? ⟨W.heap.size, 6, none⟩ = some (.int .i64 p.f6) ∧ w'.cell? ⟨W.heap.size, 7, none⟩ = some (vp)) (by kernel_rfl) (by (try dsimp only); exact ⟨ce0, ce1, G_0_, G_1_, K_0_, K_1_, K_2_, K_3_, K_4_, K_5_, K_6_, K_7_⟩) (fun hHeld => ?_)
  refine wpAnyH_take (i := 0) (oi := { dst := some 8, op := Op.move (Operand.tmp 0), type := 131, pos := "l14_credit.go:72", after := #[], guard := none }) (v := ?v0_r3_1) rfl (by kernel_rfl) (by kernel_rfl) (by kernel_rfl) (fun _ _ _ h => h) (Or.inl ⟨by rfl, ?y0_r3_1⟩) (by assumption) ?r0_r3_1
  case y0_r3_1 => (intro w hSw; (try dsimp only at hSw); go_simp; all_goals (with_reducible rfl))
  try simp only [Act.put, List.setIfInBounds_toArray, List.set_cons_zero, List.set_cons_succ]
  refine wpAnyH_take (i := 1) (oi := { dst := some 9, op := Op.nilCheck (Operand.tmp 8), type := 0, pos := "l14_credit.go:72", after := #[{ on := 0, ground := Ground.data }], guard := none }) (v := ?v1_r3_2) rfl (by kernel_rfl) (by kernel_rfl) (by kernel_rfl) (fun _ _ _ h => h) (Or.inl ⟨by rfl, ?y1_r3_2⟩) (by assumption) ?r1_r3_2
  case y1_r3_2 => (intro w hSw; (try dsimp only at hSw); go_simp; all_goals (with_reducible rfl))
  try simp only [Act.put, List.setIfInBounds_toArray, List.set_cons_zero, List.set_cons_succ]
  refine wpAnyH_take (i := 2) (oi := { dst := some 10, op := Op.fieldAddr 54 (Operand.tmp 9) 0, type := 0, pos := "l14_credit.go:72", after := #[{ on := 1, ground := Ground.data }], guard := none }) (v := ?v2_r3_3) rfl (by kernel_rfl) (by kernel_rfl) (by kernel_rfl) (fun _ _ _ h => h) (Or.inl ⟨by rfl, ?y2_r3_3⟩) (by assumption) ?r2_r3_3
  case y2_r3_3 => (intro w hSw; (try dsimp only at hSw); go_simp; all_goals (with_reducible rfl))
  try simp only [Act.put, List.setIfInBounds_toArray, List.set_cons_zero, List.set_cons_succ]
  refine wpAnyH_take (i := 3) (oi := { dst := some 11, op := Op.load 27 (Operand.tmp 10), type := 27, pos := "l14_credit.go:72", after := #[{ on := 2, ground := Ground.data }], guard := none }) (v := ?v3_r3_4) rfl (by kernel_rfl) (by kernel_rfl) (by kernel_rfl) (fun _ _ _ h => h) (Or.inl ⟨by rfl, ?y3_r3_4⟩) (by assumption) ?r3_r3_4
  case y3_r3_4 => (intro w hSw; (try dsimp only at hSw); go_simp; all_goals (with_reducible rfl))
  try simp only [Act.put, List.setIfInBounds_toArray, List.set_cons_zero, List.set_cons_succ]
  refine wpAnyH_take (i := 4) (oi := { dst := some 12, op := Op.move (Operand.tmp 5), type := 3, pos := "l14_credit.go:72", after := #[], guard := none }) (v := ?v4_r3_5) rfl (by kernel_rfl) (by kernel_rfl) (by kernel_rfl) (fun _ _ _ h => h) (Or.inl ⟨by rfl, ?y4_r3_5⟩) (by assumption) ?r4_r3_5
  case y4_r3_5 => (intro w hSw; (try dsimp only at hSw); go_simp; all_goals (with_reducible rfl))
  try simp only [Act.put, List.setIfInBounds_toArray, List.set_cons_zero, List.set_cons_succ]
  refine wpAnyH_take (i := 5) (oi := { dst := some 13, op := Op.indexAddr 27 (Operand.tmp 11) (Operand.tmp 12), type := 0, pos := "l14_credit.go:72", after := #[{ on := 3, ground := Ground.data }, { on := 4, ground := Ground.data }], guard := none }) (v := ?v5_r3_6) rfl (by kernel_rfl) (by kernel_rfl) (by kernel_rfl) (fun _ _ _ h => h) (Or.inl ⟨by rfl, ?y5_r3_6⟩) (by assumption) ?r5_r3_6
  case y5_r3_6 => (intro w hSw; (try dsimp only at hSw); go_simp; all_goals (with_reducible rfl))
  try simp only [Act.put, List.setIfInBounds_toArray, List.set_cons_zero, List.set_cons_succ]
  refine wpAnyH_take (i := 6) (oi := { dst := some 14, op := Op.load 3 (Operand.tmp 13), type := 3, pos := "l14_credit.go:72", after := #[{ on := 5, ground := Ground.data }], guard := none }) (v := ?v6_r3_7) rfl (by kernel_rfl) (by kernel_rfl) (by kernel_rfl) (fun _ _ _ h => h) (Or.inl ⟨by rfl, ?y6_r3_7⟩) (by assumption) ?r6_r3_7
  case y6_r3_7 => (intro w hSw; (try dsimp only at hSw); go_simp; all_goals (with_reducible rfl))
  try simp only [Act.put, List.setIfInBounds_toArray, List.set_cons_zero, List.set_cons_succ]
  refine wpAnyH_take (i := 7) (oi := { dst := some 15, op := Op.binOp BinOp.add 3 (Operand.tmp 14) (Operand.const (Value.int IntKind.i64 1)) 3, type := 3, pos := "l14_credit.go:72", after := #[{ on := 6, ground := Ground.data }], guard := none }) (v := ?v7_r3_8) rfl (by kernel_rfl) (by kernel_rfl) (by kernel_rfl) (fun _ _ _ h => h) (Or.inl ⟨by rfl, ?y7_r3_8⟩) (by assumption) ?r7_r3_8
  case y7_r3_8 => (intro w hSw; (try dsimp only at hSw); go_simp; all_goals (with_reducible rfl))
  try simp only [Act.put, List.setIfInBounds_toArray, List.set_cons_zero, List.set_cons_succ]
  refine wpAnyH_take (i := 8) (oi := { dst := some 16, op := Op.binOp BinOp.gtr 3 (Operand.tmp 15) (Operand.const (Value.int IntKind.i64 30)) 3, type := 4, pos := "l14_credit.go:72", after := #[{ on := 7, ground := Ground.data }], guard := none }) (v := ?v8_r3_9) rfl (by kernel_rfl) (by kernel_rfl) (by kernel_rfl) (fun _ _ _ h => h) (Or.inl ⟨by rfl, ?y8_r3_9⟩) (by assumption) ?r8_r3_9
  case y8_r3_9 => (intro w hSw; (try dsimp only at hSw); go_simp; all_goals (with_reducible rfl))
  try simp only [Act.put, List.setIfInBounds_toArray, List.set_cons_zero, List.set_cons_succ]
  refine wpAnyH_take (i := 9) (oi := { dst := some 17, op := Op.move (Operand.tmp 16), type := 4, pos := "l14_credit.go:72", after := #[{ on := 8, ground := Ground.data }], guard := none }) (v := ?v9_r3_10) rfl (by kernel_rfl) (by kernel_rfl) (by kernel_rfl) (fun _ _ _ h => h) (Or.inl ⟨by rfl, ?y9_r3_10⟩) (by assumption) ?r9_r3_10
  case y9_r3_10 => (intro w hSw; (try dsimp only at hSw); go_simp; all_goals (with_reducible rfl))
  try simp only [Act.put, List.setIfInBounds_toArray, List.set_cons_zero, List.set_cons_succ]
  refine wpAnyH_take (i := 10) (oi := { dst := some 18, op := Op.move (Operand.tmp 0), type := 131, pos := "l14_credit.go:72", after := #[{ on := 9, ground := Ground.guard }], guard := some (9, false) }) (v := ?v10_r3_11) rfl (by kernel_rfl) (by kernel_rfl) (by kernel_rfl) (fun _ _ _ h => h) (Or.inl ⟨by rfl, ?y10_r3_11⟩) (by assumption) ?r10_r3_11
  case y10_r3_11 => (intro w hSw; (try dsimp only at hSw); go_simp; all_goals (with_reducible rfl))
  try simp only [Act.put, List.setIfInBounds_toArray, List.set_cons_zero, List.set_cons_succ]
  refine wpAnyH_take (i := 11) (oi := { dst := some 19, op := Op.nilCheck (Operand.tmp 18), type := 0, pos := "l14_credit.go:72", after := #[{ on := 10, ground := Ground.data }, { on := 9, ground := Ground.guard }], guard := some (9, false) }) (v := ?v11_r3_12) rfl (by kernel_rfl) (by kernel_rfl) (by kernel_rfl) (fun _ _ _ h => h) (Or.inl ⟨by rfl, ?y11_r3_12⟩) (by assumption) ?r11_r3_12
  case y11_r3_12 => (intro w hSw; (try dsimp only at hSw); go_simp; all_goals (with_reducible rfl))
  try simp only [Act.put, List.setIfInBounds_toArray, List.set_cons_zero, List.set_cons_succ]
  refine wpAnyH_take (i := 12) (oi := { dst := some 20, op := Op.fieldAddr 54 (Operand.tmp 19) 1, type := 0, pos := "l14_credit.go:72", after := #[{ on := 11, ground := Ground.data }, { on := 9, ground := Ground.guard }], guard := some (9, false) }) (v := ?v12_r3_13) rfl (by kernel_rfl) (by kernel_rfl) (by kernel_rfl) (fun _ _ _ h => h) (Or.inl ⟨by rfl, ?y12_r3_13⟩) (by assumption) ?r12_r3_13
  case y12_r3_13 => (intro w hSw; (try dsimp only at hSw); go_simp; all_goals (with_reducible rfl))
  try simp only [Act.put, List.setIfInBounds_toArray, List.set_cons_zero, List.set_cons_succ]
  refine wpAnyH_take (i := 13) (oi := { dst := some 21, op := Op.load 27 (Operand.tmp 20), type := 27, pos := "l14_credit.go:72", after := #[{ on := 12, ground := Ground.data }, { on := 9, ground := Ground.guard }], guard := some (9, false) }) (v := ?v13_r3_14) rfl (by kernel_rfl) (by kernel_rfl) (by kernel_rfl) (fun _ _ _ h => h) (Or.inl ⟨by rfl, ?y13_r3_14⟩) (by assumption) ?r13_r3_14
  case y13_r3_14 => (intro w hSw; (try dsimp only at hSw); go_simp; all_goals (with_reducible rfl))
  try simp only [Act.put, List.setIfInBounds_toArray, List.set_cons_zero, List.set_cons_succ]
  refine wpAnyH_take (i := 14) (oi := { dst := some 22, op := Op.move (Operand.tmp 5), type := 3, pos := "l14_credit.go:72", after := #[{ on := 9, ground := Ground.guard }], guard := some (9, false) }) (v := ?v14_r3_15) rfl (by kernel_rfl) (by kernel_rfl) (by kernel_rfl) (fun _ _ _ h => h) (Or.inl ⟨by rfl, ?y14_r3_15⟩) (by assumption) ?r14_r3_15
  case y14_r3_15 => (intro w hSw; (try dsimp only at hSw); go_simp; all_goals (with_reducible rfl))
  try simp only [Act.put, List.setIfInBounds_toArray, List.set_cons_zero, List.set_cons_succ]
  refine wpAnyH_take (i := 15) (oi := { dst := some 23, op := Op.indexAddr 27 (Operand.tmp 21) (Operand.tmp 22), type := 0, pos := "l14_credit.go:72", after := #[{ on := 13, ground := Ground.data }, { on := 14, ground := Ground.data }, { on := 9, ground := Ground.guard }], guard := some (9, false) }) (v := ?v15_r3_16) rfl (by kernel_rfl) (by kernel_rfl) (by kernel_rfl) (fun _ _ _ h => h) (Or.inl ⟨by rfl, ?y15_r3_16⟩) (by assumption) ?r15_r3_16
  case y15_r3_16 => (intro w hSw; (try dsimp only at hSw); go_simp; all_goals (with_reducible rfl))
  try simp only [Act.put, List.setIfInBounds_toArray, List.set_cons_zero, List.set_cons_succ]
  refine wpAnyH_take (i := 16) (oi := { dst := some 24, op := Op.load 3 (Operand.tmp 23), type := 3, pos := "l14_credit.go:72", after := #[{ on := 15, ground := Ground.data }, { on := 9, ground := Ground.guard }], guard := some (9, false) }) (v := ?v16_r3_17) rfl (by kernel_rfl) (by kernel_rfl) (by kernel_rfl) (fun _ _ _ h => h) (Or.inl ⟨by rfl, ?y16_r3_17⟩) (by assumption) ?r16_r3_17
  case y16_r3_17 => (intro w hSw; (try dsimp only at hSw); go_simp; all_goals (with_reducible rfl))
  try simp only [Act.put, List.setIfInBounds_toArray, List.set_cons_zero, List.set_cons_succ]
  refine wpAnyH_take (i := 17) (oi := { dst := some 25, op := Op.load 29 (Operand.tmp 3), type := 29, pos := "l14_credit.go:72", after := #[{ on := 9, ground := Ground.guard }], guard := some (9, false) }) (v := ?v17_r3_18) rfl (by kernel_rfl) (by kernel_rfl) (by kernel_rfl) (fun _ _ _ h => h) (Or.inl ⟨by rfl, ?y17_r3_18⟩) (by assumption) ?r17_r3_18
  case y17_r3_18 => (intro w hSw; (try dsimp only at hSw); go_simp; all_goals (with_reducible rfl))
  try simp only [Act.put, List.setIfInBounds_toArray, List.set_cons_zero, List.set_cons_succ]
  refine wpAnyH_ready (rs := [18]) (by kernel_rfl) (by simp) ?_
  refine AllReadyH.cons (o := { dst := some 26, op := Op.call { callee := Callee.value (Operand.func 126), args := #[Operand.tmp 25], argTypes := #[29] }, type := 3, pos := "l14_credit.go:72", after := #[{ on := 17, ground := Ground.data }, { on := 9, ground := Ground.chain }, { on := 9, ground := Ground.guard }], guard := some (9, false) }) rfl (fun K hK => ?_) AllReadyH.nil
  go_simp
  go_at_call 126
  refine (HUN.out _ _ (HP0.out.grow (gby_drew (gby_refl _ none)))).mono ?_
  rintro e wH19_r3 ⟨rfl, gH19_r3⟩
  have m19_ce0 : wH19_r3.cell? _ = some _ := gH19_r3.cell ce0 (by simp); have m19_ce1 : wH19_r3.cell? _ = some _ := gH19_r3.cell ce1 (by simp); have m19_G_0_ : wH19_r3.cell? _ = some _ := gH19_r3.cell G_0_ (by simp); have m19_G_1_ : wH19_r3.cell? _ = some _ := gH19_r3.cell G_1_ (by simp); have m19_K_0_ : wH19_r3.cell? _ = some _ := gH19_r3.cell K_0_ (by simp); have m19_K_1_ : wH19_r3.cell? _ = some _ := gH19_r3.cell K_1_ (by simp); have m19_K_2_ : wH19_r3.cell? _ = some _ := gH19_r3.cell K_2_ (by simp); have m19_K_3_ : wH19_r3.cell? _ = some _ := gH19_r3.cell K_3_ (by simp); have m19_K_4_ : wH19_r3.cell? _ = some _ := gH19_r3.cell K_4_ (by simp); have m19_K_5_ : wH19_r3.cell? _ = some _ := gH19_r3.cell K_5_ (by simp); have m19_K_6_ : wH19_r3.cell? _ = some _ := gH19_r3.cell K_6_ (by simp); have m19_K_7_ : wH19_r3.cell? _ = some _ := gH19_r3.cell K_7_ (by simp)
  go_wp2_with fail
  clear hHeld
  refine hK.out _ _ ?s18_r3_19 (fun hHeld => ?_)
  case s18_r3_19 => exact ⟨m19_ce0, m19_ce1, m19_G_0_, m19_G_1_, m19_K_0_, m19_K_1_, m19_K_2_, m19_K_3_, m19_K_4_, m19_K_5_, m19_K_6_, m19_K_7_⟩
  clear hK K
  try simp only [Act.put, List.setIfInBounds_toArray, List.set_cons_zero, List.set_cons_succ]
  refine wpAnyH_take (i := 19) (oi := { dst := some 27, op := Op.binOp BinOp.add 3 (Operand.tmp 24) (Operand.tmp 26) 3, type := 3, pos := "l14_credit.go:72", after := #[{ on := 16, ground := Ground.data }, { on := 18, ground := Ground.data }, { on := 9, ground := Ground.guard }], guard := some (9, false) }) (v := ?v19_r3_20) rfl (by kernel_rfl) (by kernel_rfl) (by kernel_rfl) (fun _ _ _ h => h) (Or.inl ⟨by rfl, ?y19_r3_20⟩) (by assumption) ?r19_r3_20
  case y19_r3_20 => (intro w hSw; (try dsimp only at hSw); go_simp; all_goals (with_reducible rfl))
  try simp only [Act.put, List.setIfInBounds_toArray, List.set_cons_zero, List.set_cons_succ]
  refine wpAnyH_take (i := 20) (oi := { dst := some 28, op := Op.binOp BinOp.gtr 3 (Operand.tmp 27) (Operand.const (Value.int IntKind.i64 30)) 3, type := 4, pos := "l14_credit.go:72", after := #[{ on := 19, ground := Ground.data }, { on := 9, ground := Ground.guard }], guard := some (9, false) }) (v := ?v20_r3_21) rfl (by kernel_rfl) (by kernel_rfl) (by kernel_rfl) (fun _ _ _ h => h) (Or.inl ⟨by rfl, ?y20_r3_21⟩) (by assumption) ?r20_r3_21
  case y20_r3_21 => (intro w hSw; (try dsimp only at hSw); go_simp; all_goals (with_reducible rfl))
  try simp only [Act.put, List.setIfInBounds_toArray, List.set_cons_zero, List.set_cons_succ]
  refine wpAnyH_take (i := 21) (oi := { dst := some 29, op := Op.pick (Operand.tmp 17) (Operand.const (Value.bool true)) (Operand.tmp 28), type := 4, pos := "l14_credit.go:72", after := #[{ on := 9, ground := Ground.data }, { on := 20, ground := Ground.data }], guard := none }) (v := ?v21_r3_22) rfl (by kernel_rfl) (by kernel_rfl) (by kernel_rfl) (fun _ _ _ h => h) (Or.inl ⟨by rfl, ?y21_r3_22⟩) (by assumption) ?r21_r3_22
  case y21_r3_22 => (intro w hSw; (try dsimp only at hSw); go_simp; all_goals (with_reducible rfl))
  try simp only [Act.put, List.setIfInBounds_toArray, List.set_cons_zero, List.set_cons_succ]
  refine wpAnyH_done (by kernel_rfl) ?_ _
  have gR_ : (w1).grownBy (wH19_r3) none := (gby_trans (gby_drew (gby_refl _ none)) gH19_r3)
  have szwH19_r3 := gR_.size
  try simp only [World.size_alloc] at szwH19_r3
  clear K_0_ K_1_ K_2_ K_3_ K_4_ K_5_ K_6_ K_7_ G_0_ G_1_
  have rK9_ := Lib.hid (show (wH19_r3).heap[W.heap.size]? = some (.cells #[.int .i64 p.f0, .int .i64 p.f1, .int .i64 p.f2, .int .i64 p.f3, .int .i64 p.f4, .int .i64 p.f5, .int .i64 p.f6, vp] 29 (0, 0)) from row_held gR_ rK5_.out)
  clear rK5_
  have rG10_ := Lib.hid (show (wH19_r3).heap[gb]? = some (.cells #[.slice (some ⟨b0, o0, none⟩) xs.length c0, .slice (some ⟨b1, o1, none⟩) ys.length c1] 54 (0, 0)) from row_held gR_ rG6_.out)
  clear rG6_
  have oC11_ := Lib.hid (show OwU (wH19_r3) (lo) (hi) [] [own shI (.slice (some ⟨b0, o0, none⟩) xs.length c0) xs, own shI (.slice (some ⟨b1, o1, none⟩) ys.length c1) ys] from OwU.grow oC7_.out gR_)
  clear oC7_
  have G12_ := Lib.hid (show (W).grownBy (wH19_r3) none from gby_trans G8_.out gR_)
  clear gR_
  have K_0_ : (wH19_r3).cell? ⟨W.heap.size, 0, none⟩ = some (.int .i64 p.f0) := cell_of_row _ _ 0 _ _ _ rK9_.out
  have K_1_ : (wH19_r3).cell? ⟨W.heap.size, 1, none⟩ = some (.int .i64 p.f1) := cell_of_row _ _ 1 _ _ _ rK9_.out
  have K_2_ : (wH19_r3).cell? ⟨W.heap.size, 2, none⟩ = some (.int .i64 p.f2) := cell_of_row _ _ 2 _ _ _ rK9_.out
  have K_3_ : (wH19_r3).cell? ⟨W.heap.size, 3, none⟩ = some (.int .i64 p.f3) := cell_of_row _ _ 3 _ _ _ rK9_.out
  have K_4_ : (wH19_r3).cell? ⟨W.heap.size, 4, none⟩ = some (.int .i64 p.f4) := cell_of_row _ _ 4 _ _ _ rK9_.out
  have K_5_ : (wH19_r3).cell? ⟨W.heap.size, 5, none⟩ = some (.int .i64 p.f5) := cell_of_row _ _ 5 _ _ _ rK9_.out
  have K_6_ : (wH19_r3).cell? ⟨W.heap.size, 6, none⟩ = some (.int .i64 p.f6) := cell_of_row _ _ 6 _ _ _ rK9_.out
  have K_7_ : (wH19_r3).cell? ⟨W.heap.size, 7, none⟩ = some (vp) := cell_of_row _ _ 7 _ _ _ rK9_.out
  have G_0_ : (wH19_r3).cell? ⟨gb, 0, none⟩ = some (.slice (some ⟨b0, o0, none⟩) xs.length c0) := cell_of_row _ _ 0 _ _ _ rG10_.out
  have G_1_ : (wH19_r3).cell? ⟨gb, 1, none⟩ = some (.slice (some ⟨b1, o1, none⟩) ys.length c1) := cell_of_row _ _ 1 _ _ _ rG10_.out
  go_wp2_with fail
  go_at_call 124
  refine (crAdd _ gb lo hi k (.slice (some ⟨b0, o0, none⟩) xs.length c0) (.slice (some ⟨b1, o1, none⟩) ys.length c1) vp xs ys p 1 u u rG10_.out oC11_.out hgo (by omega) (HP.out.grow G12_.out) (fun w g => HPF.out w (chg_trans (chg_gby G12_.out lo hi) g)) HL.out HC.out (by omega) (by omega) HU.out (by rw [IntWalk.i64_in _ (by omega)]; omega) x y HX.out HY.out (IntWalk.i64_in _ (by omega)) (IntWalk.i64_in _ (by omega))).mono ?_
  rintro e w2 ⟨rfl, o, gc⟩
  rw [show x + 1 = x + 1 by omega, show y + u = y + u by omega] at o
  have HO9 := Lib.hid o
  have GC9 := Lib.hid (chg_trans (chg_gby G12_.out lo hi) gc)
  clear o gc
  clear K_0_ K_1_ K_2_ K_3_ K_4_ K_5_ K_6_ K_7_ G_0_ G_1_
  go_wp2
  go_ret
  exact ⟨rfl, HO9.out, GC9.out⟩

end Go.Proofs.Ytgagbhkidponnac

namespace Go.Proofs.Ytgagbhkidponnac
open Go Go.RowKit
set_option linter.unusedVariables false

set_option maxRecDepth 8000 in
set_option maxHeartbeats 2000000 in
theorem implSpendCredits_bad (W : World) (u0 u1 vp : Value) (xs ys : List Int) (p : DPacket) (H0 : RdL shI W u0 xs) (H1 : RdL shI W u1 ys) (Hp : RdL shI W vp p.f7) (h0 : szL shI xs ≤ 1048576) (h1 : szL shI ys ≤ 1048576) (hl : szL shI p.f7 ≤ 1048576) (hb : ¬ CrdOk xs ys) : Calls Try.prog 37 #[.agg #[u0, u1], (vPacket p.f0 p.f1 p.f2 p.f3 p.f4 p.f5 p.f6 vp)] W (ResISpendCredits xs ys false W) := by
  have HSX := Lib.hid H0
  have HSY := Lib.hid H1
  have HP := Lib.hid Hp
  have HXL := Lib.hid h0
  have HYL := Lib.hid h1
  have HL := Lib.hid hl
  obtain ⟨a0, n0, c0, rfl⟩ := RdL.form H0
  obtain ⟨a1, n1, c1, rfl⟩ := RdL.form H1
  clear H0 H1 Hp h0 h1 hl
  unfold vPacket
  have HCO := Lib.hid hb
  clear hb
  go_enter Try.func37, Try.ntmps37
  have rA1_ := Lib.hid (show ((((W.alloc (.cells #[.slice a0 n0 c0, .slice a1 n1 c1] 54)).alloc (.cells #[.int .i64 p.f0, .int .i64 p.f1, .int .i64 p.f2, .int .i64 p.f3, .int .i64 p.f4, .int .i64 p.f5, .int .i64 p.f6, vp] 29)).alloc (.cells #[.slice none 0 0, .slice none 0 0] 54))).heap[W.heap.size]? = some (.cells #[.slice a0 n0 c0, .slice a1 n1 c1] 54 (0, 0)) from by rw [heap_alloc_old _ _ (by simp only [World.size_alloc]; omega)]; rw [heap_alloc_old _ _ (by simp only [World.size_alloc]; omega)]; exact heap_alloc_new _ _)
  have rK2_ := Lib.hid (show ((((W.alloc (.cells #[.slice a0 n0 c0, .slice a1 n1 c1] 54)).alloc (.cells #[.int .i64 p.f0, .int .i64 p.f1, .int .i64 p.f2, .int .i64 p.f3, .int .i64 p.f4, .int .i64 p.f5, .int .i64 p.f6, vp] 29)).alloc (.cells #[.slice none 0 0, .slice none 0 0] 54))).heap[W.heap.size + 1]? = some (.cells #[.int .i64 p.f0, .int .i64 p.f1, .int .i64 p.f2, .int .i64 p.f3, .int .i64 p.f4, .int .i64 p.f5, .int .i64 p.f6, vp] 29 (0, 0)) from by rw [heap_alloc_old _ _ (by simp only [World.size_alloc]; omega)]; exact heap_pair _ _ _)
  have rR3_ := Lib.hid (show ((((W.alloc (.cells #[.slice a0 n0 c0, .slice a1 n1 c1] 54)).alloc (.cells #[.int .i64 p.f0, .int .i64 p.f1, .int .i64 p.f2, .int .i64 p.f3, .int .i64 p.f4, .int .i64 p.f5, .int .i64 p.f6, vp] 29)).alloc (.cells #[.slice none 0 0, .slice none 0 0] 54))).heap[W.heap.size + 1 + 1]? = some (.cells #[.slice none 0 0, .slice none 0 0] 54 (0, 0)) from by exact heap_trip _ _ _ _)
  have G4_ := Lib.hid (show (W).grownBy ((((W.alloc (.cells #[.slice a0 n0 c0, .slice a1 n1 c1] 54)).alloc (.cells #[.int .i64 p.f0, .int .i64 p.f1, .int .i64 p.f2, .int .i64 p.f3, .int .i64 p.f4, .int .i64 p.f5, .int .i64 p.f6, vp] 29)).alloc (.cells #[.slice none 0 0, .slice none 0 0] 54))) none from (gby_alloc (gby_alloc (gby_alloc (gby_refl _ _) _) _) _))
  have A_0_ : ((((W.alloc (.cells #[.slice a0 n0 c0, .slice a1 n1 c1] 54)).alloc (.cells #[.int .i64 p.f0, .int .i64 p.f1, .int .i64 p.f2, .int .i64 p.f3, .int .i64 p.f4, .int .i64 p.f5, .int .i64 p.f6, vp] 29)).alloc (.cells #[.slice none 0 0, .slice none 0 0] 54))).cell? ⟨W.heap.size, 0, none⟩ = some (.slice a0 n0 c0) := cell_of_row _ _ 0 _ _ _ rA1_.out
  have A_1_ : ((((W.alloc (.cells #[.slice a0 n0 c0, .slice a1 n1 c1] 54)).alloc (.cells #[.int .i64 p.f0, .int .i64 p.f1, .int .i64 p.f2, .int .i64 p.f3, .int .i64 p.f4, .int .i64 p.f5, .int .i64 p.f6, vp] 29)).alloc (.cells #[.slice none 0 0, .slice none 0 0] 54))).cell? ⟨W.heap.size, 1, none⟩ = some (.slice a1 n1 c1) := cell_of_row _ _ 1 _ _ _ rA1_.out
  have K_0_ : ((((W.alloc (.cells #[.slice a0 n0 c0, .slice a1 n1 c1] 54)).alloc (.cells #[.int .i64 p.f0, .int .i64 p.f1, .int .i64 p.f2, .int .i64 p.f3, .int .i64 p.f4, .int .i64 p.f5, .int .i64 p.f6, vp] 29)).alloc (.cells #[.slice none 0 0, .slice none 0 0] 54))).cell? ⟨W.heap.size + 1, 0, none⟩ = some (.int .i64 p.f0) := cell_of_row _ _ 0 _ _ _ rK2_.out
  have K_1_ : ((((W.alloc (.cells #[.slice a0 n0 c0, .slice a1 n1 c1] 54)).alloc (.cells #[.int .i64 p.f0, .int .i64 p.f1, .int .i64 p.f2, .int .i64 p.f3, .int .i64 p.f4, .int .i64 p.f5, .int .i64 p.f6, vp] 29)).alloc (.cells #[.slice none 0 0, .slice none 0 0] 54))).cell? ⟨W.heap.size + 1, 1, none⟩ = some (.int .i64 p.f1) := cell_of_row _ _ 1 _ _ _ rK2_.out
  have K_2_ : ((((W.alloc (.cells #[.slice a0 n0 c0, .slice a1 n1 c1] 54)).alloc (.cells #[.int .i64 p.f0, .int .i64 p.f1, .int .i64 p.f2, .int .i64 p.f3, .int .i64 p.f4, .int .i64 p.f5, .int .i64 p.f6, vp] 29)).alloc (.cells #[.slice none 0 0, .slice none 0 0] 54))).cell? ⟨W.heap.size + 1, 2, none⟩ = some (.int .i64 p.f2) := cell_of_row _ _ 2 _ _ _ rK2_.out
  have K_3_ : ((((W.alloc (.cells #[.slice a0 n0 c0, .slice a1 n1 c1] 54)).alloc (.cells #[.int .i64 p.f0, .int .i64 p.f1, .int .i64 p.f2, .int .i64 p.f3, .int .i64 p.f4, .int .i64 p.f5, .int .i64 p.f6, vp] 29)).alloc (.cells #[.slice none 0 0, .slice none 0 0] 54))).cell? ⟨W.heap.size + 1, 3, none⟩ = some (.int .i64 p.f3) := cell_of_row _ _ 3 _ _ _ rK2_.out
  have K_4_ : ((((W.alloc (.cells #[.slice a0 n0 c0, .slice a1 n1 c1] 54)).alloc (.cells #[.int .i64 p.f0, .int .i64 p.f1, .int .i64 p.f2, .int .i64 p.f3, .int .i64 p.f4, .int .i64 p.f5, .int .i64 p.f6, vp] 29)).alloc (.cells #[.slice none 0 0, .slice none 0 0] 54))).cell? ⟨W.heap.size + 1, 4, none⟩ = some (.int .i64 p.f4) := cell_of_row _ _ 4 _ _ _ rK2_.out
  have K_5_ : ((((W.alloc (.cells #[.slice a0 n0 c0, .slice a1 n1 c1] 54)).alloc (.cells #[.int .i64 p.f0, .int .i64 p.f1, .int .i64 p.f2, .int .i64 p.f3, .int .i64 p.f4, .int .i64 p.f5, .int .i64 p.f6, vp] 29)).alloc (.cells #[.slice none 0 0, .slice none 0 0] 54))).cell? ⟨W.heap.size + 1, 5, none⟩ = some (.int .i64 p.f5) := cell_of_row _ _ 5 _ _ _ rK2_.out
  have K_6_ : ((((W.alloc (.cells #[.slice a0 n0 c0, .slice a1 n1 c1] 54)).alloc (.cells #[.int .i64 p.f0, .int .i64 p.f1, .int .i64 p.f2, .int .i64 p.f3, .int .i64 p.f4, .int .i64 p.f5, .int .i64 p.f6, vp] 29)).alloc (.cells #[.slice none 0 0, .slice none 0 0] 54))).cell? ⟨W.heap.size + 1, 6, none⟩ = some (.int .i64 p.f6) := cell_of_row _ _ 6 _ _ _ rK2_.out
  have K_7_ : ((((W.alloc (.cells #[.slice a0 n0 c0, .slice a1 n1 c1] 54)).alloc (.cells #[.int .i64 p.f0, .int .i64 p.f1, .int .i64 p.f2, .int .i64 p.f3, .int .i64 p.f4, .int .i64 p.f5, .int .i64 p.f6, vp] 29)).alloc (.cells #[.slice none 0 0, .slice none 0 0] 54))).cell? ⟨W.heap.size + 1, 7, none⟩ = some (vp) := cell_of_row _ _ 7 _ _ _ rK2_.out
  have R_0_ : ((((W.alloc (.cells #[.slice a0 n0 c0, .slice a1 n1 c1] 54)).alloc (.cells #[.int .i64 p.f0, .int .i64 p.f1, .int .i64 p.f2, .int .i64 p.f3, .int .i64 p.f4, .int .i64 p.f5, .int .i64 p.f6, vp] 29)).alloc (.cells #[.slice none 0 0, .slice none 0 0] 54))).cell? ⟨W.heap.size + 1 + 1, 0, none⟩ = some (.slice none 0 0) := cell_of_row _ _ 0 _ _ _ rR3_.out
  have R_1_ : ((((W.alloc (.cells #[.slice a0 n0 c0, .slice a1 n1 c1] 54)).alloc (.cells #[.int .i64 p.f0, .int .i64 p.f1, .int .i64 p.f2, .int .i64 p.f3, .int .i64 p.f4, .int .i64 p.f5, .int .i64 p.f6, vp] 29)).alloc (.cells #[.slice none 0 0, .slice none 0 0] 54))).cell? ⟨W.heap.size + 1 + 1, 1, none⟩ = some (.slice none 0 0) := cell_of_row _ _ 1 _ _ _ rR3_.out
  go_wp2_with fail
  go_at_call 87
  refine (copiedCr_d _ _ _ xs ys (HSX.out.grow G4_.out) (HSY.out.grow G4_.out) HXL.out HYL.out).mono ?_
  rintro e w1 ⟨z0, z1, rfl, o, g⟩
  have sz_ := g.size
  try simp only [World.size_alloc] at sz_ o
  clear A_0_ A_1_ K_0_ K_1_ K_2_ K_3_ K_4_ K_5_ K_6_ K_7_ R_0_ R_1_
  have rA5_ := Lib.hid (show (w1).heap[W.heap.size]? = some (.cells #[.slice a0 n0 c0, .slice a1 n1 c1] 54 (0, 0)) from row_held g rA1_.out)
  clear rA1_
  have rK6_ := Lib.hid (show (w1).heap[W.heap.size + 1]? = some (.cells #[.int .i64 p.f0, .int .i64 p.f1, .int .i64 p.f2, .int .i64 p.f3, .int .i64 p.f4, .int .i64 p.f5, .int .i64 p.f6, vp] 29 (0, 0)) from row_held g rK2_.out)
  clear rK2_
  have rR7_ := Lib.hid (show (w1).heap[W.heap.size + 1 + 1]? = some (.cells #[.slice none 0 0, .slice none 0 0] 54 (0, 0)) from row_held g rR3_.out)
  clear rR3_
  have G8_ := Lib.hid (show (W).grownBy (w1) none from gby_trans G4_.out g)
  clear g
  obtain ⟨q0, m0, d0, hv_⟩ := RdL.form (OwU.rd o)
  subst hv_
  obtain ⟨q1, m1, d1, hv_⟩ := RdL.form (OwU.rd (OwU.tail o))
  subst hv_
  unfold vCredits
  have oC9_ := Lib.hid (show OwU (w1) ((W.heap.size + 1 + 1 + 1)) (w1.heap.size) [] [own shI (.slice q0 m0 d0) xs, own shI (.slice q1 m1 d1) ys] from o)
  clear o
  have A_0_ : (w1).cell? ⟨W.heap.size, 0, none⟩ = some (.slice a0 n0 c0) := cell_of_row _ _ 0 _ _ _ rA5_.out
  have A_1_ : (w1).cell? ⟨W.heap.size, 1, none⟩ = some (.slice a1 n1 c1) := cell_of_row _ _ 1 _ _ _ rA5_.out
  have Af0_ : (w1).frozen? ⟨W.heap.size, 0, none⟩ = false := frozen_of_row _ _ 0 _ _ rA5_.out
  have Af1_ : (w1).frozen? ⟨W.heap.size, 1, none⟩ = false := frozen_of_row _ _ 1 _ _ rA5_.out
  have K_0_ : (w1).cell? ⟨W.heap.size + 1, 0, none⟩ = some (.int .i64 p.f0) := cell_of_row _ _ 0 _ _ _ rK6_.out
  have K_1_ : (w1).cell? ⟨W.heap.size + 1, 1, none⟩ = some (.int .i64 p.f1) := cell_of_row _ _ 1 _ _ _ rK6_.out
  have K_2_ : (w1).cell? ⟨W.heap.size + 1, 2, none⟩ = some (.int .i64 p.f2) := cell_of_row _ _ 2 _ _ _ rK6_.out
  have K_3_ : (w1).cell? ⟨W.heap.size + 1, 3, none⟩ = some (.int .i64 p.f3) := cell_of_row _ _ 3 _ _ _ rK6_.out
  have K_4_ : (w1).cell? ⟨W.heap.size + 1, 4, none⟩ = some (.int .i64 p.f4) := cell_of_row _ _ 4 _ _ _ rK6_.out
  have K_5_ : (w1).cell? ⟨W.heap.size + 1, 5, none⟩ = some (.int .i64 p.f5) := cell_of_row _ _ 5 _ _ _ rK6_.out
  have K_6_ : (w1).cell? ⟨W.heap.size + 1, 6, none⟩ = some (.int .i64 p.f6) := cell_of_row _ _ 6 _ _ _ rK6_.out
  have K_7_ : (w1).cell? ⟨W.heap.size + 1, 7, none⟩ = some (vp) := cell_of_row _ _ 7 _ _ _ rK6_.out
  have R_0_ : (w1).cell? ⟨W.heap.size + 1 + 1, 0, none⟩ = some (.slice none 0 0) := cell_of_row _ _ 0 _ _ _ rR7_.out
  have R_1_ : (w1).cell? ⟨W.heap.size + 1 + 1, 1, none⟩ = some (.slice none 0 0) := cell_of_row _ _ 1 _ _ _ rR7_.out
  go_wp2_with fail
  go_at_call 47
  clear A_0_ A_1_ Af0_ Af1_ K_0_ K_1_ K_2_ K_3_ K_4_ K_5_ K_6_ K_7_ R_0_ R_1_
  have rK10_ := Lib.hid (show (((w1.setCell ⟨W.heap.size, 0, none⟩ (.slice q0 m0 d0)).setCell ⟨W.heap.size, 1, none⟩ (.slice q1 m1 d1))).heap[W.heap.size + 1]? = some (.cells #[.int .i64 p.f0, .int .i64 p.f1, .int .i64 p.f2, .int .i64 p.f3, .int .i64 p.f4, .int .i64 p.f5, .int .i64 p.f6, vp] 29 (0, 0)) from (set_far (set_far rK6_.out (by dsimp only; omega)) (by dsimp only; omega)))
  clear rK6_
  have rR11_ := Lib.hid (show (((w1.setCell ⟨W.heap.size, 0, none⟩ (.slice q0 m0 d0)).setCell ⟨W.heap.size, 1, none⟩ (.slice q1 m1 d1))).heap[W.heap.size + 1 + 1]? = some (.cells #[.slice none 0 0, .slice none 0 0] 54 (0, 0)) from (set_far (set_far rR7_.out (by dsimp only; omega)) (by dsimp only; omega)))
  clear rR7_
  have rA12_ := Lib.hid (show (((w1.setCell ⟨W.heap.size, 0, none⟩ (.slice q0 m0 d0)).setCell ⟨W.heap.size, 1, none⟩ (.slice q1 m1 d1))).heap[W.heap.size]? = some (.cells #[.slice q0 m0 d0, .slice q1 m1 d1] 54 (0, 0)) from (heap_setCell_same _ _ 1 _ _ _ (heap_setCell_same _ _ 0 _ _ _ rA5_.out)))
  clear rA5_
  have oC13_ := Lib.hid (show OwU (((w1.setCell ⟨W.heap.size, 0, none⟩ (.slice q0 m0 d0)).setCell ⟨W.heap.size, 1, none⟩ (.slice q1 m1 d1))) ((W.heap.size + 1 + 1 + 1)) (w1.heap.size) [] [own shI (.slice q0 m0 d0) xs, own shI (.slice q1 m1 d1) ys] from (OwU.keep (chg_one _ _ _ _) (by omega) (OwU.keep (chg_one _ _ _ _) (by omega) oC9_.out)))
  clear oC9_
  have G14_ := Lib.hid (show (W).grownBy (((w1.setCell ⟨W.heap.size, 0, none⟩ (.slice q0 m0 d0)).setCell ⟨W.heap.size, 1, none⟩ (.slice q1 m1 d1))) none from (gby_setnew (gby_setnew G8_.out _ (by dsimp only; omega) _) _ (by dsimp only; omega) _))
  have A_0_ : (((w1.setCell ⟨W.heap.size, 0, none⟩ (.slice q0 m0 d0)).setCell ⟨W.heap.size, 1, none⟩ (.slice q1 m1 d1))).cell? ⟨W.heap.size, 0, none⟩ = some (.slice q0 m0 d0) := cell_of_row _ _ 0 _ _ _ rA12_.out
  have A_1_ : (((w1.setCell ⟨W.heap.size, 0, none⟩ (.slice q0 m0 d0)).setCell ⟨W.heap.size, 1, none⟩ (.slice q1 m1 d1))).cell? ⟨W.heap.size, 1, none⟩ = some (.slice q1 m1 d1) := cell_of_row _ _ 1 _ _ _ rA12_.out
  have K_0_ : (((w1.setCell ⟨W.heap.size, 0, none⟩ (.slice q0 m0 d0)).setCell ⟨W.heap.size, 1, none⟩ (.slice q1 m1 d1))).cell? ⟨W.heap.size + 1, 0, none⟩ = some (.int .i64 p.f0) := cell_of_row _ _ 0 _ _ _ rK10_.out
  have K_1_ : (((w1.setCell ⟨W.heap.size, 0, none⟩ (.slice q0 m0 d0)).setCell ⟨W.heap.size, 1, none⟩ (.slice q1 m1 d1))).cell? ⟨W.heap.size + 1, 1, none⟩ = some (.int .i64 p.f1) := cell_of_row _ _ 1 _ _ _ rK10_.out
  have K_2_ : (((w1.setCell ⟨W.heap.size, 0, none⟩ (.slice q0 m0 d0)).setCell ⟨W.heap.size, 1, none⟩ (.slice q1 m1 d1))).cell? ⟨W.heap.size + 1, 2, none⟩ = some (.int .i64 p.f2) := cell_of_row _ _ 2 _ _ _ rK10_.out
  have K_3_ : (((w1.setCell ⟨W.heap.size, 0, none⟩ (.slice q0 m0 d0)).setCell ⟨W.heap.size, 1, none⟩ (.slice q1 m1 d1))).cell? ⟨W.heap.size + 1, 3, none⟩ = some (.int .i64 p.f3) := cell_of_row _ _ 3 _ _ _ rK10_.out
  have K_4_ : (((w1.setCell ⟨W.heap.size, 0, none⟩ (.slice q0 m0 d0)).setCell ⟨W.heap.size, 1, none⟩ (.slice q1 m1 d1))).cell? ⟨W.heap.size + 1, 4, none⟩ = some (.int .i64 p.f4) := cell_of_row _ _ 4 _ _ _ rK10_.out
  have K_5_ : (((w1.setCell ⟨W.heap.size, 0, none⟩ (.slice q0 m0 d0)).setCell ⟨W.heap.size, 1, none⟩ (.slice q1 m1 d1))).cell? ⟨W.heap.size + 1, 5, none⟩ = some (.int .i64 p.f5) := cell_of_row _ _ 5 _ _ _ rK10_.out
  have K_6_ : (((w1.setCell ⟨W.heap.size, 0, none⟩ (.slice q0 m0 d0)).setCell ⟨W.heap.size, 1, none⟩ (.slice q1 m1 d1))).cell? ⟨W.heap.size + 1, 6, none⟩ = some (.int .i64 p.f6) := cell_of_row _ _ 6 _ _ _ rK10_.out
  have K_7_ : (((w1.setCell ⟨W.heap.size, 0, none⟩ (.slice q0 m0 d0)).setCell ⟨W.heap.size, 1, none⟩ (.slice q1 m1 d1))).cell? ⟨W.heap.size + 1, 7, none⟩ = some (vp) := cell_of_row _ _ 7 _ _ _ rK10_.out
  have R_0_ : (((w1.setCell ⟨W.heap.size, 0, none⟩ (.slice q0 m0 d0)).setCell ⟨W.heap.size, 1, none⟩ (.slice q1 m1 d1))).cell? ⟨W.heap.size + 1 + 1, 0, none⟩ = some (.slice none 0 0) := cell_of_row _ _ 0 _ _ _ rR11_.out
  have R_1_ : (((w1.setCell ⟨W.heap.size, 0, none⟩ (.slice q0 m0 d0)).setCell ⟨W.heap.size, 1, none⟩ (.slice q1 m1 d1))).cell? ⟨W.heap.size + 1 + 1, 1, none⟩ = some (.slice none 0 0) := cell_of_row _ _ 1 _ _ _ rR11_.out
  refine (implCrD _ _ _ xs ys (OwU.rd oC13_.out) (OwU.rd (OwU.tail oC13_.out)) HXL.out HYL.out false (by rw [decide_eq_false HCO.out])).mono ?_
  rintro e w2 ⟨rfl, g⟩
  have szw2 := g.size
  try simp only [World.size_setCell] at szw2
  try simp only [World.size_alloc] at szw2
  clear A_0_ A_1_ K_0_ K_1_ K_2_ K_3_ K_4_ K_5_ K_6_ K_7_ R_0_ R_1_
  have rA15_ := Lib.hid (show (w2).heap[W.heap.size]? = some (.cells #[.slice q0 m0 d0, .slice q1 m1 d1] 54 (0, 0)) from row_held g rA12_.out)
  clear rA12_
  have rK16_ := Lib.hid (show (w2).heap[W.heap.size + 1]? = some (.cells #[.int .i64 p.f0, .int .i64 p.f1, .int .i64 p.f2, .int .i64 p.f3, .int .i64 p.f4, .int .i64 p.f5, .int .i64 p.f6, vp] 29 (0, 0)) from row_held g rK10_.out)
  clear rK10_
  have rR17_ := Lib.hid (show (w2).heap[W.heap.size + 1 + 1]? = some (.cells #[.slice none 0 0, .slice none 0 0] 54 (0, 0)) from row_held g rR11_.out)
  clear rR11_
  have oC18_ := Lib.hid (show OwU (w2) ((W.heap.size + 1 + 1 + 1)) (w1.heap.size) [] [own shI (.slice q0 m0 d0) xs, own shI (.slice q1 m1 d1) ys] from OwU.grow oC13_.out g)
  clear oC13_
  have G19_ := Lib.hid (show (W).grownBy (w2) none from gby_trans G14_.out g)
  clear g
  have A_0_ : (w2).cell? ⟨W.heap.size, 0, none⟩ = some (.slice q0 m0 d0) := cell_of_row _ _ 0 _ _ _ rA15_.out
  have A_1_ : (w2).cell? ⟨W.heap.size, 1, none⟩ = some (.slice q1 m1 d1) := cell_of_row _ _ 1 _ _ _ rA15_.out
  have K_0_ : (w2).cell? ⟨W.heap.size + 1, 0, none⟩ = some (.int .i64 p.f0) := cell_of_row _ _ 0 _ _ _ rK16_.out
  have K_1_ : (w2).cell? ⟨W.heap.size + 1, 1, none⟩ = some (.int .i64 p.f1) := cell_of_row _ _ 1 _ _ _ rK16_.out
  have K_2_ : (w2).cell? ⟨W.heap.size + 1, 2, none⟩ = some (.int .i64 p.f2) := cell_of_row _ _ 2 _ _ _ rK16_.out
  have K_3_ : (w2).cell? ⟨W.heap.size + 1, 3, none⟩ = some (.int .i64 p.f3) := cell_of_row _ _ 3 _ _ _ rK16_.out
  have K_4_ : (w2).cell? ⟨W.heap.size + 1, 4, none⟩ = some (.int .i64 p.f4) := cell_of_row _ _ 4 _ _ _ rK16_.out
  have K_5_ : (w2).cell? ⟨W.heap.size + 1, 5, none⟩ = some (.int .i64 p.f5) := cell_of_row _ _ 5 _ _ _ rK16_.out
  have K_6_ : (w2).cell? ⟨W.heap.size + 1, 6, none⟩ = some (.int .i64 p.f6) := cell_of_row _ _ 6 _ _ _ rK16_.out
  have K_7_ : (w2).cell? ⟨W.heap.size + 1, 7, none⟩ = some (vp) := cell_of_row _ _ 7 _ _ _ rK16_.out
  have R_0_ : (w2).cell? ⟨W.heap.size + 1 + 1, 0, none⟩ = some (.slice none 0 0) := cell_of_row _ _ 0 _ _ _ rR17_.out
  have R_1_ : (w2).cell? ⟨W.heap.size + 1 + 1, 1, none⟩ = some (.slice none 0 0) := cell_of_row _ _ 1 _ _ _ rR17_.out
  clear A_0_ A_1_ K_0_ K_1_ K_2_ K_3_ K_4_ K_5_ K_6_ K_7_ R_0_ R_1_
  have A_0_ : (w2).cell? ⟨W.heap.size, 0, none⟩ = some (.slice q0 m0 d0) := cell_of_row _ _ 0 _ _ _ rA15_.out
  have A_1_ : (w2).cell? ⟨W.heap.size, 1, none⟩ = some (.slice q1 m1 d1) := cell_of_row _ _ 1 _ _ _ rA15_.out
  have K_0_ : (w2).cell? ⟨W.heap.size + 1, 0, none⟩ = some (.int .i64 p.f0) := cell_of_row _ _ 0 _ _ _ rK16_.out
  have K_1_ : (w2).cell? ⟨W.heap.size + 1, 1, none⟩ = some (.int .i64 p.f1) := cell_of_row _ _ 1 _ _ _ rK16_.out
  have K_2_ : (w2).cell? ⟨W.heap.size + 1, 2, none⟩ = some (.int .i64 p.f2) := cell_of_row _ _ 2 _ _ _ rK16_.out
  have K_3_ : (w2).cell? ⟨W.heap.size + 1, 3, none⟩ = some (.int .i64 p.f3) := cell_of_row _ _ 3 _ _ _ rK16_.out
  have K_4_ : (w2).cell? ⟨W.heap.size + 1, 4, none⟩ = some (.int .i64 p.f4) := cell_of_row _ _ 4 _ _ _ rK16_.out
  have K_5_ : (w2).cell? ⟨W.heap.size + 1, 5, none⟩ = some (.int .i64 p.f5) := cell_of_row _ _ 5 _ _ _ rK16_.out
  have K_6_ : (w2).cell? ⟨W.heap.size + 1, 6, none⟩ = some (.int .i64 p.f6) := cell_of_row _ _ 6 _ _ _ rK16_.out
  have K_7_ : (w2).cell? ⟨W.heap.size + 1, 7, none⟩ = some (vp) := cell_of_row _ _ 7 _ _ _ rK16_.out
  have R_0_ : (w2).cell? ⟨W.heap.size + 1 + 1, 0, none⟩ = some (.slice none 0 0) := cell_of_row _ _ 0 _ _ _ rR17_.out
  have R_1_ : (w2).cell? ⟨W.heap.size + 1 + 1, 1, none⟩ = some (.slice none 0 0) := cell_of_row _ _ 1 _ _ _ rR17_.out
  clear A_0_ A_1_ K_0_ K_1_ K_2_ K_3_ K_4_ K_5_ K_6_ K_7_ R_0_ R_1_
  have A_0_ : (w2).cell? ⟨W.heap.size, 0, none⟩ = some (.slice q0 m0 d0) := cell_of_row _ _ 0 _ _ _ rA15_.out
  have A_1_ : (w2).cell? ⟨W.heap.size, 1, none⟩ = some (.slice q1 m1 d1) := cell_of_row _ _ 1 _ _ _ rA15_.out
  have K_0_ : (w2).cell? ⟨W.heap.size + 1, 0, none⟩ = some (.int .i64 p.f0) := cell_of_row _ _ 0 _ _ _ rK16_.out
  have K_1_ : (w2).cell? ⟨W.heap.size + 1, 1, none⟩ = some (.int .i64 p.f1) := cell_of_row _ _ 1 _ _ _ rK16_.out
  have K_2_ : (w2).cell? ⟨W.heap.size + 1, 2, none⟩ = some (.int .i64 p.f2) := cell_of_row _ _ 2 _ _ _ rK16_.out
  have K_3_ : (w2).cell? ⟨W.heap.size + 1, 3, none⟩ = some (.int .i64 p.f3) := cell_of_row _ _ 3 _ _ _ rK16_.out
  have K_4_ : (w2).cell? ⟨W.heap.size + 1, 4, none⟩ = some (.int .i64 p.f4) := cell_of_row _ _ 4 _ _ _ rK16_.out
  have K_5_ : (w2).cell? ⟨W.heap.size + 1, 5, none⟩ = some (.int .i64 p.f5) := cell_of_row _ _ 5 _ _ _ rK16_.out
  have K_6_ : (w2).cell? ⟨W.heap.size + 1, 6, none⟩ = some (.int .i64 p.f6) := cell_of_row _ _ 6 _ _ _ rK16_.out
  have K_7_ : (w2).cell? ⟨W.heap.size + 1, 7, none⟩ = some (vp) := cell_of_row _ _ 7 _ _ _ rK16_.out
  have R_0_ : (w2).cell? ⟨W.heap.size + 1 + 1, 0, none⟩ = some (.slice none 0 0) := cell_of_row _ _ 0 _ _ _ rR17_.out
  have R_1_ : (w2).cell? ⟨W.heap.size + 1 + 1, 1, none⟩ = some (.slice none 0 0) := cell_of_row _ _ 1 _ _ _ rR17_.out
  have Rf0_ : (w2).frozen? ⟨W.heap.size + 1 + 1, 0, none⟩ = false := frozen_of_row _ _ 0 _ _ rR17_.out
  have Rf1_ : (w2).frozen? ⟨W.heap.size + 1 + 1, 1, none⟩ = false := frozen_of_row _ _ 1 _ _ rR17_.out
  have zr_ := Lib.hid (show (((w2.setCell ⟨W.heap.size + 1 + 1, 0, none⟩ (.slice q0 m0 d0)).setCell ⟨W.heap.size + 1 + 1, 1, none⟩ (.slice q1 m1 d1))).heap[W.heap.size + 1 + 1]? = some (.cells #[.slice q0 m0 d0, .slice q1 m1 d1] 54 (0, 0)) from (heap_setCell_same _ _ 1 _ _ _ (heap_setCell_same _ _ 0 _ _ _ rR17_.out)))
  have z0_ : (((w2.setCell ⟨W.heap.size + 1 + 1, 0, none⟩ (.slice q0 m0 d0)).setCell ⟨W.heap.size + 1 + 1, 1, none⟩ (.slice q1 m1 d1))).cell? ⟨W.heap.size + 1 + 1, 0, none⟩ = some (.slice q0 m0 d0) := cell_of_row _ _ 0 _ _ _ zr_.out
  have z1_ : (((w2.setCell ⟨W.heap.size + 1 + 1, 0, none⟩ (.slice q0 m0 d0)).setCell ⟨W.heap.size + 1 + 1, 1, none⟩ (.slice q1 m1 d1))).cell? ⟨W.heap.size + 1 + 1, 1, none⟩ = some (.slice q1 m1 d1) := cell_of_row _ _ 1 _ _ _ zr_.out
  go_wp2
  refine bodyPost_ret (v := .tuple #[.agg #[.slice q0 m0 d0, .slice q1 m1 d1], .bool false]) (by simp [results, go_sem, z0_, z1_]) rfl ⟨_, _, rfl, ?_, ?_⟩
  · exact OwU.wide (lo := W.heap.size + 1 + 1 + 1) (by omega) (by simp only [World.size_setCell]; omega) (OwU.keep (chg_one _ _ _ _) (.inr (by omega)) (OwU.keep (chg_one _ _ _ _) (.inr (by omega)) oC18_.out))
  · exact (gby_setnew (gby_setnew G19_.out _ (by dsimp only; omega) _) _ (by dsimp only; omega) _)

set_option maxRecDepth 8000 in
set_option maxHeartbeats 2000000 in
theorem implSpendCredits_pk (W : World) (u0 u1 vp : Value) (xs ys : List Int) (p : DPacket) (H0 : RdL shI W u0 xs) (H1 : RdL shI W u1 ys) (Hp : RdL shI W vp p.f7) (h0 : szL shI xs ≤ 1048576) (h1 : szL shI ys ≤ 1048576) (hl : szL shI p.f7 ≤ 1048576) (hb : CrdOk xs ys) (hn : ¬ 0 ≤ clsD p) : Calls Try.prog 37 #[.agg #[u0, u1], (vPacket p.f0 p.f1 p.f2 p.f3 p.f4 p.f5 p.f6 vp)] W (ResISpendCredits xs ys false W) := by
  have HSX := Lib.hid H0
  have HSY := Lib.hid H1
  have HP := Lib.hid Hp
  have HXL := Lib.hid h0
  have HYL := Lib.hid h1
  have HL := Lib.hid hl
  obtain ⟨a0, n0, c0, rfl⟩ := RdL.form H0
  obtain ⟨a1, n1, c1, rfl⟩ := RdL.form H1
  clear H0 H1 Hp h0 h1 hl
  unfold vPacket
  have HCO := Lib.hid hb
  have HN := Lib.hid hn
  clear hb hn
  go_enter Try.func37, Try.ntmps37
  have rA1_ := Lib.hid (show ((((W.alloc (.cells #[.slice a0 n0 c0, .slice a1 n1 c1] 54)).alloc (.cells #[.int .i64 p.f0, .int .i64 p.f1, .int .i64 p.f2, .int .i64 p.f3, .int .i64 p.f4, .int .i64 p.f5, .int .i64 p.f6, vp] 29)).alloc (.cells #[.slice none 0 0, .slice none 0 0] 54))).heap[W.heap.size]? = some (.cells #[.slice a0 n0 c0, .slice a1 n1 c1] 54 (0, 0)) from by rw [heap_alloc_old _ _ (by simp only [World.size_alloc]; omega)]; rw [heap_alloc_old _ _ (by simp only [World.size_alloc]; omega)]; exact heap_alloc_new _ _)
  have rK2_ := Lib.hid (show ((((W.alloc (.cells #[.slice a0 n0 c0, .slice a1 n1 c1] 54)).alloc (.cells #[.int .i64 p.f0, .int .i64 p.f1, .int .i64 p.f2, .int .i64 p.f3, .int .i64 p.f4, .int .i64 p.f5, .int .i64 p.f6, vp] 29)).alloc (.cells #[.slice none 0 0, .slice none 0 0] 54))).heap[W.heap.size + 1]? = some (.cells #[.int .i64 p.f0, .int .i64 p.f1, .int .i64 p.f2, .int .i64 p.f3, .int .i64 p.f4, .int .i64 p.f5, .int .i64 p.f6, vp] 29 (0, 0)) from by rw [heap_alloc_old _ _ (by simp only [World.size_alloc]; omega)]; exact heap_pair _ _ _)
  have rR3_ := Lib.hid (show ((((W.alloc (.cells #[.slice a0 n0 c0, .slice a1 n1 c1] 54)).alloc (.cells #[.int .i64 p.f0, .int .i64 p.f1, .int .i64 p.f2, .int .i64 p.f3, .int .i64 p.f4, .int .i64 p.f5, .int .i64 p.f6, vp] 29)).alloc (.cells #[.slice none 0 0, .slice none 0 0] 54))).heap[W.heap.size + 1 + 1]? = some (.cells #[.slice none 0 0, .slice none 0 0] 54 (0, 0)) from by exact heap_trip _ _ _ _)
  have G4_ := Lib.hid (show (W).grownBy ((((W.alloc (.cells #[.slice a0 n0 c0, .slice a1 n1 c1] 54)).alloc (.cells #[.int .i64 p.f0, .int .i64 p.f1, .int .i64 p.f2, .int .i64 p.f3, .int .i64 p.f4, .int .i64 p.f5, .int .i64 p.f6, vp] 29)).alloc (.cells #[.slice none 0 0, .slice none 0 0] 54))) none from (gby_alloc (gby_alloc (gby_alloc (gby_refl _ _) _) _) _))
  have A_0_ : ((((W.alloc (.cells #[.slice a0 n0 c0, .slice a1 n1 c1] 54)).alloc (.cells #[.int .i64 p.f0, .int .i64 p.f1, .int .i64 p.f2, .int .i64 p.f3, .int .i64 p.f4, .int .i64 p.f5, .int .i64 p.f6, vp] 29)).alloc (.cells #[.slice none 0 0, .slice none 0 0] 54))).cell? ⟨W.heap.size, 0, none⟩ = some (.slice a0 n0 c0) := cell_of_row _ _ 0 _ _ _ rA1_.out
  have A_1_ : ((((W.alloc (.cells #[.slice a0 n0 c0, .slice a1 n1 c1] 54)).alloc (.cells #[.int .i64 p.f0, .int .i64 p.f1, .int .i64 p.f2, .int .i64 p.f3, .int .i64 p.f4, .int .i64 p.f5, .int .i64 p.f6, vp] 29)).alloc (.cells #[.slice none 0 0, .slice none 0 0] 54))).cell? ⟨W.heap.size, 1, none⟩ = some (.slice a1 n1 c1) := cell_of_row _ _ 1 _ _ _ rA1_.out
  have K_0_ : ((((W.alloc (.cells #[.slice a0 n0 c0, .slice a1 n1 c1] 54)).alloc (.cells #[.int .i64 p.f0, .int .i64 p.f1, .int .i64 p.f2, .int .i64 p.f3, .int .i64 p.f4, .int .i64 p.f5, .int .i64 p.f6, vp] 29)).alloc (.cells #[.slice none 0 0, .slice none 0 0] 54))).cell? ⟨W.heap.size + 1, 0, none⟩ = some (.int .i64 p.f0) := cell_of_row _ _ 0 _ _ _ rK2_.out
  have K_1_ : ((((W.alloc (.cells #[.slice a0 n0 c0, .slice a1 n1 c1] 54)).alloc (.cells #[.int .i64 p.f0, .int .i64 p.f1, .int .i64 p.f2, .int .i64 p.f3, .int .i64 p.f4, .int .i64 p.f5, .int .i64 p.f6, vp] 29)).alloc (.cells #[.slice none 0 0, .slice none 0 0] 54))).cell? ⟨W.heap.size + 1, 1, none⟩ = some (.int .i64 p.f1) := cell_of_row _ _ 1 _ _ _ rK2_.out
  have K_2_ : ((((W.alloc (.cells #[.slice a0 n0 c0, .slice a1 n1 c1] 54)).alloc (.cells #[.int .i64 p.f0, .int .i64 p.f1, .int .i64 p.f2, .int .i64 p.f3, .int .i64 p.f4, .int .i64 p.f5, .int .i64 p.f6, vp] 29)).alloc (.cells #[.slice none 0 0, .slice none 0 0] 54))).cell? ⟨W.heap.size + 1, 2, none⟩ = some (.int .i64 p.f2) := cell_of_row _ _ 2 _ _ _ rK2_.out
  have K_3_ : ((((W.alloc (.cells #[.slice a0 n0 c0, .slice a1 n1 c1] 54)).alloc (.cells #[.int .i64 p.f0, .int .i64 p.f1, .int .i64 p.f2, .int .i64 p.f3, .int .i64 p.f4, .int .i64 p.f5, .int .i64 p.f6, vp] 29)).alloc (.cells #[.slice none 0 0, .slice none 0 0] 54))).cell? ⟨W.heap.size + 1, 3, none⟩ = some (.int .i64 p.f3) := cell_of_row _ _ 3 _ _ _ rK2_.out
  have K_4_ : ((((W.alloc (.cells #[.slice a0 n0 c0, .slice a1 n1 c1] 54)).alloc (.cells #[.int .i64 p.f0, .int .i64 p.f1, .int .i64 p.f2, .int .i64 p.f3, .int .i64 p.f4, .int .i64 p.f5, .int .i64 p.f6, vp] 29)).alloc (.cells #[.slice none 0 0, .slice none 0 0] 54))).cell? ⟨W.heap.size + 1, 4, none⟩ = some (.int .i64 p.f4) := cell_of_row _ _ 4 _ _ _ rK2_.out
  have K_5_ : ((((W.alloc (.cells #[.slice a0 n0 c0, .slice a1 n1 c1] 54)).alloc (.cells #[.int .i64 p.f0, .int .i64 p.f1, .int .i64 p.f2, .int .i64 p.f3, .int .i64 p.f4, .int .i64 p.f5, .int .i64 p.f6, vp] 29)).alloc (.cells #[.slice none 0 0, .slice none 0 0] 54))).cell? ⟨W.heap.size + 1, 5, none⟩ = some (.int .i64 p.f5) := cell_of_row _ _ 5 _ _ _ rK2_.out
  have K_6_ : ((((W.alloc (.cells #[.slice a0 n0 c0, .slice a1 n1 c1] 54)).alloc (.cells #[.int .i64 p.f0, .int .i64 p.f1, .int .i64 p.f2, .int .i64 p.f3, .int .i64 p.f4, .int .i64 p.f5, .int .i64 p.f6, vp] 29)).alloc (.cells #[.slice none 0 0, .slice none 0 0] 54))).cell? ⟨W.heap.size + 1, 6, none⟩ = some (.int .i64 p.f6) := cell_of_row _ _ 6 _ _ _ rK2_.out
  have K_7_ : ((((W.alloc (.cells #[.slice a0 n0 c0, .slice a1 n1 c1] 54)).alloc (.cells #[.int .i64 p.f0, .int .i64 p.f1, .int .i64 p.f2, .int .i64 p.f3, .int .i64 p.f4, .int .i64 p.f5, .int .i64 p.f6, vp] 29)).alloc (.cells #[.slice none 0 0, .slice none 0 0] 54))).cell? ⟨W.heap.size + 1, 7, none⟩ = some (vp) := cell_of_row _ _ 7 _ _ _ rK2_.out
  have R_0_ : ((((W.alloc (.cells #[.slice a0 n0 c0, .slice a1 n1 c1] 54)).alloc (.cells #[.int .i64 p.f0, .int .i64 p.f1, .int .i64 p.f2, .int .i64 p.f3, .int .i64 p.f4, .int .i64 p.f5, .int .i64 p.f6, vp] 29)).alloc (.cells #[.slice none 0 0, .slice none 0 0] 54))).cell? ⟨W.heap.size + 1 + 1, 0, none⟩ = some (.slice none 0 0) := cell_of_row _ _ 0 _ _ _ rR3_.out
  have R_1_ : ((((W.alloc (.cells #[.slice a0 n0 c0, .slice a1 n1 c1] 54)).alloc (.cells #[.int .i64 p.f0, .int .i64 p.f1, .int .i64 p.f2, .int .i64 p.f3, .int .i64 p.f4, .int .i64 p.f5, .int .i64 p.f6, vp] 29)).alloc (.cells #[.slice none 0 0, .slice none 0 0] 54))).cell? ⟨W.heap.size + 1 + 1, 1, none⟩ = some (.slice none 0 0) := cell_of_row _ _ 1 _ _ _ rR3_.out
  go_wp2_with fail
  go_at_call 87
  refine (copiedCr_d _ _ _ xs ys (HSX.out.grow G4_.out) (HSY.out.grow G4_.out) HXL.out HYL.out).mono ?_
  rintro e w1 ⟨z0, z1, rfl, o, g⟩
  have sz_ := g.size
  try simp only [World.size_alloc] at sz_ o
  clear A_0_ A_1_ K_0_ K_1_ K_2_ K_3_ K_4_ K_5_ K_6_ K_7_ R_0_ R_1_
  have rA5_ := Lib.hid (show (w1).heap[W.heap.size]? = some (.cells #[.slice a0 n0 c0, .slice a1 n1 c1] 54 (0, 0)) from row_held g rA1_.out)
  clear rA1_
  have rK6_ := Lib.hid (show (w1).heap[W.heap.size + 1]? = some (.cells #[.int .i64 p.f0, .int .i64 p.f1, .int .i64 p.f2, .int .i64 p.f3, .int .i64 p.f4, .int .i64 p.f5, .int .i64 p.f6, vp] 29 (0, 0)) from row_held g rK2_.out)
  clear rK2_
  have rR7_ := Lib.hid (show (w1).heap[W.heap.size + 1 + 1]? = some (.cells #[.slice none 0 0, .slice none 0 0] 54 (0, 0)) from row_held g rR3_.out)
  clear rR3_
  have G8_ := Lib.hid (show (W).grownBy (w1) none from gby_trans G4_.out g)
  clear g
  obtain ⟨q0, m0, d0, hv_⟩ := RdL.form (OwU.rd o)
  subst hv_
  obtain ⟨q1, m1, d1, hv_⟩ := RdL.form (OwU.rd (OwU.tail o))
  subst hv_
  unfold vCredits
  have oC9_ := Lib.hid (show OwU (w1) ((W.heap.size + 1 + 1 + 1)) (w1.heap.size) [] [own shI (.slice q0 m0 d0) xs, own shI (.slice q1 m1 d1) ys] from o)
  clear o
  have A_0_ : (w1).cell? ⟨W.heap.size, 0, none⟩ = some (.slice a0 n0 c0) := cell_of_row _ _ 0 _ _ _ rA5_.out
  have A_1_ : (w1).cell? ⟨W.heap.size, 1, none⟩ = some (.slice a1 n1 c1) := cell_of_row _ _ 1 _ _ _ rA5_.out
  have Af0_ : (w1).frozen? ⟨W.heap.size, 0, none⟩ = false := frozen_of_row _ _ 0 _ _ rA5_.out
  have Af1_ : (w1).frozen? ⟨W.heap.size, 1, none⟩ = false := frozen_of_row _ _ 1 _ _ rA5_.out
  have K_0_ : (w1).cell? ⟨W.heap.size + 1, 0, none⟩ = some (.int .i64 p.f0) := cell_of_row _ _ 0 _ _ _ rK6_.out
  have K_1_ : (w1).cell? ⟨W.heap.size + 1, 1, none⟩ = some (.int .i64 p.f1) := cell_of_row _ _ 1 _ _ _ rK6_.out
  have K_2_ : (w1).cell? ⟨W.heap.size + 1, 2, none⟩ = some (.int .i64 p.f2) := cell_of_row _ _ 2 _ _ _ rK6_.out
  have K_3_ : (w1).cell? ⟨W.heap.size + 1, 3, none⟩ = some (.int .i64 p.f3) := cell_of_row _ _ 3 _ _ _ rK6_.out
  have K_4_ : (w1).cell? ⟨W.heap.size + 1, 4, none⟩ = some (.int .i64 p.f4) := cell_of_row _ _ 4 _ _ _ rK6_.out
  have K_5_ : (w1).cell? ⟨W.heap.size + 1, 5, none⟩ = some (.int .i64 p.f5) := cell_of_row _ _ 5 _ _ _ rK6_.out
  have K_6_ : (w1).cell? ⟨W.heap.size + 1, 6, none⟩ = some (.int .i64 p.f6) := cell_of_row _ _ 6 _ _ _ rK6_.out
  have K_7_ : (w1).cell? ⟨W.heap.size + 1, 7, none⟩ = some (vp) := cell_of_row _ _ 7 _ _ _ rK6_.out
  have R_0_ : (w1).cell? ⟨W.heap.size + 1 + 1, 0, none⟩ = some (.slice none 0 0) := cell_of_row _ _ 0 _ _ _ rR7_.out
  have R_1_ : (w1).cell? ⟨W.heap.size + 1 + 1, 1, none⟩ = some (.slice none 0 0) := cell_of_row _ _ 1 _ _ _ rR7_.out
  go_wp2_with fail
  go_at_call 47
  clear A_0_ A_1_ Af0_ Af1_ K_0_ K_1_ K_2_ K_3_ K_4_ K_5_ K_6_ K_7_ R_0_ R_1_
  have rK10_ := Lib.hid (show (((w1.setCell ⟨W.heap.size, 0, none⟩ (.slice q0 m0 d0)).setCell ⟨W.heap.size, 1, none⟩ (.slice q1 m1 d1))).heap[W.heap.size + 1]? = some (.cells #[.int .i64 p.f0, .int .i64 p.f1, .int .i64 p.f2, .int .i64 p.f3, .int .i64 p.f4, .int .i64 p.f5, .int .i64 p.f6, vp] 29 (0, 0)) from (set_far (set_far rK6_.out (by dsimp only; omega)) (by dsimp only; omega)))
  clear rK6_
  have rR11_ := Lib.hid (show (((w1.setCell ⟨W.heap.size, 0, none⟩ (.slice q0 m0 d0)).setCell ⟨W.heap.size, 1, none⟩ (.slice q1 m1 d1))).heap[W.heap.size + 1 + 1]? = some (.cells #[.slice none 0 0, .slice none 0 0] 54 (0, 0)) from (set_far (set_far rR7_.out (by dsimp only; omega)) (by dsimp only; omega)))
  clear rR7_
  have rA12_ := Lib.hid (show (((w1.setCell ⟨W.heap.size, 0, none⟩ (.slice q0 m0 d0)).setCell ⟨W.heap.size, 1, none⟩ (.slice q1 m1 d1))).heap[W.heap.size]? = some (.cells #[.slice q0 m0 d0, .slice q1 m1 d1] 54 (0, 0)) from (heap_setCell_same _ _ 1 _ _ _ (heap_setCell_same _ _ 0 _ _ _ rA5_.out)))
  clear rA5_
  have oC13_ := Lib.hid (show OwU (((w1.setCell ⟨W.heap.size, 0, none⟩ (.slice q0 m0 d0)).setCell ⟨W.heap.size, 1, none⟩ (.slice q1 m1 d1))) ((W.heap.size + 1 + 1 + 1)) (w1.heap.size) [] [own shI (.slice q0 m0 d0) xs, own shI (.slice q1 m1 d1) ys] from (OwU.keep (chg_one _ _ _ _) (by omega) (OwU.keep (chg_one _ _ _ _) (by omega) oC9_.out)))
  clear oC9_
  have G14_ := Lib.hid (show (W).grownBy (((w1.setCell ⟨W.heap.size, 0, none⟩ (.slice q0 m0 d0)).setCell ⟨W.heap.size, 1, none⟩ (.slice q1 m1 d1))) none from (gby_setnew (gby_setnew G8_.out _ (by dsimp only; omega) _) _ (by dsimp only; omega) _))
  have A_0_ : (((w1.setCell ⟨W.heap.size, 0, none⟩ (.slice q0 m0 d0)).setCell ⟨W.heap.size, 1, none⟩ (.slice q1 m1 d1))).cell? ⟨W.heap.size, 0, none⟩ = some (.slice q0 m0 d0) := cell_of_row _ _ 0 _ _ _ rA12_.out
  have A_1_ : (((w1.setCell ⟨W.heap.size, 0, none⟩ (.slice q0 m0 d0)).setCell ⟨W.heap.size, 1, none⟩ (.slice q1 m1 d1))).cell? ⟨W.heap.size, 1, none⟩ = some (.slice q1 m1 d1) := cell_of_row _ _ 1 _ _ _ rA12_.out
  have K_0_ : (((w1.setCell ⟨W.heap.size, 0, none⟩ (.slice q0 m0 d0)).setCell ⟨W.heap.size, 1, none⟩ (.slice q1 m1 d1))).cell? ⟨W.heap.size + 1, 0, none⟩ = some (.int .i64 p.f0) := cell_of_row _ _ 0 _ _ _ rK10_.out
  have K_1_ : (((w1.setCell ⟨W.heap.size, 0, none⟩ (.slice q0 m0 d0)).setCell ⟨W.heap.size, 1, none⟩ (.slice q1 m1 d1))).cell? ⟨W.heap.size + 1, 1, none⟩ = some (.int .i64 p.f1) := cell_of_row _ _ 1 _ _ _ rK10_.out
  have K_2_ : (((w1.setCell ⟨W.heap.size, 0, none⟩ (.slice q0 m0 d0)).setCell ⟨W.heap.size, 1, none⟩ (.slice q1 m1 d1))).cell? ⟨W.heap.size + 1, 2, none⟩ = some (.int .i64 p.f2) := cell_of_row _ _ 2 _ _ _ rK10_.out
  have K_3_ : (((w1.setCell ⟨W.heap.size, 0, none⟩ (.slice q0 m0 d0)).setCell ⟨W.heap.size, 1, none⟩ (.slice q1 m1 d1))).cell? ⟨W.heap.size + 1, 3, none⟩ = some (.int .i64 p.f3) := cell_of_row _ _ 3 _ _ _ rK10_.out
  have K_4_ : (((w1.setCell ⟨W.heap.size, 0, none⟩ (.slice q0 m0 d0)).setCell ⟨W.heap.size, 1, none⟩ (.slice q1 m1 d1))).cell? ⟨W.heap.size + 1, 4, none⟩ = some (.int .i64 p.f4) := cell_of_row _ _ 4 _ _ _ rK10_.out
  have K_5_ : (((w1.setCell ⟨W.heap.size, 0, none⟩ (.slice q0 m0 d0)).setCell ⟨W.heap.size, 1, none⟩ (.slice q1 m1 d1))).cell? ⟨W.heap.size + 1, 5, none⟩ = some (.int .i64 p.f5) := cell_of_row _ _ 5 _ _ _ rK10_.out
  have K_6_ : (((w1.setCell ⟨W.heap.size, 0, none⟩ (.slice q0 m0 d0)).setCell ⟨W.heap.size, 1, none⟩ (.slice q1 m1 d1))).cell? ⟨W.heap.size + 1, 6, none⟩ = some (.int .i64 p.f6) := cell_of_row _ _ 6 _ _ _ rK10_.out
  have K_7_ : (((w1.setCell ⟨W.heap.size, 0, none⟩ (.slice q0 m0 d0)).setCell ⟨W.heap.size, 1, none⟩ (.slice q1 m1 d1))).cell? ⟨W.heap.size + 1, 7, none⟩ = some (vp) := cell_of_row _ _ 7 _ _ _ rK10_.out
  have R_0_ : (((w1.setCell ⟨W.heap.size, 0, none⟩ (.slice q0 m0 d0)).setCell ⟨W.heap.size, 1, none⟩ (.slice q1 m1 d1))).cell? ⟨W.heap.size + 1 + 1, 0, none⟩ = some (.slice none 0 0) := cell_of_row _ _ 0 _ _ _ rR11_.out
  have R_1_ : (((w1.setCell ⟨W.heap.size, 0, none⟩ (.slice q0 m0 d0)).setCell ⟨W.heap.size, 1, none⟩ (.slice q1 m1 d1))).cell? ⟨W.heap.size + 1 + 1, 1, none⟩ = some (.slice none 0 0) := cell_of_row _ _ 1 _ _ _ rR11_.out
  refine (implCrD _ _ _ xs ys (OwU.rd oC13_.out) (OwU.rd (OwU.tail oC13_.out)) HXL.out HYL.out true (by rw [decide_eq_true HCO.out])).mono ?_
  rintro e w2 ⟨rfl, g⟩
  have szw2 := g.size
  try simp only [World.size_setCell] at szw2
  try simp only [World.size_alloc] at szw2
  clear A_0_ A_1_ K_0_ K_1_ K_2_ K_3_ K_4_ K_5_ K_6_ K_7_ R_0_ R_1_
  have rA15_ := Lib.hid (show (w2).heap[W.heap.size]? = some (.cells #[.slice q0 m0 d0, .slice q1 m1 d1] 54 (0, 0)) from row_held g rA12_.out)
  clear rA12_
  have rK16_ := Lib.hid (show (w2).heap[W.heap.size + 1]? = some (.cells #[.int .i64 p.f0, .int .i64 p.f1, .int .i64 p.f2, .int .i64 p.f3, .int .i64 p.f4, .int .i64 p.f5, .int .i64 p.f6, vp] 29 (0, 0)) from row_held g rK10_.out)
  clear rK10_
  have rR17_ := Lib.hid (show (w2).heap[W.heap.size + 1 + 1]? = some (.cells #[.slice none 0 0, .slice none 0 0] 54 (0, 0)) from row_held g rR11_.out)
  clear rR11_
  have oC18_ := Lib.hid (show OwU (w2) ((W.heap.size + 1 + 1 + 1)) (w1.heap.size) [] [own shI (.slice q0 m0 d0) xs, own shI (.slice q1 m1 d1) ys] from OwU.grow oC13_.out g)
  clear oC13_
  have G19_ := Lib.hid (show (W).grownBy (w2) none from gby_trans G14_.out g)
  clear g
  have A_0_ : (w2).cell? ⟨W.heap.size, 0, none⟩ = some (.slice q0 m0 d0) := cell_of_row _ _ 0 _ _ _ rA15_.out
  have A_1_ : (w2).cell? ⟨W.heap.size, 1, none⟩ = some (.slice q1 m1 d1) := cell_of_row _ _ 1 _ _ _ rA15_.out
  have K_0_ : (w2).cell? ⟨W.heap.size + 1, 0, none⟩ = some (.int .i64 p.f0) := cell_of_row _ _ 0 _ _ _ rK16_.out
  have K_1_ : (w2).cell? ⟨W.heap.size + 1, 1, none⟩ = some (.int .i64 p.f1) := cell_of_row _ _ 1 _ _ _ rK16_.out
  have K_2_ : (w2).cell? ⟨W.heap.size + 1, 2, none⟩ = some (.int .i64 p.f2) := cell_of_row _ _ 2 _ _ _ rK16_.out
  have K_3_ : (w2).cell? ⟨W.heap.size + 1, 3, none⟩ = some (.int .i64 p.f3) := cell_of_row _ _ 3 _ _ _ rK16_.out
  have K_4_ : (w2).cell? ⟨W.heap.size + 1, 4, none⟩ = some (.int .i64 p.f4) := cell_of_row _ _ 4 _ _ _ rK16_.out
  have K_5_ : (w2).cell? ⟨W.heap.size + 1, 5, none⟩ = some (.int .i64 p.f5) := cell_of_row _ _ 5 _ _ _ rK16_.out
  have K_6_ : (w2).cell? ⟨W.heap.size + 1, 6, none⟩ = some (.int .i64 p.f6) := cell_of_row _ _ 6 _ _ _ rK16_.out
  have K_7_ : (w2).cell? ⟨W.heap.size + 1, 7, none⟩ = some (vp) := cell_of_row _ _ 7 _ _ _ rK16_.out
  have R_0_ : (w2).cell? ⟨W.heap.size + 1 + 1, 0, none⟩ = some (.slice none 0 0) := cell_of_row _ _ 0 _ _ _ rR17_.out
  have R_1_ : (w2).cell? ⟨W.heap.size + 1 + 1, 1, none⟩ = some (.slice none 0 0) := cell_of_row _ _ 1 _ _ _ rR17_.out
  go_wp2_with fail
  go_at_call 30
  refine (implPkD _ p _ (HP.out.grow G19_.out) HL.out false (by have := HN.out; rw [decide_eq_false (by omega)])).mono ?_
  rintro e w3 ⟨rfl, g⟩
  have szw3 := g.size
  try simp only [World.size_alloc] at szw3
  try simp only [World.size_setCell] at szw3
  clear A_0_ A_1_ K_0_ K_1_ K_2_ K_3_ K_4_ K_5_ K_6_ K_7_ R_0_ R_1_
  have rA20_ := Lib.hid (show (w3).heap[W.heap.size]? = some (.cells #[.slice q0 m0 d0, .slice q1 m1 d1] 54 (0, 0)) from row_held g rA15_.out)
  clear rA15_
  have rK21_ := Lib.hid (show (w3).heap[W.heap.size + 1]? = some (.cells #[.int .i64 p.f0, .int .i64 p.f1, .int .i64 p.f2, .int .i64 p.f3, .int .i64 p.f4, .int .i64 p.f5, .int .i64 p.f6, vp] 29 (0, 0)) from row_held g rK16_.out)
  clear rK16_
  have rR22_ := Lib.hid (show (w3).heap[W.heap.size + 1 + 1]? = some (.cells #[.slice none 0 0, .slice none 0 0] 54 (0, 0)) from row_held g rR17_.out)
  clear rR17_
  have oC23_ := Lib.hid (show OwU (w3) ((W.heap.size + 1 + 1 + 1)) (w1.heap.size) [] [own shI (.slice q0 m0 d0) xs, own shI (.slice q1 m1 d1) ys] from OwU.grow oC18_.out g)
  clear oC18_
  have G24_ := Lib.hid (show (W).grownBy (w3) none from gby_trans G19_.out g)
  clear g
  have A_0_ : (w3).cell? ⟨W.heap.size, 0, none⟩ = some (.slice q0 m0 d0) := cell_of_row _ _ 0 _ _ _ rA20_.out
  have A_1_ : (w3).cell? ⟨W.heap.size, 1, none⟩ = some (.slice q1 m1 d1) := cell_of_row _ _ 1 _ _ _ rA20_.out
  have K_0_ : (w3).cell? ⟨W.heap.size + 1, 0, none⟩ = some (.int .i64 p.f0) := cell_of_row _ _ 0 _ _ _ rK21_.out
  have K_1_ : (w3).cell? ⟨W.heap.size + 1, 1, none⟩ = some (.int .i64 p.f1) := cell_of_row _ _ 1 _ _ _ rK21_.out
  have K_2_ : (w3).cell? ⟨W.heap.size + 1, 2, none⟩ = some (.int .i64 p.f2) := cell_of_row _ _ 2 _ _ _ rK21_.out
  have K_3_ : (w3).cell? ⟨W.heap.size + 1, 3, none⟩ = some (.int .i64 p.f3) := cell_of_row _ _ 3 _ _ _ rK21_.out
  have K_4_ : (w3).cell? ⟨W.heap.size + 1, 4, none⟩ = some (.int .i64 p.f4) := cell_of_row _ _ 4 _ _ _ rK21_.out
  have K_5_ : (w3).cell? ⟨W.heap.size + 1, 5, none⟩ = some (.int .i64 p.f5) := cell_of_row _ _ 5 _ _ _ rK21_.out
  have K_6_ : (w3).cell? ⟨W.heap.size + 1, 6, none⟩ = some (.int .i64 p.f6) := cell_of_row _ _ 6 _ _ _ rK21_.out
  have K_7_ : (w3).cell? ⟨W.heap.size + 1, 7, none⟩ = some (vp) := cell_of_row _ _ 7 _ _ _ rK21_.out
  have R_0_ : (w3).cell? ⟨W.heap.size + 1 + 1, 0, none⟩ = some (.slice none 0 0) := cell_of_row _ _ 0 _ _ _ rR22_.out
  have R_1_ : (w3).cell? ⟨W.heap.size + 1 + 1, 1, none⟩ = some (.slice none 0 0) := cell_of_row _ _ 1 _ _ _ rR22_.out
  clear A_0_ A_1_ K_0_ K_1_ K_2_ K_3_ K_4_ K_5_ K_6_ K_7_ R_0_ R_1_
  have A_0_ : (w3).cell? ⟨W.heap.size, 0, none⟩ = some (.slice q0 m0 d0) := cell_of_row _ _ 0 _ _ _ rA20_.out
  have A_1_ : (w3).cell? ⟨W.heap.size, 1, none⟩ = some (.slice q1 m1 d1) := cell_of_row _ _ 1 _ _ _ rA20_.out
  have K_0_ : (w3).cell? ⟨W.heap.size + 1, 0, none⟩ = some (.int .i64 p.f0) := cell_of_row _ _ 0 _ _ _ rK21_.out
  have K_1_ : (w3).cell? ⟨W.heap.size + 1, 1, none⟩ = some (.int .i64 p.f1) := cell_of_row _ _ 1 _ _ _ rK21_.out
  have K_2_ : (w3).cell? ⟨W.heap.size + 1, 2, none⟩ = some (.int .i64 p.f2) := cell_of_row _ _ 2 _ _ _ rK21_.out
  have K_3_ : (w3).cell? ⟨W.heap.size + 1, 3, none⟩ = some (.int .i64 p.f3) := cell_of_row _ _ 3 _ _ _ rK21_.out
  have K_4_ : (w3).cell? ⟨W.heap.size + 1, 4, none⟩ = some (.int .i64 p.f4) := cell_of_row _ _ 4 _ _ _ rK21_.out
  have K_5_ : (w3).cell? ⟨W.heap.size + 1, 5, none⟩ = some (.int .i64 p.f5) := cell_of_row _ _ 5 _ _ _ rK21_.out
  have K_6_ : (w3).cell? ⟨W.heap.size + 1, 6, none⟩ = some (.int .i64 p.f6) := cell_of_row _ _ 6 _ _ _ rK21_.out
  have K_7_ : (w3).cell? ⟨W.heap.size + 1, 7, none⟩ = some (vp) := cell_of_row _ _ 7 _ _ _ rK21_.out
  have R_0_ : (w3).cell? ⟨W.heap.size + 1 + 1, 0, none⟩ = some (.slice none 0 0) := cell_of_row _ _ 0 _ _ _ rR22_.out
  have R_1_ : (w3).cell? ⟨W.heap.size + 1 + 1, 1, none⟩ = some (.slice none 0 0) := cell_of_row _ _ 1 _ _ _ rR22_.out
  clear A_0_ A_1_ K_0_ K_1_ K_2_ K_3_ K_4_ K_5_ K_6_ K_7_ R_0_ R_1_
  have A_0_ : (w3).cell? ⟨W.heap.size, 0, none⟩ = some (.slice q0 m0 d0) := cell_of_row _ _ 0 _ _ _ rA20_.out
  have A_1_ : (w3).cell? ⟨W.heap.size, 1, none⟩ = some (.slice q1 m1 d1) := cell_of_row _ _ 1 _ _ _ rA20_.out
  have K_0_ : (w3).cell? ⟨W.heap.size + 1, 0, none⟩ = some (.int .i64 p.f0) := cell_of_row _ _ 0 _ _ _ rK21_.out
  have K_1_ : (w3).cell? ⟨W.heap.size + 1, 1, none⟩ = some (.int .i64 p.f1) := cell_of_row _ _ 1 _ _ _ rK21_.out
  have K_2_ : (w3).cell? ⟨W.heap.size + 1, 2, none⟩ = some (.int .i64 p.f2) := cell_of_row _ _ 2 _ _ _ rK21_.out
  have K_3_ : (w3).cell? ⟨W.heap.size + 1, 3, none⟩ = some (.int .i64 p.f3) := cell_of_row _ _ 3 _ _ _ rK21_.out
  have K_4_ : (w3).cell? ⟨W.heap.size + 1, 4, none⟩ = some (.int .i64 p.f4) := cell_of_row _ _ 4 _ _ _ rK21_.out
  have K_5_ : (w3).cell? ⟨W.heap.size + 1, 5, none⟩ = some (.int .i64 p.f5) := cell_of_row _ _ 5 _ _ _ rK21_.out
  have K_6_ : (w3).cell? ⟨W.heap.size + 1, 6, none⟩ = some (.int .i64 p.f6) := cell_of_row _ _ 6 _ _ _ rK21_.out
  have K_7_ : (w3).cell? ⟨W.heap.size + 1, 7, none⟩ = some (vp) := cell_of_row _ _ 7 _ _ _ rK21_.out
  have R_0_ : (w3).cell? ⟨W.heap.size + 1 + 1, 0, none⟩ = some (.slice none 0 0) := cell_of_row _ _ 0 _ _ _ rR22_.out
  have R_1_ : (w3).cell? ⟨W.heap.size + 1 + 1, 1, none⟩ = some (.slice none 0 0) := cell_of_row _ _ 1 _ _ _ rR22_.out
  have Rf0_ : (w3).frozen? ⟨W.heap.size + 1 + 1, 0, none⟩ = false := frozen_of_row _ _ 0 _ _ rR22_.out
  have Rf1_ : (w3).frozen? ⟨W.heap.size + 1 + 1, 1, none⟩ = false := frozen_of_row _ _ 1 _ _ rR22_.out
  have zr_ := Lib.hid (show (((w3.setCell ⟨W.heap.size + 1 + 1, 0, none⟩ (.slice q0 m0 d0)).setCell ⟨W.heap.size + 1 + 1, 1, none⟩ (.slice q1 m1 d1))).heap[W.heap.size + 1 + 1]? = some (.cells #[.slice q0 m0 d0, .slice q1 m1 d1] 54 (0, 0)) from (heap_setCell_same _ _ 1 _ _ _ (heap_setCell_same _ _ 0 _ _ _ rR22_.out)))
  have z0_ : (((w3.setCell ⟨W.heap.size + 1 + 1, 0, none⟩ (.slice q0 m0 d0)).setCell ⟨W.heap.size + 1 + 1, 1, none⟩ (.slice q1 m1 d1))).cell? ⟨W.heap.size + 1 + 1, 0, none⟩ = some (.slice q0 m0 d0) := cell_of_row _ _ 0 _ _ _ zr_.out
  have z1_ : (((w3.setCell ⟨W.heap.size + 1 + 1, 0, none⟩ (.slice q0 m0 d0)).setCell ⟨W.heap.size + 1 + 1, 1, none⟩ (.slice q1 m1 d1))).cell? ⟨W.heap.size + 1 + 1, 1, none⟩ = some (.slice q1 m1 d1) := cell_of_row _ _ 1 _ _ _ zr_.out
  go_wp2
  refine bodyPost_ret (v := .tuple #[.agg #[.slice q0 m0 d0, .slice q1 m1 d1], .bool false]) (by simp [results, go_sem, z0_, z1_]) rfl ⟨_, _, rfl, ?_, ?_⟩
  · exact OwU.wide (lo := W.heap.size + 1 + 1 + 1) (by omega) (by simp only [World.size_setCell]; omega) (OwU.keep (chg_one _ _ _ _) (.inr (by omega)) (OwU.keep (chg_one _ _ _ _) (.inr (by omega)) oC23_.out))
  · exact (gby_setnew (gby_setnew G24_.out _ (by dsimp only; omega) _) _ (by dsimp only; omega) _)

set_option maxRecDepth 8000 in
set_option maxHeartbeats 4000000 in
theorem implSpendCredits_no (W : World) (u0 u1 vp : Value) (xs ys : List Int) (p : DPacket) (H0 : RdL shI W u0 xs) (H1 : RdL shI W u1 ys) (Hp : RdL shI W vp p.f7) (h0 : szL shI xs ≤ 1048576) (h1 : szL shI ys ≤ 1048576) (hl : szL shI p.f7 ≤ 1048576) (k : Nat) (u : Int) (hc : clsD p = (k : Int)) (hk3 : k < 3) (hcr : CrdOk xs ys) (hu : untD p = u) (hu0 : 0 ≤ u) (hu9 : u ≤ 1000000) (hw : ¬ CanP xs ys (k : Int) u) : Calls Try.prog 37 #[.agg #[u0, u1], (vPacket p.f0 p.f1 p.f2 p.f3 p.f4 p.f5 p.f6 vp)] W (ResISpendCredits xs ys false W) := by
  have HSX := Lib.hid H0
  have HSY := Lib.hid H1
  have HP := Lib.hid Hp
  have HXL := Lib.hid h0
  have HYL := Lib.hid h1
  have HL := Lib.hid hl
  obtain ⟨a0, n0, c0, rfl⟩ := RdL.form H0
  obtain ⟨a1, n1, c1, rfl⟩ := RdL.form H1
  clear H0 H1 Hp h0 h1 hl
  unfold vPacket
  have HCO := Lib.hid hcr
  have HC := Lib.hid hc
  have HU := Lib.hid hu
  have HCR := Lib.hid hcr
  have hx1 := crd_at hcr hk3
  obtain ⟨x, hx⟩ : ∃ x, x = xs.getD k 0 := ⟨_, rfl⟩
  obtain ⟨y, hy⟩ : ∃ y, y = ys.getD k 0 := ⟨_, rfl⟩
  rw [← hx, ← hy] at hx1
  obtain ⟨hxl, hyl, hx0, hx30, hy0, hy30⟩ := hx1
  have HX := Lib.hid hx
  have HY := Lib.hid hy
  have HW := Lib.hid hw
  clear hw
  clear hc hu hcr hx hy
  go_enter Try.func37, Try.ntmps37
  have rA1_ := Lib.hid (show ((((W.alloc (.cells #[.slice a0 n0 c0, .slice a1 n1 c1] 54)).alloc (.cells #[.int .i64 p.f0, .int .i64 p.f1, .int .i64 p.f2, .int .i64 p.f3, .int .i64 p.f4, .int .i64 p.f5, .int .i64 p.f6, vp] 29)).alloc (.cells #[.slice none 0 0, .slice none 0 0] 54))).heap[W.heap.size]? = some (.cells #[.slice a0 n0 c0, .slice a1 n1 c1] 54 (0, 0)) from by rw [heap_alloc_old _ _ (by simp only [World.size_alloc]; omega)]; rw [heap_alloc_old _ _ (by simp only [World.size_alloc]; omega)]; exact heap_alloc_new _ _)
  have rK2_ := Lib.hid (show ((((W.alloc (.cells #[.slice a0 n0 c0, .slice a1 n1 c1] 54)).alloc (.cells #[.int .i64 p.f0, .int .i64 p.f1, .int .i64 p.f2, .int .i64 p.f3, .int .i64 p.f4, .int .i64 p.f5, .int .i64 p.f6, vp] 29)).alloc (.cells #[.slice none 0 0, .slice none 0 0] 54))).heap[W.heap.size + 1]? = some (.cells #[.int .i64 p.f0, .int .i64 p.f1, .int .i64 p.f2, .int .i64 p.f3, .int .i64 p.f4, .int .i64 p.f5, .int .i64 p.f6, vp] 29 (0, 0)) from by rw [heap_alloc_old _ _ (by simp only [World.size_alloc]; omega)]; exact heap_pair _ _ _)
  have rR3_ := Lib.hid (show ((((W.alloc (.cells #[.slice a0 n0 c0, .slice a1 n1 c1] 54)).alloc (.cells #[.int .i64 p.f0, .int .i64 p.f1, .int .i64 p.f2, .int .i64 p.f3, .int .i64 p.f4, .int .i64 p.f5, .int .i64 p.f6, vp] 29)).alloc (.cells #[.slice none 0 0, .slice none 0 0] 54))).heap[W.heap.size + 1 + 1]? = some (.cells #[.slice none 0 0, .slice none 0 0] 54 (0, 0)) from by exact heap_trip _ _ _ _)
  have G4_ := Lib.hid (show (W).grownBy ((((W.alloc (.cells #[.slice a0 n0 c0, .slice a1 n1 c1] 54)).alloc (.cells #[.int .i64 p.f0, .int .i64 p.f1, .int .i64 p.f2, .int .i64 p.f3, .int .i64 p.f4, .int .i64 p.f5, .int .i64 p.f6, vp] 29)).alloc (.cells #[.slice none 0 0, .slice none 0 0] 54))) none from (gby_alloc (gby_alloc (gby_alloc (gby_refl _ _) _) _) _))
  have A_0_ : ((((W.alloc (.cells #[.slice a0 n0 c0, .slice a1 n1 c1] 54)).alloc (.cells #[.int .i64 p.f0, .int .i64 p.f1, .int .i64 p.f2, .int .i64 p.f3, .int .i64 p.f4, .int .i64 p.f5, .int .i64 p.f6, vp] 29)).alloc (.cells #[.slice none 0 0, .slice none 0 0] 54))).cell? ⟨W.heap.size, 0, none⟩ = some (.slice a0 n0 c0) := cell_of_row _ _ 0 _ _ _ rA1_.out
  have A_1_ : ((((W.alloc (.cells #[.slice a0 n0 c0, .slice a1 n1 c1] 54)).alloc (.cells #[.int .i64 p.f0, .int .i64 p.f1, .int .i64 p.f2, .int .i64 p.f3, .int .i64 p.f4, .int .i64 p.f5, .int .i64 p.f6, vp] 29)).alloc (.cells #[.slice none 0 0, .slice none 0 0] 54))).cell? ⟨W.heap.size, 1, none⟩ = some (.slice a1 n1 c1) := cell_of_row _ _ 1 _ _ _ rA1_.out
  have K_0_ : ((((W.alloc (.cells #[.slice a0 n0 c0, .slice a1 n1 c1] 54)).alloc (.cells #[.int .i64 p.f0, .int .i64 p.f1, .int .i64 p.f2, .int .i64 p.f3, .int .i64 p.f4, .int .i64 p.f5, .int .i64 p.f6, vp] 29)).alloc (.cells #[.slice none 0 0, .slice none 0 0] 54))).cell? ⟨W.heap.size + 1, 0, none⟩ = some (.int .i64 p.f0) := cell_of_row _ _ 0 _ _ _ rK2_.out
  have K_1_ : ((((W.alloc (.cells #[.slice a0 n0 c0, .slice a1 n1 c1] 54)).alloc (.cells #[.int .i64 p.f0, .int .i64 p.f1, .int .i64 p.f2, .int .i64 p.f3, .int .i64 p.f4, .int .i64 p.f5, .int .i64 p.f6, vp] 29)).alloc (.cells #[.slice none 0 0, .slice none 0 0] 54))).cell? ⟨W.heap.size + 1, 1, none⟩ = some (.int .i64 p.f1) := cell_of_row _ _ 1 _ _ _ rK2_.out
  have K_2_ : ((((W.alloc (.cells #[.slice a0 n0 c0, .slice a1 n1 c1] 54)).alloc (.cells #[.int .i64 p.f0, .int .i64 p.f1, .int .i64 p.f2, .int .i64 p.f3, .int .i64 p.f4, .int .i64 p.f5, .int .i64 p.f6, vp] 29)).alloc (.cells #[.slice none 0 0, .slice none 0 0] 54))).cell? ⟨W.heap.size + 1, 2, none⟩ = some (.int .i64 p.f2) := cell_of_row _ _ 2 _ _ _ rK2_.out
  have K_3_ : ((((W.alloc (.cells #[.slice a0 n0 c0, .slice a1 n1 c1] 54)).alloc (.cells #[.int .i64 p.f0, .int .i64 p.f1, .int .i64 p.f2, .int .i64 p.f3, .int .i64 p.f4, .int .i64 p.f5, .int .i64 p.f6, vp] 29)).alloc (.cells #[.slice none 0 0, .slice none 0 0] 54))).cell? ⟨W.heap.size + 1, 3, none⟩ = some (.int .i64 p.f3) := cell_of_row _ _ 3 _ _ _ rK2_.out
  have K_4_ : ((((W.alloc (.cells #[.slice a0 n0 c0, .slice a1 n1 c1] 54)).alloc (.cells #[.int .i64 p.f0, .int .i64 p.f1, .int .i64 p.f2, .int .i64 p.f3, .int .i64 p.f4, .int .i64 p.f5, .int .i64 p.f6, vp] 29)).alloc (.cells #[.slice none 0 0, .slice none 0 0] 54))).cell? ⟨W.heap.size + 1, 4, none⟩ = some (.int .i64 p.f4) := cell_of_row _ _ 4 _ _ _ rK2_.out
  have K_5_ : ((((W.alloc (.cells #[.slice a0 n0 c0, .slice a1 n1 c1] 54)).alloc (.cells #[.int .i64 p.f0, .int .i64 p.f1, .int .i64 p.f2, .int .i64 p.f3, .int .i64 p.f4, .int .i64 p.f5, .int .i64 p.f6, vp] 29)).alloc (.cells #[.slice none 0 0, .slice none 0 0] 54))).cell? ⟨W.heap.size + 1, 5, none⟩ = some (.int .i64 p.f5) := cell_of_row _ _ 5 _ _ _ rK2_.out
  have K_6_ : ((((W.alloc (.cells #[.slice a0 n0 c0, .slice a1 n1 c1] 54)).alloc (.cells #[.int .i64 p.f0, .int .i64 p.f1, .int .i64 p.f2, .int .i64 p.f3, .int .i64 p.f4, .int .i64 p.f5, .int .i64 p.f6, vp] 29)).alloc (.cells #[.slice none 0 0, .slice none 0 0] 54))).cell? ⟨W.heap.size + 1, 6, none⟩ = some (.int .i64 p.f6) := cell_of_row _ _ 6 _ _ _ rK2_.out
  have K_7_ : ((((W.alloc (.cells #[.slice a0 n0 c0, .slice a1 n1 c1] 54)).alloc (.cells #[.int .i64 p.f0, .int .i64 p.f1, .int .i64 p.f2, .int .i64 p.f3, .int .i64 p.f4, .int .i64 p.f5, .int .i64 p.f6, vp] 29)).alloc (.cells #[.slice none 0 0, .slice none 0 0] 54))).cell? ⟨W.heap.size + 1, 7, none⟩ = some (vp) := cell_of_row _ _ 7 _ _ _ rK2_.out
  have R_0_ : ((((W.alloc (.cells #[.slice a0 n0 c0, .slice a1 n1 c1] 54)).alloc (.cells #[.int .i64 p.f0, .int .i64 p.f1, .int .i64 p.f2, .int .i64 p.f3, .int .i64 p.f4, .int .i64 p.f5, .int .i64 p.f6, vp] 29)).alloc (.cells #[.slice none 0 0, .slice none 0 0] 54))).cell? ⟨W.heap.size + 1 + 1, 0, none⟩ = some (.slice none 0 0) := cell_of_row _ _ 0 _ _ _ rR3_.out
  have R_1_ : ((((W.alloc (.cells #[.slice a0 n0 c0, .slice a1 n1 c1] 54)).alloc (.cells #[.int .i64 p.f0, .int .i64 p.f1, .int .i64 p.f2, .int .i64 p.f3, .int .i64 p.f4, .int .i64 p.f5, .int .i64 p.f6, vp] 29)).alloc (.cells #[.slice none 0 0, .slice none 0 0] 54))).cell? ⟨W.heap.size + 1 + 1, 1, none⟩ = some (.slice none 0 0) := cell_of_row _ _ 1 _ _ _ rR3_.out
  go_wp2_with fail
  go_at_call 87
  refine (copiedCr_d _ _ _ xs ys (HSX.out.grow G4_.out) (HSY.out.grow G4_.out) HXL.out HYL.out).mono ?_
  rintro e w1 ⟨z0, z1, rfl, o, g⟩
  have sz_ := g.size
  try simp only [World.size_alloc] at sz_ o
  clear A_0_ A_1_ K_0_ K_1_ K_2_ K_3_ K_4_ K_5_ K_6_ K_7_ R_0_ R_1_
  have rA5_ := Lib.hid (show (w1).heap[W.heap.size]? = some (.cells #[.slice a0 n0 c0, .slice a1 n1 c1] 54 (0, 0)) from row_held g rA1_.out)
  clear rA1_
  have rK6_ := Lib.hid (show (w1).heap[W.heap.size + 1]? = some (.cells #[.int .i64 p.f0, .int .i64 p.f1, .int .i64 p.f2, .int .i64 p.f3, .int .i64 p.f4, .int .i64 p.f5, .int .i64 p.f6, vp] 29 (0, 0)) from row_held g rK2_.out)
  clear rK2_
  have rR7_ := Lib.hid (show (w1).heap[W.heap.size + 1 + 1]? = some (.cells #[.slice none 0 0, .slice none 0 0] 54 (0, 0)) from row_held g rR3_.out)
  clear rR3_
  have G8_ := Lib.hid (show (W).grownBy (w1) none from gby_trans G4_.out g)
  clear g
  obtain ⟨q0, m0, d0, hv_⟩ := RdL.form (OwU.rd o)
  subst hv_
  obtain ⟨q1, m1, d1, hv_⟩ := RdL.form (OwU.rd (OwU.tail o))
  subst hv_
  unfold vCredits
  have oC9_ := Lib.hid (show OwU (w1) ((W.heap.size + 1 + 1 + 1)) (w1.heap.size) [] [own shI (.slice q0 m0 d0) xs, own shI (.slice q1 m1 d1) ys] from o)
  clear o
  have A_0_ : (w1).cell? ⟨W.heap.size, 0, none⟩ = some (.slice a0 n0 c0) := cell_of_row _ _ 0 _ _ _ rA5_.out
  have A_1_ : (w1).cell? ⟨W.heap.size, 1, none⟩ = some (.slice a1 n1 c1) := cell_of_row _ _ 1 _ _ _ rA5_.out
  have Af0_ : (w1).frozen? ⟨W.heap.size, 0, none⟩ = false := frozen_of_row _ _ 0 _ _ rA5_.out
  have Af1_ : (w1).frozen? ⟨W.heap.size, 1, none⟩ = false := frozen_of_row _ _ 1 _ _ rA5_.out
  have K_0_ : (w1).cell? ⟨W.heap.size + 1, 0, none⟩ = some (.int .i64 p.f0) := cell_of_row _ _ 0 _ _ _ rK6_.out
  have K_1_ : (w1).cell? ⟨W.heap.size + 1, 1, none⟩ = some (.int .i64 p.f1) := cell_of_row _ _ 1 _ _ _ rK6_.out
  have K_2_ : (w1).cell? ⟨W.heap.size + 1, 2, none⟩ = some (.int .i64 p.f2) := cell_of_row _ _ 2 _ _ _ rK6_.out
  have K_3_ : (w1).cell? ⟨W.heap.size + 1, 3, none⟩ = some (.int .i64 p.f3) := cell_of_row _ _ 3 _ _ _ rK6_.out
  have K_4_ : (w1).cell? ⟨W.heap.size + 1, 4, none⟩ = some (.int .i64 p.f4) := cell_of_row _ _ 4 _ _ _ rK6_.out
  have K_5_ : (w1).cell? ⟨W.heap.size + 1, 5, none⟩ = some (.int .i64 p.f5) := cell_of_row _ _ 5 _ _ _ rK6_.out
  have K_6_ : (w1).cell? ⟨W.heap.size + 1, 6, none⟩ = some (.int .i64 p.f6) := cell_of_row _ _ 6 _ _ _ rK6_.out
  have K_7_ : (w1).cell? ⟨W.heap.size + 1, 7, none⟩ = some (vp) := cell_of_row _ _ 7 _ _ _ rK6_.out
  have R_0_ : (w1).cell? ⟨W.heap.size + 1 + 1, 0, none⟩ = some (.slice none 0 0) := cell_of_row _ _ 0 _ _ _ rR7_.out
  have R_1_ : (w1).cell? ⟨W.heap.size + 1 + 1, 1, none⟩ = some (.slice none 0 0) := cell_of_row _ _ 1 _ _ _ rR7_.out
  go_wp2_with fail
  go_at_call 47
  clear A_0_ A_1_ Af0_ Af1_ K_0_ K_1_ K_2_ K_3_ K_4_ K_5_ K_6_ K_7_ R_0_ R_1_
  have rK10_ := Lib.hid (show (((w1.setCell ⟨W.heap.size, 0, none⟩ (.slice q0 m0 d0)).setCell ⟨W.heap.size, 1, none⟩ (.slice q1 m1 d1))).heap[W.heap.size + 1]? = some (.cells #[.int .i64 p.f0, .int .i64 p.f1, .int .i64 p.f2, .int .i64 p.f3, .int .i64 p.f4, .int .i64 p.f5, .int .i64 p.f6, vp] 29 (0, 0)) from (set_far (set_far rK6_.out (by dsimp only; omega)) (by dsimp only; omega)))
  clear rK6_
  have rR11_ := Lib.hid (show (((w1.setCell ⟨W.heap.size, 0, none⟩ (.slice q0 m0 d0)).setCell ⟨W.heap.size, 1, none⟩ (.slice q1 m1 d1))).heap[W.heap.size + 1 + 1]? = some (.cells #[.slice none 0 0, .slice none 0 0] 54 (0, 0)) from (set_far (set_far rR7_.out (by dsimp only; omega)) (by dsimp only; omega)))
  clear rR7_
  have rA12_ := Lib.hid (show (((w1.setCell ⟨W.heap.size, 0, none⟩ (.slice q0 m0 d0)).setCell ⟨W.heap.size, 1, none⟩ (.slice q1 m1 d1))).heap[W.heap.size]? = some (.cells #[.slice q0 m0 d0, .slice q1 m1 d1] 54 (0, 0)) from (heap_setCell_same _ _ 1 _ _ _ (heap_setCell_same _ _ 0 _ _ _ rA5_.out)))
  clear rA5_
  have oC13_ := Lib.hid (show OwU (((w1.setCell ⟨W.heap.size, 0, none⟩ (.slice q0 m0 d0)).setCell ⟨W.heap.size, 1, none⟩ (.slice q1 m1 d1))) ((W.heap.size + 1 + 1 + 1)) (w1.heap.size) [] [own shI (.slice q0 m0 d0) xs, own shI (.slice q1 m1 d1) ys] from (OwU.keep (chg_one _ _ _ _) (by omega) (OwU.keep (chg_one _ _ _ _) (by omega) oC9_.out)))
  clear oC9_
  have G14_ := Lib.hid (show (W).grownBy (((w1.setCell ⟨W.heap.size, 0, none⟩ (.slice q0 m0 d0)).setCell ⟨W.heap.size, 1, none⟩ (.slice q1 m1 d1))) none from (gby_setnew (gby_setnew G8_.out _ (by dsimp only; omega) _) _ (by dsimp only; omega) _))
  have A_0_ : (((w1.setCell ⟨W.heap.size, 0, none⟩ (.slice q0 m0 d0)).setCell ⟨W.heap.size, 1, none⟩ (.slice q1 m1 d1))).cell? ⟨W.heap.size, 0, none⟩ = some (.slice q0 m0 d0) := cell_of_row _ _ 0 _ _ _ rA12_.out
  have A_1_ : (((w1.setCell ⟨W.heap.size, 0, none⟩ (.slice q0 m0 d0)).setCell ⟨W.heap.size, 1, none⟩ (.slice q1 m1 d1))).cell? ⟨W.heap.size, 1, none⟩ = some (.slice q1 m1 d1) := cell_of_row _ _ 1 _ _ _ rA12_.out
  have K_0_ : (((w1.setCell ⟨W.heap.size, 0, none⟩ (.slice q0 m0 d0)).setCell ⟨W.heap.size, 1, none⟩ (.slice q1 m1 d1))).cell? ⟨W.heap.size + 1, 0, none⟩ = some (.int .i64 p.f0) := cell_of_row _ _ 0 _ _ _ rK10_.out
  have K_1_ : (((w1.setCell ⟨W.heap.size, 0, none⟩ (.slice q0 m0 d0)).setCell ⟨W.heap.size, 1, none⟩ (.slice q1 m1 d1))).cell? ⟨W.heap.size + 1, 1, none⟩ = some (.int .i64 p.f1) := cell_of_row _ _ 1 _ _ _ rK10_.out
  have K_2_ : (((w1.setCell ⟨W.heap.size, 0, none⟩ (.slice q0 m0 d0)).setCell ⟨W.heap.size, 1, none⟩ (.slice q1 m1 d1))).cell? ⟨W.heap.size + 1, 2, none⟩ = some (.int .i64 p.f2) := cell_of_row _ _ 2 _ _ _ rK10_.out
  have K_3_ : (((w1.setCell ⟨W.heap.size, 0, none⟩ (.slice q0 m0 d0)).setCell ⟨W.heap.size, 1, none⟩ (.slice q1 m1 d1))).cell? ⟨W.heap.size + 1, 3, none⟩ = some (.int .i64 p.f3) := cell_of_row _ _ 3 _ _ _ rK10_.out
  have K_4_ : (((w1.setCell ⟨W.heap.size, 0, none⟩ (.slice q0 m0 d0)).setCell ⟨W.heap.size, 1, none⟩ (.slice q1 m1 d1))).cell? ⟨W.heap.size + 1, 4, none⟩ = some (.int .i64 p.f4) := cell_of_row _ _ 4 _ _ _ rK10_.out
  have K_5_ : (((w1.setCell ⟨W.heap.size, 0, none⟩ (.slice q0 m0 d0)).setCell ⟨W.heap.size, 1, none⟩ (.slice q1 m1 d1))).cell? ⟨W.heap.size + 1, 5, none⟩ = some (.int .i64 p.f5) := cell_of_row _ _ 5 _ _ _ rK10_.out
  have K_6_ : (((w1.setCell ⟨W.heap.size, 0, none⟩ (.slice q0 m0 d0)).setCell ⟨W.heap.size, 1, none⟩ (.slice q1 m1 d1))).cell? ⟨W.heap.size + 1, 6, none⟩ = some (.int .i64 p.f6) := cell_of_row _ _ 6 _ _ _ rK10_.out
  have K_7_ : (((w1.setCell ⟨W.heap.size, 0, none⟩ (.slice q0 m0 d0)).setCell ⟨W.heap.size, 1, none⟩ (.slice q1 m1 d1))).cell? ⟨W.heap.size + 1, 7, none⟩ = some (vp) := cell_of_row _ _ 7 _ _ _ rK10_.out
  have R_0_ : (((w1.setCell ⟨W.heap.size, 0, none⟩ (.slice q0 m0 d0)).setCell ⟨W.heap.size, 1, none⟩ (.slice q1 m1 d1))).cell? ⟨W.heap.size + 1 + 1, 0, none⟩ = some (.slice none 0 0) := cell_of_row _ _ 0 _ _ _ rR11_.out
  have R_1_ : (((w1.setCell ⟨W.heap.size, 0, none⟩ (.slice q0 m0 d0)).setCell ⟨W.heap.size, 1, none⟩ (.slice q1 m1 d1))).cell? ⟨W.heap.size + 1 + 1, 1, none⟩ = some (.slice none 0 0) := cell_of_row _ _ 1 _ _ _ rR11_.out
  refine (implCrD _ _ _ xs ys (OwU.rd oC13_.out) (OwU.rd (OwU.tail oC13_.out)) HXL.out HYL.out true (by rw [decide_eq_true HCO.out])).mono ?_
  rintro e w2 ⟨rfl, g⟩
  have szw2 := g.size
  try simp only [World.size_setCell] at szw2
  try simp only [World.size_alloc] at szw2
  clear A_0_ A_1_ K_0_ K_1_ K_2_ K_3_ K_4_ K_5_ K_6_ K_7_ R_0_ R_1_
  have rA15_ := Lib.hid (show (w2).heap[W.heap.size]? = some (.cells #[.slice q0 m0 d0, .slice q1 m1 d1] 54 (0, 0)) from row_held g rA12_.out)
  clear rA12_
  have rK16_ := Lib.hid (show (w2).heap[W.heap.size + 1]? = some (.cells #[.int .i64 p.f0, .int .i64 p.f1, .int .i64 p.f2, .int .i64 p.f3, .int .i64 p.f4, .int .i64 p.f5, .int .i64 p.f6, vp] 29 (0, 0)) from row_held g rK10_.out)
  clear rK10_
  have rR17_ := Lib.hid (show (w2).heap[W.heap.size + 1 + 1]? = some (.cells #[.slice none 0 0, .slice none 0 0] 54 (0, 0)) from row_held g rR11_.out)
  clear rR11_
  have oC18_ := Lib.hid (show OwU (w2) ((W.heap.size + 1 + 1 + 1)) (w1.heap.size) [] [own shI (.slice q0 m0 d0) xs, own shI (.slice q1 m1 d1) ys] from OwU.grow oC13_.out g)
  clear oC13_
  have G19_ := Lib.hid (show (W).grownBy (w2) none from gby_trans G14_.out g)
  clear g
  have A_0_ : (w2).cell? ⟨W.heap.size, 0, none⟩ = some (.slice q0 m0 d0) := cell_of_row _ _ 0 _ _ _ rA15_.out
  have A_1_ : (w2).cell? ⟨W.heap.size, 1, none⟩ = some (.slice q1 m1 d1) := cell_of_row _ _ 1 _ _ _ rA15_.out
  have K_0_ : (w2).cell? ⟨W.heap.size + 1, 0, none⟩ = some (.int .i64 p.f0) := cell_of_row _ _ 0 _ _ _ rK16_.out
  have K_1_ : (w2).cell? ⟨W.heap.size + 1, 1, none⟩ = some (.int .i64 p.f1) := cell_of_row _ _ 1 _ _ _ rK16_.out
  have K_2_ : (w2).cell? ⟨W.heap.size + 1, 2, none⟩ = some (.int .i64 p.f2) := cell_of_row _ _ 2 _ _ _ rK16_.out
  have K_3_ : (w2).cell? ⟨W.heap.size + 1, 3, none⟩ = some (.int .i64 p.f3) := cell_of_row _ _ 3 _ _ _ rK16_.out
  have K_4_ : (w2).cell? ⟨W.heap.size + 1, 4, none⟩ = some (.int .i64 p.f4) := cell_of_row _ _ 4 _ _ _ rK16_.out
  have K_5_ : (w2).cell? ⟨W.heap.size + 1, 5, none⟩ = some (.int .i64 p.f5) := cell_of_row _ _ 5 _ _ _ rK16_.out
  have K_6_ : (w2).cell? ⟨W.heap.size + 1, 6, none⟩ = some (.int .i64 p.f6) := cell_of_row _ _ 6 _ _ _ rK16_.out
  have K_7_ : (w2).cell? ⟨W.heap.size + 1, 7, none⟩ = some (vp) := cell_of_row _ _ 7 _ _ _ rK16_.out
  have R_0_ : (w2).cell? ⟨W.heap.size + 1 + 1, 0, none⟩ = some (.slice none 0 0) := cell_of_row _ _ 0 _ _ _ rR17_.out
  have R_1_ : (w2).cell? ⟨W.heap.size + 1 + 1, 1, none⟩ = some (.slice none 0 0) := cell_of_row _ _ 1 _ _ _ rR17_.out
  go_wp2_with fail
  go_at_call 30
  refine (implPkD _ p _ (HP.out.grow G19_.out) HL.out true (by rw [decide_eq_true (by rw [HC.out]; omega)])).mono ?_
  rintro e w3 ⟨rfl, g⟩
  have szw3 := g.size
  try simp only [World.size_alloc] at szw3
  try simp only [World.size_setCell] at szw3
  clear A_0_ A_1_ K_0_ K_1_ K_2_ K_3_ K_4_ K_5_ K_6_ K_7_ R_0_ R_1_
  have rA20_ := Lib.hid (show (w3).heap[W.heap.size]? = some (.cells #[.slice q0 m0 d0, .slice q1 m1 d1] 54 (0, 0)) from row_held g rA15_.out)
  clear rA15_
  have rK21_ := Lib.hid (show (w3).heap[W.heap.size + 1]? = some (.cells #[.int .i64 p.f0, .int .i64 p.f1, .int .i64 p.f2, .int .i64 p.f3, .int .i64 p.f4, .int .i64 p.f5, .int .i64 p.f6, vp] 29 (0, 0)) from row_held g rK16_.out)
  clear rK16_
  have rR22_ := Lib.hid (show (w3).heap[W.heap.size + 1 + 1]? = some (.cells #[.slice none 0 0, .slice none 0 0] 54 (0, 0)) from row_held g rR17_.out)
  clear rR17_
  have oC23_ := Lib.hid (show OwU (w3) ((W.heap.size + 1 + 1 + 1)) (w1.heap.size) [] [own shI (.slice q0 m0 d0) xs, own shI (.slice q1 m1 d1) ys] from OwU.grow oC18_.out g)
  clear oC18_
  have G24_ := Lib.hid (show (W).grownBy (w3) none from gby_trans G19_.out g)
  clear g
  have A_0_ : (w3).cell? ⟨W.heap.size, 0, none⟩ = some (.slice q0 m0 d0) := cell_of_row _ _ 0 _ _ _ rA20_.out
  have A_1_ : (w3).cell? ⟨W.heap.size, 1, none⟩ = some (.slice q1 m1 d1) := cell_of_row _ _ 1 _ _ _ rA20_.out
  have K_0_ : (w3).cell? ⟨W.heap.size + 1, 0, none⟩ = some (.int .i64 p.f0) := cell_of_row _ _ 0 _ _ _ rK21_.out
  have K_1_ : (w3).cell? ⟨W.heap.size + 1, 1, none⟩ = some (.int .i64 p.f1) := cell_of_row _ _ 1 _ _ _ rK21_.out
  have K_2_ : (w3).cell? ⟨W.heap.size + 1, 2, none⟩ = some (.int .i64 p.f2) := cell_of_row _ _ 2 _ _ _ rK21_.out
  have K_3_ : (w3).cell? ⟨W.heap.size + 1, 3, none⟩ = some (.int .i64 p.f3) := cell_of_row _ _ 3 _ _ _ rK21_.out
  have K_4_ : (w3).cell? ⟨W.heap.size + 1, 4, none⟩ = some (.int .i64 p.f4) := cell_of_row _ _ 4 _ _ _ rK21_.out
  have K_5_ : (w3).cell? ⟨W.heap.size + 1, 5, none⟩ = some (.int .i64 p.f5) := cell_of_row _ _ 5 _ _ _ rK21_.out
  have K_6_ : (w3).cell? ⟨W.heap.size + 1, 6, none⟩ = some (.int .i64 p.f6) := cell_of_row _ _ 6 _ _ _ rK21_.out
  have K_7_ : (w3).cell? ⟨W.heap.size + 1, 7, none⟩ = some (vp) := cell_of_row _ _ 7 _ _ _ rK21_.out
  have R_0_ : (w3).cell? ⟨W.heap.size + 1 + 1, 0, none⟩ = some (.slice none 0 0) := cell_of_row _ _ 0 _ _ _ rR22_.out
  have R_1_ : (w3).cell? ⟨W.heap.size + 1 + 1, 1, none⟩ = some (.slice none 0 0) := cell_of_row _ _ 1 _ _ _ rR22_.out
  have HCON := Lib.hid (show ∀ (w : World), w.heap[W.heap.size]? = some (.cells #[.slice q0 m0 d0, .slice q1 m1 d1] 54 (0, 0)) → OwU w (W.heap.size + 1 + 1 + 1) (w1.heap.size) [] [own shI (.slice q0 m0 d0) xs, own shI (.slice q1 m1 d1) ys] → W.grownBy w none → w1.heap.size ≤ w.heap.size → Calls Try.prog 88 #[.pointer (some ⟨W.heap.size, 0, none⟩), .agg #[.int .i64 p.f0, .int .i64 p.f1, .int .i64 p.f2, .int .i64 p.f3, .int .i64 p.f4, .int .i64 p.f5, .int .i64 p.f6, vp]] w (SpPost false (W.heap.size + 1 + 1 + 1) (w1.heap.size) (.slice q0 m0 d0) (.slice q1 m1 d1) xs ys w) from fun w r1 r2 r3 r4 => by
    have q := spend_no w W.heap.size (W.heap.size + 1 + 1 + 1) (w1.heap.size) k (.slice q0 m0 d0) (.slice q1 m1 d1) vp xs ys p r1 r2 (.inl (by omega)) r4 (HP.out.grow r3) (fun w' gc => HP.out.grow (gby_chg r3 gc (by omega))) HL.out HC.out hk3 HCR.out u HU.out hu0 hu9 HW.out
    skip
    exact q)
  go_wp2_with fail
  go_at_call 88
  refine (HCON.out _ rA20_.out oC23_.out G24_.out (by omega)).mono ?_
  rintro e w4 ⟨rfl, o, gc⟩
  have szv_ := gc.size
  have NR_ := Lib.hid (show w4.heap[W.heap.size + 1 + 1]? = some (.cells #[.slice none 0 0, .slice none 0 0] 54 (0, 0)) from Chg.keep gc rR22_.out (.inl (by omega)))
  have NA_ := Lib.hid (show w4.heap[W.heap.size]? = some (.cells #[.slice q0 m0 d0, .slice q1 m1 d1] 54 (0, 0)) from Chg.keep gc rA20_.out (.inl (by omega)))
  have NO_ := Lib.hid o
  have NG_ := Lib.hid (gby_chg G24_.out gc (by omega))
  clear o gc
  clear A_0_ A_1_ K_0_ K_1_ K_2_ K_3_ K_4_ K_5_ K_6_ K_7_ R_0_ R_1_
  have G25_ := Lib.hid (show (W).grownBy (w4) none from NG_.out)
  have A_0_ : (w4).cell? ⟨W.heap.size, 0, none⟩ = some (.slice q0 m0 d0) := cell_of_row _ _ 0 _ _ _ NA_.out
  have A_1_ : (w4).cell? ⟨W.heap.size, 1, none⟩ = some (.slice q1 m1 d1) := cell_of_row _ _ 1 _ _ _ NA_.out
  have R_0_ : (w4).cell? ⟨W.heap.size + 1 + 1, 0, none⟩ = some (.slice none 0 0) := cell_of_row _ _ 0 _ _ _ NR_.out
  have R_1_ : (w4).cell? ⟨W.heap.size + 1 + 1, 1, none⟩ = some (.slice none 0 0) := cell_of_row _ _ 1 _ _ _ NR_.out
  clear A_0_ A_1_ R_0_ R_1_
  have A_0_ : (w4).cell? ⟨W.heap.size, 0, none⟩ = some (.slice q0 m0 d0) := cell_of_row _ _ 0 _ _ _ NA_.out
  have A_1_ : (w4).cell? ⟨W.heap.size, 1, none⟩ = some (.slice q1 m1 d1) := cell_of_row _ _ 1 _ _ _ NA_.out
  have R_0_ : (w4).cell? ⟨W.heap.size + 1 + 1, 0, none⟩ = some (.slice none 0 0) := cell_of_row _ _ 0 _ _ _ NR_.out
  have R_1_ : (w4).cell? ⟨W.heap.size + 1 + 1, 1, none⟩ = some (.slice none 0 0) := cell_of_row _ _ 1 _ _ _ NR_.out
  have Rf0_ : (w4).frozen? ⟨W.heap.size + 1 + 1, 0, none⟩ = false := frozen_of_row _ _ 0 _ _ NR_.out
  have Rf1_ : (w4).frozen? ⟨W.heap.size + 1 + 1, 1, none⟩ = false := frozen_of_row _ _ 1 _ _ NR_.out
  have zr_ := Lib.hid (show (((w4.setCell ⟨W.heap.size + 1 + 1, 0, none⟩ (.slice q0 m0 d0)).setCell ⟨W.heap.size + 1 + 1, 1, none⟩ (.slice q1 m1 d1))).heap[W.heap.size + 1 + 1]? = some (.cells #[.slice q0 m0 d0, .slice q1 m1 d1] 54 (0, 0)) from (heap_setCell_same _ _ 1 _ _ _ (heap_setCell_same _ _ 0 _ _ _ NR_.out)))
  have z0_ : (((w4.setCell ⟨W.heap.size + 1 + 1, 0, none⟩ (.slice q0 m0 d0)).setCell ⟨W.heap.size + 1 + 1, 1, none⟩ (.slice q1 m1 d1))).cell? ⟨W.heap.size + 1 + 1, 0, none⟩ = some (.slice q0 m0 d0) := cell_of_row _ _ 0 _ _ _ zr_.out
  have z1_ : (((w4.setCell ⟨W.heap.size + 1 + 1, 0, none⟩ (.slice q0 m0 d0)).setCell ⟨W.heap.size + 1 + 1, 1, none⟩ (.slice q1 m1 d1))).cell? ⟨W.heap.size + 1 + 1, 1, none⟩ = some (.slice q1 m1 d1) := cell_of_row _ _ 1 _ _ _ zr_.out
  go_wp2
  refine bodyPost_ret (v := .tuple #[.agg #[.slice q0 m0 d0, .slice q1 m1 d1], .bool false]) (by simp [results, go_sem, z0_, z1_]) rfl ⟨_, _, rfl, ?_, ?_⟩
  · exact OwU.wide (lo := W.heap.size + 1 + 1 + 1) (by omega) (by simp only [World.size_setCell]; omega) (OwU.keep (chg_one _ _ _ _) (.inr (by omega)) (OwU.keep (chg_one _ _ _ _) (.inr (by omega)) NO_.out))
  · exact (gby_setnew (gby_setnew G25_.out _ (by dsimp only; omega) _) _ (by dsimp only; omega) _)

set_option maxRecDepth 8000 in
set_option maxHeartbeats 4000000 in
theorem implSpendCredits_yes (W : World) (u0 u1 vp : Value) (xs ys : List Int) (p : DPacket) (H0 : RdL shI W u0 xs) (H1 : RdL shI W u1 ys) (Hp : RdL shI W vp p.f7) (h0 : szL shI xs ≤ 1048576) (h1 : szL shI ys ≤ 1048576) (hl : szL shI p.f7 ≤ 1048576) (k : Nat) (u : Int) (hc : clsD p = (k : Int)) (hk3 : k < 3) (hcr : CrdOk xs ys) (hu : untD p = u) (hu0 : 0 ≤ u) (hu9 : u ≤ 1000000) (hw : CanP xs ys (k : Int) u) (hux : u ≤ ys.getD k 0) : Calls Try.prog 37 #[.agg #[u0, u1], (vPacket p.f0 p.f1 p.f2 p.f3 p.f4 p.f5 p.f6 vp)] W (ResISpendCredits (xs.set k (xs.getD k 0 - 1)) (ys.set k (ys.getD k 0 - u)) true W) := by
  have HSX := Lib.hid H0
  have HSY := Lib.hid H1
  have HP := Lib.hid Hp
  have HXL := Lib.hid h0
  have HYL := Lib.hid h1
  have HL := Lib.hid hl
  obtain ⟨a0, n0, c0, rfl⟩ := RdL.form H0
  obtain ⟨a1, n1, c1, rfl⟩ := RdL.form H1
  clear H0 H1 Hp h0 h1 hl
  unfold vPacket
  have HCO := Lib.hid hcr
  have HC := Lib.hid hc
  have HU := Lib.hid hu
  have HCR := Lib.hid hcr
  have hx1 := crd_at hcr hk3
  obtain ⟨x, hx⟩ : ∃ x, x = xs.getD k 0 := ⟨_, rfl⟩
  obtain ⟨y, hy⟩ : ∃ y, y = ys.getD k 0 := ⟨_, rfl⟩
  rw [← hx, ← hy] at hx1
  obtain ⟨hxl, hyl, hx0, hx30, hy0, hy30⟩ := hx1
  have HX := Lib.hid hx
  have HY := Lib.hid hy
  have HW := Lib.hid hw
  have HUX := Lib.hid hux
  clear hux
  clear hw
  clear hc hu hcr hx hy
  obtain ⟨rx, hrx⟩ : ∃ r, r = xs.set k (xs.getD k 0 - 1) := ⟨_, rfl⟩
  obtain ⟨ry, hry⟩ : ∃ r, r = ys.set k (ys.getD k 0 - u) := ⟨_, rfl⟩
  have HRX := Lib.hid hrx.symm
  have HRY := Lib.hid hry.symm
  rw [← hrx, ← hry]
  clear hrx hry
  go_enter Try.func37, Try.ntmps37
  have rA1_ := Lib.hid (show ((((W.alloc (.cells #[.slice a0 n0 c0, .slice a1 n1 c1] 54)).alloc (.cells #[.int .i64 p.f0, .int .i64 p.f1, .int .i64 p.f2, .int .i64 p.f3, .int .i64 p.f4, .int .i64 p.f5, .int .i64 p.f6, vp] 29)).alloc (.cells #[.slice none 0 0, .slice none 0 0] 54))).heap[W.heap.size]? = some (.cells #[.slice a0 n0 c0, .slice a1 n1 c1] 54 (0, 0)) from by rw [heap_alloc_old _ _ (by simp only [World.size_alloc]; omega)]; rw [heap_alloc_old _ _ (by simp only [World.size_alloc]; omega)]; exact heap_alloc_new _ _)
  have rK2_ := Lib.hid (show ((((W.alloc (.cells #[.slice a0 n0 c0, .slice a1 n1 c1] 54)).alloc (.cells #[.int .i64 p.f0, .int .i64 p.f1, .int .i64 p.f2, .int .i64 p.f3, .int .i64 p.f4, .int .i64 p.f5, .int .i64 p.f6, vp] 29)).alloc (.cells #[.slice none 0 0, .slice none 0 0] 54))).heap[W.heap.size + 1]? = some (.cells #[.int .i64 p.f0, .int .i64 p.f1, .int .i64 p.f2, .int .i64 p.f3, .int .i64 p.f4, .int .i64 p.f5, .int .i64 p.f6, vp] 29 (0, 0)) from by rw [heap_alloc_old _ _ (by simp only [World.size_alloc]; omega)]; exact heap_pair _ _ _)
  have rR3_ := Lib.hid (show ((((W.alloc (.cells #[.slice a0 n0 c0, .slice a1 n1 c1] 54)).alloc (.cells #[.int .i64 p.f0, .int .i64 p.f1, .int .i64 p.f2, .int .i64 p.f3, .int .i64 p.f4, .int .i64 p.f5, .int .i64 p.f6, vp] 29)).alloc (.cells #[.slice none 0 0, .slice none 0 0] 54))).heap[W.heap.size + 1 + 1]? = some (.cells #[.slice none 0 0, .slice none 0 0] 54 (0, 0)) from by exact heap_trip _ _ _ _)
  have G4_ := Lib.hid (show (W).grownBy ((((W.alloc (.cells #[.slice a0 n0 c0, .slice a1 n1 c1] 54)).alloc (.cells #[.int .i64 p.f0, .int .i64 p.f1, .int .i64 p.f2, .int .i64 p.f3, .int .i64 p.f4, .int .i64 p.f5, .int .i64 p.f6, vp] 29)).alloc (.cells #[.slice none 0 0, .slice none 0 0] 54))) none from (gby_alloc (gby_alloc (gby_alloc (gby_refl _ _) _) _) _))
  have A_0_ : ((((W.alloc (.cells #[.slice a0 n0 c0, .slice a1 n1 c1] 54)).alloc (.cells #[.int .i64 p.f0, .int .i64 p.f1, .int .i64 p.f2, .int .i64 p.f3, .int .i64 p.f4, .int .i64 p.f5, .int .i64 p.f6, vp] 29)).alloc (.cells #[.slice none 0 0, .slice none 0 0] 54))).cell? ⟨W.heap.size, 0, none⟩ = some (.slice a0 n0 c0) := cell_of_row _ _ 0 _ _ _ rA1_.out
  have A_1_ : ((((W.alloc (.cells #[.slice a0 n0 c0, .slice a1 n1 c1] 54)).alloc (.cells #[.int .i64 p.f0, .int .i64 p.f1, .int .i64 p.f2, .int .i64 p.f3, .int .i64 p.f4, .int .i64 p.f5, .int .i64 p.f6, vp] 29)).alloc (.cells #[.slice none 0 0, .slice none 0 0] 54))).cell? ⟨W.heap.size, 1, none⟩ = some (.slice a1 n1 c1) := cell_of_row _ _ 1 _ _ _ rA1_.out
  have K_0_ : ((((W.alloc (.cells #[.slice a0 n0 c0, .slice a1 n1 c1] 54)).alloc (.cells #[.int .i64 p.f0, .int .i64 p.f1, .int .i64 p.f2, .int .i64 p.f3, .int .i64 p.f4, .int .i64 p.f5, .int .i64 p.f6, vp] 29)).alloc (.cells #[.slice none 0 0, .slice none 0 0] 54))).cell? ⟨W.heap.size + 1, 0, none⟩ = some (.int .i64 p.f0) := cell_of_row _ _ 0 _ _ _ rK2_.out
  have K_1_ : ((((W.alloc (.cells #[.slice a0 n0 c0, .slice a1 n1 c1] 54)).alloc (.cells #[.int .i64 p.f0, .int .i64 p.f1, .int .i64 p.f2, .int .i64 p.f3, .int .i64 p.f4, .int .i64 p.f5, .int .i64 p.f6, vp] 29)).alloc (.cells #[.slice none 0 0, .slice none 0 0] 54))).cell? ⟨W.heap.size + 1, 1, none⟩ = some (.int .i64 p.f1) := cell_of_row _ _ 1 _ _ _ rK2_.out
  have K_2_ : ((((W.alloc (.cells #[.slice a0 n0 c0, .slice a1 n1 c1] 54)).alloc (.cells #[.int .i64 p.f0, .int .i64 p.f1, .int .i64 p.f2, .int .i64 p.f3, .int .i64 p.f4, .int .i64 p.f5, .int .i64 p.f6, vp] 29)).alloc (.cells #[.slice none 0 0, .slice none 0 0] 54))).cell? ⟨W.heap.size + 1, 2, none⟩ = some (.int .i64 p.f2) := cell_of_row _ _ 2 _ _ _ rK2_.out
  have K_3_ : ((((W.alloc (.cells #[.slice a0 n0 c0, .slice a1 n1 c1] 54)).alloc (.cells #[.int .i64 p.f0, .int .i64 p.f1, .int .i64 p.f2, .int .i64 p.f3, .int .i64 p.f4, .int .i64 p.f5, .int .i64 p.f6, vp] 29)).alloc (.cells #[.slice none 0 0, .slice none 0 0] 54))).cell? ⟨W.heap.size + 1, 3, none⟩ = some (.int .i64 p.f3) := cell_of_row _ _ 3 _ _ _ rK2_.out
  have K_4_ : ((((W.alloc (.cells #[.slice a0 n0 c0, .slice a1 n1 c1] 54)).alloc (.cells #[.int .i64 p.f0, .int .i64 p.f1, .int .i64 p.f2, .int .i64 p.f3, .int .i64 p.f4, .int .i64 p.f5, .int .i64 p.f6, vp] 29)).alloc (.cells #[.slice none 0 0, .slice none 0 0] 54))).cell? ⟨W.heap.size + 1, 4, none⟩ = some (.int .i64 p.f4) := cell_of_row _ _ 4 _ _ _ rK2_.out
  have K_5_ : ((((W.alloc (.cells #[.slice a0 n0 c0, .slice a1 n1 c1] 54)).alloc (.cells #[.int .i64 p.f0, .int .i64 p.f1, .int .i64 p.f2, .int .i64 p.f3, .int .i64 p.f4, .int .i64 p.f5, .int .i64 p.f6, vp] 29)).alloc (.cells #[.slice none 0 0, .slice none 0 0] 54))).cell? ⟨W.heap.size + 1, 5, none⟩ = some (.int .i64 p.f5) := cell_of_row _ _ 5 _ _ _ rK2_.out
  have K_6_ : ((((W.alloc (.cells #[.slice a0 n0 c0, .slice a1 n1 c1] 54)).alloc (.cells #[.int .i64 p.f0, .int .i64 p.f1, .int .i64 p.f2, .int .i64 p.f3, .int .i64 p.f4, .int .i64 p.f5, .int .i64 p.f6, vp] 29)).alloc (.cells #[.slice none 0 0, .slice none 0 0] 54))).cell? ⟨W.heap.size + 1, 6, none⟩ = some (.int .i64 p.f6) := cell_of_row _ _ 6 _ _ _ rK2_.out
  have K_7_ : ((((W.alloc (.cells #[.slice a0 n0 c0, .slice a1 n1 c1] 54)).alloc (.cells #[.int .i64 p.f0, .int .i64 p.f1, .int .i64 p.f2, .int .i64 p.f3, .int .i64 p.f4, .int .i64 p.f5, .int .i64 p.f6, vp] 29)).alloc (.cells #[.slice none 0 0, .slice none 0 0] 54))).cell? ⟨W.heap.size + 1, 7, none⟩ = some (vp) := cell_of_row _ _ 7 _ _ _ rK2_.out
  have R_0_ : ((((W.alloc (.cells #[.slice a0 n0 c0, .slice a1 n1 c1] 54)).alloc (.cells #[.int .i64 p.f0, .int .i64 p.f1, .int .i64 p.f2, .int .i64 p.f3, .int .i64 p.f4, .int .i64 p.f5, .int .i64 p.f6, vp] 29)).alloc (.cells #[.slice none 0 0, .slice none 0 0] 54))).cell? ⟨W.heap.size + 1 + 1, 0, none⟩ = some (.slice none 0 0) := cell_of_row _ _ 0 _ _ _ rR3_.out
  have R_1_ : ((((W.alloc (.cells #[.slice a0 n0 c0, .slice a1 n1 c1] 54)).alloc (.cells #[.int .i64 p.f0, .int .i64 p.f1, .int .i64 p.f2, .int .i64 p.f3, .int .i64 p.f4, .int .i64 p.f5, .int .i64 p.f6, vp] 29)).alloc (.cells #[.slice none 0 0, .slice none 0 0] 54))).cell? ⟨W.heap.size + 1 + 1, 1, none⟩ = some (.slice none 0 0) := cell_of_row _ _ 1 _ _ _ rR3_.out
  go_wp2_with fail
  go_at_call 87
  refine (copiedCr_d _ _ _ xs ys (HSX.out.grow G4_.out) (HSY.out.grow G4_.out) HXL.out HYL.out).mono ?_
  rintro e w1 ⟨z0, z1, rfl, o, g⟩
  have sz_ := g.size
  try simp only [World.size_alloc] at sz_ o
  clear A_0_ A_1_ K_0_ K_1_ K_2_ K_3_ K_4_ K_5_ K_6_ K_7_ R_0_ R_1_
  have rA5_ := Lib.hid (show (w1).heap[W.heap.size]? = some (.cells #[.slice a0 n0 c0, .slice a1 n1 c1] 54 (0, 0)) from row_held g rA1_.out)
  clear rA1_
  have rK6_ := Lib.hid (show (w1).heap[W.heap.size + 1]? = some (.cells #[.int .i64 p.f0, .int .i64 p.f1, .int .i64 p.f2, .int .i64 p.f3, .int .i64 p.f4, .int .i64 p.f5, .int .i64 p.f6, vp] 29 (0, 0)) from row_held g rK2_.out)
  clear rK2_
  have rR7_ := Lib.hid (show (w1).heap[W.heap.size + 1 + 1]? = some (.cells #[.slice none 0 0, .slice none 0 0] 54 (0, 0)) from row_held g rR3_.out)
  clear rR3_
  have G8_ := Lib.hid (show (W).grownBy (w1) none from gby_trans G4_.out g)
  clear g
  obtain ⟨q0, m0, d0, hv_⟩ := RdL.form (OwU.rd o)
  subst hv_
  obtain ⟨q1, m1, d1, hv_⟩ := RdL.form (OwU.rd (OwU.tail o))
  subst hv_
  unfold vCredits
  have oC9_ := Lib.hid (show OwU (w1) ((W.heap.size + 1 + 1 + 1)) (w1.heap.size) [] [own shI (.slice q0 m0 d0) xs, own shI (.slice q1 m1 d1) ys] from o)
  clear o
  have A_0_ : (w1).cell? ⟨W.heap.size, 0, none⟩ = some (.slice a0 n0 c0) := cell_of_row _ _ 0 _ _ _ rA5_.out
  have A_1_ : (w1).cell? ⟨W.heap.size, 1, none⟩ = some (.slice a1 n1 c1) := cell_of_row _ _ 1 _ _ _ rA5_.out
  have Af0_ : (w1).frozen? ⟨W.heap.size, 0, none⟩ = false := frozen_of_row _ _ 0 _ _ rA5_.out
  have Af1_ : (w1).frozen? ⟨W.heap.size, 1, none⟩ = false := frozen_of_row _ _ 1 _ _ rA5_.out
  have K_0_ : (w1).cell? ⟨W.heap.size + 1, 0, none⟩ = some (.int .i64 p.f0) := cell_of_row _ _ 0 _ _ _ rK6_.out
  have K_1_ : (w1).cell? ⟨W.heap.size + 1, 1, none⟩ = some (.int .i64 p.f1) := cell_of_row _ _ 1 _ _ _ rK6_.out
  have K_2_ : (w1).cell? ⟨W.heap.size + 1, 2, none⟩ = some (.int .i64 p.f2) := cell_of_row _ _ 2 _ _ _ rK6_.out
  have K_3_ : (w1).cell? ⟨W.heap.size + 1, 3, none⟩ = some (.int .i64 p.f3) := cell_of_row _ _ 3 _ _ _ rK6_.out
  have K_4_ : (w1).cell? ⟨W.heap.size + 1, 4, none⟩ = some (.int .i64 p.f4) := cell_of_row _ _ 4 _ _ _ rK6_.out
  have K_5_ : (w1).cell? ⟨W.heap.size + 1, 5, none⟩ = some (.int .i64 p.f5) := cell_of_row _ _ 5 _ _ _ rK6_.out
  have K_6_ : (w1).cell? ⟨W.heap.size + 1, 6, none⟩ = some (.int .i64 p.f6) := cell_of_row _ _ 6 _ _ _ rK6_.out
  have K_7_ : (w1).cell? ⟨W.heap.size + 1, 7, none⟩ = some (vp) := cell_of_row _ _ 7 _ _ _ rK6_.out
  have R_0_ : (w1).cell? ⟨W.heap.size + 1 + 1, 0, none⟩ = some (.slice none 0 0) := cell_of_row _ _ 0 _ _ _ rR7_.out
  have R_1_ : (w1).cell? ⟨W.heap.size + 1 + 1, 1, none⟩ = some (.slice none 0 0) := cell_of_row _ _ 1 _ _ _ rR7_.out
  go_wp2_with fail
  go_at_call 47
  clear A_0_ A_1_ Af0_ Af1_ K_0_ K_1_ K_2_ K_3_ K_4_ K_5_ K_6_ K_7_ R_0_ R_1_
  have rK10_ := Lib.hid (show (((w1.setCell ⟨W.heap.size, 0, none⟩ (.slice q0 m0 d0)).setCell ⟨W.heap.size, 1, none⟩ (.slice q1 m1 d1))).heap[W.heap.size + 1]? = some (.cells #[.int .i64 p.f0, .int .i64 p.f1, .int .i64 p.f2, .int .i64 p.f3, .int .i64 p.f4, .int .i64 p.f5, .int .i64 p.f6, vp] 29 (0, 0)) from (set_far (set_far rK6_.out (by dsimp only; omega)) (by dsimp only; omega)))
  clear rK6_
  have rR11_ := Lib.hid (show (((w1.setCell ⟨W.heap.size, 0, none⟩ (.slice q0 m0 d0)).setCell ⟨W.heap.size, 1, none⟩ (.slice q1 m1 d1))).heap[W.heap.size + 1 + 1]? = some (.cells #[.slice none 0 0, .slice none 0 0] 54 (0, 0)) from (set_far (set_far rR7_.out (by dsimp only; omega)) (by dsimp only; omega)))
  clear rR7_
  have rA12_ := Lib.hid (show (((w1.setCell ⟨W.heap.size, 0, none⟩ (.slice q0 m0 d0)).setCell ⟨W.heap.size, 1, none⟩ (.slice q1 m1 d1))).heap[W.heap.size]? = some (.cells #[.slice q0 m0 d0, .slice q1 m1 d1] 54 (0, 0)) from (heap_setCell_same _ _ 1 _ _ _ (heap_setCell_same _ _ 0 _ _ _ rA5_.out)))
  clear rA5_
  have oC13_ := Lib.hid (show OwU (((w1.setCell ⟨W.heap.size, 0, none⟩ (.slice q0 m0 d0)).setCell ⟨W.heap.size, 1, none⟩ (.slice q1 m1 d1))) ((W.heap.size + 1 + 1 + 1)) (w1.heap.size) [] [own shI (.slice q0 m0 d0) xs, own shI (.slice q1 m1 d1) ys] from (OwU.keep (chg_one _ _ _ _) (by omega) (OwU.keep (chg_one _ _ _ _) (by omega) oC9_.out)))
  clear oC9_
  have G14_ := Lib.hid (show (W).grownBy (((w1.setCell ⟨W.heap.size, 0, none⟩ (.slice q0 m0 d0)).setCell ⟨W.heap.size, 1, none⟩ (.slice q1 m1 d1))) none from (gby_setnew (gby_setnew G8_.out _ (by dsimp only; omega) _) _ (by dsimp only; omega) _))
  have A_0_ : (((w1.setCell ⟨W.heap.size, 0, none⟩ (.slice q0 m0 d0)).setCell ⟨W.heap.size, 1, none⟩ (.slice q1 m1 d1))).cell? ⟨W.heap.size, 0, none⟩ = some (.slice q0 m0 d0) := cell_of_row _ _ 0 _ _ _ rA12_.out
  have A_1_ : (((w1.setCell ⟨W.heap.size, 0, none⟩ (.slice q0 m0 d0)).setCell ⟨W.heap.size, 1, none⟩ (.slice q1 m1 d1))).cell? ⟨W.heap.size, 1, none⟩ = some (.slice q1 m1 d1) := cell_of_row _ _ 1 _ _ _ rA12_.out
  have K_0_ : (((w1.setCell ⟨W.heap.size, 0, none⟩ (.slice q0 m0 d0)).setCell ⟨W.heap.size, 1, none⟩ (.slice q1 m1 d1))).cell? ⟨W.heap.size + 1, 0, none⟩ = some (.int .i64 p.f0) := cell_of_row _ _ 0 _ _ _ rK10_.out
  have K_1_ : (((w1.setCell ⟨W.heap.size, 0, none⟩ (.slice q0 m0 d0)).setCell ⟨W.heap.size, 1, none⟩ (.slice q1 m1 d1))).cell? ⟨W.heap.size + 1, 1, none⟩ = some (.int .i64 p.f1) := cell_of_row _ _ 1 _ _ _ rK10_.out
  have K_2_ : (((w1.setCell ⟨W.heap.size, 0, none⟩ (.slice q0 m0 d0)).setCell ⟨W.heap.size, 1, none⟩ (.slice q1 m1 d1))).cell? ⟨W.heap.size + 1, 2, none⟩ = some (.int .i64 p.f2) := cell_of_row _ _ 2 _ _ _ rK10_.out
  have K_3_ : (((w1.setCell ⟨W.heap.size, 0, none⟩ (.slice q0 m0 d0)).setCell ⟨W.heap.size, 1, none⟩ (.slice q1 m1 d1))).cell? ⟨W.heap.size + 1, 3, none⟩ = some (.int .i64 p.f3) := cell_of_row _ _ 3 _ _ _ rK10_.out
  have K_4_ : (((w1.setCell ⟨W.heap.size, 0, none⟩ (.slice q0 m0 d0)).setCell ⟨W.heap.size, 1, none⟩ (.slice q1 m1 d1))).cell? ⟨W.heap.size + 1, 4, none⟩ = some (.int .i64 p.f4) := cell_of_row _ _ 4 _ _ _ rK10_.out
  have K_5_ : (((w1.setCell ⟨W.heap.size, 0, none⟩ (.slice q0 m0 d0)).setCell ⟨W.heap.size, 1, none⟩ (.slice q1 m1 d1))).cell? ⟨W.heap.size + 1, 5, none⟩ = some (.int .i64 p.f5) := cell_of_row _ _ 5 _ _ _ rK10_.out
  have K_6_ : (((w1.setCell ⟨W.heap.size, 0, none⟩ (.slice q0 m0 d0)).setCell ⟨W.heap.size, 1, none⟩ (.slice q1 m1 d1))).cell? ⟨W.heap.size + 1, 6, none⟩ = some (.int .i64 p.f6) := cell_of_row _ _ 6 _ _ _ rK10_.out
  have K_7_ : (((w1.setCell ⟨W.heap.size, 0, none⟩ (.slice q0 m0 d0)).setCell ⟨W.heap.size, 1, none⟩ (.slice q1 m1 d1))).cell? ⟨W.heap.size + 1, 7, none⟩ = some (vp) := cell_of_row _ _ 7 _ _ _ rK10_.out
  have R_0_ : (((w1.setCell ⟨W.heap.size, 0, none⟩ (.slice q0 m0 d0)).setCell ⟨W.heap.size, 1, none⟩ (.slice q1 m1 d1))).cell? ⟨W.heap.size + 1 + 1, 0, none⟩ = some (.slice none 0 0) := cell_of_row _ _ 0 _ _ _ rR11_.out
  have R_1_ : (((w1.setCell ⟨W.heap.size, 0, none⟩ (.slice q0 m0 d0)).setCell ⟨W.heap.size, 1, none⟩ (.slice q1 m1 d1))).cell? ⟨W.heap.size + 1 + 1, 1, none⟩ = some (.slice none 0 0) := cell_of_row _ _ 1 _ _ _ rR11_.out
  refine (implCrD _ _ _ xs ys (OwU.rd oC13_.out) (OwU.rd (OwU.tail oC13_.out)) HXL.out HYL.out true (by rw [decide_eq_true HCO.out])).mono ?_
  rintro e w2 ⟨rfl, g⟩
  have szw2 := g.size
  try simp only [World.size_setCell] at szw2
  try simp only [World.size_alloc] at szw2
  clear A_0_ A_1_ K_0_ K_1_ K_2_ K_3_ K_4_ K_5_ K_6_ K_7_ R_0_ R_1_
  have rA15_ := Lib.hid (show (w2).heap[W.heap.size]? = some (.cells #[.slice q0 m0 d0, .slice q1 m1 d1] 54 (0, 0)) from row_held g rA12_.out)
  clear rA12_
  have rK16_ := Lib.hid (show (w2).heap[W.heap.size + 1]? = some (.cells #[.int .i64 p.f0, .int .i64 p.f1, .int .i64 p.f2, .int .i64 p.f3, .int .i64 p.f4, .int .i64 p.f5, .int .i64 p.f6, vp] 29 (0, 0)) from row_held g rK10_.out)
  clear rK10_
  have rR17_ := Lib.hid (show (w2).heap[W.heap.size + 1 + 1]? = some (.cells #[.slice none 0 0, .slice none 0 0] 54 (0, 0)) from row_held g rR11_.out)
  clear rR11_
  have oC18_ := Lib.hid (show OwU (w2) ((W.heap.size + 1 + 1 + 1)) (w1.heap.size) [] [own shI (.slice q0 m0 d0) xs, own shI (.slice q1 m1 d1) ys] from OwU.grow oC13_.out g)
  clear oC13_
  have G19_ := Lib.hid (show (W).grownBy (w2) none from gby_trans G14_.out g)
  clear g
  have A_0_ : (w2).cell? ⟨W.heap.size, 0, none⟩ = some (.slice q0 m0 d0) := cell_of_row _ _ 0 _ _ _ rA15_.out
  have A_1_ : (w2).cell? ⟨W.heap.size, 1, none⟩ = some (.slice q1 m1 d1) := cell_of_row _ _ 1 _ _ _ rA15_.out
  have K_0_ : (w2).cell? ⟨W.heap.size + 1, 0, none⟩ = some (.int .i64 p.f0) := cell_of_row _ _ 0 _ _ _ rK16_.out
  have K_1_ : (w2).cell? ⟨W.heap.size + 1, 1, none⟩ = some (.int .i64 p.f1) := cell_of_row _ _ 1 _ _ _ rK16_.out
  have K_2_ : (w2).cell? ⟨W.heap.size + 1, 2, none⟩ = some (.int .i64 p.f2) := cell_of_row _ _ 2 _ _ _ rK16_.out
  have K_3_ : (w2).cell? ⟨W.heap.size + 1, 3, none⟩ = some (.int .i64 p.f3) := cell_of_row _ _ 3 _ _ _ rK16_.out
  have K_4_ : (w2).cell? ⟨W.heap.size + 1, 4, none⟩ = some (.int .i64 p.f4) := cell_of_row _ _ 4 _ _ _ rK16_.out
  have K_5_ : (w2).cell? ⟨W.heap.size + 1, 5, none⟩ = some (.int .i64 p.f5) := cell_of_row _ _ 5 _ _ _ rK16_.out
  have K_6_ : (w2).cell? ⟨W.heap.size + 1, 6, none⟩ = some (.int .i64 p.f6) := cell_of_row _ _ 6 _ _ _ rK16_.out
  have K_7_ : (w2).cell? ⟨W.heap.size + 1, 7, none⟩ = some (vp) := cell_of_row _ _ 7 _ _ _ rK16_.out
  have R_0_ : (w2).cell? ⟨W.heap.size + 1 + 1, 0, none⟩ = some (.slice none 0 0) := cell_of_row _ _ 0 _ _ _ rR17_.out
  have R_1_ : (w2).cell? ⟨W.heap.size + 1 + 1, 1, none⟩ = some (.slice none 0 0) := cell_of_row _ _ 1 _ _ _ rR17_.out
  go_wp2_with fail
  go_at_call 30
  refine (implPkD _ p _ (HP.out.grow G19_.out) HL.out true (by rw [decide_eq_true (by rw [HC.out]; omega)])).mono ?_
  rintro e w3 ⟨rfl, g⟩
  have szw3 := g.size
  try simp only [World.size_alloc] at szw3
  try simp only [World.size_setCell] at szw3
  clear A_0_ A_1_ K_0_ K_1_ K_2_ K_3_ K_4_ K_5_ K_6_ K_7_ R_0_ R_1_
  have rA20_ := Lib.hid (show (w3).heap[W.heap.size]? = some (.cells #[.slice q0 m0 d0, .slice q1 m1 d1] 54 (0, 0)) from row_held g rA15_.out)
  clear rA15_
  have rK21_ := Lib.hid (show (w3).heap[W.heap.size + 1]? = some (.cells #[.int .i64 p.f0, .int .i64 p.f1, .int .i64 p.f2, .int .i64 p.f3, .int .i64 p.f4, .int .i64 p.f5, .int .i64 p.f6, vp] 29 (0, 0)) from row_held g rK16_.out)
  clear rK16_
  have rR22_ := Lib.hid (show (w3).heap[W.heap.size + 1 + 1]? = some (.cells #[.slice none 0 0, .slice none 0 0] 54 (0, 0)) from row_held g rR17_.out)
  clear rR17_
  have oC23_ := Lib.hid (show OwU (w3) ((W.heap.size + 1 + 1 + 1)) (w1.heap.size) [] [own shI (.slice q0 m0 d0) xs, own shI (.slice q1 m1 d1) ys] from OwU.grow oC18_.out g)
  clear oC18_
  have G24_ := Lib.hid (show (W).grownBy (w3) none from gby_trans G19_.out g)
  clear g
  have A_0_ : (w3).cell? ⟨W.heap.size, 0, none⟩ = some (.slice q0 m0 d0) := cell_of_row _ _ 0 _ _ _ rA20_.out
  have A_1_ : (w3).cell? ⟨W.heap.size, 1, none⟩ = some (.slice q1 m1 d1) := cell_of_row _ _ 1 _ _ _ rA20_.out
  have K_0_ : (w3).cell? ⟨W.heap.size + 1, 0, none⟩ = some (.int .i64 p.f0) := cell_of_row _ _ 0 _ _ _ rK21_.out
  have K_1_ : (w3).cell? ⟨W.heap.size + 1, 1, none⟩ = some (.int .i64 p.f1) := cell_of_row _ _ 1 _ _ _ rK21_.out
  have K_2_ : (w3).cell? ⟨W.heap.size + 1, 2, none⟩ = some (.int .i64 p.f2) := cell_of_row _ _ 2 _ _ _ rK21_.out
  have K_3_ : (w3).cell? ⟨W.heap.size + 1, 3, none⟩ = some (.int .i64 p.f3) := cell_of_row _ _ 3 _ _ _ rK21_.out
  have K_4_ : (w3).cell? ⟨W.heap.size + 1, 4, none⟩ = some (.int .i64 p.f4) := cell_of_row _ _ 4 _ _ _ rK21_.out
  have K_5_ : (w3).cell? ⟨W.heap.size + 1, 5, none⟩ = some (.int .i64 p.f5) := cell_of_row _ _ 5 _ _ _ rK21_.out
  have K_6_ : (w3).cell? ⟨W.heap.size + 1, 6, none⟩ = some (.int .i64 p.f6) := cell_of_row _ _ 6 _ _ _ rK21_.out
  have K_7_ : (w3).cell? ⟨W.heap.size + 1, 7, none⟩ = some (vp) := cell_of_row _ _ 7 _ _ _ rK21_.out
  have R_0_ : (w3).cell? ⟨W.heap.size + 1 + 1, 0, none⟩ = some (.slice none 0 0) := cell_of_row _ _ 0 _ _ _ rR22_.out
  have R_1_ : (w3).cell? ⟨W.heap.size + 1 + 1, 1, none⟩ = some (.slice none 0 0) := cell_of_row _ _ 1 _ _ _ rR22_.out
  have HCON := Lib.hid (show ∀ (w : World), w.heap[W.heap.size]? = some (.cells #[.slice q0 m0 d0, .slice q1 m1 d1] 54 (0, 0)) → OwU w (W.heap.size + 1 + 1 + 1) (w1.heap.size) [] [own shI (.slice q0 m0 d0) xs, own shI (.slice q1 m1 d1) ys] → W.grownBy w none → w1.heap.size ≤ w.heap.size → Calls Try.prog 88 #[.pointer (some ⟨W.heap.size, 0, none⟩), .agg #[.int .i64 p.f0, .int .i64 p.f1, .int .i64 p.f2, .int .i64 p.f3, .int .i64 p.f4, .int .i64 p.f5, .int .i64 p.f6, vp]] w (SpPost true (W.heap.size + 1 + 1 + 1) (w1.heap.size) (.slice q0 m0 d0) (.slice q1 m1 d1) rx ry w) from fun w r1 r2 r3 r4 => by
    have q := spend_yes w W.heap.size (W.heap.size + 1 + 1 + 1) (w1.heap.size) k (.slice q0 m0 d0) (.slice q1 m1 d1) vp xs ys p r1 r2 (.inl (by omega)) r4 (HP.out.grow r3) (fun w' gc => HP.out.grow (gby_chg r3 gc (by omega))) HL.out HC.out hk3 HCR.out u HU.out hu0 hu9 HW.out HUX.out
    rw [HRX.out, HRY.out] at q
    exact q)
  go_wp2_with fail
  go_at_call 88
  refine (HCON.out _ rA20_.out oC23_.out G24_.out (by omega)).mono ?_
  rintro e w4 ⟨rfl, o, gc⟩
  have szv_ := gc.size
  have NR_ := Lib.hid (show w4.heap[W.heap.size + 1 + 1]? = some (.cells #[.slice none 0 0, .slice none 0 0] 54 (0, 0)) from Chg.keep gc rR22_.out (.inl (by omega)))
  have NA_ := Lib.hid (show w4.heap[W.heap.size]? = some (.cells #[.slice q0 m0 d0, .slice q1 m1 d1] 54 (0, 0)) from Chg.keep gc rA20_.out (.inl (by omega)))
  have NO_ := Lib.hid o
  have NG_ := Lib.hid (gby_chg G24_.out gc (by omega))
  clear o gc
  clear A_0_ A_1_ K_0_ K_1_ K_2_ K_3_ K_4_ K_5_ K_6_ K_7_ R_0_ R_1_
  have G25_ := Lib.hid (show (W).grownBy (w4) none from NG_.out)
  have A_0_ : (w4).cell? ⟨W.heap.size, 0, none⟩ = some (.slice q0 m0 d0) := cell_of_row _ _ 0 _ _ _ NA_.out
  have A_1_ : (w4).cell? ⟨W.heap.size, 1, none⟩ = some (.slice q1 m1 d1) := cell_of_row _ _ 1 _ _ _ NA_.out
  have R_0_ : (w4).cell? ⟨W.heap.size + 1 + 1, 0, none⟩ = some (.slice none 0 0) := cell_of_row _ _ 0 _ _ _ NR_.out
  have R_1_ : (w4).cell? ⟨W.heap.size + 1 + 1, 1, none⟩ = some (.slice none 0 0) := cell_of_row _ _ 1 _ _ _ NR_.out
  clear A_0_ A_1_ R_0_ R_1_
  have A_0_ : (w4).cell? ⟨W.heap.size, 0, none⟩ = some (.slice q0 m0 d0) := cell_of_row _ _ 0 _ _ _ NA_.out
  have A_1_ : (w4).cell? ⟨W.heap.size, 1, none⟩ = some (.slice q1 m1 d1) := cell_of_row _ _ 1 _ _ _ NA_.out
  have R_0_ : (w4).cell? ⟨W.heap.size + 1 + 1, 0, none⟩ = some (.slice none 0 0) := cell_of_row _ _ 0 _ _ _ NR_.out
  have R_1_ : (w4).cell? ⟨W.heap.size + 1 + 1, 1, none⟩ = some (.slice none 0 0) := cell_of_row _ _ 1 _ _ _ NR_.out
  have Rf0_ : (w4).frozen? ⟨W.heap.size + 1 + 1, 0, none⟩ = false := frozen_of_row _ _ 0 _ _ NR_.out
  have Rf1_ : (w4).frozen? ⟨W.heap.size + 1 + 1, 1, none⟩ = false := frozen_of_row _ _ 1 _ _ NR_.out
  have zr_ := Lib.hid (show (((w4.setCell ⟨W.heap.size + 1 + 1, 0, none⟩ (.slice q0 m0 d0)).setCell ⟨W.heap.size + 1 + 1, 1, none⟩ (.slice q1 m1 d1))).heap[W.heap.size + 1 + 1]? = some (.cells #[.slice q0 m0 d0, .slice q1 m1 d1] 54 (0, 0)) from (heap_setCell_same _ _ 1 _ _ _ (heap_setCell_same _ _ 0 _ _ _ NR_.out)))
  have z0_ : (((w4.setCell ⟨W.heap.size + 1 + 1, 0, none⟩ (.slice q0 m0 d0)).setCell ⟨W.heap.size + 1 + 1, 1, none⟩ (.slice q1 m1 d1))).cell? ⟨W.heap.size + 1 + 1, 0, none⟩ = some (.slice q0 m0 d0) := cell_of_row _ _ 0 _ _ _ zr_.out
  have z1_ : (((w4.setCell ⟨W.heap.size + 1 + 1, 0, none⟩ (.slice q0 m0 d0)).setCell ⟨W.heap.size + 1 + 1, 1, none⟩ (.slice q1 m1 d1))).cell? ⟨W.heap.size + 1 + 1, 1, none⟩ = some (.slice q1 m1 d1) := cell_of_row _ _ 1 _ _ _ zr_.out
  go_wp2
  refine bodyPost_ret (v := .tuple #[.agg #[.slice q0 m0 d0, .slice q1 m1 d1], .bool true]) (by simp [results, go_sem, z0_, z1_]) rfl ⟨_, _, rfl, ?_, ?_⟩
  · exact OwU.wide (lo := W.heap.size + 1 + 1 + 1) (by omega) (by simp only [World.size_setCell]; omega) (OwU.keep (chg_one _ _ _ _) (.inr (by omega)) (OwU.keep (chg_one _ _ _ _) (.inr (by omega)) NO_.out))
  · exact (gby_setnew (gby_setnew G25_.out _ (by dsimp only; omega) _) _ (by dsimp only; omega) _)

set_option maxRecDepth 8000 in
set_option maxHeartbeats 2000000 in
theorem implReturnCredits_bad (W : World) (u0 u1 vp : Value) (xs ys : List Int) (p : DPacket) (H0 : RdL shI W u0 xs) (H1 : RdL shI W u1 ys) (Hp : RdL shI W vp p.f7) (h0 : szL shI xs ≤ 1048576) (h1 : szL shI ys ≤ 1048576) (hl : szL shI p.f7 ≤ 1048576) (hb : ¬ CrdOk xs ys) : Calls Try.prog 42 #[.agg #[u0, u1], (vPacket p.f0 p.f1 p.f2 p.f3 p.f4 p.f5 p.f6 vp)] W (ResIReturnCredits xs ys false W) := by
  have HSX := Lib.hid H0
  have HSY := Lib.hid H1
  have HP := Lib.hid Hp
  have HXL := Lib.hid h0
  have HYL := Lib.hid h1
  have HL := Lib.hid hl
  obtain ⟨a0, n0, c0, rfl⟩ := RdL.form H0
  obtain ⟨a1, n1, c1, rfl⟩ := RdL.form H1
  clear H0 H1 Hp h0 h1 hl
  unfold vPacket
  have HCO := Lib.hid hb
  clear hb
  go_enter Try.func42, Try.ntmps42
  have rA1_ := Lib.hid (show ((((W.alloc (.cells #[.slice a0 n0 c0, .slice a1 n1 c1] 54)).alloc (.cells #[.int .i64 p.f0, .int .i64 p.f1, .int .i64 p.f2, .int .i64 p.f3, .int .i64 p.f4, .int .i64 p.f5, .int .i64 p.f6, vp] 29)).alloc (.cells #[.slice none 0 0, .slice none 0 0] 54))).heap[W.heap.size]? = some (.cells #[.slice a0 n0 c0, .slice a1 n1 c1] 54 (0, 0)) from by rw [heap_alloc_old _ _ (by simp only [World.size_alloc]; omega)]; rw [heap_alloc_old _ _ (by simp only [World.size_alloc]; omega)]; exact heap_alloc_new _ _)
  have rK2_ := Lib.hid (show ((((W.alloc (.cells #[.slice a0 n0 c0, .slice a1 n1 c1] 54)).alloc (.cells #[.int .i64 p.f0, .int .i64 p.f1, .int .i64 p.f2, .int .i64 p.f3, .int .i64 p.f4, .int .i64 p.f5, .int .i64 p.f6, vp] 29)).alloc (.cells #[.slice none 0 0, .slice none 0 0] 54))).heap[W.heap.size + 1]? = some (.cells #[.int .i64 p.f0, .int .i64 p.f1, .int .i64 p.f2, .int .i64 p.f3, .int .i64 p.f4, .int .i64 p.f5, .int .i64 p.f6, vp] 29 (0, 0)) from by rw [heap_alloc_old _ _ (by simp only [World.size_alloc]; omega)]; exact heap_pair _ _ _)
  have rR3_ := Lib.hid (show ((((W.alloc (.cells #[.slice a0 n0 c0, .slice a1 n1 c1] 54)).alloc (.cells #[.int .i64 p.f0, .int .i64 p.f1, .int .i64 p.f2, .int .i64 p.f3, .int .i64 p.f4, .int .i64 p.f5, .int .i64 p.f6, vp] 29)).alloc (.cells #[.slice none 0 0, .slice none 0 0] 54))).heap[W.heap.size + 1 + 1]? = some (.cells #[.slice none 0 0, .slice none 0 0] 54 (0, 0)) from by exact heap_trip _ _ _ _)
  have G4_ := Lib.hid (show (W).grownBy ((((W.alloc (.cells #[.slice a0 n0 c0, .slice a1 n1 c1] 54)).alloc (.cells #[.int .i64 p.f0, .int .i64 p.f1, .int .i64 p.f2, .int .i64 p.f3, .int .i64 p.f4, .int .i64 p.f5, .int .i64 p.f6, vp] 29)).alloc (.cells #[.slice none 0 0, .slice none 0 0] 54))) none from (gby_alloc (gby_alloc (gby_alloc (gby_refl _ _) _) _) _))
  have A_0_ : ((((W.alloc (.cells #[.slice a0 n0 c0, .slice a1 n1 c1] 54)).alloc (.cells #[.int .i64 p.f0, .int .i64 p.f1, .int .i64 p.f2, .int .i64 p.f3, .int .i64 p.f4, .int .i64 p.f5, .int .i64 p.f6, vp] 29)).alloc (.cells #[.slice none 0 0, .slice none 0 0] 54))).cell? ⟨W.heap.size, 0, none⟩ = some (.slice a0 n0 c0) := cell_of_row _ _ 0 _ _ _ rA1_.out
  have A_1_ : ((((W.alloc (.cells #[.slice a0 n0 c0, .slice a1 n1 c1] 54)).alloc (.cells #[.int .i64 p.f0, .int .i64 p.f1, .int .i64 p.f2, .int .i64 p.f3, .int .i64 p.f4, .int .i64 p.f5, .int .i64 p.f6, vp] 29)).alloc (.cells #[.slice none 0 0, .slice none 0 0] 54))).cell? ⟨W.heap.size, 1, none⟩ = some (.slice a1 n1 c1) := cell_of_row _ _ 1 _ _ _ rA1_.out
  have K_0_ : ((((W.alloc (.cells #[.slice a0 n0 c0, .slice a1 n1 c1] 54)).alloc (.cells #[.int .i64 p.f0, .int .i64 p.f1, .int .i64 p.f2, .int .i64 p.f3, .int .i64 p.f4, .int .i64 p.f5, .int .i64 p.f6, vp] 29)).alloc (.cells #[.slice none 0 0, .slice none 0 0] 54))).cell? ⟨W.heap.size + 1, 0, none⟩ = some (.int .i64 p.f0) := cell_of_row _ _ 0 _ _ _ rK2_.out
  have K_1_ : ((((W.alloc (.cells #[.slice a0 n0 c0, .slice a1 n1 c1] 54)).alloc (.cells #[.int .i64 p.f0, .int .i64 p.f1, .int .i64 p.f2, .int .i64 p.f3, .int .i64 p.f4, .int .i64 p.f5, .int .i64 p.f6, vp] 29)).alloc (.cells #[.slice none 0 0, .slice none 0 0] 54))).cell? ⟨W.heap.size + 1, 1, none⟩ = some (.int .i64 p.f1) := cell_of_row _ _ 1 _ _ _ rK2_.out
  have K_2_ : ((((W.alloc (.cells #[.slice a0 n0 c0, .slice a1 n1 c1] 54)).alloc (.cells #[.int .i64 p.f0, .int .i64 p.f1, .int .i64 p.f2, .int .i64 p.f3, .int .i64 p.f4, .int .i64 p.f5, .int .i64 p.f6, vp] 29)).alloc (.cells #[.slice none 0 0, .slice none 0 0] 54))).cell? ⟨W.heap.size + 1, 2, none⟩ = some (.int .i64 p.f2) := cell_of_row _ _ 2 _ _ _ rK2_.out
  have K_3_ : ((((W.alloc (.cells #[.slice a0 n0 c0, .slice a1 n1 c1] 54)).alloc (.cells #[.int .i64 p.f0, .int .i64 p.f1, .int .i64 p.f2, .int .i64 p.f3, .int .i64 p.f4, .int .i64 p.f5, .int .i64 p.f6, vp] 29)).alloc (.cells #[.slice none 0 0, .slice none 0 0] 54))).cell? ⟨W.heap.size + 1, 3, none⟩ = some (.int .i64 p.f3) := cell_of_row _ _ 3 _ _ _ rK2_.out
  have K_4_ : ((((W.alloc (.cells #[.slice a0 n0 c0, .slice a1 n1 c1] 54)).alloc (.cells #[.int .i64 p.f0, .int .i64 p.f1, .int .i64 p.f2, .int .i64 p.f3, .int .i64 p.f4, .int .i64 p.f5, .int .i64 p.f6, vp] 29)).alloc (.cells #[.slice none 0 0, .slice none 0 0] 54))).cell? ⟨W.heap.size + 1, 4, none⟩ = some (.int .i64 p.f4) := cell_of_row _ _ 4 _ _ _ rK2_.out
  have K_5_ : ((((W.alloc (.cells #[.slice a0 n0 c0, .slice a1 n1 c1] 54)).alloc (.cells #[.int .i64 p.f0, .int .i64 p.f1, .int .i64 p.f2, .int .i64 p.f3, .int .i64 p.f4, .int .i64 p.f5, .int .i64 p.f6, vp] 29)).alloc (.cells #[.slice none 0 0, .slice none 0 0] 54))).cell? ⟨W.heap.size + 1, 5, none⟩ = some (.int .i64 p.f5) := cell_of_row _ _ 5 _ _ _ rK2_.out
  have K_6_ : ((((W.alloc (.cells #[.slice a0 n0 c0, .slice a1 n1 c1] 54)).alloc (.cells #[.int .i64 p.f0, .int .i64 p.f1, .int .i64 p.f2, .int .i64 p.f3, .int .i64 p.f4, .int .i64 p.f5, .int .i64 p.f6, vp] 29)).alloc (.cells #[.slice none 0 0, .slice none 0 0] 54))).cell? ⟨W.heap.size + 1, 6, none⟩ = some (.int .i64 p.f6) := cell_of_row _ _ 6 _ _ _ rK2_.out
  have K_7_ : ((((W.alloc (.cells #[.slice a0 n0 c0, .slice a1 n1 c1] 54)).alloc (.cells #[.int .i64 p.f0, .int .i64 p.f1, .int .i64 p.f2, .int .i64 p.f3, .int .i64 p.f4, .int .i64 p.f5, .int .i64 p.f6, vp] 29)).alloc (.cells #[.slice none 0 0, .slice none 0 0] 54))).cell? ⟨W.heap.size + 1, 7, none⟩ = some (vp) := cell_of_row _ _ 7 _ _ _ rK2_.out
  have R_0_ : ((((W.alloc (.cells #[.slice a0 n0 c0, .slice a1 n1 c1] 54)).alloc (.cells #[.int .i64 p.f0, .int .i64 p.f1, .int .i64 p.f2, .int .i64 p.f3, .int .i64 p.f4, .int .i64 p.f5, .int .i64 p.f6, vp] 29)).alloc (.cells #[.slice none 0 0, .slice none 0 0] 54))).cell? ⟨W.heap.size + 1 + 1, 0, none⟩ = some (.slice none 0 0) := cell_of_row _ _ 0 _ _ _ rR3_.out
  have R_1_ : ((((W.alloc (.cells #[.slice a0 n0 c0, .slice a1 n1 c1] 54)).alloc (.cells #[.int .i64 p.f0, .int .i64 p.f1, .int .i64 p.f2, .int .i64 p.f3, .int .i64 p.f4, .int .i64 p.f5, .int .i64 p.f6, vp] 29)).alloc (.cells #[.slice none 0 0, .slice none 0 0] 54))).cell? ⟨W.heap.size + 1 + 1, 1, none⟩ = some (.slice none 0 0) := cell_of_row _ _ 1 _ _ _ rR3_.out
  go_wp2_with fail
  go_at_call 87
  refine (copiedCr_d _ _ _ xs ys (HSX.out.grow G4_.out) (HSY.out.grow G4_.out) HXL.out HYL.out).mono ?_
  rintro e w1 ⟨z0, z1, rfl, o, g⟩
  have sz_ := g.size
  try simp only [World.size_alloc] at sz_ o
  clear A_0_ A_1_ K_0_ K_1_ K_2_ K_3_ K_4_ K_5_ K_6_ K_7_ R_0_ R_1_
  have rA5_ := Lib.hid (show (w1).heap[W.heap.size]? = some (.cells #[.slice a0 n0 c0, .slice a1 n1 c1] 54 (0, 0)) from row_held g rA1_.out)
  clear rA1_
  have rK6_ := Lib.hid (show (w1).heap[W.heap.size + 1]? = some (.cells #[.int .i64 p.f0, .int .i64 p.f1, .int .i64 p.f2, .int .i64 p.f3, .int .i64 p.f4, .int .i64 p.f5, .int .i64 p.f6, vp] 29 (0, 0)) from row_held g rK2_.out)
  clear rK2_
  have rR7_ := Lib.hid (show (w1).heap[W.heap.size + 1 + 1]? = some (.cells #[.slice none 0 0, .slice none 0 0] 54 (0, 0)) from row_held g rR3_.out)
  clear rR3_
  have G8_ := Lib.hid (show (W).grownBy (w1) none from gby_trans G4_.out g)
  clear g
  obtain ⟨q0, m0, d0, hv_⟩ := RdL.form (OwU.rd o)
  subst hv_
  obtain ⟨q1, m1, d1, hv_⟩ := RdL.form (OwU.rd (OwU.tail o))
  subst hv_
  unfold vCredits
  have oC9_ := Lib.hid (show OwU (w1) ((W.heap.size + 1 + 1 + 1)) (w1.heap.size) [] [own shI (.slice q0 m0 d0) xs, own shI (.slice q1 m1 d1) ys] from o)
  clear o
  have A_0_ : (w1).cell? ⟨W.heap.size, 0, none⟩ = some (.slice a0 n0 c0) := cell_of_row _ _ 0 _ _ _ rA5_.out
  have A_1_ : (w1).cell? ⟨W.heap.size, 1, none⟩ = some (.slice a1 n1 c1) := cell_of_row _ _ 1 _ _ _ rA5_.out
  have Af0_ : (w1).frozen? ⟨W.heap.size, 0, none⟩ = false := frozen_of_row _ _ 0 _ _ rA5_.out
  have Af1_ : (w1).frozen? ⟨W.heap.size, 1, none⟩ = false := frozen_of_row _ _ 1 _ _ rA5_.out
  have K_0_ : (w1).cell? ⟨W.heap.size + 1, 0, none⟩ = some (.int .i64 p.f0) := cell_of_row _ _ 0 _ _ _ rK6_.out
  have K_1_ : (w1).cell? ⟨W.heap.size + 1, 1, none⟩ = some (.int .i64 p.f1) := cell_of_row _ _ 1 _ _ _ rK6_.out
  have K_2_ : (w1).cell? ⟨W.heap.size + 1, 2, none⟩ = some (.int .i64 p.f2) := cell_of_row _ _ 2 _ _ _ rK6_.out
  have K_3_ : (w1).cell? ⟨W.heap.size + 1, 3, none⟩ = some (.int .i64 p.f3) := cell_of_row _ _ 3 _ _ _ rK6_.out
  have K_4_ : (w1).cell? ⟨W.heap.size + 1, 4, none⟩ = some (.int .i64 p.f4) := cell_of_row _ _ 4 _ _ _ rK6_.out
  have K_5_ : (w1).cell? ⟨W.heap.size + 1, 5, none⟩ = some (.int .i64 p.f5) := cell_of_row _ _ 5 _ _ _ rK6_.out
  have K_6_ : (w1).cell? ⟨W.heap.size + 1, 6, none⟩ = some (.int .i64 p.f6) := cell_of_row _ _ 6 _ _ _ rK6_.out
  have K_7_ : (w1).cell? ⟨W.heap.size + 1, 7, none⟩ = some (vp) := cell_of_row _ _ 7 _ _ _ rK6_.out
  have R_0_ : (w1).cell? ⟨W.heap.size + 1 + 1, 0, none⟩ = some (.slice none 0 0) := cell_of_row _ _ 0 _ _ _ rR7_.out
  have R_1_ : (w1).cell? ⟨W.heap.size + 1 + 1, 1, none⟩ = some (.slice none 0 0) := cell_of_row _ _ 1 _ _ _ rR7_.out
  go_wp2_with fail
  go_at_call 47
  clear A_0_ A_1_ Af0_ Af1_ K_0_ K_1_ K_2_ K_3_ K_4_ K_5_ K_6_ K_7_ R_0_ R_1_
  have rK10_ := Lib.hid (show (((w1.setCell ⟨W.heap.size, 0, none⟩ (.slice q0 m0 d0)).setCell ⟨W.heap.size, 1, none⟩ (.slice q1 m1 d1))).heap[W.heap.size + 1]? = some (.cells #[.int .i64 p.f0, .int .i64 p.f1, .int .i64 p.f2, .int .i64 p.f3, .int .i64 p.f4, .int .i64 p.f5, .int .i64 p.f6, vp] 29 (0, 0)) from (set_far (set_far rK6_.out (by dsimp only; omega)) (by dsimp only; omega)))
  clear rK6_
  have rR11_ := Lib.hid (show (((w1.setCell ⟨W.heap.size, 0, none⟩ (.slice q0 m0 d0)).setCell ⟨W.heap.size, 1, none⟩ (.slice q1 m1 d1))).heap[W.heap.size + 1 + 1]? = some (.cells #[.slice none 0 0, .slice none 0 0] 54 (0, 0)) from (set_far (set_far rR7_.out (by dsimp only; omega)) (by dsimp only; omega)))
  clear rR7_
  have rA12_ := Lib.hid (show (((w1.setCell ⟨W.heap.size, 0, none⟩ (.slice q0 m0 d0)).setCell ⟨W.heap.size, 1, none⟩ (.slice q1 m1 d1))).heap[W.heap.size]? = some (.cells #[.slice q0 m0 d0, .slice q1 m1 d1] 54 (0, 0)) from (heap_setCell_same _ _ 1 _ _ _ (heap_setCell_same _ _ 0 _ _ _ rA5_.out)))
  clear rA5_
  have oC13_ := Lib.hid (show OwU (((w1.setCell ⟨W.heap.size, 0, none⟩ (.slice q0 m0 d0)).setCell ⟨W.heap.size, 1, none⟩ (.slice q1 m1 d1))) ((W.heap.size + 1 + 1 + 1)) (w1.heap.size) [] [own shI (.slice q0 m0 d0) xs, own shI (.slice q1 m1 d1) ys] from (OwU.keep (chg_one _ _ _ _) (by omega) (OwU.keep (chg_one _ _ _ _) (by omega) oC9_.out)))
  clear oC9_
  have G14_ := Lib.hid (show (W).grownBy (((w1.setCell ⟨W.heap.size, 0, none⟩ (.slice q0 m0 d0)).setCell ⟨W.heap.size, 1, none⟩ (.slice q1 m1 d1))) none from (gby_setnew (gby_setnew G8_.out _ (by dsimp only; omega) _) _ (by dsimp only; omega) _))
  have A_0_ : (((w1.setCell ⟨W.heap.size, 0, none⟩ (.slice q0 m0 d0)).setCell ⟨W.heap.size, 1, none⟩ (.slice q1 m1 d1))).cell? ⟨W.heap.size, 0, none⟩ = some (.slice q0 m0 d0) := cell_of_row _ _ 0 _ _ _ rA12_.out
  have A_1_ : (((w1.setCell ⟨W.heap.size, 0, none⟩ (.slice q0 m0 d0)).setCell ⟨W.heap.size, 1, none⟩ (.slice q1 m1 d1))).cell? ⟨W.heap.size, 1, none⟩ = some (.slice q1 m1 d1) := cell_of_row _ _ 1 _ _ _ rA12_.out
  have K_0_ : (((w1.setCell ⟨W.heap.size, 0, none⟩ (.slice q0 m0 d0)).setCell ⟨W.heap.size, 1, none⟩ (.slice q1 m1 d1))).cell? ⟨W.heap.size + 1, 0, none⟩ = some (.int .i64 p.f0) := cell_of_row _ _ 0 _ _ _ rK10_.out
  have K_1_ : (((w1.setCell ⟨W.heap.size, 0, none⟩ (.slice q0 m0 d0)).setCell ⟨W.heap.size, 1, none⟩ (.slice q1 m1 d1))).cell? ⟨W.heap.size + 1, 1, none⟩ = some (.int .i64 p.f1) := cell_of_row _ _ 1 _ _ _ rK10_.out
  have K_2_ : (((w1.setCell ⟨W.heap.size, 0, none⟩ (.slice q0 m0 d0)).setCell ⟨W.heap.size, 1, none⟩ (.slice q1 m1 d1))).cell? ⟨W.heap.size + 1, 2, none⟩ = some (.int .i64 p.f2) := cell_of_row _ _ 2 _ _ _ rK10_.out
  have K_3_ : (((w1.setCell ⟨W.heap.size, 0, none⟩ (.slice q0 m0 d0)).setCell ⟨W.heap.size, 1, none⟩ (.slice q1 m1 d1))).cell? ⟨W.heap.size + 1, 3, none⟩ = some (.int .i64 p.f3) := cell_of_row _ _ 3 _ _ _ rK10_.out
  have K_4_ : (((w1.setCell ⟨W.heap.size, 0, none⟩ (.slice q0 m0 d0)).setCell ⟨W.heap.size, 1, none⟩ (.slice q1 m1 d1))).cell? ⟨W.heap.size + 1, 4, none⟩ = some (.int .i64 p.f4) := cell_of_row _ _ 4 _ _ _ rK10_.out
  have K_5_ : (((w1.setCell ⟨W.heap.size, 0, none⟩ (.slice q0 m0 d0)).setCell ⟨W.heap.size, 1, none⟩ (.slice q1 m1 d1))).cell? ⟨W.heap.size + 1, 5, none⟩ = some (.int .i64 p.f5) := cell_of_row _ _ 5 _ _ _ rK10_.out
  have K_6_ : (((w1.setCell ⟨W.heap.size, 0, none⟩ (.slice q0 m0 d0)).setCell ⟨W.heap.size, 1, none⟩ (.slice q1 m1 d1))).cell? ⟨W.heap.size + 1, 6, none⟩ = some (.int .i64 p.f6) := cell_of_row _ _ 6 _ _ _ rK10_.out
  have K_7_ : (((w1.setCell ⟨W.heap.size, 0, none⟩ (.slice q0 m0 d0)).setCell ⟨W.heap.size, 1, none⟩ (.slice q1 m1 d1))).cell? ⟨W.heap.size + 1, 7, none⟩ = some (vp) := cell_of_row _ _ 7 _ _ _ rK10_.out
  have R_0_ : (((w1.setCell ⟨W.heap.size, 0, none⟩ (.slice q0 m0 d0)).setCell ⟨W.heap.size, 1, none⟩ (.slice q1 m1 d1))).cell? ⟨W.heap.size + 1 + 1, 0, none⟩ = some (.slice none 0 0) := cell_of_row _ _ 0 _ _ _ rR11_.out
  have R_1_ : (((w1.setCell ⟨W.heap.size, 0, none⟩ (.slice q0 m0 d0)).setCell ⟨W.heap.size, 1, none⟩ (.slice q1 m1 d1))).cell? ⟨W.heap.size + 1 + 1, 1, none⟩ = some (.slice none 0 0) := cell_of_row _ _ 1 _ _ _ rR11_.out
  refine (implCrD _ _ _ xs ys (OwU.rd oC13_.out) (OwU.rd (OwU.tail oC13_.out)) HXL.out HYL.out false (by rw [decide_eq_false HCO.out])).mono ?_
  rintro e w2 ⟨rfl, g⟩
  have szw2 := g.size
  try simp only [World.size_setCell] at szw2
  try simp only [World.size_alloc] at szw2
  clear A_0_ A_1_ K_0_ K_1_ K_2_ K_3_ K_4_ K_5_ K_6_ K_7_ R_0_ R_1_
  have rA15_ := Lib.hid (show (w2).heap[W.heap.size]? = some (.cells #[.slice q0 m0 d0, .slice q1 m1 d1] 54 (0, 0)) from row_held g rA12_.out)
  clear rA12_
  have rK16_ := Lib.hid (show (w2).heap[W.heap.size + 1]? = some (.cells #[.int .i64 p.f0, .int .i64 p.f1, .int .i64 p.f2, .int .i64 p.f3, .int .i64 p.f4, .int .i64 p.f5, .int .i64 p.f6, vp] 29 (0, 0)) from row_held g rK10_.out)
  clear rK10_
  have rR17_ := Lib.hid (show (w2).heap[W.heap.size + 1 + 1]? = some (.cells #[.slice none 0 0, .slice none 0 0] 54 (0, 0)) from row_held g rR11_.out)
  clear rR11_
  have oC18_ := Lib.hid (show OwU (w2) ((W.heap.size + 1 + 1 + 1)) (w1.heap.size) [] [own shI (.slice q0 m0 d0) xs, own shI (.slice q1 m1 d1) ys] from OwU.grow oC13_.out g)
  clear oC13_
  have G19_ := Lib.hid (show (W).grownBy (w2) none from gby_trans G14_.out g)
  clear g
  have A_0_ : (w2).cell? ⟨W.heap.size, 0, none⟩ = some (.slice q0 m0 d0) := cell_of_row _ _ 0 _ _ _ rA15_.out
  have A_1_ : (w2).cell? ⟨W.heap.size, 1, none⟩ = some (.slice q1 m1 d1) := cell_of_row _ _ 1 _ _ _ rA15_.out
  have K_0_ : (w2).cell? ⟨W.heap.size + 1, 0, none⟩ = some (.int .i64 p.f0) := cell_of_row _ _ 0 _ _ _ rK16_.out
  have K_1_ : (w2).cell? ⟨W.heap.size + 1, 1, none⟩ = some (.int .i64 p.f1) := cell_of_row _ _ 1 _ _ _ rK16_.out
  have K_2_ : (w2).cell? ⟨W.heap.size + 1, 2, none⟩ = some (.int .i64 p.f2) := cell_of_row _ _ 2 _ _ _ rK16_.out
  have K_3_ : (w2).cell? ⟨W.heap.size + 1, 3, none⟩ = some (.int .i64 p.f3) := cell_of_row _ _ 3 _ _ _ rK16_.out
  have K_4_ : (w2).cell? ⟨W.heap.size + 1, 4, none⟩ = some (.int .i64 p.f4) := cell_of_row _ _ 4 _ _ _ rK16_.out
  have K_5_ : (w2).cell? ⟨W.heap.size + 1, 5, none⟩ = some (.int .i64 p.f5) := cell_of_row _ _ 5 _ _ _ rK16_.out
  have K_6_ : (w2).cell? ⟨W.heap.size + 1, 6, none⟩ = some (.int .i64 p.f6) := cell_of_row _ _ 6 _ _ _ rK16_.out
  have K_7_ : (w2).cell? ⟨W.heap.size + 1, 7, none⟩ = some (vp) := cell_of_row _ _ 7 _ _ _ rK16_.out
  have R_0_ : (w2).cell? ⟨W.heap.size + 1 + 1, 0, none⟩ = some (.slice none 0 0) := cell_of_row _ _ 0 _ _ _ rR17_.out
  have R_1_ : (w2).cell? ⟨W.heap.size + 1 + 1, 1, none⟩ = some (.slice none 0 0) := cell_of_row _ _ 1 _ _ _ rR17_.out
  clear A_0_ A_1_ K_0_ K_1_ K_2_ K_3_ K_4_ K_5_ K_6_ K_7_ R_0_ R_1_
  have A_0_ : (w2).cell? ⟨W.heap.size, 0, none⟩ = some (.slice q0 m0 d0) := cell_of_row _ _ 0 _ _ _ rA15_.out
  have A_1_ : (w2).cell? ⟨W.heap.size, 1, none⟩ = some (.slice q1 m1 d1) := cell_of_row _ _ 1 _ _ _ rA15_.out
  have K_0_ : (w2).cell? ⟨W.heap.size + 1, 0, none⟩ = some (.int .i64 p.f0) := cell_of_row _ _ 0 _ _ _ rK16_.out
  have K_1_ : (w2).cell? ⟨W.heap.size + 1, 1, none⟩ = some (.int .i64 p.f1) := cell_of_row _ _ 1 _ _ _ rK16_.out
  have K_2_ : (w2).cell? ⟨W.heap.size + 1, 2, none⟩ = some (.int .i64 p.f2) := cell_of_row _ _ 2 _ _ _ rK16_.out
  have K_3_ : (w2).cell? ⟨W.heap.size + 1, 3, none⟩ = some (.int .i64 p.f3) := cell_of_row _ _ 3 _ _ _ rK16_.out
  have K_4_ : (w2).cell? ⟨W.heap.size + 1, 4, none⟩ = some (.int .i64 p.f4) := cell_of_row _ _ 4 _ _ _ rK16_.out
  have K_5_ : (w2).cell? ⟨W.heap.size + 1, 5, none⟩ = some (.int .i64 p.f5) := cell_of_row _ _ 5 _ _ _ rK16_.out
  have K_6_ : (w2).cell? ⟨W.heap.size + 1, 6, none⟩ = some (.int .i64 p.f6) := cell_of_row _ _ 6 _ _ _ rK16_.out
  have K_7_ : (w2).cell? ⟨W.heap.size + 1, 7, none⟩ = some (vp) := cell_of_row _ _ 7 _ _ _ rK16_.out
  have R_0_ : (w2).cell? ⟨W.heap.size + 1 + 1, 0, none⟩ = some (.slice none 0 0) := cell_of_row _ _ 0 _ _ _ rR17_.out
  have R_1_ : (w2).cell? ⟨W.heap.size + 1 + 1, 1, none⟩ = some (.slice none 0 0) := cell_of_row _ _ 1 _ _ _ rR17_.out
  clear A_0_ A_1_ K_0_ K_1_ K_2_ K_3_ K_4_ K_5_ K_6_ K_7_ R_0_ R_1_
  have A_0_ : (w2).cell? ⟨W.heap.size, 0, none⟩ = some (.slice q0 m0 d0) := cell_of_row _ _ 0 _ _ _ rA15_.out
  have A_1_ : (w2).cell? ⟨W.heap.size, 1, none⟩ = some (.slice q1 m1 d1) := cell_of_row _ _ 1 _ _ _ rA15_.out
  have K_0_ : (w2).cell? ⟨W.heap.size + 1, 0, none⟩ = some (.int .i64 p.f0) := cell_of_row _ _ 0 _ _ _ rK16_.out
  have K_1_ : (w2).cell? ⟨W.heap.size + 1, 1, none⟩ = some (.int .i64 p.f1) := cell_of_row _ _ 1 _ _ _ rK16_.out
  have K_2_ : (w2).cell? ⟨W.heap.size + 1, 2, none⟩ = some (.int .i64 p.f2) := cell_of_row _ _ 2 _ _ _ rK16_.out
  have K_3_ : (w2).cell? ⟨W.heap.size + 1, 3, none⟩ = some (.int .i64 p.f3) := cell_of_row _ _ 3 _ _ _ rK16_.out
  have K_4_ : (w2).cell? ⟨W.heap.size + 1, 4, none⟩ = some (.int .i64 p.f4) := cell_of_row _ _ 4 _ _ _ rK16_.out
  have K_5_ : (w2).cell? ⟨W.heap.size + 1, 5, none⟩ = some (.int .i64 p.f5) := cell_of_row _ _ 5 _ _ _ rK16_.out
  have K_6_ : (w2).cell? ⟨W.heap.size + 1, 6, none⟩ = some (.int .i64 p.f6) := cell_of_row _ _ 6 _ _ _ rK16_.out
  have K_7_ : (w2).cell? ⟨W.heap.size + 1, 7, none⟩ = some (vp) := cell_of_row _ _ 7 _ _ _ rK16_.out
  have R_0_ : (w2).cell? ⟨W.heap.size + 1 + 1, 0, none⟩ = some (.slice none 0 0) := cell_of_row _ _ 0 _ _ _ rR17_.out
  have R_1_ : (w2).cell? ⟨W.heap.size + 1 + 1, 1, none⟩ = some (.slice none 0 0) := cell_of_row _ _ 1 _ _ _ rR17_.out
  have Rf0_ : (w2).frozen? ⟨W.heap.size + 1 + 1, 0, none⟩ = false := frozen_of_row _ _ 0 _ _ rR17_.out
  have Rf1_ : (w2).frozen? ⟨W.heap.size + 1 + 1, 1, none⟩ = false := frozen_of_row _ _ 1 _ _ rR17_.out
  have zr_ := Lib.hid (show (((w2.setCell ⟨W.heap.size + 1 + 1, 0, none⟩ (.slice q0 m0 d0)).setCell ⟨W.heap.size + 1 + 1, 1, none⟩ (.slice q1 m1 d1))).heap[W.heap.size + 1 + 1]? = some (.cells #[.slice q0 m0 d0, .slice q1 m1 d1] 54 (0, 0)) from (heap_setCell_same _ _ 1 _ _ _ (heap_setCell_same _ _ 0 _ _ _ rR17_.out)))
  have z0_ : (((w2.setCell ⟨W.heap.size + 1 + 1, 0, none⟩ (.slice q0 m0 d0)).setCell ⟨W.heap.size + 1 + 1, 1, none⟩ (.slice q1 m1 d1))).cell? ⟨W.heap.size + 1 + 1, 0, none⟩ = some (.slice q0 m0 d0) := cell_of_row _ _ 0 _ _ _ zr_.out
  have z1_ : (((w2.setCell ⟨W.heap.size + 1 + 1, 0, none⟩ (.slice q0 m0 d0)).setCell ⟨W.heap.size + 1 + 1, 1, none⟩ (.slice q1 m1 d1))).cell? ⟨W.heap.size + 1 + 1, 1, none⟩ = some (.slice q1 m1 d1) := cell_of_row _ _ 1 _ _ _ zr_.out
  go_wp2
  refine bodyPost_ret (v := .tuple #[.agg #[.slice q0 m0 d0, .slice q1 m1 d1], .bool false]) (by simp [results, go_sem, z0_, z1_]) rfl ⟨_, _, rfl, ?_, ?_⟩
  · exact OwU.wide (lo := W.heap.size + 1 + 1 + 1) (by omega) (by simp only [World.size_setCell]; omega) (OwU.keep (chg_one _ _ _ _) (.inr (by omega)) (OwU.keep (chg_one _ _ _ _) (.inr (by omega)) oC18_.out))
  · exact (gby_setnew (gby_setnew G19_.out _ (by dsimp only; omega) _) _ (by dsimp only; omega) _)

set_option maxRecDepth 8000 in
set_option maxHeartbeats 2000000 in
theorem implReturnCredits_pk (W : World) (u0 u1 vp : Value) (xs ys : List Int) (p : DPacket) (H0 : RdL shI W u0 xs) (H1 : RdL shI W u1 ys) (Hp : RdL shI W vp p.f7) (h0 : szL shI xs ≤ 1048576) (h1 : szL shI ys ≤ 1048576) (hl : szL shI p.f7 ≤ 1048576) (hb : CrdOk xs ys) (hn : ¬ 0 ≤ clsD p) : Calls Try.prog 42 #[.agg #[u0, u1], (vPacket p.f0 p.f1 p.f2 p.f3 p.f4 p.f5 p.f6 vp)] W (ResIReturnCredits xs ys false W) := by
  have HSX := Lib.hid H0
  have HSY := Lib.hid H1
  have HP := Lib.hid Hp
  have HXL := Lib.hid h0
  have HYL := Lib.hid h1
  have HL := Lib.hid hl
  obtain ⟨a0, n0, c0, rfl⟩ := RdL.form H0
  obtain ⟨a1, n1, c1, rfl⟩ := RdL.form H1
  clear H0 H1 Hp h0 h1 hl
  unfold vPacket
  have HCO := Lib.hid hb
  have HN := Lib.hid hn
  clear hb hn
  go_enter Try.func42, Try.ntmps42
  have rA1_ := Lib.hid (show ((((W.alloc (.cells #[.slice a0 n0 c0, .slice a1 n1 c1] 54)).alloc (.cells #[.int .i64 p.f0, .int .i64 p.f1, .int .i64 p.f2, .int .i64 p.f3, .int .i64 p.f4, .int .i64 p.f5, .int .i64 p.f6, vp] 29)).alloc (.cells #[.slice none 0 0, .slice none 0 0] 54))).heap[W.heap.size]? = some (.cells #[.slice a0 n0 c0, .slice a1 n1 c1] 54 (0, 0)) from by rw [heap_alloc_old _ _ (by simp only [World.size_alloc]; omega)]; rw [heap_alloc_old _ _ (by simp only [World.size_alloc]; omega)]; exact heap_alloc_new _ _)
  have rK2_ := Lib.hid (show ((((W.alloc (.cells #[.slice a0 n0 c0, .slice a1 n1 c1] 54)).alloc (.cells #[.int .i64 p.f0, .int .i64 p.f1, .int .i64 p.f2, .int .i64 p.f3, .int .i64 p.f4, .int .i64 p.f5, .int .i64 p.f6, vp] 29)).alloc (.cells #[.slice none 0 0, .slice none 0 0] 54))).heap[W.heap.size + 1]? = some (.cells #[.int .i64 p.f0, .int .i64 p.f1, .int .i64 p.f2, .int .i64 p.f3, .int .i64 p.f4, .int .i64 p.f5, .int .i64 p.f6, vp] 29 (0, 0)) from by rw [heap_alloc_old _ _ (by simp only [World.size_alloc]; omega)]; exact heap_pair _ _ _)
  have rR3_ := Lib.hid (show ((((W.alloc (.cells #[.slice a0 n0 c0, .slice a1 n1 c1] 54)).alloc (.cells #[.int .i64 p.f0, .int .i64 p.f1, .int .i64 p.f2, .int .i64 p.f3, .int .i64 p.f4, .int .i64 p.f5, .int .i64 p.f6, vp] 29)).alloc (.cells #[.slice none 0 0, .slice none 0 0] 54))).heap[W.heap.size + 1 + 1]? = some (.cells #[.slice none 0 0, .slice none 0 0] 54 (0, 0)) from by exact heap_trip _ _ _ _)
  have G4_ := Lib.hid (show (W).grownBy ((((W.alloc (.cells #[.slice a0 n0 c0, .slice a1 n1 c1] 54)).alloc (.cells #[.int .i64 p.f0, .int .i64 p.f1, .int .i64 p.f2, .int .i64 p.f3, .int .i64 p.f4, .int .i64 p.f5, .int .i64 p.f6, vp] 29)).alloc (.cells #[.slice none 0 0, .slice none 0 0] 54))) none from (gby_alloc (gby_alloc (gby_alloc (gby_refl _ _) _) _) _))
  have A_0_ : ((((W.alloc (.cells #[.slice a0 n0 c0, .slice a1 n1 c1] 54)).alloc (.cells #[.int .i64 p.f0, .int .i64 p.f1, .int .i64 p.f2, .int .i64 p.f3, .int .i64 p.f4, .int .i64 p.f5, .int .i64 p.f6, vp] 29)).alloc (.cells #[.slice none 0 0, .slice none 0 0] 54))).cell? ⟨W.heap.size, 0, none⟩ = some (.slice a0 n0 c0) := cell_of_row _ _ 0 _ _ _ rA1_.out
  have A_1_ : ((((W.alloc (.cells #[.slice a0 n0 c0, .slice a1 n1 c1] 54)).alloc (.cells #[.int .i64 p.f0, .int .i64 p.f1, .int .i64 p.f2, .int .i64 p.f3, .int .i64 p.f4, .int .i64 p.f5, .int .i64 p.f6, vp] 29)).alloc (.cells #[.slice none 0 0, .slice none 0 0] 54))).cell? ⟨W.heap.size, 1, none⟩ = some (.slice a1 n1 c1) := cell_of_row _ _ 1 _ _ _ rA1_.out
  have K_0_ : ((((W.alloc (.cells #[.slice a0 n0 c0, .slice a1 n1 c1] 54)).alloc (.cells #[.int .i64 p.f0, .int .i64 p.f1, .int .i64 p.f2, .int .i64 p.f3, .int .i64 p.f4, .int .i64 p.f5, .int .i64 p.f6, vp] 29)).alloc (.cells #[.slice none 0 0, .slice none 0 0] 54))).cell? ⟨W.heap.size + 1, 0, none⟩ = some (.int .i64 p.f0) := cell_of_row _ _ 0 _ _ _ rK2_.out
  have K_1_ : ((((W.alloc (.cells #[.slice a0 n0 c0, .slice a1 n1 c1] 54)).alloc (.cells #[.int .i64 p.f0, .int .i64 p.f1, .int .i64 p.f2, .int .i64 p.f3, .int .i64 p.f4, .int .i64 p.f5, .int .i64 p.f6, vp] 29)).alloc (.cells #[.slice none 0 0, .slice none 0 0] 54))).cell? ⟨W.heap.size + 1, 1, none⟩ = some (.int .i64 p.f1) := cell_of_row _ _ 1 _ _ _ rK2_.out
  have K_2_ : ((((W.alloc (.cells #[.slice a0 n0 c0, .slice a1 n1 c1] 54)).alloc (.cells #[.int .i64 p.f0, .int .i64 p.f1, .int .i64 p.f2, .int .i64 p.f3, .int .i64 p.f4, .int .i64 p.f5, .int .i64 p.f6, vp] 29)).alloc (.cells #[.slice none 0 0, .slice none 0 0] 54))).cell? ⟨W.heap.size + 1, 2, none⟩ = some (.int .i64 p.f2) := cell_of_row _ _ 2 _ _ _ rK2_.out
  have K_3_ : ((((W.alloc (.cells #[.slice a0 n0 c0, .slice a1 n1 c1] 54)).alloc (.cells #[.int .i64 p.f0, .int .i64 p.f1, .int .i64 p.f2, .int .i64 p.f3, .int .i64 p.f4, .int .i64 p.f5, .int .i64 p.f6, vp] 29)).alloc (.cells #[.slice none 0 0, .slice none 0 0] 54))).cell? ⟨W.heap.size + 1, 3, none⟩ = some (.int .i64 p.f3) := cell_of_row _ _ 3 _ _ _ rK2_.out
  have K_4_ : ((((W.alloc (.cells #[.slice a0 n0 c0, .slice a1 n1 c1] 54)).alloc (.cells #[.int .i64 p.f0, .int .i64 p.f1, .int .i64 p.f2, .int .i64 p.f3, .int .i64 p.f4, .int .i64 p.f5, .int .i64 p.f6, vp] 29)).alloc (.cells #[.slice none 0 0, .slice none 0 0] 54))).cell? ⟨W.heap.size + 1, 4, none⟩ = some (.int .i64 p.f4) := cell_of_row _ _ 4 _ _ _ rK2_.out
  have K_5_ : ((((W.alloc (.cells #[.slice a0 n0 c0, .slice a1 n1 c1] 54)).alloc (.cells #[.int .i64 p.f0, .int .i64 p.f1, .int .i64 p.f2, .int .i64 p.f3, .int .i64 p.f4, .int .i64 p.f5, .int .i64 p.f6, vp] 29)).alloc (.cells #[.slice none 0 0, .slice none 0 0] 54))).cell? ⟨W.heap.size + 1, 5, none⟩ = some (.int .i64 p.f5) := cell_of_row _ _ 5 _ _ _ rK2_.out
  have K_6_ : ((((W.alloc (.cells #[.slice a0 n0 c0, .slice a1 n1 c1] 54)).alloc (.cells #[.int .i64 p.f0, .int .i64 p.f1, .int .i64 p.f2, .int .i64 p.f3, .int .i64 p.f4, .int .i64 p.f5, .int .i64 p.f6, vp] 29)).alloc (.cells #[.slice none 0 0, .slice none 0 0] 54))).cell? ⟨W.heap.size + 1, 6, none⟩ = some (.int .i64 p.f6) := cell_of_row _ _ 6 _ _ _ rK2_.out
  have K_7_ : ((((W.alloc (.cells #[.slice a0 n0 c0, .slice a1 n1 c1] 54)).alloc (.cells #[.int .i64 p.f0, .int .i64 p.f1, .int .i64 p.f2, .int .i64 p.f3, .int .i64 p.f4, .int .i64 p.f5, .int .i64 p.f6, vp] 29)).alloc (.cells #[.slice none 0 0, .slice none 0 0] 54))).cell? ⟨W.heap.size + 1, 7, none⟩ = some (vp) := cell_of_row _ _ 7 _ _ _ rK2_.out
  have R_0_ : ((((W.alloc (.cells #[.slice a0 n0 c0, .slice a1 n1 c1] 54)).alloc (.cells #[.int .i64 p.f0, .int .i64 p.f1, .int .i64 p.f2, .int .i64 p.f3, .int .i64 p.f4, .int .i64 p.f5, .int .i64 p.f6, vp] 29)).alloc (.cells #[.slice none 0 0, .slice none 0 0] 54))).cell? ⟨W.heap.size + 1 + 1, 0, none⟩ = some (.slice none 0 0) := cell_of_row _ _ 0 _ _ _ rR3_.out
  have R_1_ : ((((W.alloc (.cells #[.slice a0 n0 c0, .slice a1 n1 c1] 54)).alloc (.cells #[.int .i64 p.f0, .int .i64 p.f1, .int .i64 p.f2, .int .i64 p.f3, .int .i64 p.f4, .int .i64 p.f5, .int .i64 p.f6, vp] 29)).alloc (.cells #[.slice none 0 0, .slice none 0 0] 54))).cell? ⟨W.heap.size + 1 + 1, 1, none⟩ = some (.slice none 0 0) := cell_of_row _ _ 1 _ _ _ rR3_.out
  go_wp2_with fail
  go_at_call 87
  refine (copiedCr_d _ _ _ xs ys (HSX.out.grow G4_.out) (HSY.out.grow G4_.out) HXL.out HYL.out).mono ?_
  rintro e w1 ⟨z0, z1, rfl, o, g⟩
  have sz_ := g.size
  try simp only [World.size_alloc] at sz_ o
  clear A_0_ A_1_ K_0_ K_1_ K_2_ K_3_ K_4_ K_5_ K_6_ K_7_ R_0_ R_1_
  have rA5_ := Lib.hid (show (w1).heap[W.heap.size]? = some (.cells #[.slice a0 n0 c0, .slice a1 n1 c1] 54 (0, 0)) from row_held g rA1_.out)
  clear rA1_
  have rK6_ := Lib.hid (show (w1).heap[W.heap.size + 1]? = some (.cells #[.int .i64 p.f0, .int .i64 p.f1, .int .i64 p.f2, .int .i64 p.f3, .int .i64 p.f4, .int .i64 p.f5, .int .i64 p.f6, vp] 29 (0, 0)) from row_held g rK2_.out)
  clear rK2_
  have rR7_ := Lib.hid (show (w1).heap[W.heap.size + 1 + 1]? = some (.cells #[.slice none 0 0, .slice none 0 0] 54 (0, 0)) from row_held g rR3_.out)
  clear rR3_
  have G8_ := Lib.hid (show (W).grownBy (w1) none from gby_trans G4_.out g)
  clear g
  obtain ⟨q0, m0, d0, hv_⟩ := RdL.form (OwU.rd o)
  subst hv_
  obtain ⟨q1, m1, d1, hv_⟩ := RdL.form (OwU.rd (OwU.tail o))
  subst hv_
  unfold vCredits
  have oC9_ := Lib.hid (show OwU (w1) ((W.heap.size + 1 + 1 + 1)) (w1.heap.size) [] [own shI (.slice q0 m0 d0) xs, own shI (.slice q1 m1 d1) ys] from o)
  clear o
  have A_0_ : (w1).cell? ⟨W.heap.size, 0, none⟩ = some (.slice a0 n0 c0) := cell_of_row _ _ 0 _ _ _ rA5_.out
  have A_1_ : (w1).cell? ⟨W.heap.size, 1, none⟩ = some (.slice a1 n1 c1) := cell_of_row _ _ 1 _ _ _ rA5_.out
  have Af0_ : (w1).frozen? ⟨W.heap.size, 0, none⟩ = false := frozen_of_row _ _ 0 _ _ rA5_.out
  have Af1_ : (w1).frozen? ⟨W.heap.size, 1, none⟩ = false := frozen_of_row _ _ 1 _ _ rA5_.out
  have K_0_ : (w1).cell? ⟨W.heap.size + 1, 0, none⟩ = some (.int .i64 p.f0) := cell_of_row _ _ 0 _ _ _ rK6_.out
  have K_1_ : (w1).cell? ⟨W.heap.size + 1, 1, none⟩ = some (.int .i64 p.f1) := cell_of_row _ _ 1 _ _ _ rK6_.out
  have K_2_ : (w1).cell? ⟨W.heap.size + 1, 2, none⟩ = some (.int .i64 p.f2) := cell_of_row _ _ 2 _ _ _ rK6_.out
  have K_3_ : (w1).cell? ⟨W.heap.size + 1, 3, none⟩ = some (.int .i64 p.f3) := cell_of_row _ _ 3 _ _ _ rK6_.out
  have K_4_ : (w1).cell? ⟨W.heap.size + 1, 4, none⟩ = some (.int .i64 p.f4) := cell_of_row _ _ 4 _ _ _ rK6_.out
  have K_5_ : (w1).cell? ⟨W.heap.size + 1, 5, none⟩ = some (.int .i64 p.f5) := cell_of_row _ _ 5 _ _ _ rK6_.out
  have K_6_ : (w1).cell? ⟨W.heap.size + 1, 6, none⟩ = some (.int .i64 p.f6) := cell_of_row _ _ 6 _ _ _ rK6_.out
  have K_7_ : (w1).cell? ⟨W.heap.size + 1, 7, none⟩ = some (vp) := cell_of_row _ _ 7 _ _ _ rK6_.out
  have R_0_ : (w1).cell? ⟨W.heap.size + 1 + 1, 0, none⟩ = some (.slice none 0 0) := cell_of_row _ _ 0 _ _ _ rR7_.out
  have R_1_ : (w1).cell? ⟨W.heap.size + 1 + 1, 1, none⟩ = some (.slice none 0 0) := cell_of_row _ _ 1 _ _ _ rR7_.out
  go_wp2_with fail
  go_at_call 47
  clear A_0_ A_1_ Af0_ Af1_ K_0_ K_1_ K_2_ K_3_ K_4_ K_5_ K_6_ K_7_ R_0_ R_1_
  have rK10_ := Lib.hid (show (((w1.setCell ⟨W.heap.size, 0, none⟩ (.slice q0 m0 d0)).setCell ⟨W.heap.size, 1, none⟩ (.slice q1 m1 d1))).heap[W.heap.size + 1]? = some (.cells #[.int .i64 p.f0, .int .i64 p.f1, .int .i64 p.f2, .int .i64 p.f3, .int .i64 p.f4, .int .i64 p.f5, .int .i64 p.f6, vp] 29 (0, 0)) from (set_far (set_far rK6_.out (by dsimp only; omega)) (by dsimp only; omega)))
  clear rK6_
  have rR11_ := Lib.hid (show (((w1.setCell ⟨W.heap.size, 0, none⟩ (.slice q0 m0 d0)).setCell ⟨W.heap.size, 1, none⟩ (.slice q1 m1 d1))).heap[W.heap.size + 1 + 1]? = some (.cells #[.slice none 0 0, .slice none 0 0] 54 (0, 0)) from (set_far (set_far rR7_.out (by dsimp only; omega)) (by dsimp only; omega)))
  clear rR7_
  have rA12_ := Lib.hid (show (((w1.setCell ⟨W.heap.size, 0, none⟩ (.slice q0 m0 d0)).setCell ⟨W.heap.size, 1, none⟩ (.slice q1 m1 d1))).heap[W.heap.size]? = some (.cells #[.slice q0 m0 d0, .slice q1 m1 d1] 54 (0, 0)) from (heap_setCell_same _ _ 1 _ _ _ (heap_setCell_same _ _ 0 _ _ _ rA5_.out)))
  clear rA5_
  have oC13_ := Lib.hid (show OwU (((w1.setCell ⟨W.heap.size, 0, none⟩ (.slice q0 m0 d0)).setCell ⟨W.heap.size, 1, none⟩ (.slice q1 m1 d1))) ((W.heap.size + 1 + 1 + 1)) (w1.heap.size) [] [own shI (.slice q0 m0 d0) xs, own shI (.slice q1 m1 d1) ys] from (OwU.keep (chg_one _ _ _ _) (by omega) (OwU.keep (chg_one _ _ _ _) (by omega) oC9_.out)))
  clear oC9_
  have G14_ := Lib.hid (show (W).grownBy (((w1.setCell ⟨W.heap.size, 0, none⟩ (.slice q0 m0 d0)).setCell ⟨W.heap.size, 1, none⟩ (.slice q1 m1 d1))) none from (gby_setnew (gby_setnew G8_.out _ (by dsimp only; omega) _) _ (by dsimp only; omega) _))
  have A_0_ : (((w1.setCell ⟨W.heap.size, 0, none⟩ (.slice q0 m0 d0)).setCell ⟨W.heap.size, 1, none⟩ (.slice q1 m1 d1))).cell? ⟨W.heap.size, 0, none⟩ = some (.slice q0 m0 d0) := cell_of_row _ _ 0 _ _ _ rA12_.out
  have A_1_ : (((w1.setCell ⟨W.heap.size, 0, none⟩ (.slice q0 m0 d0)).setCell ⟨W.heap.size, 1, none⟩ (.slice q1 m1 d1))).cell? ⟨W.heap.size, 1, none⟩ = some (.slice q1 m1 d1) := cell_of_row _ _ 1 _ _ _ rA12_.out
  have K_0_ : (((w1.setCell ⟨W.heap.size, 0, none⟩ (.slice q0 m0 d0)).setCell ⟨W.heap.size, 1, none⟩ (.slice q1 m1 d1))).cell? ⟨W.heap.size + 1, 0, none⟩ = some (.int .i64 p.f0) := cell_of_row _ _ 0 _ _ _ rK10_.out
  have K_1_ : (((w1.setCell ⟨W.heap.size, 0, none⟩ (.slice q0 m0 d0)).setCell ⟨W.heap.size, 1, none⟩ (.slice q1 m1 d1))).cell? ⟨W.heap.size + 1, 1, none⟩ = some (.int .i64 p.f1) := cell_of_row _ _ 1 _ _ _ rK10_.out
  have K_2_ : (((w1.setCell ⟨W.heap.size, 0, none⟩ (.slice q0 m0 d0)).setCell ⟨W.heap.size, 1, none⟩ (.slice q1 m1 d1))).cell? ⟨W.heap.size + 1, 2, none⟩ = some (.int .i64 p.f2) := cell_of_row _ _ 2 _ _ _ rK10_.out
  have K_3_ : (((w1.setCell ⟨W.heap.size, 0, none⟩ (.slice q0 m0 d0)).setCell ⟨W.heap.size, 1, none⟩ (.slice q1 m1 d1))).cell? ⟨W.heap.size + 1, 3, none⟩ = some (.int .i64 p.f3) := cell_of_row _ _ 3 _ _ _ rK10_.out
  have K_4_ : (((w1.setCell ⟨W.heap.size, 0, none⟩ (.slice q0 m0 d0)).setCell ⟨W.heap.size, 1, none⟩ (.slice q1 m1 d1))).cell? ⟨W.heap.size + 1, 4, none⟩ = some (.int .i64 p.f4) := cell_of_row _ _ 4 _ _ _ rK10_.out
  have K_5_ : (((w1.setCell ⟨W.heap.size, 0, none⟩ (.slice q0 m0 d0)).setCell ⟨W.heap.size, 1, none⟩ (.slice q1 m1 d1))).cell? ⟨W.heap.size + 1, 5, none⟩ = some (.int .i64 p.f5) := cell_of_row _ _ 5 _ _ _ rK10_.out
  have K_6_ : (((w1.setCell ⟨W.heap.size, 0, none⟩ (.slice q0 m0 d0)).setCell ⟨W.heap.size, 1, none⟩ (.slice q1 m1 d1))).cell? ⟨W.heap.size + 1, 6, none⟩ = some (.int .i64 p.f6) := cell_of_row _ _ 6 _ _ _ rK10_.out
  have K_7_ : (((w1.setCell ⟨W.heap.size, 0, none⟩ (.slice q0 m0 d0)).setCell ⟨W.heap.size, 1, none⟩ (.slice q1 m1 d1))).cell? ⟨W.heap.size + 1, 7, none⟩ = some (vp) := cell_of_row _ _ 7 _ _ _ rK10_.out
  have R_0_ : (((w1.setCell ⟨W.heap.size, 0, none⟩ (.slice q0 m0 d0)).setCell ⟨W.heap.size, 1, none⟩ (.slice q1 m1 d1))).cell? ⟨W.heap.size + 1 + 1, 0, none⟩ = some (.slice none 0 0) := cell_of_row _ _ 0 _ _ _ rR11_.out
  have R_1_ : (((w1.setCell ⟨W.heap.size, 0, none⟩ (.slice q0 m0 d0)).setCell ⟨W.heap.size, 1, none⟩ (.slice q1 m1 d1))).cell? ⟨W.heap.size + 1 + 1, 1, none⟩ = some (.slice none 0 0) := cell_of_row _ _ 1 _ _ _ rR11_.out
  refine (implCrD _ _ _ xs ys (OwU.rd oC13_.out) (OwU.rd (OwU.tail oC13_.out)) HXL.out HYL.out true (by rw [decide_eq_true HCO.out])).mono ?_
  rintro e w2 ⟨rfl, g⟩
  have szw2 := g.size
  try simp only [World.size_setCell] at szw2
  try simp only [World.size_alloc] at szw2
  clear A_0_ A_1_ K_0_ K_1_ K_2_ K_3_ K_4_ K_5_ K_6_ K_7_ R_0_ R_1_
  have rA15_ := Lib.hid (show (w2).heap[W.heap.size]? = some (.cells #[.slice q0 m0 d0, .slice q1 m1 d1] 54 (0, 0)) from row_held g rA12_.out)
  clear rA12_
  have rK16_ := Lib.hid (show (w2).heap[W.heap.size + 1]? = some (.cells #[.int .i64 p.f0, .int .i64 p.f1, .int .i64 p.f2, .int .i64 p.f3, .int .i64 p.f4, .int .i64 p.f5, .int .i64 p.f6, vp] 29 (0, 0)) from row_held g rK10_.out)
  clear rK10_
  have rR17_ := Lib.hid (show (w2).heap[W.heap.size + 1 + 1]? = some (.cells #[.slice none 0 0, .slice none 0 0] 54 (0, 0)) from row_held g rR11_.out)
  clear rR11_
  have oC18_ := Lib.hid (show OwU (w2) ((W.heap.size + 1 + 1 + 1)) (w1.heap.size) [] [own shI (.slice q0 m0 d0) xs, own shI (.slice q1 m1 d1) ys] from OwU.grow oC13_.out g)
  clear oC13_
  have G19_ := Lib.hid (show (W).grownBy (w2) none from gby_trans G14_.out g)
  clear g
  have A_0_ : (w2).cell? ⟨W.heap.size, 0, none⟩ = some (.slice q0 m0 d0) := cell_of_row _ _ 0 _ _ _ rA15_.out
  have A_1_ : (w2).cell? ⟨W.heap.size, 1, none⟩ = some (.slice q1 m1 d1) := cell_of_row _ _ 1 _ _ _ rA15_.out
  have K_0_ : (w2).cell? ⟨W.heap.size + 1, 0, none⟩ = some (.int .i64 p.f0) := cell_of_row _ _ 0 _ _ _ rK16_.out
  have K_1_ : (w2).cell? ⟨W.heap.size + 1, 1, none⟩ = some (.int .i64 p.f1) := cell_of_row _ _ 1 _ _ _ rK16_.out
  have K_2_ : (w2).cell? ⟨W.heap.size + 1, 2, none⟩ = some (.int .i64 p.f2) := cell_of_row _ _ 2 _ _ _ rK16_.out
  have K_3_ : (w2).cell? ⟨W.heap.size + 1, 3, none⟩ = some (.int .i64 p.f3) := cell_of_row _ _ 3 _ _ _ rK16_.out
  have K_4_ : (w2).cell? ⟨W.heap.size + 1, 4, none⟩ = some (.int .i64 p.f4) := cell_of_row _ _ 4 _ _ _ rK16_.out
  have K_5_ : (w2).cell? ⟨W.heap.size + 1, 5, none⟩ = some (.int .i64 p.f5) := cell_of_row _ _ 5 _ _ _ rK16_.out
  have K_6_ : (w2).cell? ⟨W.heap.size + 1, 6, none⟩ = some (.int .i64 p.f6) := cell_of_row _ _ 6 _ _ _ rK16_.out
  have K_7_ : (w2).cell? ⟨W.heap.size + 1, 7, none⟩ = some (vp) := cell_of_row _ _ 7 _ _ _ rK16_.out
  have R_0_ : (w2).cell? ⟨W.heap.size + 1 + 1, 0, none⟩ = some (.slice none 0 0) := cell_of_row _ _ 0 _ _ _ rR17_.out
  have R_1_ : (w2).cell? ⟨W.heap.size + 1 + 1, 1, none⟩ = some (.slice none 0 0) := cell_of_row _ _ 1 _ _ _ rR17_.out
  go_wp2_with fail
  go_at_call 30
  refine (implPkD _ p _ (HP.out.grow G19_.out) HL.out false (by have := HN.out; rw [decide_eq_false (by omega)])).mono ?_
  rintro e w3 ⟨rfl, g⟩
  have szw3 := g.size
  try simp only [World.size_alloc] at szw3
  try simp only [World.size_setCell] at szw3
  clear A_0_ A_1_ K_0_ K_1_ K_2_ K_3_ K_4_ K_5_ K_6_ K_7_ R_0_ R_1_
  have rA20_ := Lib.hid (show (w3).heap[W.heap.size]? = some (.cells #[.slice q0 m0 d0, .slice q1 m1 d1] 54 (0, 0)) from row_held g rA15_.out)
  clear rA15_
  have rK21_ := Lib.hid (show (w3).heap[W.heap.size + 1]? = some (.cells #[.int .i64 p.f0, .int .i64 p.f1, .int .i64 p.f2, .int .i64 p.f3, .int .i64 p.f4, .int .i64 p.f5, .int .i64 p.f6, vp] 29 (0, 0)) from row_held g rK16_.out)
  clear rK16_
  have rR22_ := Lib.hid (show (w3).heap[W.heap.size + 1 + 1]? = some (.cells #[.slice none 0 0, .slice none 0 0] 54 (0, 0)) from row_held g rR17_.out)
  clear rR17_
  have oC23_ := Lib.hid (show OwU (w3) ((W.heap.size + 1 + 1 + 1)) (w1.heap.size) [] [own shI (.slice q0 m0 d0) xs, own shI (.slice q1 m1 d1) ys] from OwU.grow oC18_.out g)
  clear oC18_
  have G24_ := Lib.hid (show (W).grownBy (w3) none from gby_trans G19_.out g)
  clear g
  have A_0_ : (w3).cell? ⟨W.heap.size, 0, none⟩ = some (.slice q0 m0 d0) := cell_of_row _ _ 0 _ _ _ rA20_.out
  have A_1_ : (w3).cell? ⟨W.heap.size, 1, none⟩ = some (.slice q1 m1 d1) := cell_of_row _ _ 1 _ _ _ rA20_.out
  have K_0_ : (w3).cell? ⟨W.heap.size + 1, 0, none⟩ = some (.int .i64 p.f0) := cell_of_row _ _ 0 _ _ _ rK21_.out
  have K_1_ : (w3).cell? ⟨W.heap.size + 1, 1, none⟩ = some (.int .i64 p.f1) := cell_of_row _ _ 1 _ _ _ rK21_.out
  have K_2_ : (w3).cell? ⟨W.heap.size + 1, 2, none⟩ = some (.int .i64 p.f2) := cell_of_row _ _ 2 _ _ _ rK21_.out
  have K_3_ : (w3).cell? ⟨W.heap.size + 1, 3, none⟩ = some (.int .i64 p.f3) := cell_of_row _ _ 3 _ _ _ rK21_.out
  have K_4_ : (w3).cell? ⟨W.heap.size + 1, 4, none⟩ = some (.int .i64 p.f4) := cell_of_row _ _ 4 _ _ _ rK21_.out
  have K_5_ : (w3).cell? ⟨W.heap.size + 1, 5, none⟩ = some (.int .i64 p.f5) := cell_of_row _ _ 5 _ _ _ rK21_.out
  have K_6_ : (w3).cell? ⟨W.heap.size + 1, 6, none⟩ = some (.int .i64 p.f6) := cell_of_row _ _ 6 _ _ _ rK21_.out
  have K_7_ : (w3).cell? ⟨W.heap.size + 1, 7, none⟩ = some (vp) := cell_of_row _ _ 7 _ _ _ rK21_.out
  have R_0_ : (w3).cell? ⟨W.heap.size + 1 + 1, 0, none⟩ = some (.slice none 0 0) := cell_of_row _ _ 0 _ _ _ rR22_.out
  have R_1_ : (w3).cell? ⟨W.heap.size + 1 + 1, 1, none⟩ = some (.slice none 0 0) := cell_of_row _ _ 1 _ _ _ rR22_.out
  clear A_0_ A_1_ K_0_ K_1_ K_2_ K_3_ K_4_ K_5_ K_6_ K_7_ R_0_ R_1_
  have A_0_ : (w3).cell? ⟨W.heap.size, 0, none⟩ = some (.slice q0 m0 d0) := cell_of_row _ _ 0 _ _ _ rA20_.out
  have A_1_ : (w3).cell? ⟨W.heap.size, 1, none⟩ = some (.slice q1 m1 d1) := cell_of_row _ _ 1 _ _ _ rA20_.out
  have K_0_ : (w3).cell? ⟨W.heap.size + 1, 0, none⟩ = some (.int .i64 p.f0) := cell_of_row _ _ 0 _ _ _ rK21_.out
  have K_1_ : (w3).cell? ⟨W.heap.size + 1, 1, none⟩ = some (.int .i64 p.f1) := cell_of_row _ _ 1 _ _ _ rK21_.out
  have K_2_ : (w3).cell? ⟨W.heap.size + 1, 2, none⟩ = some (.int .i64 p.f2) := cell_of_row _ _ 2 _ _ _ rK21_.out
  have K_3_ : (w3).cell? ⟨W.heap.size + 1, 3, none⟩ = some (.int .i64 p.f3) := cell_of_row _ _ 3 _ _ _ rK21_.out
  have K_4_ : (w3).cell? ⟨W.heap.size + 1, 4, none⟩ = some (.int .i64 p.f4) := cell_of_row _ _ 4 _ _ _ rK21_.out
  have K_5_ : (w3).cell? ⟨W.heap.size + 1, 5, none⟩ = some (.int .i64 p.f5) := cell_of_row _ _ 5 _ _ _ rK21_.out
  have K_6_ : (w3).cell? ⟨W.heap.size + 1, 6, none⟩ = some (.int .i64 p.f6) := cell_of_row _ _ 6 _ _ _ rK21_.out
  have K_7_ : (w3).cell? ⟨W.heap.size + 1, 7, none⟩ = some (vp) := cell_of_row _ _ 7 _ _ _ rK21_.out
  have R_0_ : (w3).cell? ⟨W.heap.size + 1 + 1, 0, none⟩ = some (.slice none 0 0) := cell_of_row _ _ 0 _ _ _ rR22_.out
  have R_1_ : (w3).cell? ⟨W.heap.size + 1 + 1, 1, none⟩ = some (.slice none 0 0) := cell_of_row _ _ 1 _ _ _ rR22_.out
  clear A_0_ A_1_ K_0_ K_1_ K_2_ K_3_ K_4_ K_5_ K_6_ K_7_ R_0_ R_1_
  have A_0_ : (w3).cell? ⟨W.heap.size, 0, none⟩ = some (.slice q0 m0 d0) := cell_of_row _ _ 0 _ _ _ rA20_.out
  have A_1_ : (w3).cell? ⟨W.heap.size, 1, none⟩ = some (.slice q1 m1 d1) := cell_of_row _ _ 1 _ _ _ rA20_.out
  have K_0_ : (w3).cell? ⟨W.heap.size + 1, 0, none⟩ = some (.int .i64 p.f0) := cell_of_row _ _ 0 _ _ _ rK21_.out
  have K_1_ : (w3).cell? ⟨W.heap.size + 1, 1, none⟩ = some (.int .i64 p.f1) := cell_of_row _ _ 1 _ _ _ rK21_.out
  have K_2_ : (w3).cell? ⟨W.heap.size + 1, 2, none⟩ = some (.int .i64 p.f2) := cell_of_row _ _ 2 _ _ _ rK21_.out
  have K_3_ : (w3).cell? ⟨W.heap.size + 1, 3, none⟩ = some (.int .i64 p.f3) := cell_of_row _ _ 3 _ _ _ rK21_.out
  have K_4_ : (w3).cell? ⟨W.heap.size + 1, 4, none⟩ = some (.int .i64 p.f4) := cell_of_row _ _ 4 _ _ _ rK21_.out
  have K_5_ : (w3).cell? ⟨W.heap.size + 1, 5, none⟩ = some (.int .i64 p.f5) := cell_of_row _ _ 5 _ _ _ rK21_.out
  have K_6_ : (w3).cell? ⟨W.heap.size + 1, 6, none⟩ = some (.int .i64 p.f6) := cell_of_row _ _ 6 _ _ _ rK21_.out
  have K_7_ : (w3).cell? ⟨W.heap.size + 1, 7, none⟩ = some (vp) := cell_of_row _ _ 7 _ _ _ rK21_.out
  have R_0_ : (w3).cell? ⟨W.heap.size + 1 + 1, 0, none⟩ = some (.slice none 0 0) := cell_of_row _ _ 0 _ _ _ rR22_.out
  have R_1_ : (w3).cell? ⟨W.heap.size + 1 + 1, 1, none⟩ = some (.slice none 0 0) := cell_of_row _ _ 1 _ _ _ rR22_.out
  have Rf0_ : (w3).frozen? ⟨W.heap.size + 1 + 1, 0, none⟩ = false := frozen_of_row _ _ 0 _ _ rR22_.out
  have Rf1_ : (w3).frozen? ⟨W.heap.size + 1 + 1, 1, none⟩ = false := frozen_of_row _ _ 1 _ _ rR22_.out
  have zr_ := Lib.hid (show (((w3.setCell ⟨W.heap.size + 1 + 1, 0, none⟩ (.slice q0 m0 d0)).setCell ⟨W.heap.size + 1 + 1, 1, none⟩ (.slice q1 m1 d1))).heap[W.heap.size + 1 + 1]? = some (.cells #[.slice q0 m0 d0, .slice q1 m1 d1] 54 (0, 0)) from (heap_setCell_same _ _ 1 _ _ _ (heap_setCell_same _ _ 0 _ _ _ rR22_.out)))
  have z0_ : (((w3.setCell ⟨W.heap.size + 1 + 1, 0, none⟩ (.slice q0 m0 d0)).setCell ⟨W.heap.size + 1 + 1, 1, none⟩ (.slice q1 m1 d1))).cell? ⟨W.heap.size + 1 + 1, 0, none⟩ = some (.slice q0 m0 d0) := cell_of_row _ _ 0 _ _ _ zr_.out
  have z1_ : (((w3.setCell ⟨W.heap.size + 1 + 1, 0, none⟩ (.slice q0 m0 d0)).setCell ⟨W.heap.size + 1 + 1, 1, none⟩ (.slice q1 m1 d1))).cell? ⟨W.heap.size + 1 + 1, 1, none⟩ = some (.slice q1 m1 d1) := cell_of_row _ _ 1 _ _ _ zr_.out
  go_wp2
  refine bodyPost_ret (v := .tuple #[.agg #[.slice q0 m0 d0, .slice q1 m1 d1], .bool false]) (by simp [results, go_sem, z0_, z1_]) rfl ⟨_, _, rfl, ?_, ?_⟩
  · exact OwU.wide (lo := W.heap.size + 1 + 1 + 1) (by omega) (by simp only [World.size_setCell]; omega) (OwU.keep (chg_one _ _ _ _) (.inr (by omega)) (OwU.keep (chg_one _ _ _ _) (.inr (by omega)) oC23_.out))
  · exact (gby_setnew (gby_setnew G24_.out _ (by dsimp only; omega) _) _ (by dsimp only; omega) _)

set_option maxRecDepth 8000 in
set_option maxHeartbeats 4000000 in
theorem implReturnCredits_f1 (W : World) (u0 u1 vp : Value) (xs ys : List Int) (p : DPacket) (H0 : RdL shI W u0 xs) (H1 : RdL shI W u1 ys) (Hp : RdL shI W vp p.f7) (h0 : szL shI xs ≤ 1048576) (h1 : szL shI ys ≤ 1048576) (hl : szL shI p.f7 ≤ 1048576) (k : Nat) (u : Int) (hc : clsD p = (k : Int)) (hk3 : k < 3) (hcr : CrdOk xs ys) (hu : untD p = u) (hu0 : 0 ≤ u) (hu9 : u ≤ 1000000) (hw : xs.getD k 0 + 1 > 30) : Calls Try.prog 42 #[.agg #[u0, u1], (vPacket p.f0 p.f1 p.f2 p.f3 p.f4 p.f5 p.f6 vp)] W (ResIReturnCredits xs ys false W) := by
  have HSX := Lib.hid H0
  have HSY := Lib.hid H1
  have HP := Lib.hid Hp
  have HXL := Lib.hid h0
  have HYL := Lib.hid h1
  have HL := Lib.hid hl
  obtain ⟨a0, n0, c0, rfl⟩ := RdL.form H0
  obtain ⟨a1, n1, c1, rfl⟩ := RdL.form H1
  clear H0 H1 Hp h0 h1 hl
  unfold vPacket
  have HCO := Lib.hid hcr
  have HC := Lib.hid hc
  have HU := Lib.hid hu
  have HCR := Lib.hid hcr
  have hx1 := crd_at hcr hk3
  obtain ⟨x, hx⟩ : ∃ x, x = xs.getD k 0 := ⟨_, rfl⟩
  obtain ⟨y, hy⟩ : ∃ y, y = ys.getD k 0 := ⟨_, rfl⟩
  rw [← hx, ← hy] at hx1
  obtain ⟨hxl, hyl, hx0, hx30, hy0, hy30⟩ := hx1
  have HX := Lib.hid hx
  have HY := Lib.hid hy
  have HW := Lib.hid hw
  clear hw
  clear hc hu hcr hx hy
  go_enter Try.func42, Try.ntmps42
  have rA1_ := Lib.hid (show ((((W.alloc (.cells #[.slice a0 n0 c0, .slice a1 n1 c1] 54)).alloc (.cells #[.int .i64 p.f0, .int .i64 p.f1, .int .i64 p.f2, .int .i64 p.f3, .int .i64 p.f4, .int .i64 p.f5, .int .i64 p.f6, vp] 29)).alloc (.cells #[.slice none 0 0, .slice none 0 0] 54))).heap[W.heap.size]? = some (.cells #[.slice a0 n0 c0, .slice a1 n1 c1] 54 (0, 0)) from by rw [heap_alloc_old _ _ (by simp only [World.size_alloc]; omega)]; rw [heap_alloc_old _ _ (by simp only [World.size_alloc]; omega)]; exact heap_alloc_new _ _)
  have rK2_ := Lib.hid (show ((((W.alloc (.cells #[.slice a0 n0 c0, .slice a1 n1 c1] 54)).alloc (.cells #[.int .i64 p.f0, .int .i64 p.f1, .int .i64 p.f2, .int .i64 p.f3, .int .i64 p.f4, .int .i64 p.f5, .int .i64 p.f6, vp] 29)).alloc (.cells #[.slice none 0 0, .slice none 0 0] 54))).heap[W.heap.size + 1]? = some (.cells #[.int .i64 p.f0, .int .i64 p.f1, .int .i64 p.f2, .int .i64 p.f3, .int .i64 p.f4, .int .i64 p.f5, .int .i64 p.f6, vp] 29 (0, 0)) from by rw [heap_alloc_old _ _ (by simp only [World.size_alloc]; omega)]; exact heap_pair _ _ _)
  have rR3_ := Lib.hid (show ((((W.alloc (.cells #[.slice a0 n0 c0, .slice a1 n1 c1] 54)).alloc (.cells #[.int .i64 p.f0, .int .i64 p.f1, .int .i64 p.f2, .int .i64 p.f3, .int .i64 p.f4, .int .i64 p.f5, .int .i64 p.f6, vp] 29)).alloc (.cells #[.slice none 0 0, .slice none 0 0] 54))).heap[W.heap.size + 1 + 1]? = some (.cells #[.slice none 0 0, .slice none 0 0] 54 (0, 0)) from by exact heap_trip _ _ _ _)
  have G4_ := Lib.hid (show (W).grownBy ((((W.alloc (.cells #[.slice a0 n0 c0, .slice a1 n1 c1] 54)).alloc (.cells #[.int .i64 p.f0, .int .i64 p.f1, .int .i64 p.f2, .int .i64 p.f3, .int .i64 p.f4, .int .i64 p.f5, .int .i64 p.f6, vp] 29)).alloc (.cells #[.slice none 0 0, .slice none 0 0] 54))) none from (gby_alloc (gby_alloc (gby_alloc (gby_refl _ _) _) _) _))
  have A_0_ : ((((W.alloc (.cells #[.slice a0 n0 c0, .slice a1 n1 c1] 54)).alloc (.cells #[.int .i64 p.f0, .int .i64 p.f1, .int .i64 p.f2, .int .i64 p.f3, .int .i64 p.f4, .int .i64 p.f5, .int .i64 p.f6, vp] 29)).alloc (.cells #[.slice none 0 0, .slice none 0 0] 54))).cell? ⟨W.heap.size, 0, none⟩ = some (.slice a0 n0 c0) := cell_of_row _ _ 0 _ _ _ rA1_.out
  have A_1_ : ((((W.alloc (.cells #[.slice a0 n0 c0, .slice a1 n1 c1] 54)).alloc (.cells #[.int .i64 p.f0, .int .i64 p.f1, .int .i64 p.f2, .int .i64 p.f3, .int .i64 p.f4, .int .i64 p.f5, .int .i64 p.f6, vp] 29)).alloc (.cells #[.slice none 0 0, .slice none 0 0] 54))).cell? ⟨W.heap.size, 1, none⟩ = some (.slice a1 n1 c1) := cell_of_row _ _ 1 _ _ _ rA1_.out
  have K_0_ : ((((W.alloc (.cells #[.slice a0 n0 c0, .slice a1 n1 c1] 54)).alloc (.cells #[.int .i64 p.f0, .int .i64 p.f1, .int .i64 p.f2, .int .i64 p.f3, .int .i64 p.f4, .int .i64 p.f5, .int .i64 p.f6, vp] 29)).alloc (.cells #[.slice none 0 0, .slice none 0 0] 54))).cell? ⟨W.heap.size + 1, 0, none⟩ = some (.int .i64 p.f0) := cell_of_row _ _ 0 _ _ _ rK2_.out
  have K_1_ : ((((W.alloc (.cells #[.slice a0 n0 c0, .slice a1 n1 c1] 54)).alloc (.cells #[.int .i64 p.f0, .int .i64 p.f1, .int .i64 p.f2, .int .i64 p.f3, .int .i64 p.f4, .int .i64 p.f5, .int .i64 p.f6, vp] 29)).alloc (.cells #[.slice none 0 0, .slice none 0 0] 54))).cell? ⟨W.heap.size + 1, 1, none⟩ = some (.int .i64 p.f1) := cell_of_row _ _ 1 _ _ _ rK2_.out
  have K_2_ : ((((W.alloc (.cells #[.slice a0 n0 c0, .slice a1 n1 c1] 54)).alloc (.cells #[.int .i64 p.f0, .int .i64 p.f1, .int .i64 p.f2, .int .i64 p.f3, .int .i64 p.f4, .int .i64 p.f5, .int .i64 p.f6, vp] 29)).alloc (.cells #[.slice none 0 0, .slice none 0 0] 54))).cell? ⟨W.heap.size + 1, 2, none⟩ = some (.int .i64 p.f2) := cell_of_row _ _ 2 _ _ _ rK2_.out
  have K_3_ : ((((W.alloc (.cells #[.slice a0 n0 c0, .slice a1 n1 c1] 54)).alloc (.cells #[.int .i64 p.f0, .int .i64 p.f1, .int .i64 p.f2, .int .i64 p.f3, .int .i64 p.f4, .int .i64 p.f5, .int .i64 p.f6, vp] 29)).alloc (.cells #[.slice none 0 0, .slice none 0 0] 54))).cell? ⟨W.heap.size + 1, 3, none⟩ = some (.int .i64 p.f3) := cell_of_row _ _ 3 _ _ _ rK2_.out
  have K_4_ : ((((W.alloc (.cells #[.slice a0 n0 c0, .slice a1 n1 c1] 54)).alloc (.cells #[.int .i64 p.f0, .int .i64 p.f1, .int .i64 p.f2, .int .i64 p.f3, .int .i64 p.f4, .int .i64 p.f5, .int .i64 p.f6, vp] 29)).alloc (.cells #[.slice none 0 0, .slice none 0 0] 54))).cell? ⟨W.heap.size + 1, 4, none⟩ = some (.int .i64 p.f4) := cell_of_row _ _ 4 _ _ _ rK2_.out
  have K_5_ : ((((W.alloc (.cells #[.slice a0 n0 c0, .slice a1 n1 c1] 54)).alloc (.cells #[.int .i64 p.f0, .int .i64 p.f1, .int .i64 p.f2, .int .i64 p.f3, .int .i64 p.f4, .int .i64 p.f5, .int .i64 p.f6, vp] 29)).alloc (.cells #[.slice none 0 0, .slice none 0 0] 54))).cell? ⟨W.heap.size + 1, 5, none⟩ = some (.int .i64 p.f5) := cell_of_row _ _ 5 _ _ _ rK2_.out
  have K_6_ : ((((W.alloc (.cells #[.slice a0 n0 c0, .slice a1 n1 c1] 54)).alloc (.cells #[.int .i64 p.f0, .int .i64 p.f1, .int .i64 p.f2, .int .i64 p.f3, .int .i64 p.f4, .int .i64 p.f5, .int .i64 p.f6, vp] 29)).alloc (.cells #[.slice none 0 0, .slice none 0 0] 54))).cell? ⟨W.heap.size + 1, 6, none⟩ = some (.int .i64 p.f6) := cell_of_row _ _ 6 _ _ _ rK2_.out
  have K_7_ : ((((W.alloc (.cells #[.slice a0 n0 c0, .slice a1 n1 c1] 54)).alloc (.cells #[.int .i64 p.f0, .int .i64 p.f1, .int .i64 p.f2, .int .i64 p.f3, .int .i64 p.f4, .int .i64 p.f5, .int .i64 p.f6, vp] 29)).alloc (.cells #[.slice none 0 0, .slice none 0 0] 54))).cell? ⟨W.heap.size + 1, 7, none⟩ = some (vp) := cell_of_row _ _ 7 _ _ _ rK2_.out
  have R_0_ : ((((W.alloc (.cells #[.slice a0 n0 c0, .slice a1 n1 c1] 54)).alloc (.cells #[.int .i64 p.f0, .int .i64 p.f1, .int .i64 p.f2, .int .i64 p.f3, .int .i64 p.f4, .int .i64 p.f5, .int .i64 p.f6, vp] 29)).alloc (.cells #[.slice none 0 0, .slice none 0 0] 54))).cell? ⟨W.heap.size + 1 + 1, 0, none⟩ = some (.slice none 0 0) := cell_of_row _ _ 0 _ _ _ rR3_.out
  have R_1_ : ((((W.alloc (.cells #[.slice a0 n0 c0, .slice a1 n1 c1] 54)).alloc (.cells #[.int .i64 p.f0, .int .i64 p.f1, .int .i64 p.f2, .int .i64 p.f3, .int .i64 p.f4, .int .i64 p.f5, .int .i64 p.f6, vp] 29)).alloc (.cells #[.slice none 0 0, .slice none 0 0] 54))).cell? ⟨W.heap.size + 1 + 1, 1, none⟩ = some (.slice none 0 0) := cell_of_row _ _ 1 _ _ _ rR3_.out
  go_wp2_with fail
  go_at_call 87
  refine (copiedCr_d _ _ _ xs ys (HSX.out.grow G4_.out) (HSY.out.grow G4_.out) HXL.out HYL.out).mono ?_
  rintro e w1 ⟨z0, z1, rfl, o, g⟩
  have sz_ := g.size
  try simp only [World.size_alloc] at sz_ o
  clear A_0_ A_1_ K_0_ K_1_ K_2_ K_3_ K_4_ K_5_ K_6_ K_7_ R_0_ R_1_
  have rA5_ := Lib.hid (show (w1).heap[W.heap.size]? = some (.cells #[.slice a0 n0 c0, .slice a1 n1 c1] 54 (0, 0)) from row_held g rA1_.out)
  clear rA1_
  have rK6_ := Lib.hid (show (w1).heap[W.heap.size + 1]? = some (.cells #[.int .i64 p.f0, .int .i64 p.f1, .int .i64 p.f2, .int .i64 p.f3, .int .i64 p.f4, .int .i64 p.f5, .int .i64 p.f6, vp] 29 (0, 0)) from row_held g rK2_.out)
  clear rK2_
  have rR7_ := Lib.hid (show (w1).heap[W.heap.size + 1 + 1]? = some (.cells #[.slice none 0 0, .slice none 0 0] 54 (0, 0)) from row_held g rR3_.out)
  clear rR3_
  have G8_ := Lib.hid (show (W).grownBy (w1) none from gby_trans G4_.out g)
  clear g
  obtain ⟨q0, m0, d0, hv_⟩ := RdL.form (OwU.rd o)
  subst hv_
  obtain ⟨q1, m1, d1, hv_⟩ := RdL.form (OwU.rd (OwU.tail o))
  subst hv_
  unfold vCredits
  have oC9_ := Lib.hid (show OwU (w1) ((W.heap.size + 1 + 1 + 1)) (w1.heap.size) [] [own shI (.slice q0 m0 d0) xs, own shI (.slice q1 m1 d1) ys] from o)
  clear o
  have A_0_ : (w1).cell? ⟨W.heap.size, 0, none⟩ = some (.slice a0 n0 c0) := cell_of_row _ _ 0 _ _ _ rA5_.out
  have A_1_ : (w1).cell? ⟨W.heap.size, 1, none⟩ = some (.slice a1 n1 c1) := cell_of_row _ _ 1 _ _ _ rA5_.out
  have Af0_ : (w1).frozen? ⟨W.heap.size, 0, none⟩ = false := frozen_of_row _ _ 0 _ _ rA5_.out
  have Af1_ : (w1).frozen? ⟨W.heap.size, 1, none⟩ = false := frozen_of_row _ _ 1 _ _ rA5_.out
  have K_0_ : (w1).cell? ⟨W.heap.size + 1, 0, none⟩ = some (.int .i64 p.f0) := cell_of_row _ _ 0 _ _ _ rK6_.out
  have K_1_ : (w1).cell? ⟨W.heap.size + 1, 1, none⟩ = some (.int .i64 p.f1) := cell_of_row _ _ 1 _ _ _ rK6_.out
  have K_2_ : (w1).cell? ⟨W.heap.size + 1, 2, none⟩ = some (.int .i64 p.f2) := cell_of_row _ _ 2 _ _ _ rK6_.out
  have K_3_ : (w1).cell? ⟨W.heap.size + 1, 3, none⟩ = some (.int .i64 p.f3) := cell_of_row _ _ 3 _ _ _ rK6_.out
  have K_4_ : (w1).cell? ⟨W.heap.size + 1, 4, none⟩ = some (.int .i64 p.f4) := cell_of_row _ _ 4 _ _ _ rK6_.out
  have K_5_ : (w1).cell? ⟨W.heap.size + 1, 5, none⟩ = some (.int .i64 p.f5) := cell_of_row _ _ 5 _ _ _ rK6_.out
  have K_6_ : (w1).cell? ⟨W.heap.size + 1, 6, none⟩ = some (.int .i64 p.f6) := cell_of_row _ _ 6 _ _ _ rK6_.out
  have K_7_ : (w1).cell? ⟨W.heap.size + 1, 7, none⟩ = some (vp) := cell_of_row _ _ 7 _ _ _ rK6_.out
  have R_0_ : (w1).cell? ⟨W.heap.size + 1 + 1, 0, none⟩ = some (.slice none 0 0) := cell_of_row _ _ 0 _ _ _ rR7_.out
  have R_1_ : (w1).cell? ⟨W.heap.size + 1 + 1, 1, none⟩ = some (.slice none 0 0) := cell_of_row _ _ 1 _ _ _ rR7_.out
  go_wp2_with fail
  go_at_call 47
  clear A_0_ A_1_ Af0_ Af1_ K_0_ K_1_ K_2_ K_3_ K_4_ K_5_ K_6_ K_7_ R_0_ R_1_
  have rK10_ := Lib.hid (show (((w1.setCell ⟨W.heap.size, 0, none⟩ (.slice q0 m0 d0)).setCell ⟨W.heap.size, 1, none⟩ (.slice q1 m1 d1))).heap[W.heap.size + 1]? = some (.cells #[.int .i64 p.f0, .int .i64 p.f1, .int .i64 p.f2, .int .i64 p.f3, .int .i64 p.f4, .int .i64 p.f5, .int .i64 p.f6, vp] 29 (0, 0)) from (set_far (set_far rK6_.out (by dsimp only; omega)) (by dsimp only; omega)))
  clear rK6_
  have rR11_ := Lib.hid (show (((w1.setCell ⟨W.heap.size, 0, none⟩ (.slice q0 m0 d0)).setCell ⟨W.heap.size, 1, none⟩ (.slice q1 m1 d1))).heap[W.heap.size + 1 + 1]? = some (.cells #[.slice none 0 0, .slice none 0 0] 54 (0, 0)) from (set_far (set_far rR7_.out (by dsimp only; omega)) (by dsimp only; omega)))
  clear rR7_
  have rA12_ := Lib.hid (show (((w1.setCell ⟨W.heap.size, 0, none⟩ (.slice q0 m0 d0)).setCell ⟨W.heap.size, 1, none⟩ (.slice q1 m1 d1))).heap[W.heap.size]? = some (.cells #[.slice q0 m0 d0, .slice q1 m1 d1] 54 (0, 0)) from (heap_setCell_same _ _ 1 _ _ _ (heap_setCell_same _ _ 0 _ _ _ rA5_.out)))
  clear rA5_
  have oC13_ := Lib.hid (show OwU (((w1.setCell ⟨W.heap.size, 0, none⟩ (.slice q0 m0 d0)).setCell ⟨W.heap.size, 1, none⟩ (.slice q1 m1 d1))) ((W.heap.size + 1 + 1 + 1)) (w1.heap.size) [] [own shI (.slice q0 m0 d0) xs, own shI (.slice q1 m1 d1) ys] from (OwU.keep (chg_one _ _ _ _) (by omega) (OwU.keep (chg_one _ _ _ _) (by omega) oC9_.out)))
  clear oC9_
  have G14_ := Lib.hid (show (W).grownBy (((w1.setCell ⟨W.heap.size, 0, none⟩ (.slice q0 m0 d0)).setCell ⟨W.heap.size, 1, none⟩ (.slice q1 m1 d1))) none from (gby_setnew (gby_setnew G8_.out _ (by dsimp only; omega) _) _ (by dsimp only; omega) _))
  have A_0_ : (((w1.setCell ⟨W.heap.size, 0, none⟩ (.slice q0 m0 d0)).setCell ⟨W.heap.size, 1, none⟩ (.slice q1 m1 d1))).cell? ⟨W.heap.size, 0, none⟩ = some (.slice q0 m0 d0) := cell_of_row _ _ 0 _ _ _ rA12_.out
  have A_1_ : (((w1.setCell ⟨W.heap.size, 0, none⟩ (.slice q0 m0 d0)).setCell ⟨W.heap.size, 1, none⟩ (.slice q1 m1 d1))).cell? ⟨W.heap.size, 1, none⟩ = some (.slice q1 m1 d1) := cell_of_row _ _ 1 _ _ _ rA12_.out
  have K_0_ : (((w1.setCell ⟨W.heap.size, 0, none⟩ (.slice q0 m0 d0)).setCell ⟨W.heap.size, 1, none⟩ (.slice q1 m1 d1))).cell? ⟨W.heap.size + 1, 0, none⟩ = some (.int .i64 p.f0) := cell_of_row _ _ 0 _ _ _ rK10_.out
  have K_1_ : (((w1.setCell ⟨W.heap.size, 0, none⟩ (.slice q0 m0 d0)).setCell ⟨W.heap.size, 1, none⟩ (.slice q1 m1 d1))).cell? ⟨W.heap.size + 1, 1, none⟩ = some (.int .i64 p.f1) := cell_of_row _ _ 1 _ _ _ rK10_.out
  have K_2_ : (((w1.setCell ⟨W.heap.size, 0, none⟩ (.slice q0 m0 d0)).setCell ⟨W.heap.size, 1, none⟩ (.slice q1 m1 d1))).cell? ⟨W.heap.size + 1, 2, none⟩ = some (.int .i64 p.f2) := cell_of_row _ _ 2 _ _ _ rK10_.out
  have K_3_ : (((w1.setCell ⟨W.heap.size, 0, none⟩ (.slice q0 m0 d0)).setCell ⟨W.heap.size, 1, none⟩ (.slice q1 m1 d1))).cell? ⟨W.heap.size + 1, 3, none⟩ = some (.int .i64 p.f3) := cell_of_row _ _ 3 _ _ _ rK10_.out
  have K_4_ : (((w1.setCell ⟨W.heap.size, 0, none⟩ (.slice q0 m0 d0)).setCell ⟨W.heap.size, 1, none⟩ (.slice q1 m1 d1))).cell? ⟨W.heap.size + 1, 4, none⟩ = some (.int .i64 p.f4) := cell_of_row _ _ 4 _ _ _ rK10_.out
  have K_5_ : (((w1.setCell ⟨W.heap.size, 0, none⟩ (.slice q0 m0 d0)).setCell ⟨W.heap.size, 1, none⟩ (.slice q1 m1 d1))).cell? ⟨W.heap.size + 1, 5, none⟩ = some (.int .i64 p.f5) := cell_of_row _ _ 5 _ _ _ rK10_.out
  have K_6_ : (((w1.setCell ⟨W.heap.size, 0, none⟩ (.slice q0 m0 d0)).setCell ⟨W.heap.size, 1, none⟩ (.slice q1 m1 d1))).cell? ⟨W.heap.size + 1, 6, none⟩ = some (.int .i64 p.f6) := cell_of_row _ _ 6 _ _ _ rK10_.out
  have K_7_ : (((w1.setCell ⟨W.heap.size, 0, none⟩ (.slice q0 m0 d0)).setCell ⟨W.heap.size, 1, none⟩ (.slice q1 m1 d1))).cell? ⟨W.heap.size + 1, 7, none⟩ = some (vp) := cell_of_row _ _ 7 _ _ _ rK10_.out
  have R_0_ : (((w1.setCell ⟨W.heap.size, 0, none⟩ (.slice q0 m0 d0)).setCell ⟨W.heap.size, 1, none⟩ (.slice q1 m1 d1))).cell? ⟨W.heap.size + 1 + 1, 0, none⟩ = some (.slice none 0 0) := cell_of_row _ _ 0 _ _ _ rR11_.out
  have R_1_ : (((w1.setCell ⟨W.heap.size, 0, none⟩ (.slice q0 m0 d0)).setCell ⟨W.heap.size, 1, none⟩ (.slice q1 m1 d1))).cell? ⟨W.heap.size + 1 + 1, 1, none⟩ = some (.slice none 0 0) := cell_of_row _ _ 1 _ _ _ rR11_.out
  refine (implCrD _ _ _ xs ys (OwU.rd oC13_.out) (OwU.rd (OwU.tail oC13_.out)) HXL.out HYL.out true (by rw [decide_eq_true HCO.out])).mono ?_
  rintro e w2 ⟨rfl, g⟩
  have szw2 := g.size
  try simp only [World.size_setCell] at szw2
  try simp only [World.size_alloc] at szw2
  clear A_0_ A_1_ K_0_ K_1_ K_2_ K_3_ K_4_ K_5_ K_6_ K_7_ R_0_ R_1_
  have rA15_ := Lib.hid (show (w2).heap[W.heap.size]? = some (.cells #[.slice q0 m0 d0, .slice q1 m1 d1] 54 (0, 0)) from row_held g rA12_.out)
  clear rA12_
  have rK16_ := Lib.hid (show (w2).heap[W.heap.size + 1]? = some (.cells #[.int .i64 p.f0, .int .i64 p.f1, .int .i64 p.f2, .int .i64 p.f3, .int .i64 p.f4, .int .i64 p.f5, .int .i64 p.f6, vp] 29 (0, 0)) from row_held g rK10_.out)
  clear rK10_
  have rR17_ := Lib.hid (show (w2).heap[W.heap.size + 1 + 1]? = some (.cells #[.slice none 0 0, .slice none 0 0] 54 (0, 0)) from row_held g rR11_.out)
  clear rR11_
  have oC18_ := Lib.hid (show OwU (w2) ((W.heap.size + 1 + 1 + 1)) (w1.heap.size) [] [own shI (.slice q0 m0 d0) xs, own shI (.slice q1 m1 d1) ys] from OwU.grow oC13_.out g)
  clear oC13_
  have G19_ := Lib.hid (show (W).grownBy (w2) none from gby_trans G14_.out g)
  clear g
  have A_0_ : (w2).cell? ⟨W.heap.size, 0, none⟩ = some (.slice q0 m0 d0) := cell_of_row _ _ 0 _ _ _ rA15_.out
  have A_1_ : (w2).cell? ⟨W.heap.size, 1, none⟩ = some (.slice q1 m1 d1) := cell_of_row _ _ 1 _ _ _ rA15_.out
  have K_0_ : (w2).cell? ⟨W.heap.size + 1, 0, none⟩ = some (.int .i64 p.f0) := cell_of_row _ _ 0 _ _ _ rK16_.out
  have K_1_ : (w2).cell? ⟨W.heap.size + 1, 1, none⟩ = some (.int .i64 p.f1) := cell_of_row _ _ 1 _ _ _ rK16_.out
  have K_2_ : (w2).cell? ⟨W.heap.size + 1, 2, none⟩ = some (.int .i64 p.f2) := cell_of_row _ _ 2 _ _ _ rK16_.out
  have K_3_ : (w2).cell? ⟨W.heap.size + 1, 3, none⟩ = some (.int .i64 p.f3) := cell_of_row _ _ 3 _ _ _ rK16_.out
  have K_4_ : (w2).cell? ⟨W.heap.size + 1, 4, none⟩ = some (.int .i64 p.f4) := cell_of_row _ _ 4 _ _ _ rK16_.out
  have K_5_ : (w2).cell? ⟨W.heap.size + 1, 5, none⟩ = some (.int .i64 p.f5) := cell_of_row _ _ 5 _ _ _ rK16_.out
  have K_6_ : (w2).cell? ⟨W.heap.size + 1, 6, none⟩ = some (.int .i64 p.f6) := cell_of_row _ _ 6 _ _ _ rK16_.out
  have K_7_ : (w2).cell? ⟨W.heap.size + 1, 7, none⟩ = some (vp) := cell_of_row _ _ 7 _ _ _ rK16_.out
  have R_0_ : (w2).cell? ⟨W.heap.size + 1 + 1, 0, none⟩ = some (.slice none 0 0) := cell_of_row _ _ 0 _ _ _ rR17_.out
  have R_1_ : (w2).cell? ⟨W.heap.size + 1 + 1, 1, none⟩ = some (.slice none 0 0) := cell_of_row _ _ 1 _ _ _ rR17_.out
  go_wp2_with fail
  go_at_call 30
  refine (implPkD _ p _ (HP.out.grow G19_.out) HL.out true (by rw [decide_eq_true (by rw [HC.out]; omega)])).mono ?_
  rintro e w3 ⟨rfl, g⟩
  have szw3 := g.size
  try simp only [World.size_alloc] at szw3
  try simp only [World.size_setCell] at szw3
  clear A_0_ A_1_ K_0_ K_1_ K_2_ K_3_ K_4_ K_5_ K_6_ K_7_ R_0_ R_1_
  have rA20_ := Lib.hid (show (w3).heap[W.heap.size]? = some (.cells #[.slice q0 m0 d0, .slice q1 m1 d1] 54 (0, 0)) from row_held g rA15_.out)
  clear rA15_
  have rK21_ := Lib.hid (show (w3).heap[W.heap.size + 1]? = some (.cells #[.int .i64 p.f0, .int .i64 p.f1, .int .i64 p.f2, .int .i64 p.f3, .int .i64 p.f4, .int .i64 p.f5, .int .i64 p.f6, vp] 29 (0, 0)) from row_held g rK16_.out)
  clear rK16_
  have rR22_ := Lib.hid (show (w3).heap[W.heap.size + 1 + 1]? = some (.cells #[.slice none 0 0, .slice none 0 0] 54 (0, 0)) from row_held g rR17_.out)
  clear rR17_
  have oC23_ := Lib.hid (show OwU (w3) ((W.heap.size + 1 + 1 + 1)) (w1.heap.size) [] [own shI (.slice q0 m0 d0) xs, own shI (.slice q1 m1 d1) ys] from OwU.grow oC18_.out g)
  clear oC18_
  have G24_ := Lib.hid (show (W).grownBy (w3) none from gby_trans G19_.out g)
  clear g
  have A_0_ : (w3).cell? ⟨W.heap.size, 0, none⟩ = some (.slice q0 m0 d0) := cell_of_row _ _ 0 _ _ _ rA20_.out
  have A_1_ : (w3).cell? ⟨W.heap.size, 1, none⟩ = some (.slice q1 m1 d1) := cell_of_row _ _ 1 _ _ _ rA20_.out
  have K_0_ : (w3).cell? ⟨W.heap.size + 1, 0, none⟩ = some (.int .i64 p.f0) := cell_of_row _ _ 0 _ _ _ rK21_.out
  have K_1_ : (w3).cell? ⟨W.heap.size + 1, 1, none⟩ = some (.int .i64 p.f1) := cell_of_row _ _ 1 _ _ _ rK21_.out
  have K_2_ : (w3).cell? ⟨W.heap.size + 1, 2, none⟩ = some (.int .i64 p.f2) := cell_of_row _ _ 2 _ _ _ rK21_.out
  have K_3_ : (w3).cell? ⟨W.heap.size + 1, 3, none⟩ = some (.int .i64 p.f3) := cell_of_row _ _ 3 _ _ _ rK21_.out
  have K_4_ : (w3).cell? ⟨W.heap.size + 1, 4, none⟩ = some (.int .i64 p.f4) := cell_of_row _ _ 4 _ _ _ rK21_.out
  have K_5_ : (w3).cell? ⟨W.heap.size + 1, 5, none⟩ = some (.int .i64 p.f5) := cell_of_row _ _ 5 _ _ _ rK21_.out
  have K_6_ : (w3).cell? ⟨W.heap.size + 1, 6, none⟩ = some (.int .i64 p.f6) := cell_of_row _ _ 6 _ _ _ rK21_.out
  have K_7_ : (w3).cell? ⟨W.heap.size + 1, 7, none⟩ = some (vp) := cell_of_row _ _ 7 _ _ _ rK21_.out
  have R_0_ : (w3).cell? ⟨W.heap.size + 1 + 1, 0, none⟩ = some (.slice none 0 0) := cell_of_row _ _ 0 _ _ _ rR22_.out
  have R_1_ : (w3).cell? ⟨W.heap.size + 1 + 1, 1, none⟩ = some (.slice none 0 0) := cell_of_row _ _ 1 _ _ _ rR22_.out
  have HCON := Lib.hid (show ∀ (w : World), w.heap[W.heap.size]? = some (.cells #[.slice q0 m0 d0, .slice q1 m1 d1] 54 (0, 0)) → OwU w (W.heap.size + 1 + 1 + 1) (w1.heap.size) [] [own shI (.slice q0 m0 d0) xs, own shI (.slice q1 m1 d1) ys] → W.grownBy w none → w1.heap.size ≤ w.heap.size → Calls Try.prog 90 #[.pointer (some ⟨W.heap.size, 0, none⟩), .agg #[.int .i64 p.f0, .int .i64 p.f1, .int .i64 p.f2, .int .i64 p.f3, .int .i64 p.f4, .int .i64 p.f5, .int .i64 p.f6, vp]] w (SpPost false (W.heap.size + 1 + 1 + 1) (w1.heap.size) (.slice q0 m0 d0) (.slice q1 m1 d1) xs ys w) from fun w r1 r2 r3 r4 => by
    have q := give_full1 w W.heap.size (W.heap.size + 1 + 1 + 1) (w1.heap.size) k (.slice q0 m0 d0) (.slice q1 m1 d1) vp xs ys p r1 r2 (.inl (by omega)) r4 (HP.out.grow r3) (fun w' gc => HP.out.grow (gby_chg r3 gc (by omega))) HL.out HC.out hk3 HCR.out u HU.out hu0 hu9 (by have := HW.out; omega)
    skip
    exact q)
  go_wp2_with fail
  go_at_call 90
  refine (HCON.out _ rA20_.out oC23_.out G24_.out (by omega)).mono ?_
  rintro e w4 ⟨rfl, o, gc⟩
  have szv_ := gc.size
  have NR_ := Lib.hid (show w4.heap[W.heap.size + 1 + 1]? = some (.cells #[.slice none 0 0, .slice none 0 0] 54 (0, 0)) from Chg.keep gc rR22_.out (.inl (by omega)))
  have NA_ := Lib.hid (show w4.heap[W.heap.size]? = some (.cells #[.slice q0 m0 d0, .slice q1 m1 d1] 54 (0, 0)) from Chg.keep gc rA20_.out (.inl (by omega)))
  have NO_ := Lib.hid o
  have NG_ := Lib.hid (gby_chg G24_.out gc (by omega))
  clear o gc
  clear A_0_ A_1_ K_0_ K_1_ K_2_ K_3_ K_4_ K_5_ K_6_ K_7_ R_0_ R_1_
  have G25_ := Lib.hid (show (W).grownBy (w4) none from NG_.out)
  have A_0_ : (w4).cell? ⟨W.heap.size, 0, none⟩ = some (.slice q0 m0 d0) := cell_of_row _ _ 0 _ _ _ NA_.out
  have A_1_ : (w4).cell? ⟨W.heap.size, 1, none⟩ = some (.slice q1 m1 d1) := cell_of_row _ _ 1 _ _ _ NA_.out
  have R_0_ : (w4).cell? ⟨W.heap.size + 1 + 1, 0, none⟩ = some (.slice none 0 0) := cell_of_row _ _ 0 _ _ _ NR_.out
  have R_1_ : (w4).cell? ⟨W.heap.size + 1 + 1, 1, none⟩ = some (.slice none 0 0) := cell_of_row _ _ 1 _ _ _ NR_.out
  clear A_0_ A_1_ R_0_ R_1_
  have A_0_ : (w4).cell? ⟨W.heap.size, 0, none⟩ = some (.slice q0 m0 d0) := cell_of_row _ _ 0 _ _ _ NA_.out
  have A_1_ : (w4).cell? ⟨W.heap.size, 1, none⟩ = some (.slice q1 m1 d1) := cell_of_row _ _ 1 _ _ _ NA_.out
  have R_0_ : (w4).cell? ⟨W.heap.size + 1 + 1, 0, none⟩ = some (.slice none 0 0) := cell_of_row _ _ 0 _ _ _ NR_.out
  have R_1_ : (w4).cell? ⟨W.heap.size + 1 + 1, 1, none⟩ = some (.slice none 0 0) := cell_of_row _ _ 1 _ _ _ NR_.out
  have Rf0_ : (w4).frozen? ⟨W.heap.size + 1 + 1, 0, none⟩ = false := frozen_of_row _ _ 0 _ _ NR_.out
  have Rf1_ : (w4).frozen? ⟨W.heap.size + 1 + 1, 1, none⟩ = false := frozen_of_row _ _ 1 _ _ NR_.out
  have zr_ := Lib.hid (show (((w4.setCell ⟨W.heap.size + 1 + 1, 0, none⟩ (.slice q0 m0 d0)).setCell ⟨W.heap.size + 1 + 1, 1, none⟩ (.slice q1 m1 d1))).heap[W.heap.size + 1 + 1]? = some (.cells #[.slice q0 m0 d0, .slice q1 m1 d1] 54 (0, 0)) from (heap_setCell_same _ _ 1 _ _ _ (heap_setCell_same _ _ 0 _ _ _ NR_.out)))
  have z0_ : (((w4.setCell ⟨W.heap.size + 1 + 1, 0, none⟩ (.slice q0 m0 d0)).setCell ⟨W.heap.size + 1 + 1, 1, none⟩ (.slice q1 m1 d1))).cell? ⟨W.heap.size + 1 + 1, 0, none⟩ = some (.slice q0 m0 d0) := cell_of_row _ _ 0 _ _ _ zr_.out
  have z1_ : (((w4.setCell ⟨W.heap.size + 1 + 1, 0, none⟩ (.slice q0 m0 d0)).setCell ⟨W.heap.size + 1 + 1, 1, none⟩ (.slice q1 m1 d1))).cell? ⟨W.heap.size + 1 + 1, 1, none⟩ = some (.slice q1 m1 d1) := cell_of_row _ _ 1 _ _ _ zr_.out
  go_wp2
  refine bodyPost_ret (v := .tuple #[.agg #[.slice q0 m0 d0, .slice q1 m1 d1], .bool false]) (by simp [results, go_sem, z0_, z1_]) rfl ⟨_, _, rfl, ?_, ?_⟩
  · exact OwU.wide (lo := W.heap.size + 1 + 1 + 1) (by omega) (by simp only [World.size_setCell]; omega) (OwU.keep (chg_one _ _ _ _) (.inr (by omega)) (OwU.keep (chg_one _ _ _ _) (.inr (by omega)) NO_.out))
  · exact (gby_setnew (gby_setnew G25_.out _ (by dsimp only; omega) _) _ (by dsimp only; omega) _)

set_option maxRecDepth 8000 in
set_option maxHeartbeats 4000000 in
theorem implReturnCredits_f2 (W : World) (u0 u1 vp : Value) (xs ys : List Int) (p : DPacket) (H0 : RdL shI W u0 xs) (H1 : RdL shI W u1 ys) (Hp : RdL shI W vp p.f7) (h0 : szL shI xs ≤ 1048576) (h1 : szL shI ys ≤ 1048576) (hl : szL shI p.f7 ≤ 1048576) (k : Nat) (u : Int) (hc : clsD p = (k : Int)) (hk3 : k < 3) (hcr : CrdOk xs ys) (hu : untD p = u) (hu0 : 0 ≤ u) (hu9 : u ≤ 1000000) (hw : ¬ xs.getD k 0 + 1 > 30 ∧ ys.getD k 0 + u > 30) : Calls Try.prog 42 #[.agg #[u0, u1], (vPacket p.f0 p.f1 p.f2 p.f3 p.f4 p.f5 p.f6 vp)] W (ResIReturnCredits xs ys false W) := by
  have HSX := Lib.hid H0
  have HSY := Lib.hid H1
  have HP := Lib.hid Hp
  have HXL := Lib.hid h0
  have HYL := Lib.hid h1
  have HL := Lib.hid hl
  obtain ⟨a0, n0, c0, rfl⟩ := RdL.form H0
  obtain ⟨a1, n1, c1, rfl⟩ := RdL.form H1
  clear H0 H1 Hp h0 h1 hl
  unfold vPacket
  have HCO := Lib.hid hcr
  have HC := Lib.hid hc
  have HU := Lib.hid hu
  have HCR := Lib.hid hcr
  have hx1 := crd_at hcr hk3
  obtain ⟨x, hx⟩ : ∃ x, x = xs.getD k 0 := ⟨_, rfl⟩
  obtain ⟨y, hy⟩ : ∃ y, y = ys.getD k 0 := ⟨_, rfl⟩
  rw [← hx, ← hy] at hx1
  obtain ⟨hxl, hyl, hx0, hx30, hy0, hy30⟩ := hx1
  have HX := Lib.hid hx
  have HY := Lib.hid hy
  have HW := Lib.hid hw
  clear hw
  clear hc hu hcr hx hy
  go_enter Try.func42, Try.ntmps42
  have rA1_ := Lib.hid (show ((((W.alloc (.cells #[.slice a0 n0 c0, .slice a1 n1 c1] 54)).alloc (.cells #[.int .i64 p.f0, .int .i64 p.f1, .int .i64 p.f2, .int .i64 p.f3, .int .i64 p.f4, .int .i64 p.f5, .int .i64 p.f6, vp] 29)).alloc (.cells #[.slice none 0 0, .slice none 0 0] 54))).heap[W.heap.size]? = some (.cells #[.slice a0 n0 c0, .slice a1 n1 c1] 54 (0, 0)) from by rw [heap_alloc_old _ _ (by simp only [World.size_alloc]; omega)]; rw [heap_alloc_old _ _ (by simp only [World.size_alloc]; omega)]; exact heap_alloc_new _ _)
  have rK2_ := Lib.hid (show ((((W.alloc (.cells #[.slice a0 n0 c0, .slice a1 n1 c1] 54)).alloc (.cells #[.int .i64 p.f0, .int .i64 p.f1, .int .i64 p.f2, .int .i64 p.f3, .int .i64 p.f4, .int .i64 p.f5, .int .i64 p.f6, vp] 29)).alloc (.cells #[.slice none 0 0, .slice none 0 0] 54))).heap[W.heap.size + 1]? = some (.cells #[.int .i64 p.f0, .int .i64 p.f1, .int .i64 p.f2, .int .i64 p.f3, .int .i64 p.f4, .int .i64 p.f5, .int .i64 p.f6, vp] 29 (0, 0)) from by rw [heap_alloc_old _ _ (by simp only [World.size_alloc]; omega)]; exact heap_pair _ _ _)
  have rR3_ := Lib.hid (show ((((W.alloc (.cells #[.slice a0 n0 c0, .slice a1 n1 c1] 54)).alloc (.cells #[.int .i64 p.f0, .int .i64 p.f1, .int .i64 p.f2, .int .i64 p.f3, .int .i64 p.f4, .int .i64 p.f5, .int .i64 p.f6, vp] 29)).alloc (.cells #[.slice none 0 0, .slice none 0 0] 54))).heap[W.heap.size + 1 + 1]? = some (.cells #[.slice none 0 0, .slice none 0 0] 54 (0, 0)) from by exact heap_trip _ _ _ _)
  have G4_ := Lib.hid (show (W).grownBy ((((W.alloc (.cells #[.slice a0 n0 c0, .slice a1 n1 c1] 54)).alloc (.cells #[.int .i64 p.f0, .int .i64 p.f1, .int .i64 p.f2, .int .i64 p.f3, .int .i64 p.f4, .int .i64 p.f5, .int .i64 p.f6, vp] 29)).alloc (.cells #[.slice none 0 0, .slice none 0 0] 54))) none from (gby_alloc (gby_alloc (gby_alloc (gby_refl _ _) _) _) _))
  have A_0_ : ((((W.alloc (.cells #[.slice a0 n0 c0, .slice a1 n1 c1] 54)).alloc (.cells #[.int .i64 p.f0, .int .i64 p.f1, .int .i64 p.f2, .int .i64 p.f3, .int .i64 p.f4, .int .i64 p.f5, .int .i64 p.f6, vp] 29)).alloc (.cells #[.slice none 0 0, .slice none 0 0] 54))).cell? ⟨W.heap.size, 0, none⟩ = some (.slice a0 n0 c0) := cell_of_row _ _ 0 _ _ _ rA1_.out
  have A_1_ : ((((W.alloc (.cells #[.slice a0 n0 c0, .slice a1 n1 c1] 54)).alloc (.cells #[.int .i64 p.f0, .int .i64 p.f1, .int .i64 p.f2, .int .i64 p.f3, .int .i64 p.f4, .int .i64 p.f5, .int .i64 p.f6, vp] 29)).alloc (.cells #[.slice none 0 0, .slice none 0 0] 54))).cell? ⟨W.heap.size, 1, none⟩ = some (.slice a1 n1 c1) := cell_of_row _ _ 1 _ _ _ rA1_.out
  have K_0_ : ((((W.alloc (.cells #[.slice a0 n0 c0, .slice a1 n1 c1] 54)).alloc (.cells #[.int .i64 p.f0, .int .i64 p.f1, .int .i64 p.f2, .int .i64 p.f3, .int .i64 p.f4, .int .i64 p.f5, .int .i64 p.f6, vp] 29)).alloc (.cells #[.slice none 0 0, .slice none 0 0] 54))).cell? ⟨W.heap.size + 1, 0, none⟩ = some (.int .i64 p.f0) := cell_of_row _ _ 0 _ _ _ rK2_.out
  have K_1_ : ((((W.alloc (.cells #[.slice a0 n0 c0, .slice a1 n1 c1] 54)).alloc (.cells #[.int .i64 p.f0, .int .i64 p.f1, .int .i64 p.f2, .int .i64 p.f3, .int .i64 p.f4, .int .i64 p.f5, .int .i64 p.f6, vp] 29)).alloc (.cells #[.slice none 0 0, .slice none 0 0] 54))).cell? ⟨W.heap.size + 1, 1, none⟩ = some (.int .i64 p.f1) := cell_of_row _ _ 1 _ _ _ rK2_.out
  have K_2_ : ((((W.alloc (.cells #[.slice a0 n0 c0, .slice a1 n1 c1] 54)).alloc (.cells #[.int .i64 p.f0, .int .i64 p.f1, .int .i64 p.f2, .int .i64 p.f3, .int .i64 p.f4, .int .i64 p.f5, .int .i64 p.f6, vp] 29)).alloc (.cells #[.slice none 0 0, .slice none 0 0] 54))).cell? ⟨W.heap.size + 1, 2, none⟩ = some (.int .i64 p.f2) := cell_of_row _ _ 2 _ _ _ rK2_.out
  have K_3_ : ((((W.alloc (.cells #[.slice a0 n0 c0, .slice a1 n1 c1] 54)).alloc (.cells #[.int .i64 p.f0, .int .i64 p.f1, .int .i64 p.f2, .int .i64 p.f3, .int .i64 p.f4, .int .i64 p.f5, .int .i64 p.f6, vp] 29)).alloc (.cells #[.slice none 0 0, .slice none 0 0] 54))).cell? ⟨W.heap.size + 1, 3, none⟩ = some (.int .i64 p.f3) := cell_of_row _ _ 3 _ _ _ rK2_.out
  have K_4_ : ((((W.alloc (.cells #[.slice a0 n0 c0, .slice a1 n1 c1] 54)).alloc (.cells #[.int .i64 p.f0, .int .i64 p.f1, .int .i64 p.f2, .int .i64 p.f3, .int .i64 p.f4, .int .i64 p.f5, .int .i64 p.f6, vp] 29)).alloc (.cells #[.slice none 0 0, .slice none 0 0] 54))).cell? ⟨W.heap.size + 1, 4, none⟩ = some (.int .i64 p.f4) := cell_of_row _ _ 4 _ _ _ rK2_.out
  have K_5_ : ((((W.alloc (.cells #[.slice a0 n0 c0, .slice a1 n1 c1] 54)).alloc (.cells #[.int .i64 p.f0, .int .i64 p.f1, .int .i64 p.f2, .int .i64 p.f3, .int .i64 p.f4, .int .i64 p.f5, .int .i64 p.f6, vp] 29)).alloc (.cells #[.slice none 0 0, .slice none 0 0] 54))).cell? ⟨W.heap.size + 1, 5, none⟩ = some (.int .i64 p.f5) := cell_of_row _ _ 5 _ _ _ rK2_.out
  have K_6_ : ((((W.alloc (.cells #[.slice a0 n0 c0, .slice a1 n1 c1] 54)).alloc (.cells #[.int .i64 p.f0, .int .i64 p.f1, .int .i64 p.f2, .int .i64 p.f3, .int .i64 p.f4, .int .i64 p.f5, .int .i64 p.f6, vp] 29)).alloc (.cells #[.slice none 0 0, .slice none 0 0] 54))).cell? ⟨W.heap.size + 1, 6, none⟩ = some (.int .i64 p.f6) := cell_of_row _ _ 6 _ _ _ rK2_.out
  have K_7_ : ((((W.alloc (.cells #[.slice a0 n0 c0, .slice a1 n1 c1] 54)).alloc (.cells #[.int .i64 p.f0, .int .i64 p.f1, .int .i64 p.f2, .int .i64 p.f3, .int .i64 p.f4, .int .i64 p.f5, .int .i64 p.f6, vp] 29)).alloc (.cells #[.slice none 0 0, .slice none 0 0] 54))).cell? ⟨W.heap.size + 1, 7, none⟩ = some (vp) := cell_of_row _ _ 7 _ _ _ rK2_.out
  have R_0_ : ((((W.alloc (.cells #[.slice a0 n0 c0, .slice a1 n1 c1] 54)).alloc (.cells #[.int .i64 p.f0, .int .i64 p.f1, .int .i64 p.f2, .int .i64 p.f3, .int .i64 p.f4, .int .i64 p.f5, .int .i64 p.f6, vp] 29)).alloc (.cells #[.slice none 0 0, .slice none 0 0] 54))).cell? ⟨W.heap.size + 1 + 1, 0, none⟩ = some (.slice none 0 0) := cell_of_row _ _ 0 _ _ _ rR3_.out
  have R_1_ : ((((W.alloc (.cells #[.slice a0 n0 c0, .slice a1 n1 c1] 54)).alloc (.cells #[.int .i64 p.f0, .int .i64 p.f1, .int .i64 p.f2, .int .i64 p.f3, .int .i64 p.f4, .int .i64 p.f5, .int .i64 p.f6, vp] 29)).alloc (.cells #[.slice none 0 0, .slice none 0 0] 54))).cell? ⟨W.heap.size + 1 + 1, 1, none⟩ = some (.slice none 0 0) := cell_of_row _ _ 1 _ _ _ rR3_.out
  go_wp2_with fail
  go_at_call 87
  refine (copiedCr_d _ _ _ xs ys (HSX.out.grow G4_.out) (HSY.out.grow G4_.out) HXL.out HYL.out).mono ?_
  rintro e w1 ⟨z0, z1, rfl, o, g⟩
  have sz_ := g.size
  try simp only [World.size_alloc] at sz_ o
  clear A_0_ A_1_ K_0_ K_1_ K_2_ K_3_ K_4_ K_5_ K_6_ K_7_ R_0_ R_1_
  have rA5_ := Lib.hid (show (w1).heap[W.heap.size]? = some (.cells #[.slice a0 n0 c0, .slice a1 n1 c1] 54 (0, 0)) from row_held g rA1_.out)
  clear rA1_
  have rK6_ := Lib.hid (show (w1).heap[W.heap.size + 1]? = some (.cells #[.int .i64 p.f0, .int .i64 p.f1, .int .i64 p.f2, .int .i64 p.f3, .int .i64 p.f4, .int .i64 p.f5, .int .i64 p.f6, vp] 29 (0, 0)) from row_held g rK2_.out)
  clear rK2_
  have rR7_ := Lib.hid (show (w1).heap[W.heap.size + 1 + 1]? = some (.cells #[.slice none 0 0, .slice none 0 0] 54 (0, 0)) from row_held g rR3_.out)
  clear rR3_
  have G8_ := Lib.hid (show (W).grownBy (w1) none from gby_trans G4_.out g)
  clear g
  obtain ⟨q0, m0, d0, hv_⟩ := RdL.form (OwU.rd o)
  subst hv_
  obtain ⟨q1, m1, d1, hv_⟩ := RdL.form (OwU.rd (OwU.tail o))
  subst hv_
  unfold vCredits
  have oC9_ := Lib.hid (show OwU (w1) ((W.heap.size + 1 + 1 + 1)) (w1.heap.size) [] [own shI (.slice q0 m0 d0) xs, own shI (.slice q1 m1 d1) ys] from o)
  clear o
  have A_0_ : (w1).cell? ⟨W.heap.size, 0, none⟩ = some (.slice a0 n0 c0) := cell_of_row _ _ 0 _ _ _ rA5_.out
  have A_1_ : (w1).cell? ⟨W.heap.size, 1, none⟩ = some (.slice a1 n1 c1) := cell_of_row _ _ 1 _ _ _ rA5_.out
  have Af0_ : (w1).frozen? ⟨W.heap.size, 0, none⟩ = false := frozen_of_row _ _ 0 _ _ rA5_.out
  have Af1_ : (w1).frozen? ⟨W.heap.size, 1, none⟩ = false := frozen_of_row _ _ 1 _ _ rA5_.out
  have K_0_ : (w1).cell? ⟨W.heap.size + 1, 0, none⟩ = some (.int .i64 p.f0) := cell_of_row _ _ 0 _ _ _ rK6_.out
  have K_1_ : (w1).cell? ⟨W.heap.size + 1, 1, none⟩ = some (.int .i64 p.f1) := cell_of_row _ _ 1 _ _ _ rK6_.out
  have K_2_ : (w1).cell? ⟨W.heap.size + 1, 2, none⟩ = some (.int .i64 p.f2) := cell_of_row _ _ 2 _ _ _ rK6_.out
  have K_3_ : (w1).cell? ⟨W.heap.size + 1, 3, none⟩ = some (.int .i64 p.f3) := cell_of_row _ _ 3 _ _ _ rK6_.out
  have K_4_ : (w1).cell? ⟨W.heap.size + 1, 4, none⟩ = some (.int .i64 p.f4) := cell_of_row _ _ 4 _ _ _ rK6_.out
  have K_5_ : (w1).cell? ⟨W.heap.size + 1, 5, none⟩ = some (.int .i64 p.f5) := cell_of_row _ _ 5 _ _ _ rK6_.out
  have K_6_ : (w1).cell? ⟨W.heap.size + 1, 6, none⟩ = some (.int .i64 p.f6) := cell_of_row _ _ 6 _ _ _ rK6_.out
  have K_7_ : (w1).cell? ⟨W.heap.size + 1, 7, none⟩ = some (vp) := cell_of_row _ _ 7 _ _ _ rK6_.out
  have R_0_ : (w1).cell? ⟨W.heap.size + 1 + 1, 0, none⟩ = some (.slice none 0 0) := cell_of_row _ _ 0 _ _ _ rR7_.out
  have R_1_ : (w1).cell? ⟨W.heap.size + 1 + 1, 1, none⟩ = some (.slice none 0 0) := cell_of_row _ _ 1 _ _ _ rR7_.out
  go_wp2_with fail
  go_at_call 47
  clear A_0_ A_1_ Af0_ Af1_ K_0_ K_1_ K_2_ K_3_ K_4_ K_5_ K_6_ K_7_ R_0_ R_1_
  have rK10_ := Lib.hid (show (((w1.setCell ⟨W.heap.size, 0, none⟩ (.slice q0 m0 d0)).setCell ⟨W.heap.size, 1, none⟩ (.slice q1 m1 d1))).heap[W.heap.size + 1]? = some (.cells #[.int .i64 p.f0, .int .i64 p.f1, .int .i64 p.f2, .int .i64 p.f3, .int .i64 p.f4, .int .i64 p.f5, .int .i64 p.f6, vp] 29 (0, 0)) from (set_far (set_far rK6_.out (by dsimp only; omega)) (by dsimp only; omega)))
  clear rK6_
  have rR11_ := Lib.hid (show (((w1.setCell ⟨W.heap.size, 0, none⟩ (.slice q0 m0 d0)).setCell ⟨W.heap.size, 1, none⟩ (.slice q1 m1 d1))).heap[W.heap.size + 1 + 1]? = some (.cells #[.slice none 0 0, .slice none 0 0] 54 (0, 0)) from (set_far (set_far rR7_.out (by dsimp only; omega)) (by dsimp only; omega)))
  clear rR7_
  have rA12_ := Lib.hid (show (((w1.setCell ⟨W.heap.size, 0, none⟩ (.slice q0 m0 d0)).setCell ⟨W.heap.size, 1, none⟩ (.slice q1 m1 d1))).heap[W.heap.size]? = some (.cells #[.slice q0 m0 d0, .slice q1 m1 d1] 54 (0, 0)) from (heap_setCell_same _ _ 1 _ _ _ (heap_setCell_same _ _ 0 _ _ _ rA5_.out)))
  clear rA5_
  have oC13_ := Lib.hid (show OwU (((w1.setCell ⟨W.heap.size, 0, none⟩ (.slice q0 m0 d0)).setCell ⟨W.heap.size, 1, none⟩ (.slice q1 m1 d1))) ((W.heap.size + 1 + 1 + 1)) (w1.heap.size) [] [own shI (.slice q0 m0 d0) xs, own shI (.slice q1 m1 d1) ys] from (OwU.keep (chg_one _ _ _ _) (by omega) (OwU.keep (chg_one _ _ _ _) (by omega) oC9_.out)))
  clear oC9_
  have G14_ := Lib.hid (show (W).grownBy (((w1.setCell ⟨W.heap.size, 0, none⟩ (.slice q0 m0 d0)).setCell ⟨W.heap.size, 1, none⟩ (.slice q1 m1 d1))) none from (gby_setnew (gby_setnew G8_.out _ (by dsimp only; omega) _) _ (by dsimp only; omega) _))
  have A_0_ : (((w1.setCell ⟨W.heap.size, 0, none⟩ (.slice q0 m0 d0)).setCell ⟨W.heap.size, 1, none⟩ (.slice q1 m1 d1))).cell? ⟨W.heap.size, 0, none⟩ = some (.slice q0 m0 d0) := cell_of_row _ _ 0 _ _ _ rA12_.out
  have A_1_ : (((w1.setCell ⟨W.heap.size, 0, none⟩ (.slice q0 m0 d0)).setCell ⟨W.heap.size, 1, none⟩ (.slice q1 m1 d1))).cell? ⟨W.heap.size, 1, none⟩ = some (.slice q1 m1 d1) := cell_of_row _ _ 1 _ _ _ rA12_.out
  have K_0_ : (((w1.setCell ⟨W.heap.size, 0, none⟩ (.slice q0 m0 d0)).setCell ⟨W.heap.size, 1, none⟩ (.slice q1 m1 d1))).cell? ⟨W.heap.size + 1, 0, none⟩ = some (.int .i64 p.f0) := cell_of_row _ _ 0 _ _ _ rK10_.out
  have K_1_ : (((w1.setCell ⟨W.heap.size, 0, none⟩ (.slice q0 m0 d0)).setCell ⟨W.heap.size, 1, none⟩ (.slice q1 m1 d1))).cell? ⟨W.heap.size + 1, 1, none⟩ = some (.int .i64 p.f1) := cell_of_row _ _ 1 _ _ _ rK10_.out
  have K_2_ : (((w1.setCell ⟨W.heap.size, 0, none⟩ (.slice q0 m0 d0)).setCell ⟨W.heap.size, 1, none⟩ (.slice q1 m1 d1))).cell? ⟨W.heap.size + 1, 2, none⟩ = some (.int .i64 p.f2) := cell_of_row _ _ 2 _ _ _ rK10_.out
  have K_3_ : (((w1.setCell ⟨W.heap.size, 0, none⟩ (.slice q0 m0 d0)).setCell ⟨W.heap.size, 1, none⟩ (.slice q1 m1 d1))).cell? ⟨W.heap.size + 1, 3, none⟩ = some (.int .i64 p.f3) := cell_of_row _ _ 3 _ _ _ rK10_.out
  have K_4_ : (((w1.setCell ⟨W.heap.size, 0, none⟩ (.slice q0 m0 d0)).setCell ⟨W.heap.size, 1, none⟩ (.slice q1 m1 d1))).cell? ⟨W.heap.size + 1, 4, none⟩ = some (.int .i64 p.f4) := cell_of_row _ _ 4 _ _ _ rK10_.out
  have K_5_ : (((w1.setCell ⟨W.heap.size, 0, none⟩ (.slice q0 m0 d0)).setCell ⟨W.heap.size, 1, none⟩ (.slice q1 m1 d1))).cell? ⟨W.heap.size + 1, 5, none⟩ = some (.int .i64 p.f5) := cell_of_row _ _ 5 _ _ _ rK10_.out
  have K_6_ : (((w1.setCell ⟨W.heap.size, 0, none⟩ (.slice q0 m0 d0)).setCell ⟨W.heap.size, 1, none⟩ (.slice q1 m1 d1))).cell? ⟨W.heap.size + 1, 6, none⟩ = some (.int .i64 p.f6) := cell_of_row _ _ 6 _ _ _ rK10_.out
  have K_7_ : (((w1.setCell ⟨W.heap.size, 0, none⟩ (.slice q0 m0 d0)).setCell ⟨W.heap.size, 1, none⟩ (.slice q1 m1 d1))).cell? ⟨W.heap.size + 1, 7, none⟩ = some (vp) := cell_of_row _ _ 7 _ _ _ rK10_.out
  have R_0_ : (((w1.setCell ⟨W.heap.size, 0, none⟩ (.slice q0 m0 d0)).setCell ⟨W.heap.size, 1, none⟩ (.slice q1 m1 d1))).cell? ⟨W.heap.size + 1 + 1, 0, none⟩ = some (.slice none 0 0) := cell_of_row _ _ 0 _ _ _ rR11_.out
  have R_1_ : (((w1.setCell ⟨W.heap.size, 0, none⟩ (.slice q0 m0 d0)).setCell ⟨W.heap.size, 1, none⟩ (.slice q1 m1 d1))).cell? ⟨W.heap.size + 1 + 1, 1, none⟩ = some (.slice none 0 0) := cell_of_row _ _ 1 _ _ _ rR11_.out
  refine (implCrD _ _ _ xs ys (OwU.rd oC13_.out) (OwU.rd (OwU.tail oC13_.out)) HXL.out HYL.out true (by rw [decide_eq_true HCO.out])).mono ?_
  rintro e w2 ⟨rfl, g⟩
  have szw2 := g.size
  try simp only [World.size_setCell] at szw2
  try simp only [World.size_alloc] at szw2
  clear A_0_ A_1_ K_0_ K_1_ K_2_ K_3_ K_4_ K_5_ K_6_ K_7_ R_0_ R_1_
  have rA15_ := Lib.hid (show (w2).heap[W.heap.size]? = some (.cells #[.slice q0 m0 d0, .slice q1 m1 d1] 54 (0, 0)) from row_held g rA12_.out)
  clear rA12_
  have rK16_ := Lib.hid (show (w2).heap[W.heap.size + 1]? = some (.cells #[.int .i64 p.f0, .int .i64 p.f1, .int .i64 p.f2, .int .i64 p.f3, .int .i64 p.f4, .int .i64 p.f5, .int .i64 p.f6, vp] 29 (0, 0)) from row_held g rK10_.out)
  clear rK10_
  have rR17_ := Lib.hid (show (w2).heap[W.heap.size + 1 + 1]? = some (.cells #[.slice none 0 0, .slice none 0 0] 54 (0, 0)) from row_held g rR11_.out)
  clear rR11_
  have oC18_ := Lib.hid (show OwU (w2) ((W.heap.size + 1 + 1 + 1)) (w1.heap.size) [] [own shI (.slice q0 m0 d0) xs, own shI (.slice q1 m1 d1) ys] from OwU.grow oC13_.out g)
  clear oC13_
  have G19_ := Lib.hid (show (W).grownBy (w2) none from gby_trans G14_.out g)
  clear g
  have A_0_ : (w2).cell? ⟨W.heap.size, 0, none⟩ = some (.slice q0 m0 d0) := cell_of_row _ _ 0 _ _ _ rA15_.out
  have A_1_ : (w2).cell? ⟨W.heap.size, 1, none⟩ = some (.slice q1 m1 d1) := cell_of_row _ _ 1 _ _ _ rA15_.out
  have K_0_ : (w2).cell? ⟨W.heap.size + 1, 0, none⟩ = some (.int .i64 p.f0) := cell_of_row _ _ 0 _ _ _ rK16_.out
  have K_1_ : (w2).cell? ⟨W.heap.size + 1, 1, none⟩ = some (.int .i64 p.f1) := cell_of_row _ _ 1 _ _ _ rK16_.out
  have K_2_ : (w2).cell? ⟨W.heap.size + 1, 2, none⟩ = some (.int .i64 p.f2) := cell_of_row _ _ 2 _ _ _ rK16_.out
  have K_3_ : (w2).cell? ⟨W.heap.size + 1, 3, none⟩ = some (.int .i64 p.f3) := cell_of_row _ _ 3 _ _ _ rK16_.out
  have K_4_ : (w2).cell? ⟨W.heap.size + 1, 4, none⟩ = some (.int .i64 p.f4) := cell_of_row _ _ 4 _ _ _ rK16_.out
  have K_5_ : (w2).cell? ⟨W.heap.size + 1, 5, none⟩ = some (.int .i64 p.f5) := cell_of_row _ _ 5 _ _ _ rK16_.out
  have K_6_ : (w2).cell? ⟨W.heap.size + 1, 6, none⟩ = some (.int .i64 p.f6) := cell_of_row _ _ 6 _ _ _ rK16_.out
  have K_7_ : (w2).cell? ⟨W.heap.size + 1, 7, none⟩ = some (vp) := cell_of_row _ _ 7 _ _ _ rK16_.out
  have R_0_ : (w2).cell? ⟨W.heap.size + 1 + 1, 0, none⟩ = some (.slice none 0 0) := cell_of_row _ _ 0 _ _ _ rR17_.out
  have R_1_ : (w2).cell? ⟨W.heap.size + 1 + 1, 1, none⟩ = some (.slice none 0 0) := cell_of_row _ _ 1 _ _ _ rR17_.out
  go_wp2_with fail
  go_at_call 30
  refine (implPkD _ p _ (HP.out.grow G19_.out) HL.out true (by rw [decide_eq_true (by rw [HC.out]; omega)])).mono ?_
  rintro e w3 ⟨rfl, g⟩
  have szw3 := g.size
  try simp only [World.size_alloc] at szw3
  try simp only [World.size_setCell] at szw3
  clear A_0_ A_1_ K_0_ K_1_ K_2_ K_3_ K_4_ K_5_ K_6_ K_7_ R_0_ R_1_
  have rA20_ := Lib.hid (show (w3).heap[W.heap.size]? = some (.cells #[.slice q0 m0 d0, .slice q1 m1 d1] 54 (0, 0)) from row_held g rA15_.out)
  clear rA15_
  have rK21_ := Lib.hid (show (w3).heap[W.heap.size + 1]? = some (.cells #[.int .i64 p.f0, .int .i64 p.f1, .int .i64 p.f2, .int .i64 p.f3, .int .i64 p.f4, .int .i64 p.f5, .int .i64 p.f6, vp] 29 (0, 0)) from row_held g rK16_.out)
  clear rK16_
  have rR22_ := Lib.hid (show (w3).heap[W.heap.size + 1 + 1]? = some (.cells #[.slice none 0 0, .slice none 0 0] 54 (0, 0)) from row_held g rR17_.out)
  clear rR17_
  have oC23_ := Lib.hid (show OwU (w3) ((W.heap.size + 1 + 1 + 1)) (w1.heap.size) [] [own shI (.slice q0 m0 d0) xs, own shI (.slice q1 m1 d1) ys] from OwU.grow oC18_.out g)
  clear oC18_
  have G24_ := Lib.hid (show (W).grownBy (w3) none from gby_trans G19_.out g)
  clear g
  have A_0_ : (w3).cell? ⟨W.heap.size, 0, none⟩ = some (.slice q0 m0 d0) := cell_of_row _ _ 0 _ _ _ rA20_.out
  have A_1_ : (w3).cell? ⟨W.heap.size, 1, none⟩ = some (.slice q1 m1 d1) := cell_of_row _ _ 1 _ _ _ rA20_.out
  have K_0_ : (w3).cell? ⟨W.heap.size + 1, 0, none⟩ = some (.int .i64 p.f0) := cell_of_row _ _ 0 _ _ _ rK21_.out
  have K_1_ : (w3).cell? ⟨W.heap.size + 1, 1, none⟩ = some (.int .i64 p.f1) := cell_of_row _ _ 1 _ _ _ rK21_.out
  have K_2_ : (w3).cell? ⟨W.heap.size + 1, 2, none⟩ = some (.int .i64 p.f2) := cell_of_row _ _ 2 _ _ _ rK21_.out
  have K_3_ : (w3).cell? ⟨W.heap.size + 1, 3, none⟩ = some (.int .i64 p.f3) := cell_of_row _ _ 3 _ _ _ rK21_.out
  have K_4_ : (w3).cell? ⟨W.heap.size + 1, 4, none⟩ = some (.int .i64 p.f4) := cell_of_row _ _ 4 _ _ _ rK21_.out
  have K_5_ : (w3).cell? ⟨W.heap.size + 1, 5, none⟩ = some (.int .i64 p.f5) := cell_of_row _ _ 5 _ _ _ rK21_.out
  have K_6_ : (w3).cell? ⟨W.heap.size + 1, 6, none⟩ = some (.int .i64 p.f6) := cell_of_row _ _ 6 _ _ _ rK21_.out
  have K_7_ : (w3).cell? ⟨W.heap.size + 1, 7, none⟩ = some (vp) := cell_of_row _ _ 7 _ _ _ rK21_.out
  have R_0_ : (w3).cell? ⟨W.heap.size + 1 + 1, 0, none⟩ = some (.slice none 0 0) := cell_of_row _ _ 0 _ _ _ rR22_.out
  have R_1_ : (w3).cell? ⟨W.heap.size + 1 + 1, 1, none⟩ = some (.slice none 0 0) := cell_of_row _ _ 1 _ _ _ rR22_.out
  have HCON := Lib.hid (show ∀ (w : World), w.heap[W.heap.size]? = some (.cells #[.slice q0 m0 d0, .slice q1 m1 d1] 54 (0, 0)) → OwU w (W.heap.size + 1 + 1 + 1) (w1.heap.size) [] [own shI (.slice q0 m0 d0) xs, own shI (.slice q1 m1 d1) ys] → W.grownBy w none → w1.heap.size ≤ w.heap.size → Calls Try.prog 90 #[.pointer (some ⟨W.heap.size, 0, none⟩), .agg #[.int .i64 p.f0, .int .i64 p.f1, .int .i64 p.f2, .int .i64 p.f3, .int .i64 p.f4, .int .i64 p.f5, .int .i64 p.f6, vp]] w (SpPost false (W.heap.size + 1 + 1 + 1) (w1.heap.size) (.slice q0 m0 d0) (.slice q1 m1 d1) xs ys w) from fun w r1 r2 r3 r4 => by
    have q := give_full2 w W.heap.size (W.heap.size + 1 + 1 + 1) (w1.heap.size) k (.slice q0 m0 d0) (.slice q1 m1 d1) vp xs ys p r1 r2 (.inl (by omega)) r4 (HP.out.grow r3) (fun w' gc => HP.out.grow (gby_chg r3 gc (by omega))) HL.out HC.out hk3 HCR.out u HU.out hu0 hu9 ⟨by have := HW.out.1; omega, by have := HW.out.2; omega⟩
    skip
    exact q)
  go_wp2_with fail
  go_at_call 90
  refine (HCON.out _ rA20_.out oC23_.out G24_.out (by omega)).mono ?_
  rintro e w4 ⟨rfl, o, gc⟩
  have szv_ := gc.size
  have NR_ := Lib.hid (show w4.heap[W.heap.size + 1 + 1]? = some (.cells #[.slice none 0 0, .slice none 0 0] 54 (0, 0)) from Chg.keep gc rR22_.out (.inl (by omega)))
  have NA_ := Lib.hid (show w4.heap[W.heap.size]? = some (.cells #[.slice q0 m0 d0, .slice q1 m1 d1] 54 (0, 0)) from Chg.keep gc rA20_.out (.inl (by omega)))
  have NO_ := Lib.hid o
  have NG_ := Lib.hid (gby_chg G24_.out gc (by omega))
  clear o gc
  clear A_0_ A_1_ K_0_ K_1_ K_2_ K_3_ K_4_ K_5_ K_6_ K_7_ R_0_ R_1_
  have G25_ := Lib.hid (show (W).grownBy (w4) none from NG_.out)
  have A_0_ : (w4).cell? ⟨W.heap.size, 0, none⟩ = some (.slice q0 m0 d0) := cell_of_row _ _ 0 _ _ _ NA_.out
  have A_1_ : (w4).cell? ⟨W.heap.size, 1, none⟩ = some (.slice q1 m1 d1) := cell_of_row _ _ 1 _ _ _ NA_.out
  have R_0_ : (w4).cell? ⟨W.heap.size + 1 + 1, 0, none⟩ = some (.slice none 0 0) := cell_of_row _ _ 0 _ _ _ NR_.out
  have R_1_ : (w4).cell? ⟨W.heap.size + 1 + 1, 1, none⟩ = some (.slice none 0 0) := cell_of_row _ _ 1 _ _ _ NR_.out
  clear A_0_ A_1_ R_0_ R_1_
  have A_0_ : (w4).cell? ⟨W.heap.size, 0, none⟩ = some (.slice q0 m0 d0) := cell_of_row _ _ 0 _ _ _ NA_.out
  have A_1_ : (w4).cell? ⟨W.heap.size, 1, none⟩ = some (.slice q1 m1 d1) := cell_of_row _ _ 1 _ _ _ NA_.out
  have R_0_ : (w4).cell? ⟨W.heap.size + 1 + 1, 0, none⟩ = some (.slice none 0 0) := cell_of_row _ _ 0 _ _ _ NR_.out
  have R_1_ : (w4).cell? ⟨W.heap.size + 1 + 1, 1, none⟩ = some (.slice none 0 0) := cell_of_row _ _ 1 _ _ _ NR_.out
  have Rf0_ : (w4).frozen? ⟨W.heap.size + 1 + 1, 0, none⟩ = false := frozen_of_row _ _ 0 _ _ NR_.out
  have Rf1_ : (w4).frozen? ⟨W.heap.size + 1 + 1, 1, none⟩ = false := frozen_of_row _ _ 1 _ _ NR_.out
  have zr_ := Lib.hid (show (((w4.setCell ⟨W.heap.size + 1 + 1, 0, none⟩ (.slice q0 m0 d0)).setCell ⟨W.heap.size + 1 + 1, 1, none⟩ (.slice q1 m1 d1))).heap[W.heap.size + 1 + 1]? = some (.cells #[.slice q0 m0 d0, .slice q1 m1 d1] 54 (0, 0)) from (heap_setCell_same _ _ 1 _ _ _ (heap_setCell_same _ _ 0 _ _ _ NR_.out)))
  have z0_ : (((w4.setCell ⟨W.heap.size + 1 + 1, 0, none⟩ (.slice q0 m0 d0)).setCell ⟨W.heap.size + 1 + 1, 1, none⟩ (.slice q1 m1 d1))).cell? ⟨W.heap.size + 1 + 1, 0, none⟩ = some (.slice q0 m0 d0) := cell_of_row _ _ 0 _ _ _ zr_.out
  have z1_ : (((w4.setCell ⟨W.heap.size + 1 + 1, 0, none⟩ (.slice q0 m0 d0)).setCell ⟨W.heap.size + 1 + 1, 1, none⟩ (.slice q1 m1 d1))).cell? ⟨W.heap.size + 1 + 1, 1, none⟩ = some (.slice q1 m1 d1) := cell_of_row _ _ 1 _ _ _ zr_.out
  go_wp2
  refine bodyPost_ret (v := .tuple #[.agg #[.slice q0 m0 d0, .slice q1 m1 d1], .bool false]) (by simp [results, go_sem, z0_, z1_]) rfl ⟨_, _, rfl, ?_, ?_⟩
  · exact OwU.wide (lo := W.heap.size + 1 + 1 + 1) (by omega) (by simp only [World.size_setCell]; omega) (OwU.keep (chg_one _ _ _ _) (.inr (by omega)) (OwU.keep (chg_one _ _ _ _) (.inr (by omega)) NO_.out))
  · exact (gby_setnew (gby_setnew G25_.out _ (by dsimp only; omega) _) _ (by dsimp only; omega) _)

set_option maxRecDepth 8000 in
set_option maxHeartbeats 4000000 in
theorem implReturnCredits_yes (W : World) (u0 u1 vp : Value) (xs ys : List Int) (p : DPacket) (H0 : RdL shI W u0 xs) (H1 : RdL shI W u1 ys) (Hp : RdL shI W vp p.f7) (h0 : szL shI xs ≤ 1048576) (h1 : szL shI ys ≤ 1048576) (hl : szL shI p.f7 ≤ 1048576) (k : Nat) (u : Int) (hc : clsD p = (k : Int)) (hk3 : k < 3) (hcr : CrdOk xs ys) (hu : untD p = u) (hu0 : 0 ≤ u) (hu9 : u ≤ 1000000) (hw : ¬ xs.getD k 0 + 1 > 30) (hw2 : ¬ ys.getD k 0 + u > 30) : Calls Try.prog 42 #[.agg #[u0, u1], (vPacket p.f0 p.f1 p.f2 p.f3 p.f4 p.f5 p.f6 vp)] W (ResIReturnCredits (xs.set k (xs.getD k 0 + 1)) (ys.set k (ys.getD k 0 + u)) true W) := by
  have HSX := Lib.hid H0
  have HSY := Lib.hid H1
  have HP := Lib.hid Hp
  have HXL := Lib.hid h0
  have HYL := Lib.hid h1
  have HL := Lib.hid hl
  obtain ⟨a0, n0, c0, rfl⟩ := RdL.form H0
  obtain ⟨a1, n1, c1, rfl⟩ := RdL.form H1
  clear H0 H1 Hp h0 h1 hl
  unfold vPacket
  have HCO := Lib.hid hcr
  have HC := Lib.hid hc
  have HU := Lib.hid hu
  have HCR := Lib.hid hcr
  have hx1 := crd_at hcr hk3
  obtain ⟨x, hx⟩ : ∃ x, x = xs.getD k 0 := ⟨_, rfl⟩
  obtain ⟨y, hy⟩ : ∃ y, y = ys.getD k 0 := ⟨_, rfl⟩
  rw [← hx, ← hy] at hx1
  obtain ⟨hxl, hyl, hx0, hx30, hy0, hy30⟩ := hx1
  have HX := Lib.hid hx
  have HY := Lib.hid hy
  have HW := Lib.hid hw
  have HW2 := Lib.hid hw2
  clear hw2
  clear hw
  clear hc hu hcr hx hy
  obtain ⟨rx, hrx⟩ : ∃ r, r = xs.set k (xs.getD k 0 + 1) := ⟨_, rfl⟩
  obtain ⟨ry, hry⟩ : ∃ r, r = ys.set k (ys.getD k 0 + u) := ⟨_, rfl⟩
  have HRX := Lib.hid hrx.symm
  have HRY := Lib.hid hry.symm
  rw [← hrx, ← hry]
  clear hrx hry
  go_enter Try.func42, Try.ntmps42
  have rA1_ := Lib.hid (show ((((W.alloc (.cells #[.slice a0 n0 c0, .slice a1 n1 c1] 54)).alloc (.cells #[.int .i64 p.f0, .int .i64 p.f1, .int .i64 p.f2, .int .i64 p.f3, .int .i64 p.f4, .int .i64 p.f5, .int .i64 p.f6, vp] 29)).alloc (.cells #[.slice none 0 0, .slice none 0 0] 54))).heap[W.heap.size]? = some (.cells #[.slice a0 n0 c0, .slice a1 n1 c1] 54 (0, 0)) from by rw [heap_alloc_old _ _ (by simp only [World.size_alloc]; omega)]; rw [heap_alloc_old _ _ (by simp only [World.size_alloc]; omega)]; exact heap_alloc_new _ _)
  have rK2_ := Lib.hid (show ((((W.alloc (.cells #[.slice a0 n0 c0, .slice a1 n1 c1] 54)).alloc (.cells #[.int .i64 p.f0, .int .i64 p.f1, .int .i64 p.f2, .int .i64 p.f3, .int .i64 p.f4, .int .i64 p.f5, .int .i64 p.f6, vp] 29)).alloc (.cells #[.slice none 0 0, .slice none 0 0] 54))).heap[W.heap.size + 1]? = some (.cells #[.int .i64 p.f0, .int .i64 p.f1, .int .i64 p.f2, .int .i64 p.f3, .int .i64 p.f4, .int .i64 p.f5, .int .i64 p.f6, vp] 29 (0, 0)) from by rw [heap_alloc_old _ _ (by simp only [World.size_alloc]; omega)]; exact heap_pair _ _ _)
  have rR3_ := Lib.hid (show ((((W.alloc (.cells #[.slice a0 n0 c0, .slice a1 n1 c1] 54)).alloc (.cells #[.int .i64 p.f0, .int .i64 p.f1, .int .i64 p.f2, .int .i64 p.f3, .int .i64 p.f4, .int .i64 p.f5, .int .i64 p.f6, vp] 29)).alloc (.cells #[.slice none 0 0, .slice none 0 0] 54))).heap[W.heap.size + 1 + 1]? = some (.cells #[.slice none 0 0, .slice none 0 0] 54 (0, 0)) from by exact heap_trip _ _ _ _)
  have G4_ := Lib.hid (show (W).grownBy ((((W.alloc (.cells #[.slice a0 n0 c0, .slice a1 n1 c1] 54)).alloc (.cells #[.int .i64 p.f0, .int .i64 p.f1, .int .i64 p.f2, .int .i64 p.f3, .int .i64 p.f4, .int .i64 p.f5, .int .i64 p.f6, vp] 29)).alloc (.cells #[.slice none 0 0, .slice none 0 0] 54))) none from (gby_alloc (gby_alloc (gby_alloc (gby_refl _ _) _) _) _))
  have A_0_ : ((((W.alloc (.cells #[.slice a0 n0 c0, .slice a1 n1 c1] 54)).alloc (.cells #[.int .i64 p.f0, .int .i64 p.f1, .int .i64 p.f2, .int .i64 p.f3, .int .i64 p.f4, .int .i64 p.f5, .int .i64 p.f6, vp] 29)).alloc (.cells #[.slice none 0 0, .slice none 0 0] 54))).cell? ⟨W.heap.size, 0, none⟩ = some (.slice a0 n0 c0) := cell_of_row _ _ 0 _ _ _ rA1_.out
  have A_1_ : ((((W.alloc (.cells #[.slice a0 n0 c0, .slice a1 n1 c1] 54)).alloc (.cells #[.int .i64 p.f0, .int .i64 p.f1, .int .i64 p.f2, .int .i64 p.f3, .int .i64 p.f4, .int .i64 p.f5, .int .i64 p.f6, vp] 29)).alloc (.cells #[.slice none 0 0, .slice none 0 0] 54))).cell? ⟨W.heap.size, 1, none⟩ = some (.slice a1 n1 c1) := cell_of_row _ _ 1 _ _ _ rA1_.out
  have K_0_ : ((((W.alloc (.cells #[.slice a0 n0 c0, .slice a1 n1 c1] 54)).alloc (.cells #[.int .i64 p.f0, .int .i64 p.f1, .int .i64 p.f2, .int .i64 p.f3, .int .i64 p.f4, .int .i64 p.f5, .int .i64 p.f6, vp] 29)).alloc (.cells #[.slice none 0 0, .slice none 0 0] 54))).cell? ⟨W.heap.size + 1, 0, none⟩ = some (.int .i64 p.f0) := cell_of_row _ _ 0 _ _ _ rK2_.out
  have K_1_ : ((((W.alloc (.cells #[.slice a0 n0 c0, .slice a1 n1 c1] 54)).alloc (.cells #[.int .i64 p.f0, .int .i64 p.f1, .int .i64 p.f2, .int .i64 p.f3, .int .i64 p.f4, .int .i64 p.f5, .int .i64 p.f6, vp] 29)).alloc (.cells #[.slice none 0 0, .slice none 0 0] 54))).cell? ⟨W.heap.size + 1, 1, none⟩ = some (.int .i64 p.f1) := cell_of_row _ _ 1 _ _ _ rK2_.out
  have K_2_ : ((((W.alloc (.cells #[.slice a0 n0 c0, .slice a1 n1 c1] 54)).alloc (.cells #[.int .i64 p.f0, .int .i64 p.f1, .int .i64 p.f2, .int .i64 p.f3, .int .i64 p.f4, .int .i64 p.f5, .int .i64 p.f6, vp] 29)).alloc (.cells #[.slice none 0 0, .slice none 0 0] 54))).cell? ⟨W.heap.size + 1, 2, none⟩ = some (.int .i64 p.f2) := cell_of_row _ _ 2 _ _ _ rK2_.out
  have K_3_ : ((((W.alloc (.cells #[.slice a0 n0 c0, .slice a1 n1 c1] 54)).alloc (.cells #[.int .i64 p.f0, .int .i64 p.f1, .int .i64 p.f2, .int .i64 p.f3, .int .i64 p.f4, .int .i64 p.f5, .int .i64 p.f6, vp] 29)).alloc (.cells #[.slice none 0 0, .slice none 0 0] 54))).cell? ⟨W.heap.size + 1, 3, none⟩ = some (.int .i64 p.f3) := cell_of_row _ _ 3 _ _ _ rK2_.out
  have K_4_ : ((((W.alloc (.cells #[.slice a0 n0 c0, .slice a1 n1 c1] 54)).alloc (.cells #[.int .i64 p.f0, .int .i64 p.f1, .int .i64 p.f2, .int .i64 p.f3, .int .i64 p.f4, .int .i64 p.f5, .int .i64 p.f6, vp] 29)).alloc (.cells #[.slice none 0 0, .slice none 0 0] 54))).cell? ⟨W.heap.size + 1, 4, none⟩ = some (.int .i64 p.f4) := cell_of_row _ _ 4 _ _ _ rK2_.out
  have K_5_ : ((((W.alloc (.cells #[.slice a0 n0 c0, .slice a1 n1 c1] 54)).alloc (.cells #[.int .i64 p.f0, .int .i64 p.f1, .int .i64 p.f2, .int .i64 p.f3, .int .i64 p.f4, .int .i64 p.f5, .int .i64 p.f6, vp] 29)).alloc (.cells #[.slice none 0 0, .slice none 0 0] 54))).cell? ⟨W.heap.size + 1, 5, none⟩ = some (.int .i64 p.f5) := cell_of_row _ _ 5 _ _ _ rK2_.out
  have K_6_ : ((((W.alloc (.cells #[.slice a0 n0 c0, .slice a1 n1 c1] 54)).alloc (.cells #[.int .i64 p.f0, .int .i64 p.f1, .int .i64 p.f2, .int .i64 p.f3, .int .i64 p.f4, .int .i64 p.f5, .int .i64 p.f6, vp] 29)).alloc (.cells #[.slice none 0 0, .slice none 0 0] 54))).cell? ⟨W.heap.size + 1, 6, none⟩ = some (.int .i64 p.f6) := cell_of_row _ _ 6 _ _ _ rK2_.out
  have K_7_ : ((((W.alloc (.cells #[.slice a0 n0 c0, .slice a1 n1 c1] 54)).alloc (.cells #[.int .i64 p.f0, .int .i64 p.f1, .int .i64 p.f2, .int .i64 p.f3, .int .i64 p.f4, .int .i64 p.f5, .int .i64 p.f6, vp] 29)).alloc (.cells #[.slice none 0 0, .slice none 0 0] 54))).cell? ⟨W.heap.size + 1, 7, none⟩ = some (vp) := cell_of_row _ _ 7 _ _ _ rK2_.out
  have R_0_ : ((((W.alloc (.cells #[.slice a0 n0 c0, .slice a1 n1 c1] 54)).alloc (.cells #[.int .i64 p.f0, .int .i64 p.f1, .int .i64 p.f2, .int .i64 p.f3, .int .i64 p.f4, .int .i64 p.f5, .int .i64 p.f6, vp] 29)).alloc (.cells #[.slice none 0 0, .slice none 0 0] 54))).cell? ⟨W.heap.size + 1 + 1, 0, none⟩ = some (.slice none 0 0) := cell_of_row _ _ 0 _ _ _ rR3_.out
  have R_1_ : ((((W.alloc (.cells #[.slice a0 n0 c0, .slice a1 n1 c1] 54)).alloc (.cells #[.int .i64 p.f0, .int .i64 p.f1, .int .i64 p.f2, .int .i64 p.f3, .int .i64 p.f4, .int .i64 p.f5, .int .i64 p.f6, vp] 29)).alloc (.cells #[.slice none 0 0, .slice none 0 0] 54))).cell? ⟨W.heap.size + 1 + 1, 1, none⟩ = some (.slice none 0 0) := cell_of_row _ _ 1 _ _ _ rR3_.out
  go_wp2_with fail
  go_at_call 87
  refine (copiedCr_d _ _ _ xs ys (HSX.out.grow G4_.out) (HSY.out.grow G4_.out) HXL.out HYL.out).mono ?_
  rintro e w1 ⟨z0, z1, rfl, o, g⟩
  have sz_ := g.size
  try simp only [World.size_alloc] at sz_ o
  clear A_0_ A_1_ K_0_ K_1_ K_2_ K_3_ K_4_ K_5_ K_6_ K_7_ R_0_ R_1_
  have rA5_ := Lib.hid (show (w1).heap[W.heap.size]? = some (.cells #[.slice a0 n0 c0, .slice a1 n1 c1] 54 (0, 0)) from row_held g rA1_.out)
  clear rA1_
  have rK6_ := Lib.hid (show (w1).heap[W.heap.size + 1]? = some (.cells #[.int .i64 p.f0, .int .i64 p.f1, .int .i64 p.f2, .int .i64 p.f3, .int .i64 p.f4, .int .i64 p.f5, .int .i64 p.f6, vp] 29 (0, 0)) from row_held g rK2_.out)
  clear rK2_
  have rR7_ := Lib.hid (show (w1).heap[W.heap.size + 1 + 1]? = some (.cells #[.slice none 0 0, .slice none 0 0] 54 (0, 0)) from row_held g rR3_.out)
  clear rR3_
  have G8_ := Lib.hid (show (W).grownBy (w1) none from gby_trans G4_.out g)
  clear g
  obtain ⟨q0, m0, d0, hv_⟩ := RdL.form (OwU.rd o)
  subst hv_
  obtain ⟨q1, m1, d1, hv_⟩ := RdL.form (OwU.rd (OwU.tail o))
  subst hv_
  unfold vCredits
  have oC9_ := Lib.hid (show OwU (w1) ((W.heap.size + 1 + 1 + 1)) (w1.heap.size) [] [own shI (.slice q0 m0 d0) xs, own shI (.slice q1 m1 d1) ys] from o)
  clear o
  have A_0_ : (w1).cell? ⟨W.heap.size, 0, none⟩ = some (.slice a0 n0 c0) := cell_of_row _ _ 0 _ _ _ rA5_.out
  have A_1_ : (w1).cell? ⟨W.heap.size, 1, none⟩ = some (.slice a1 n1 c1) := cell_of_row _ _ 1 _ _ _ rA5_.out
  have Af0_ : (w1).frozen? ⟨W.heap.size, 0, none⟩ = false := frozen_of_row _ _ 0 _ _ rA5_.out
  have Af1_ : (w1).frozen? ⟨W.heap.size, 1, none⟩ = false := frozen_of_row _ _ 1 _ _ rA5_.out
  have K_0_ : (w1).cell? ⟨W.heap.size + 1, 0, none⟩ = some (.int .i64 p.f0) := cell_of_row _ _ 0 _ _ _ rK6_.out
  have K_1_ : (w1).cell? ⟨W.heap.size + 1, 1, none⟩ = some (.int .i64 p.f1) := cell_of_row _ _ 1 _ _ _ rK6_.out
  have K_2_ : (w1).cell? ⟨W.heap.size + 1, 2, none⟩ = some (.int .i64 p.f2) := cell_of_row _ _ 2 _ _ _ rK6_.out
  have K_3_ : (w1).cell? ⟨W.heap.size + 1, 3, none⟩ = some (.int .i64 p.f3) := cell_of_row _ _ 3 _ _ _ rK6_.out
  have K_4_ : (w1).cell? ⟨W.heap.size + 1, 4, none⟩ = some (.int .i64 p.f4) := cell_of_row _ _ 4 _ _ _ rK6_.out
  have K_5_ : (w1).cell? ⟨W.heap.size + 1, 5, none⟩ = some (.int .i64 p.f5) := cell_of_row _ _ 5 _ _ _ rK6_.out
  have K_6_ : (w1).cell? ⟨W.heap.size + 1, 6, none⟩ = some (.int .i64 p.f6) := cell_of_row _ _ 6 _ _ _ rK6_.out
  have K_7_ : (w1).cell? ⟨W.heap.size + 1, 7, none⟩ = some (vp) := cell_of_row _ _ 7 _ _ _ rK6_.out
  have R_0_ : (w1).cell? ⟨W.heap.size + 1 + 1, 0, none⟩ = some (.slice none 0 0) := cell_of_row _ _ 0 _ _ _ rR7_.out
  have R_1_ : (w1).cell? ⟨W.heap.size + 1 + 1, 1, none⟩ = some (.slice none 0 0) := cell_of_row _ _ 1 _ _ _ rR7_.out
  go_wp2_with fail
  go_at_call 47
  clear A_0_ A_1_ Af0_ Af1_ K_0_ K_1_ K_2_ K_3_ K_4_ K_5_ K_6_ K_7_ R_0_ R_1_
  have rK10_ := Lib.hid (show (((w1.setCell ⟨W.heap.size, 0, none⟩ (.slice q0 m0 d0)).setCell ⟨W.heap.size, 1, none⟩ (.slice q1 m1 d1))).heap[W.heap.size + 1]? = some (.cells #[.int .i64 p.f0, .int .i64 p.f1, .int .i64 p.f2, .int .i64 p.f3, .int .i64 p.f4, .int .i64 p.f5, .int .i64 p.f6, vp] 29 (0, 0)) from (set_far (set_far rK6_.out (by dsimp only; omega)) (by dsimp only; omega)))
  clear rK6_
  have rR11_ := Lib.hid (show (((w1.setCell ⟨W.heap.size, 0, none⟩ (.slice q0 m0 d0)).setCell ⟨W.heap.size, 1, none⟩ (.slice q1 m1 d1))).heap[W.heap.size + 1 + 1]? = some (.cells #[.slice none 0 0, .slice none 0 0] 54 (0, 0)) from (set_far (set_far rR7_.out (by dsimp only; omega)) (by dsimp only; omega)))
  clear rR7_
  have rA12_ := Lib.hid (show (((w1.setCell ⟨W.heap.size, 0, none⟩ (.slice q0 m0 d0)).setCell ⟨W.heap.size, 1, none⟩ (.slice q1 m1 d1))).heap[W.heap.size]? = some (.cells #[.slice q0 m0 d0, .slice q1 m1 d1] 54 (0, 0)) from (heap_setCell_same _ _ 1 _ _ _ (heap_setCell_same _ _ 0 _ _ _ rA5_.out)))
  clear rA5_
  have oC13_ := Lib.hid (show OwU (((w1.setCell ⟨W.heap.size, 0, none⟩ (.slice q0 m0 d0)).setCell ⟨W.heap.size, 1, none⟩ (.slice q1 m1 d1))) ((W.heap.size + 1 + 1 + 1)) (w1.heap.size) [] [own shI (.slice q0 m0 d0) xs, own shI (.slice q1 m1 d1) ys] from (OwU.keep (chg_one _ _ _ _) (by omega) (OwU.keep (chg_one _ _ _ _) (by omega) oC9_.out)))
  clear oC9_
  have G14_ := Lib.hid (show (W).grownBy (((w1.setCell ⟨W.heap.size, 0, none⟩ (.slice q0 m0 d0)).setCell ⟨W.heap.size, 1, none⟩ (.slice q1 m1 d1))) none from (gby_setnew (gby_setnew G8_.out _ (by dsimp only; omega) _) _ (by dsimp only; omega) _))
  have A_0_ : (((w1.setCell ⟨W.heap.size, 0, none⟩ (.slice q0 m0 d0)).setCell ⟨W.heap.size, 1, none⟩ (.slice q1 m1 d1))).cell? ⟨W.heap.size, 0, none⟩ = some (.slice q0 m0 d0) := cell_of_row _ _ 0 _ _ _ rA12_.out
  have A_1_ : (((w1.setCell ⟨W.heap.size, 0, none⟩ (.slice q0 m0 d0)).setCell ⟨W.heap.size, 1, none⟩ (.slice q1 m1 d1))).cell? ⟨W.heap.size, 1, none⟩ = some (.slice q1 m1 d1) := cell_of_row _ _ 1 _ _ _ rA12_.out
  have K_0_ : (((w1.setCell ⟨W.heap.size, 0, none⟩ (.slice q0 m0 d0)).setCell ⟨W.heap.size, 1, none⟩ (.slice q1 m1 d1))).cell? ⟨W.heap.size + 1, 0, none⟩ = some (.int .i64 p.f0) := cell_of_row _ _ 0 _ _ _ rK10_.out
  have K_1_ : (((w1.setCell ⟨W.heap.size, 0, none⟩ (.slice q0 m0 d0)).setCell ⟨W.heap.size, 1, none⟩ (.slice q1 m1 d1))).cell? ⟨W.heap.size + 1, 1, none⟩ = some (.int .i64 p.f1) := cell_of_row _ _ 1 _ _ _ rK10_.out
  have K_2_ : (((w1.setCell ⟨W.heap.size, 0, none⟩ (.slice q0 m0 d0)).setCell ⟨W.heap.size, 1, none⟩ (.slice q1 m1 d1))).cell? ⟨W.heap.size + 1, 2, none⟩ = some (.int .i64 p.f2) := cell_of_row _ _ 2 _ _ _ rK10_.out
  have K_3_ : (((w1.setCell ⟨W.heap.size, 0, none⟩ (.slice q0 m0 d0)).setCell ⟨W.heap.size, 1, none⟩ (.slice q1 m1 d1))).cell? ⟨W.heap.size + 1, 3, none⟩ = some (.int .i64 p.f3) := cell_of_row _ _ 3 _ _ _ rK10_.out
  have K_4_ : (((w1.setCell ⟨W.heap.size, 0, none⟩ (.slice q0 m0 d0)).setCell ⟨W.heap.size, 1, none⟩ (.slice q1 m1 d1))).cell? ⟨W.heap.size + 1, 4, none⟩ = some (.int .i64 p.f4) := cell_of_row _ _ 4 _ _ _ rK10_.out
  have K_5_ : (((w1.setCell ⟨W.heap.size, 0, none⟩ (.slice q0 m0 d0)).setCell ⟨W.heap.size, 1, none⟩ (.slice q1 m1 d1))).cell? ⟨W.heap.size + 1, 5, none⟩ = some (.int .i64 p.f5) := cell_of_row _ _ 5 _ _ _ rK10_.out
  have K_6_ : (((w1.setCell ⟨W.heap.size, 0, none⟩ (.slice q0 m0 d0)).setCell ⟨W.heap.size, 1, none⟩ (.slice q1 m1 d1))).cell? ⟨W.heap.size + 1, 6, none⟩ = some (.int .i64 p.f6) := cell_of_row _ _ 6 _ _ _ rK10_.out
  have K_7_ : (((w1.setCell ⟨W.heap.size, 0, none⟩ (.slice q0 m0 d0)).setCell ⟨W.heap.size, 1, none⟩ (.slice q1 m1 d1))).cell? ⟨W.heap.size + 1, 7, none⟩ = some (vp) := cell_of_row _ _ 7 _ _ _ rK10_.out
  have R_0_ : (((w1.setCell ⟨W.heap.size, 0, none⟩ (.slice q0 m0 d0)).setCell ⟨W.heap.size, 1, none⟩ (.slice q1 m1 d1))).cell? ⟨W.heap.size + 1 + 1, 0, none⟩ = some (.slice none 0 0) := cell_of_row _ _ 0 _ _ _ rR11_.out
  have R_1_ : (((w1.setCell ⟨W.heap.size, 0, none⟩ (.slice q0 m0 d0)).setCell ⟨W.heap.size, 1, none⟩ (.slice q1 m1 d1))).cell? ⟨W.heap.size + 1 + 1, 1, none⟩ = some (.slice none 0 0) := cell_of_row _ _ 1 _ _ _ rR11_.out
  refine (implCrD _ _ _ xs ys (OwU.rd oC13_.out) (OwU.rd (OwU.tail oC13_.out)) HXL.out HYL.out true (by rw [decide_eq_true HCO.out])).mono ?_
  rintro e w2 ⟨rfl, g⟩
  have szw2 := g.size
  try simp only [World.size_setCell] at szw2
  try simp only [World.size_alloc] at szw2
  clear A_0_ A_1_ K_0_ K_1_ K_2_ K_3_ K_4_ K_5_ K_6_ K_7_ R_0_ R_1_
  have rA15_ := Lib.hid (show (w2).heap[W.heap.size]? = some (.cells #[.slice q0 m0 d0, .slice q1 m1 d1] 54 (0, 0)) from row_held g rA12_.out)
  clear rA12_
  have rK16_ := Lib.hid (show (w2).heap[W.heap.size + 1]? = some (.cells #[.int .i64 p.f0, .int .i64 p.f1, .int .i64 p.f2, .int .i64 p.f3, .int .i64 p.f4, .int .i64 p.f5, .int .i64 p.f6, vp] 29 (0, 0)) from row_held g rK10_.out)
  clear rK10_
  have rR17_ := Lib.hid (show (w2).heap[W.heap.size + 1 + 1]? = some (.cells #[.slice none 0 0, .slice none 0 0] 54 (0, 0)) from row_held g rR11_.out)
  clear rR11_
  have oC18_ := Lib.hid (show OwU (w2) ((W.heap.size + 1 + 1 + 1)) (w1.heap.size) [] [own shI (.slice q0 m0 d0) xs, own shI (.slice q1 m1 d1) ys] from OwU.grow oC13_.out g)
  clear oC13_
  have G19_ := Lib.hid (show (W).grownBy (w2) none from gby_trans G14_.out g)
  clear g
  have A_0_ : (w2).cell? ⟨W.heap.size, 0, none⟩ = some (.slice q0 m0 d0) := cell_of_row _ _ 0 _ _ _ rA15_.out
  have A_1_ : (w2).cell? ⟨W.heap.size, 1, none⟩ = some (.slice q1 m1 d1) := cell_of_row _ _ 1 _ _ _ rA15_.out
  have K_0_ : (w2).cell? ⟨W.heap.size + 1, 0, none⟩ = some (.int .i64 p.f0) := cell_of_row _ _ 0 _ _ _ rK16_.out
  have K_1_ : (w2).cell? ⟨W.heap.size + 1, 1, none⟩ = some (.int .i64 p.f1) := cell_of_row _ _ 1 _ _ _ rK16_.out
  have K_2_ : (w2).cell? ⟨W.heap.size + 1, 2, none⟩ = some (.int .i64 p.f2) := cell_of_row _ _ 2 _ _ _ rK16_.out
  have K_3_ : (w2).cell? ⟨W.heap.size + 1, 3, none⟩ = some (.int .i64 p.f3) := cell_of_row _ _ 3 _ _ _ rK16_.out
  have K_4_ : (w2).cell? ⟨W.heap.size + 1, 4, none⟩ = some (.int .i64 p.f4) := cell_of_row _ _ 4 _ _ _ rK16_.out
  have K_5_ : (w2).cell? ⟨W.heap.size + 1, 5, none⟩ = some (.int .i64 p.f5) := cell_of_row _ _ 5 _ _ _ rK16_.out
  have K_6_ : (w2).cell? ⟨W.heap.size + 1, 6, none⟩ = some (.int .i64 p.f6) := cell_of_row _ _ 6 _ _ _ rK16_.out
  have K_7_ : (w2).cell? ⟨W.heap.size + 1, 7, none⟩ = some (vp) := cell_of_row _ _ 7 _ _ _ rK16_.out
  have R_0_ : (w2).cell? ⟨W.heap.size + 1 + 1, 0, none⟩ = some (.slice none 0 0) := cell_of_row _ _ 0 _ _ _ rR17_.out
  have R_1_ : (w2).cell? ⟨W.heap.size + 1 + 1, 1, none⟩ = some (.slice none 0 0) := cell_of_row _ _ 1 _ _ _ rR17_.out
  go_wp2_with fail
  go_at_call 30
  refine (implPkD _ p _ (HP.out.grow G19_.out) HL.out true (by rw [decide_eq_true (by rw [HC.out]; omega)])).mono ?_
  rintro e w3 ⟨rfl, g⟩
  have szw3 := g.size
  try simp only [World.size_alloc] at szw3
  try simp only [World.size_setCell] at szw3
  clear A_0_ A_1_ K_0_ K_1_ K_2_ K_3_ K_4_ K_5_ K_6_ K_7_ R_0_ R_1_
  have rA20_ := Lib.hid (show (w3).heap[W.heap.size]? = some (.cells #[.slice q0 m0 d0, .slice q1 m1 d1] 54 (0, 0)) from row_held g rA15_.out)
  clear rA15_
  have rK21_ := Lib.hid (show (w3).heap[W.heap.size + 1]? = some (.cells #[.int .i64 p.f0, .int .i64 p.f1, .int .i64 p.f2, .int .i64 p.f3, .int .i64 p.f4, .int .i64 p.f5, .int .i64 p.f6, vp] 29 (0, 0)) from row_held g rK16_.out)
  clear rK16_
  have rR22_ := Lib.hid (show (w3).heap[W.heap.size + 1 + 1]? = some (.cells #[.slice none 0 0, .slice none 0 0] 54 (0, 0)) from row_held g rR17_.out)
  clear rR17_
  have oC23_ := Lib.hid (show OwU (w3) ((W.heap.size + 1 + 1 + 1)) (w1.heap.size) [] [own shI (.slice q0 m0 d0) xs, own shI (.slice q1 m1 d1) ys] from OwU.grow oC18_.out g)
  clear oC18_
  have G24_ := Lib.hid (show (W).grownBy (w3) none from gby_trans G19_.out g)
  clear g
  have A_0_ : (w3).cell? ⟨W.heap.size, 0, none⟩ = some (.slice q0 m0 d0) := cell_of_row _ _ 0 _ _ _ rA20_.out
  have A_1_ : (w3).cell? ⟨W.heap.size, 1, none⟩ = some (.slice q1 m1 d1) := cell_of_row _ _ 1 _ _ _ rA20_.out
  have K_0_ : (w3).cell? ⟨W.heap.size + 1, 0, none⟩ = some (.int .i64 p.f0) := cell_of_row _ _ 0 _ _ _ rK21_.out
  have K_1_ : (w3).cell? ⟨W.heap.size + 1, 1, none⟩ = some (.int .i64 p.f1) := cell_of_row _ _ 1 _ _ _ rK21_.out
  have K_2_ : (w3).cell? ⟨W.heap.size + 1, 2, none⟩ = some (.int .i64 p.f2) := cell_of_row _ _ 2 _ _ _ rK21_.out
  have K_3_ : (w3).cell? ⟨W.heap.size + 1, 3, none⟩ = some (.int .i64 p.f3) := cell_of_row _ _ 3 _ _ _ rK21_.out
  have K_4_ : (w3).cell? ⟨W.heap.size + 1, 4, none⟩ = some (.int .i64 p.f4) := cell_of_row _ _ 4 _ _ _ rK21_.out
  have K_5_ : (w3).cell? ⟨W.heap.size + 1, 5, none⟩ = some (.int .i64 p.f5) := cell_of_row _ _ 5 _ _ _ rK21_.out
  have K_6_ : (w3).cell? ⟨W.heap.size + 1, 6, none⟩ = some (.int .i64 p.f6) := cell_of_row _ _ 6 _ _ _ rK21_.out
  have K_7_ : (w3).cell? ⟨W.heap.size + 1, 7, none⟩ = some (vp) := cell_of_row _ _ 7 _ _ _ rK21_.out
  have R_0_ : (w3).cell? ⟨W.heap.size + 1 + 1, 0, none⟩ = some (.slice none 0 0) := cell_of_row _ _ 0 _ _ _ rR22_.out
  have R_1_ : (w3).cell? ⟨W.heap.size + 1 + 1, 1, none⟩ = some (.slice none 0 0) := cell_of_row _ _ 1 _ _ _ rR22_.out
  have HCON := Lib.hid (show ∀ (w : World), w.heap[W.heap.size]? = some (.cells #[.slice q0 m0 d0, .slice q1 m1 d1] 54 (0, 0)) → OwU w (W.heap.size + 1 + 1 + 1) (w1.heap.size) [] [own shI (.slice q0 m0 d0) xs, own shI (.slice q1 m1 d1) ys] → W.grownBy w none → w1.heap.size ≤ w.heap.size → Calls Try.prog 90 #[.pointer (some ⟨W.heap.size, 0, none⟩), .agg #[.int .i64 p.f0, .int .i64 p.f1, .int .i64 p.f2, .int .i64 p.f3, .int .i64 p.f4, .int .i64 p.f5, .int .i64 p.f6, vp]] w (SpPost true (W.heap.size + 1 + 1 + 1) (w1.heap.size) (.slice q0 m0 d0) (.slice q1 m1 d1) rx ry w) from fun w r1 r2 r3 r4 => by
    have q := give_yes w W.heap.size (W.heap.size + 1 + 1 + 1) (w1.heap.size) k (.slice q0 m0 d0) (.slice q1 m1 d1) vp xs ys p r1 r2 (.inl (by omega)) r4 (HP.out.grow r3) (fun w' gc => HP.out.grow (gby_chg r3 gc (by omega))) HL.out HC.out hk3 HCR.out u HU.out hu0 hu9 (by have := HW.out; omega) (by have := HW2.out; omega)
    rw [HRX.out, HRY.out] at q
    exact q)
  go_wp2_with fail
  go_at_call 90
  refine (HCON.out _ rA20_.out oC23_.out G24_.out (by omega)).mono ?_
  rintro e w4 ⟨rfl, o, gc⟩
  have szv_ := gc.size
  have NR_ := Lib.hid (show w4.heap[W.heap.size + 1 + 1]? = some (.cells #[.slice none 0 0, .slice none 0 0] 54 (0, 0)) from Chg.keep gc rR22_.out (.inl (by omega)))
  have NA_ := Lib.hid (show w4.heap[W.heap.size]? = some (.cells #[.slice q0 m0 d0, .slice q1 m1 d1] 54 (0, 0)) from Chg.keep gc rA20_.out (.inl (by omega)))
  have NO_ := Lib.hid o
  have NG_ := Lib.hid (gby_chg G24_.out gc (by omega))
  clear o gc
  clear A_0_ A_1_ K_0_ K_1_ K_2_ K_3_ K_4_ K_5_ K_6_ K_7_ R_0_ R_1_
  have G25_ := Lib.hid (show (W).grownBy (w4) none from NG_.out)
  have A_0_ : (w4).cell? ⟨W.heap.size, 0, none⟩ = some (.slice q0 m0 d0) := cell_of_row _ _ 0 _ _ _ NA_.out
  have A_1_ : (w4).cell? ⟨W.heap.size, 1, none⟩ = some (.slice q1 m1 d1) := cell_of_row _ _ 1 _ _ _ NA_.out
  have R_0_ : (w4).cell? ⟨W.heap.size + 1 + 1, 0, none⟩ = some (.slice none 0 0) := cell_of_row _ _ 0 _ _ _ NR_.out
  have R_1_ : (w4).cell? ⟨W.heap.size + 1 + 1, 1, none⟩ = some (.slice none 0 0) := cell_of_row _ _ 1 _ _ _ NR_.out
  clear A_0_ A_1_ R_0_ R_1_
  have A_0_ : (w4).cell? ⟨W.heap.size, 0, none⟩ = some (.slice q0 m0 d0) := cell_of_row _ _ 0 _ _ _ NA_.out
  have A_1_ : (w4).cell? ⟨W.heap.size, 1, none⟩ = some (.slice q1 m1 d1) := cell_of_row _ _ 1 _ _ _ NA_.out
  have R_0_ : (w4).cell? ⟨W.heap.size + 1 + 1, 0, none⟩ = some (.slice none 0 0) := cell_of_row _ _ 0 _ _ _ NR_.out
  have R_1_ : (w4).cell? ⟨W.heap.size + 1 + 1, 1, none⟩ = some (.slice none 0 0) := cell_of_row _ _ 1 _ _ _ NR_.out
  have Rf0_ : (w4).frozen? ⟨W.heap.size + 1 + 1, 0, none⟩ = false := frozen_of_row _ _ 0 _ _ NR_.out
  have Rf1_ : (w4).frozen? ⟨W.heap.size + 1 + 1, 1, none⟩ = false := frozen_of_row _ _ 1 _ _ NR_.out
  have zr_ := Lib.hid (show (((w4.setCell ⟨W.heap.size + 1 + 1, 0, none⟩ (.slice q0 m0 d0)).setCell ⟨W.heap.size + 1 + 1, 1, none⟩ (.slice q1 m1 d1))).heap[W.heap.size + 1 + 1]? = some (.cells #[.slice q0 m0 d0, .slice q1 m1 d1] 54 (0, 0)) from (heap_setCell_same _ _ 1 _ _ _ (heap_setCell_same _ _ 0 _ _ _ NR_.out)))
  have z0_ : (((w4.setCell ⟨W.heap.size + 1 + 1, 0, none⟩ (.slice q0 m0 d0)).setCell ⟨W.heap.size + 1 + 1, 1, none⟩ (.slice q1 m1 d1))).cell? ⟨W.heap.size + 1 + 1, 0, none⟩ = some (.slice q0 m0 d0) := cell_of_row _ _ 0 _ _ _ zr_.out
  have z1_ : (((w4.setCell ⟨W.heap.size + 1 + 1, 0, none⟩ (.slice q0 m0 d0)).setCell ⟨W.heap.size + 1 + 1, 1, none⟩ (.slice q1 m1 d1))).cell? ⟨W.heap.size + 1 + 1, 1, none⟩ = some (.slice q1 m1 d1) := cell_of_row _ _ 1 _ _ _ zr_.out
  go_wp2
  refine bodyPost_ret (v := .tuple #[.agg #[.slice q0 m0 d0, .slice q1 m1 d1], .bool true]) (by simp [results, go_sem, z0_, z1_]) rfl ⟨_, _, rfl, ?_, ?_⟩
  · exact OwU.wide (lo := W.heap.size + 1 + 1 + 1) (by omega) (by simp only [World.size_setCell]; omega) (OwU.keep (chg_one _ _ _ _) (.inr (by omega)) (OwU.keep (chg_one _ _ _ _) (.inr (by omega)) NO_.out))
  · exact (gby_setnew (gby_setnew G25_.out _ (by dsimp only; omega) _) _ (by dsimp only; omega) _)

end Go.Proofs.Ytgagbhkidponnac
