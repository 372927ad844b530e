/-
  Virtual functions drawn by the model.
-/
import Derived.Test.YtgagbhkidponnaaVirt
import Derived.Test.YtgagbhkidponnaaDrawKit
import Derived.Deep.RegionHeld3
namespace Go.Proofs.Ytgagbhkidponnaa
open Go Go.RowKit
set_option linter.unusedVariables false

set_option maxRecDepth 8000 in
set_option maxHeartbeats 2000000 in
theorem virt37_any (W : World) (c : Nat) (H : Cur W c) : Calls Try.prog 65 #[.pointer (some ⟨c, 0, none⟩)] W (fun e w' => ∃ (a s : Int) (k : Nat), VOk a s (k : Int) ∧ e = .returned (.agg #[.int .i64 a, .int .i64 s, .int .i64 (k : Int)]) ∧ W.grownBy w' (some c)) := by
  have hcl_ := cur_lt H
  have HCU := Lib.hid H
  clear H
  go_enter Try.func65, Try.ntmps65
  have rZ1_ := Lib.hid (show ((W.alloc (.cells #[.int .i64 0, .int .i64 0, .int .i64 0] 48))).heap[W.heap.size]? = some (.cells #[.int .i64 0, .int .i64 0, .int .i64 0] 48 (0, 0)) from by exact heap_alloc_new _ _)
  have G2_ := Lib.hid (show (W).grownBy ((W.alloc (.cells #[.int .i64 0, .int .i64 0, .int .i64 0] 48))) (some c) from (gby_alloc (gby_refl _ _) _))
  have HCU3_ := Lib.hid (show Cur ((W.alloc (.cells #[.int .i64 0, .int .i64 0, .int .i64 0] 48))) c from cur_kept HCU.out (gby_alloc (gby_refl _ none) _) (by simp))
  have Z_0_ : ((W.alloc (.cells #[.int .i64 0, .int .i64 0, .int .i64 0] 48))).cell? ⟨W.heap.size, 0, none⟩ = some (.int .i64 0) := cell_of_row _ _ 0 _ _ _ rZ1_.out
  have Z_1_ : ((W.alloc (.cells #[.int .i64 0, .int .i64 0, .int .i64 0] 48))).cell? ⟨W.heap.size, 1, none⟩ = some (.int .i64 0) := cell_of_row _ _ 1 _ _ _ rZ1_.out
  have Z_2_ : ((W.alloc (.cells #[.int .i64 0, .int .i64 0, .int .i64 0] 48))).cell? ⟨W.heap.size, 2, none⟩ = some (.int .i64 0) := cell_of_row _ _ 2 _ _ _ rZ1_.out
  go_wp2_with fail
  go_at_call 61
  refine (below_any _ _ _ HCU3_.out (by omega) (by omega)).mono ?_
  rintro e w1 ⟨x, ⟨x1, x2⟩, rfl, H1_, g⟩
  have szw1 := g.size
  try simp only [World.size_alloc] at szw1
  try simp only [World.size_setCell] at szw1
  clear Z_0_ Z_1_ Z_2_
  have rZ4_ := Lib.hid (show (w1).heap[W.heap.size]? = some (.cells #[.int .i64 0, .int .i64 0, .int .i64 0] 48 (0, 0)) from Chg.keep (chg_cur g) rZ1_.out (by omega))
  clear rZ1_
  have G5_ := Lib.hid (show (W).grownBy (w1) (some c) from gby_trans G2_.out g)
  clear HCU3_
  have HCU6_ := Lib.hid (show Cur (w1) c from H1_)
  clear g H1_
  have Z_0_ : (w1).cell? ⟨W.heap.size, 0, none⟩ = some (.int .i64 0) := cell_of_row _ _ 0 _ _ _ rZ4_.out
  have Z_1_ : (w1).cell? ⟨W.heap.size, 1, none⟩ = some (.int .i64 0) := cell_of_row _ _ 1 _ _ _ rZ4_.out
  have Z_2_ : (w1).cell? ⟨W.heap.size, 2, none⟩ = some (.int .i64 0) := cell_of_row _ _ 2 _ _ _ rZ4_.out
  have e1_ : IntKind.i64.wrap (1 + x) = 1 + x := IntWalk.i64_in _ (by omega)
  go_wp2_with fail
  go_at_call 61
  refine (below_any _ _ _ HCU6_.out (by omega) (by omega)).mono ?_
  rintro e w2 ⟨y, ⟨y1, y2⟩, rfl, H1_, g⟩
  have szw2 := g.size
  try simp only [World.size_alloc] at szw2
  try simp only [World.size_setCell] at szw2
  clear Z_0_ Z_1_ Z_2_
  have rZ7_ := Lib.hid (show (w2).heap[W.heap.size]? = some (.cells #[.int .i64 0, .int .i64 0, .int .i64 0] 48 (0, 0)) from Chg.keep (chg_cur g) rZ4_.out (by omega))
  clear rZ4_
  have G8_ := Lib.hid (show (W).grownBy (w2) (some c) from gby_trans G5_.out g)
  clear HCU6_
  have HCU9_ := Lib.hid (show Cur (w2) c from H1_)
  clear g H1_
  have Z_0_ : (w2).cell? ⟨W.heap.size, 0, none⟩ = some (.int .i64 0) := cell_of_row _ _ 0 _ _ _ rZ7_.out
  have Z_1_ : (w2).cell? ⟨W.heap.size, 1, none⟩ = some (.int .i64 0) := cell_of_row _ _ 1 _ _ _ rZ7_.out
  have Z_2_ : (w2).cell? ⟨W.heap.size, 2, none⟩ = some (.int .i64 0) := cell_of_row _ _ 2 _ _ _ rZ7_.out
  have e2_ : IntKind.i64.wrap (1 + y) = 1 + y := IntWalk.i64_in _ (by omega)
  go_wp2_with fail
  go_at_call 61
  refine (below_any _ _ _ HCU9_.out (by omega) (by omega)).mono ?_
  rintro e w3 ⟨z, ⟨z1, z2⟩, rfl, H1_, g⟩
  have szw3 := g.size
  try simp only [World.size_alloc] at szw3
  try simp only [World.size_setCell] at szw3
  clear Z_0_ Z_1_ Z_2_
  have rZ10_ := Lib.hid (show (w3).heap[W.heap.size]? = some (.cells #[.int .i64 0, .int .i64 0, .int .i64 0] 48 (0, 0)) from Chg.keep (chg_cur g) rZ7_.out (by omega))
  clear rZ7_
  have G11_ := Lib.hid (show (W).grownBy (w3) (some c) from gby_trans G8_.out g)
  clear HCU9_
  have HCU12_ := Lib.hid (show Cur (w3) c from H1_)
  clear g H1_
  have Z_0_ : (w3).cell? ⟨W.heap.size, 0, none⟩ = some (.int .i64 0) := cell_of_row _ _ 0 _ _ _ rZ10_.out
  have Z_1_ : (w3).cell? ⟨W.heap.size, 1, none⟩ = some (.int .i64 0) := cell_of_row _ _ 1 _ _ _ rZ10_.out
  have Z_2_ : (w3).cell? ⟨W.heap.size, 2, none⟩ = some (.int .i64 0) := cell_of_row _ _ 2 _ _ _ rZ10_.out
  clear Z_0_ Z_1_ Z_2_
  have Z_0_ : (w3).cell? ⟨W.heap.size, 0, none⟩ = some (.int .i64 0) := cell_of_row _ _ 0 _ _ _ rZ10_.out
  have Z_1_ : (w3).cell? ⟨W.heap.size, 1, none⟩ = some (.int .i64 0) := cell_of_row _ _ 1 _ _ _ rZ10_.out
  have Z_2_ : (w3).cell? ⟨W.heap.size, 2, none⟩ = some (.int .i64 0) := cell_of_row _ _ 2 _ _ _ rZ10_.out
  have Zf0_ : (w3).frozen? ⟨W.heap.size, 0, none⟩ = false := frozen_of_row _ _ 0 _ _ rZ10_.out
  have Zf1_ : (w3).frozen? ⟨W.heap.size, 1, none⟩ = false := frozen_of_row _ _ 1 _ _ rZ10_.out
  have Zf2_ : (w3).frozen? ⟨W.heap.size, 2, none⟩ = false := frozen_of_row _ _ 2 _ _ rZ10_.out
  have zr_ := Lib.hid (show ((((w3.setCell ⟨W.heap.size, 0, none⟩ (.int .i64 (1 + x))).setCell ⟨W.heap.size, 1, none⟩ (.int .i64 (1 + y))).setCell ⟨W.heap.size, 2, none⟩ (.int .i64 z))).heap[W.heap.size]? = some (.cells #[.int .i64 (1 + x), .int .i64 (1 + y), .int .i64 z] 48 (0, 0)) from (heap_setCell_same _ _ 2 _ _ _ (heap_setCell_same _ _ 1 _ _ _ (heap_setCell_same _ _ 0 _ _ _ rZ10_.out))))
  have z0_ : ((((w3.setCell ⟨W.heap.size, 0, none⟩ (.int .i64 (1 + x))).setCell ⟨W.heap.size, 1, none⟩ (.int .i64 (1 + y))).setCell ⟨W.heap.size, 2, none⟩ (.int .i64 z))).cell? ⟨W.heap.size, 0, none⟩ = some (.int .i64 (1 + x)) := cell_of_row _ _ 0 _ _ _ zr_.out
  have z1_ : ((((w3.setCell ⟨W.heap.size, 0, none⟩ (.int .i64 (1 + x))).setCell ⟨W.heap.size, 1, none⟩ (.int .i64 (1 + y))).setCell ⟨W.heap.size, 2, none⟩ (.int .i64 z))).cell? ⟨W.heap.size, 1, none⟩ = some (.int .i64 (1 + y)) := cell_of_row _ _ 1 _ _ _ zr_.out
  have z2_ : ((((w3.setCell ⟨W.heap.size, 0, none⟩ (.int .i64 (1 + x))).setCell ⟨W.heap.size, 1, none⟩ (.int .i64 (1 + y))).setCell ⟨W.heap.size, 2, none⟩ (.int .i64 z))).cell? ⟨W.heap.size, 2, none⟩ = some (.int .i64 z) := cell_of_row _ _ 2 _ _ _ zr_.out
  go_wp2
  refine bodyPost_ret (v := .agg #[.int .i64 (1 + x), .int .i64 (1 + y), .int .i64 z]) (by simp [results, go_sem, z0_, z1_, z2_]) rfl ⟨1 + x, 1 + y, z.toNat, ⟨⟨by omega, by omega⟩, ⟨by omega, by omega⟩, by omega, by omega⟩, (by rw [show ((z.toNat : Nat) : Int) = z by omega]), ?_⟩
  exact (gby_setnew (gby_setnew (gby_setnew G11_.out _ (by dsimp only; omega) _) _ (by dsimp only; omega) _) _ (by dsimp only; omega) _)

def DrawnVirt (W : World) (e : Ending) (w' : World) : Prop := ∃ (b a s : Int) (k : Nat), 0 ≤ b ∧ b ≤ 255 ∧ VOk a s (k : Int) ∧ e = .returned (.tuple #[.int .i64 b, .agg #[.int .i64 a, .int .i64 s, .int .i64 (k : Int)]]) ∧ W.grownBy w' none
set_option maxHeartbeats 1000000 in
theorem drawVirt_any (W : World) (a : Option Addr) (len cap : Nat) (zs : List Int) (hB : Bytes W a len zs) (hl : len ≤ 1048576) : Calls Try.prog 32 #[.slice a len cap] W (DrawnVirt W) := by
  have HB := Lib.hid hB
  clear hB
  go_enter Try.func32, Try.ntmps32
  have HB0 := Lib.hid (bytes_grow HB.out (gby_alloc (gby_refl W none) (.cells #[.int .i64 0, .int .i64 0, .int .i64 0] 48)))
  have r0 := Lib.hid (heap_alloc_new W (.cells #[.int .i64 0, .int .i64 0, .int .i64 0] 48))
  have G0 := Lib.hid (gby_alloc (gby_refl W none) (.cells #[.int .i64 0, .int .i64 0, .int .i64 0] 48))
  go_wp2_with fail
  go_at_call 57
  refine (new_any _ _ _ _ _ HB0.out hl).mono ?_
  rintro e w1 ⟨c, rfl, hc, H1, G1⟩
  simp only [World.size_alloc] at hc
  have HC1 := Lib.hid H1
  have r1 := Lib.hid (row_held G1 r0.out)
  have HG1 := Lib.hid (gby_trans G0.out G1)
  clear H1 G1
  go_wp2_with fail
  go_at_call 61
  refine (below_any _ _ _ HC1.out (by omega) (by omega)).mono ?_
  rintro e w2 ⟨x, ⟨x1, x2⟩, rfl, H2, g⟩
  have HC2 := Lib.hid H2
  have HG2 := Lib.hid g
  have r2 := Lib.hid (Chg.keep (chg_cur g) r1.out (by omega))
  clear H2 g
  go_wp2_with fail
  go_at_call 65
  refine (virt37_any _ c HC2.out).mono ?_
  rintro e w3 ⟨a, s, k, hv, rfl, g⟩
  have HV := Lib.hid hv
  have r3 := Lib.hid (show w3.heap[W.heap.size]? = some (.cells #[.int .i64 0, .int .i64 0, .int .i64 0] 48 (0, 0)) from Chg.keep (chg_cur g) r2.out (by omega))
  have HG3 := Lib.hid (gby_own HG1.out (gby_trans HG2.out g) (by omega))
  clear hv g
  have c0 := cell_of_row _ _ 0 _ _ _ r3.out
  have c1 := cell_of_row _ _ 1 _ _ _ r3.out
  have c2 := cell_of_row _ _ 2 _ _ _ r3.out
  have f0 := frozen_of_row _ _ 0 _ _ r3.out
  have f1 := frozen_of_row _ _ 1 _ _ r3.out
  have f2 := frozen_of_row _ _ 2 _ _ r3.out
  have zr_ := Lib.hid (show ((((w3.setCell ⟨W.heap.size, 0, none⟩ (.int .i64 a)).setCell ⟨W.heap.size, 1, none⟩ (.int .i64 s)).setCell ⟨W.heap.size, 2, none⟩ (.int .i64 (k : Int)))).heap[W.heap.size]? = some (.cells #[.int .i64 a, .int .i64 s, .int .i64 (k : Int)] 48 (0, 0)) from (heap_setCell_same _ _ 2 _ _ _ (heap_setCell_same _ _ 1 _ _ _ (heap_setCell_same _ _ 0 _ _ _ r3.out))))
  have z0_ := cell_of_row _ _ 0 _ _ _ zr_.out
  have z1_ := cell_of_row _ _ 1 _ _ _ zr_.out
  have z2_ := cell_of_row _ _ 2 _ _ _ zr_.out
  go_wp2
  refine bodyPost_ret (v := .tuple #[.int .i64 x, .agg #[.int .i64 a, .int .i64 s, .int .i64 (k : Int)]]) (by simp [results, go_sem, z0_, z1_, z2_]) rfl ⟨x, a, s, k, by omega, by omega, HV.out, rfl, ?_⟩
  exact (gby_setnew (gby_setnew (gby_setnew HG3.out _ (by dsimp only; omega) _) _ (by dsimp only; omega) _) _ (by dsimp only; omega) _)

end Go.Proofs.Ytgagbhkidponnaa
