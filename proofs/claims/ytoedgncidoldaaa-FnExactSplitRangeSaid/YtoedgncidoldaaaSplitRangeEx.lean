/-
  The walk of FnExactSplitRange: at every argument the program answers as its model and writes nothing that was there, and its answer owns its memory.
-/
import Derived.Test.YtoedgncidoldaaaQSPiece
import Derived.Test.YtoedgncidoldaaaRSplitRange
import Derived.WalkKit
import Derived.Deep.RegionHeld3
import Derived.Below
namespace Go.Proofs.Ytoedgncidoldaaa
open Go Go.RowKit

set_option maxRecDepth 8000 in
set_option maxHeartbeats 16000000 in
theorem walk_exactSplitRange_of (both : ∀ (i0 : Int) (i1 : Int) (i2 : Int), ∃ (xsr0 : List DPiece), szL shPiece xsr0 ≤ 1048576 ∧ (∀ (W : World), Calls Try.prog 45 #[.int .i64 i0, .int .i64 i1, .int .i64 i2] W (ResSSplitRange xsr0 W)) ∧ ∀ (W : World), Calls Try.prog 46 #[.int .i64 i0, .int .i64 i1, .int .i64 i2] W (ResISplitRange xsr0 W))
    (W : World) (i0 : Int) (i1 : Int) (i2 : Int)  :
    Calls Try.prog 14 #[.int .i64 i0, .int .i64 i1, .int .i64 i2] W fun e w' => e = .returned (.bool true) ∧ Below W.heap.size W w' := by
  obtain ⟨xsr0, hLr0, hs_, hi_⟩ := both i0 i1 i2 
  have HS := Lib.hid hs_
  have HM := Lib.hid hi_
  clear hs_ hi_ both
  have hqr0 : ecL shPiece xsr0 ≤ 104857600 := Nat.le_trans (ecL_le _ _) (Nat.le_trans (Nat.mul_le_mul_left _ hLr0) (Nat.mul_le_mul_right 1048576 (show shPiece.c ≤ 100 by decide)))
  go_enter Try.func14, Try.ntmps14
  have G1_ := Lib.hid (show (W).grownBy (W) none from (gby_refl _ _))
  go_wp2_with fail
  go_at_call 45
  refine (HS.out _  ).mono ?_
  rintro e w1 ⟨wr0, rfl, or0, g⟩
  have sz_ := g.size
  try simp only [World.size_alloc] at sz_
  have zs1 := World.grownBy.size g
  try simp only [World.size_alloc] at zs1
  have G2_ := Lib.hid (show (W).grownBy (w1) none from gby_trans G1_.out g)
  clear g
  have szw1 := sz_
  clear sz_
  obtain ⟨wr0p, wr0n, wr0c, hv_⟩ := RdL.form (or0)
  subst hv_
  have rd3_ := Lib.hid or0
  clear or0
  have qG4_ := Lib.hid (gby_refl w1 none)
  go_wp2_with fail
  go_at_call 46
  refine (HM.out _  ).mono ?_
  rintro e w2 ⟨gr0, rfl, o, g⟩
  have sz_ := g.size
  try simp only [World.size_alloc] at sz_
  try simp only [World.size_alloc] at o
  have zs2 := World.grownBy.size g
  try simp only [World.size_alloc] at zs2
  have G5_ := Lib.hid (show (W).grownBy (w2) none from gby_trans G2_.out g)
  have qw6_ := Lib.hid (show (w1).grownBy (w2) none from gby_trans qG4_.out g)
  clear qG4_
  clear g
  have szw2 := sz_
  clear sz_
  obtain ⟨gr0p, gr0n, gr0c, hv_⟩ := RdL.form (OwU.rd o)
  subst hv_
  have og7_ := Lib.hid (show OwU (w2) (w1.heap.size) (w2.heap.size) [] [own shPiece (.slice gr0p gr0n gr0c) xsr0] from o)
  clear o
  go_wp2_with fail
  go_at_call 47
  refine (eqPieceS_d _ (.slice gr0p gr0n gr0c) (.slice wr0p wr0n wr0c) xsr0 (OwU.rd og7_.out) (RdL.grow rd3_.out qw6_.out) hLr0).mono ?_
  rintro e w3 ⟨rfl, g⟩
  have zs3 := World.grownBy.size g
  try simp only [World.size_alloc] at zs3
  have og8_ := Lib.hid (show OwU (w3) (w1.heap.size) (w2.heap.size) [] [own shPiece (.slice gr0p gr0n gr0c) xsr0] from OwU.grow og7_.out g)
  clear og7_
  have G9_ := Lib.hid (show (W).grownBy (w3) none from gby_trans G5_.out g)
  have qw10_ := Lib.hid (show (w1).grownBy (w3) none from gby_trans qw6_.out g)
  clear qw6_
  clear g
  obtain ⟨lo_, hi_, l_, u_, _, oo, ff⟩ := OwU.focus (pre := []) (p := own shPiece (.slice gr0p gr0n gr0c) xsr0) (post := []) og8_.out
  have FF := Lib.hid ff
  clear ff
  go_wp2_with fail
  go_at_call 48
  refine (markPieceS_d _ lo_ hi_ (1) (.slice gr0p gr0n gr0c) xsr0 oo hLr0 (by omega)).mono ?_
  rintro e w4 ⟨rfl, o, c⟩
  have o_ := c
  have c' := chg_wide c (lo' := w1.heap.size) (hi' := w2.heap.size) l_ u_
  clear c
  have c := c'
  clear c'
  have szw4 := c.size
  try simp only [World.size_alloc] at szw4
  have G11_ := Lib.hid (show (W).grownBy (w4) none from gby_chg G9_.out c (by omega))
  have qw12_ := Lib.hid (show (w1).grownBy (w4) none from gby_chg qw10_.out c (by omega))
  clear qw10_
  have og13_ := Lib.hid (show OwU (w4) (w1.heap.size) (w2.heap.size) [] [own shPiece (.slice gr0p gr0n gr0c) (emL shPiece (1) xsr0)] from FF.out _ (own shPiece (.slice gr0p gr0n gr0c) (emL shPiece (1) xsr0)) o_ o)
  clear og8_ o c oo FF o_
  go_wp2_with fail
  go_at_call 49
  refine (heldPieceS_d _ (1) (.slice gr0p gr0n gr0c) xsr0 (OwU.rd og13_.out) hLr0 (by omega)).mono ?_
  rintro e w5 ⟨rfl, g⟩
  have zs4 := World.grownBy.size g
  try simp only [World.size_alloc] at zs4
  have og14_ := Lib.hid (show OwU (w5) (w1.heap.size) (w2.heap.size) [] [own shPiece (.slice gr0p gr0n gr0c) (emL shPiece (1) xsr0)] from OwU.grow og13_.out g)
  clear og13_
  have G15_ := Lib.hid (show (W).grownBy (w5) none from gby_trans G11_.out g)
  have qw16_ := Lib.hid (show (w1).grownBy (w5) none from gby_trans qw12_.out g)
  clear qw12_
  clear g
  have ng5 : ¬ (((1 + ecL shPiece xsr0 : Nat) : Int) < 0) := by omega
  go_wp2_with fail
  go_at_call 46
  refine (HM.out _  ).mono ?_
  rintro e w6 ⟨hr0, rfl, o, g⟩
  have sz_ := g.size
  try simp only [World.size_alloc] at sz_
  try simp only [World.size_alloc] at o
  have zs5 := World.grownBy.size g
  try simp only [World.size_alloc] at zs5
  have og17_ := Lib.hid (show OwU (w6) (w1.heap.size) (w2.heap.size) [] [own shPiece (.slice gr0p gr0n gr0c) (emL shPiece (1) xsr0)] from OwU.grow og14_.out g)
  clear og14_
  have G18_ := Lib.hid (show (W).grownBy (w6) none from gby_trans G15_.out g)
  have qw19_ := Lib.hid (show (w1).grownBy (w6) none from gby_trans qw16_.out g)
  clear qw16_
  clear g
  have szw6 := sz_
  clear sz_
  obtain ⟨hr0p, hr0n, hr0c, hv_⟩ := RdL.form (OwU.rd o)
  subst hv_
  have oh20_ := Lib.hid (show OwU (w6) (w5.heap.size) (w6.heap.size) [] [own shPiece (.slice hr0p hr0n hr0c) xsr0] from o)
  clear o
  go_wp2_with fail
  go_at_call 47
  refine (eqPieceS_d _ (.slice hr0p hr0n hr0c) (.slice wr0p wr0n wr0c) xsr0 (OwU.rd oh20_.out) (RdL.grow rd3_.out qw19_.out) hLr0).mono ?_
  rintro e w7 ⟨rfl, g⟩
  have zs6 := World.grownBy.size g
  try simp only [World.size_alloc] at zs6
  have og21_ := Lib.hid (show OwU (w7) (w1.heap.size) (w2.heap.size) [] [own shPiece (.slice gr0p gr0n gr0c) (emL shPiece (1) xsr0)] from OwU.grow og17_.out g)
  clear og17_
  have oh22_ := Lib.hid (show OwU (w7) (w5.heap.size) (w6.heap.size) [] [own shPiece (.slice hr0p hr0n hr0c) xsr0] from OwU.grow oh20_.out g)
  clear oh20_
  have G23_ := Lib.hid (show (W).grownBy (w7) none from gby_trans G18_.out g)
  have qw24_ := Lib.hid (show (w1).grownBy (w7) none from gby_trans qw19_.out g)
  clear qw19_
  clear g
  go_wp2_with fail
  go_at_call 49
  refine (heldPieceS_d _ (1) (.slice gr0p gr0n gr0c) xsr0 (OwU.rd og21_.out) hLr0 (by omega)).mono ?_
  rintro e w8 ⟨rfl, g⟩
  have zs7 := World.grownBy.size g
  try simp only [World.size_alloc] at zs7
  have og25_ := Lib.hid (show OwU (w8) (w1.heap.size) (w2.heap.size) [] [own shPiece (.slice gr0p gr0n gr0c) (emL shPiece (1) xsr0)] from OwU.grow og21_.out g)
  clear og21_
  have oh26_ := Lib.hid (show OwU (w8) (w5.heap.size) (w6.heap.size) [] [own shPiece (.slice hr0p hr0n hr0c) xsr0] from OwU.grow oh22_.out g)
  clear oh22_
  have G27_ := Lib.hid (show (W).grownBy (w8) none from gby_trans G23_.out g)
  have qw28_ := Lib.hid (show (w1).grownBy (w8) none from gby_trans qw24_.out g)
  clear qw24_
  clear g
  have ng8 : ¬ (((1 + ecL shPiece xsr0 : Nat) : Int) < 0) := by omega
  go_wp2
  go_ret
  exact ⟨rfl, gby_below G27_.out⟩

end Go.Proofs.Ytoedgncidoldaaa
