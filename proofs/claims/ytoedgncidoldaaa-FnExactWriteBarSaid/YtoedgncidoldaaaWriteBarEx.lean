/-
  The walk of FnExactWriteBar: at every argument the program answers as its model and writes nothing that was there.
-/
import Derived.Test.YtoedgncidoldaaaQBar
import Derived.Test.YtoedgncidoldaaaRWriteBar
import Derived.WalkKit
import Derived.Deep.RegionHeld3
import Derived.Below
namespace Go.Proofs.Ytoedgncidoldaaa
open Go Go.RowKit

set_option maxRecDepth 8000 in
set_option maxHeartbeats 16000000 in
theorem walk_exactWriteBar_of (both : ∀ (i0_0 : Int) (i0_1 : Int) (i1 : Int), ∃ (ir0_0 : Int) (ir0_1 : Int), (∀ (W : World), Calls Try.prog 24 #[.agg #[.int .i64 i0_0, .int .i64 i0_1], .int .i64 i1] W (ResSWriteBar ir0_0 ir0_1 W)) ∧ ∀ (W : World), Calls Try.prog 25 #[.agg #[.int .i64 i0_0, .int .i64 i0_1], .int .i64 i1] W (ResIWriteBar ir0_0 ir0_1 W))
    (W : World) (i0_0 : Int) (i0_1 : Int) (i1 : Int)  :
    Calls Try.prog 6 #[.agg #[.int .i64 i0_0, .int .i64 i0_1], .int .i64 i1] W fun e w' => e = .returned (.bool true) ∧ Below W.heap.size W w' := by
  obtain ⟨ir0_0, ir0_1, hs_, hi_⟩ := both i0_0 i0_1 i1 
  have HS := Lib.hid hs_
  have HM := Lib.hid hi_
  clear hs_ hi_ both
  go_enter Try.func6, Try.ntmps6
  have rA01_ := Lib.hid (show ((W.alloc (.cells #[.int .i64 i0_0, .int .i64 i0_1] 28))).heap[W.heap.size]? = some (.cells #[.int .i64 i0_0, .int .i64 i0_1] 28 (0, 0)) from by exact heap_alloc_new _ _)
  have G2_ := Lib.hid (show (W).grownBy ((W.alloc (.cells #[.int .i64 i0_0, .int .i64 i0_1] 28))) none from (gby_alloc (gby_refl _ _) _))
  have A0_0_ : ((W.alloc (.cells #[.int .i64 i0_0, .int .i64 i0_1] 28))).cell? ⟨W.heap.size, 0, none⟩ = some (.int .i64 i0_0) := cell_of_row _ _ 0 _ _ _ rA01_.out
  have A0_1_ : ((W.alloc (.cells #[.int .i64 i0_0, .int .i64 i0_1] 28))).cell? ⟨W.heap.size, 1, none⟩ = some (.int .i64 i0_1) := cell_of_row _ _ 1 _ _ _ rA01_.out
  go_wp2_with fail
  go_at_call 22
  refine (toBar_d _ i0_0 i0_1  ).mono ?_
  rintro e w1 ⟨rfl, g⟩
  have sz_ := g.size
  try simp only [World.size_alloc] at sz_
  have zs1 := World.grownBy.size g
  try simp only [World.size_alloc] at zs1
  clear A0_0_ A0_1_
  have rA03_ := Lib.hid (show (w1).heap[W.heap.size]? = some (.cells #[.int .i64 i0_0, .int .i64 i0_1] 28 (0, 0)) from row_held g rA01_.out)
  clear rA01_
  have G4_ := Lib.hid (show (W).grownBy (w1) none from gby_trans G2_.out g)
  clear g
  have szw1 := sz_
  clear sz_
  try unfold vBar
  go_wp2_with fail
  go_at_call 24
  refine (HS.out _  ).mono ?_
  rintro e w2 ⟨rfl, g⟩
  have sz_ := g.size
  try simp only [World.size_alloc] at sz_
  have zs2 := World.grownBy.size g
  try simp only [World.size_alloc] at zs2
  have rA05_ := Lib.hid (show (w2).heap[W.heap.size]? = some (.cells #[.int .i64 i0_0, .int .i64 i0_1] 28 (0, 0)) from row_held g rA03_.out)
  clear rA03_
  have G6_ := Lib.hid (show (W).grownBy (w2) none from gby_trans G4_.out g)
  clear g
  have szw2 := sz_
  clear sz_
  have al : (w2).grownBy ((w2).alloc (.cells #[.int .i64 ir0_0, .int .i64 ir0_1] 30)) none := gby_alloc (gby_refl _ _) _
  have zs3 := World.grownBy.size al
  try simp only [World.size_alloc] at zs3
  have rA07_ := Lib.hid (show ((w2.alloc (.cells #[.int .i64 ir0_0, .int .i64 ir0_1] 30))).heap[W.heap.size]? = some (.cells #[.int .i64 i0_0, .int .i64 i0_1] 28 (0, 0)) from row_held al rA05_.out)
  clear rA05_
  have G8_ := Lib.hid (show (W).grownBy ((w2.alloc (.cells #[.int .i64 ir0_0, .int .i64 ir0_1] 30))) none from gby_trans G6_.out al)
  have rBw09_ := Lib.hid (show ((w2.alloc (.cells #[.int .i64 ir0_0, .int .i64 ir0_1] 30))).heap[w2.heap.size]? = some (.cells #[.int .i64 ir0_0, .int .i64 ir0_1] 30 (0, 0)) from heap_alloc_new _ _)
  clear al
  have A0_0_ : ((w2.alloc (.cells #[.int .i64 ir0_0, .int .i64 ir0_1] 30))).cell? ⟨W.heap.size, 0, none⟩ = some (.int .i64 i0_0) := cell_of_row _ _ 0 _ _ _ rA07_.out
  have A0_1_ : ((w2.alloc (.cells #[.int .i64 ir0_0, .int .i64 ir0_1] 30))).cell? ⟨W.heap.size, 1, none⟩ = some (.int .i64 i0_1) := cell_of_row _ _ 1 _ _ _ rA07_.out
  go_wp2_with fail
  go_at_call 22
  refine (toBar_d _ i0_0 i0_1  ).mono ?_
  rintro e w3 ⟨rfl, g⟩
  have sz_ := g.size
  try simp only [World.size_alloc] at sz_
  have zs4 := World.grownBy.size g
  try simp only [World.size_alloc] at zs4
  clear A0_0_ A0_1_
  have rA010_ := Lib.hid (show (w3).heap[W.heap.size]? = some (.cells #[.int .i64 i0_0, .int .i64 i0_1] 28 (0, 0)) from row_held g rA07_.out)
  clear rA07_
  have rBw011_ := Lib.hid (show (w3).heap[w2.heap.size]? = some (.cells #[.int .i64 ir0_0, .int .i64 ir0_1] 30 (0, 0)) from row_held g rBw09_.out)
  clear rBw09_
  have G12_ := Lib.hid (show (W).grownBy (w3) none from gby_trans G8_.out g)
  clear g
  have szw3 := sz_
  clear sz_
  try unfold vBar
  go_wp2_with fail
  go_at_call 25
  refine (HM.out _  ).mono ?_
  rintro e w4 ⟨rfl, g⟩
  have sz_ := g.size
  try simp only [World.size_alloc] at sz_
  have zs5 := World.grownBy.size g
  try simp only [World.size_alloc] at zs5
  have rA013_ := Lib.hid (show (w4).heap[W.heap.size]? = some (.cells #[.int .i64 i0_0, .int .i64 i0_1] 28 (0, 0)) from row_held g rA010_.out)
  clear rA010_
  have rBw014_ := Lib.hid (show (w4).heap[w2.heap.size]? = some (.cells #[.int .i64 ir0_0, .int .i64 ir0_1] 30 (0, 0)) from row_held g rBw011_.out)
  clear rBw011_
  have G15_ := Lib.hid (show (W).grownBy (w4) none from gby_trans G12_.out g)
  clear g
  have szw4 := sz_
  clear sz_
  have al : (w4).grownBy ((w4).alloc (.cells #[.int .i64 ir0_0, .int .i64 ir0_1] 30)) none := gby_alloc (gby_refl _ _) _
  have zs6 := World.grownBy.size al
  try simp only [World.size_alloc] at zs6
  have rA016_ := Lib.hid (show ((w4.alloc (.cells #[.int .i64 ir0_0, .int .i64 ir0_1] 30))).heap[W.heap.size]? = some (.cells #[.int .i64 i0_0, .int .i64 i0_1] 28 (0, 0)) from row_held al rA013_.out)
  clear rA013_
  have rBw017_ := Lib.hid (show ((w4.alloc (.cells #[.int .i64 ir0_0, .int .i64 ir0_1] 30))).heap[w2.heap.size]? = some (.cells #[.int .i64 ir0_0, .int .i64 ir0_1] 30 (0, 0)) from row_held al rBw014_.out)
  clear rBw014_
  have G18_ := Lib.hid (show (W).grownBy ((w4.alloc (.cells #[.int .i64 ir0_0, .int .i64 ir0_1] 30))) none from gby_trans G15_.out al)
  have rBg019_ := Lib.hid (show ((w4.alloc (.cells #[.int .i64 ir0_0, .int .i64 ir0_1] 30))).heap[w4.heap.size]? = some (.cells #[.int .i64 ir0_0, .int .i64 ir0_1] 30 (0, 0)) from heap_alloc_new _ _)
  clear al
  have Bg0_0_ : ((w4.alloc (.cells #[.int .i64 ir0_0, .int .i64 ir0_1] 30))).cell? ⟨w4.heap.size, 0, none⟩ = some (.int .i64 ir0_0) := cell_of_row _ _ 0 _ _ _ rBg019_.out
  have Bg0_1_ : ((w4.alloc (.cells #[.int .i64 ir0_0, .int .i64 ir0_1] 30))).cell? ⟨w4.heap.size, 1, none⟩ = some (.int .i64 ir0_1) := cell_of_row _ _ 1 _ _ _ rBg019_.out
  have Bw0_0_ : ((w4.alloc (.cells #[.int .i64 ir0_0, .int .i64 ir0_1] 30))).cell? ⟨w2.heap.size, 0, none⟩ = some (.int .i64 ir0_0) := cell_of_row _ _ 0 _ _ _ rBw017_.out
  have Bw0_1_ : ((w4.alloc (.cells #[.int .i64 ir0_0, .int .i64 ir0_1] 30))).cell? ⟨w2.heap.size, 1, none⟩ = some (.int .i64 ir0_1) := cell_of_row _ _ 1 _ _ _ rBw017_.out
  go_wp2_with fail
  go_at_call 26
  refine (eqBar_d _ ir0_0 ir0_1   ).mono ?_
  rintro e w5 ⟨rfl, g⟩
  have zs7 := World.grownBy.size g
  try simp only [World.size_alloc] at zs7
  clear Bg0_0_ Bg0_1_ Bw0_0_ Bw0_1_
  have rA020_ := Lib.hid (show (w5).heap[W.heap.size]? = some (.cells #[.int .i64 i0_0, .int .i64 i0_1] 28 (0, 0)) from row_held g rA016_.out)
  clear rA016_
  have rBw021_ := Lib.hid (show (w5).heap[w2.heap.size]? = some (.cells #[.int .i64 ir0_0, .int .i64 ir0_1] 30 (0, 0)) from row_held g rBw017_.out)
  clear rBw017_
  have rBg022_ := Lib.hid (show (w5).heap[w4.heap.size]? = some (.cells #[.int .i64 ir0_0, .int .i64 ir0_1] 30 (0, 0)) from row_held g rBg019_.out)
  clear rBg019_
  have G23_ := Lib.hid (show (W).grownBy (w5) none from gby_trans G18_.out g)
  clear g
  go_wp2
  go_ret
  exact ⟨rfl, gby_below G23_.out⟩

end Go.Proofs.Ytoedgncidoldaaa
