/-
  The walk of FnExactVirtualOwner: at every argument the program answers as its model and writes nothing that was there.
-/
import Derived.Test.YtjkjodcgpdhldaaQVirtual
import Derived.Test.YtjkjodcgpdhldaaRVirtualOwner
import Derived.WalkKit
import Derived.Deep.RegionHeld3
import Derived.Below
namespace Go.Proofs.Ytjkjodcgpdhldaa
open Go Go.RowKit

set_option maxRecDepth 8000 in
set_option maxHeartbeats 16000000 in
theorem walk_exactVirtualOwner_of (both : ∀ (i0 : Int) (i1_0 : Int) (i1_1 : Int) (i1_2 : Int) (i2 : Int), ∃ (ir0 : Int), (∀ (W : World), Calls Try.prog 25 #[.int .i64 i0, .agg #[.int .i64 i1_0, .int .i64 i1_1, .int .i64 i1_2], .int .i64 i2] W (ResSVirtualOwner ir0 W)) ∧ ∀ (W : World), Calls Try.prog 26 #[.int .i64 i0, .agg #[.int .i64 i1_0, .int .i64 i1_1, .int .i64 i1_2], .int .i64 i2] W (ResIVirtualOwner ir0 W))
    (W : World) (i0 : Int) (i1_0 : Int) (i1_1 : Int) (i1_2 : Int) (i2 : Int)  :
    Calls Try.prog 6 #[.int .i64 i0, .agg #[.int .i64 i1_0, .int .i64 i1_1, .int .i64 i1_2], .int .i64 i2] W fun e w' => e = .returned (.bool true) ∧ Below W.heap.size W w' := by
  obtain ⟨ir0, hs_, hi_⟩ := both i0 i1_0 i1_1 i1_2 i2 
  have HS := Lib.hid hs_
  have HM := Lib.hid hi_
  clear hs_ hi_
  try clear both
  have hb_ir0 : (ir0 != ir0) = false := by simp
  go_enter Try.func6, Try.ntmps6
  have rA11_ := Lib.hid (show ((W.alloc (.cells #[.int .i64 i1_0, .int .i64 i1_1, .int .i64 i1_2] 23))).heap[W.heap.size]? = some (.cells #[.int .i64 i1_0, .int .i64 i1_1, .int .i64 i1_2] 23 (0, 0)) from by exact heap_alloc_new _ _)
  have G2_ := Lib.hid (show (W).grownBy ((W.alloc (.cells #[.int .i64 i1_0, .int .i64 i1_1, .int .i64 i1_2] 23))) none from (gby_alloc (gby_refl _ _) _))
  have A1_0_ : ((W.alloc (.cells #[.int .i64 i1_0, .int .i64 i1_1, .int .i64 i1_2] 23))).cell? ⟨W.heap.size, 0, none⟩ = some (.int .i64 i1_0) := cell_of_row _ _ 0 _ _ _ rA11_.out
  have A1_1_ : ((W.alloc (.cells #[.int .i64 i1_0, .int .i64 i1_1, .int .i64 i1_2] 23))).cell? ⟨W.heap.size, 1, none⟩ = some (.int .i64 i1_1) := cell_of_row _ _ 1 _ _ _ rA11_.out
  have A1_2_ : ((W.alloc (.cells #[.int .i64 i1_0, .int .i64 i1_1, .int .i64 i1_2] 23))).cell? ⟨W.heap.size, 2, none⟩ = some (.int .i64 i1_2) := cell_of_row _ _ 2 _ _ _ rA11_.out
  go_wp2_with fail
  go_at_call 16
  refine (toVirtual_d _ i1_0 i1_1 i1_2  ).mono ?_
  rintro e w1 ⟨rfl, g⟩
  have sz_ := g.size
  try simp only [World.size_alloc] at sz_
  have zs1 := World.grownBy.size g
  try simp only [World.size_alloc] at zs1
  clear A1_0_ A1_1_ A1_2_
  have rA13_ := Lib.hid (show (w1).heap[W.heap.size]? = some (.cells #[.int .i64 i1_0, .int .i64 i1_1, .int .i64 i1_2] 23 (0, 0)) from row_held g rA11_.out)
  clear rA11_
  have G4_ := Lib.hid (show (W).grownBy (w1) none from gby_trans G2_.out g)
  clear g
  have szw1 := sz_
  clear sz_
  try unfold vVirtual
  go_wp2_with fail
  go_at_call 25
  refine (HS.out _  ).mono ?_
  rintro e w2 ⟨rfl, g⟩
  have sz_ := g.size
  try simp only [World.size_alloc] at sz_
  have zs2 := World.grownBy.size g
  try simp only [World.size_alloc] at zs2
  have rA15_ := Lib.hid (show (w2).heap[W.heap.size]? = some (.cells #[.int .i64 i1_0, .int .i64 i1_1, .int .i64 i1_2] 23 (0, 0)) from row_held g rA13_.out)
  clear rA13_
  have G6_ := Lib.hid (show (W).grownBy (w2) none from gby_trans G4_.out g)
  clear g
  have szw2 := sz_
  clear sz_
  have A1_0_ : (w2).cell? ⟨W.heap.size, 0, none⟩ = some (.int .i64 i1_0) := cell_of_row _ _ 0 _ _ _ rA15_.out
  have A1_1_ : (w2).cell? ⟨W.heap.size, 1, none⟩ = some (.int .i64 i1_1) := cell_of_row _ _ 1 _ _ _ rA15_.out
  have A1_2_ : (w2).cell? ⟨W.heap.size, 2, none⟩ = some (.int .i64 i1_2) := cell_of_row _ _ 2 _ _ _ rA15_.out
  go_wp2_with fail
  go_at_call 16
  refine (toVirtual_d _ i1_0 i1_1 i1_2  ).mono ?_
  rintro e w3 ⟨rfl, g⟩
  have sz_ := g.size
  try simp only [World.size_alloc] at sz_
  have zs3 := World.grownBy.size g
  try simp only [World.size_alloc] at zs3
  clear A1_0_ A1_1_ A1_2_
  have rA17_ := Lib.hid (show (w3).heap[W.heap.size]? = some (.cells #[.int .i64 i1_0, .int .i64 i1_1, .int .i64 i1_2] 23 (0, 0)) from row_held g rA15_.out)
  clear rA15_
  have G8_ := Lib.hid (show (W).grownBy (w3) none from gby_trans G6_.out g)
  clear g
  have szw3 := sz_
  clear sz_
  try unfold vVirtual
  go_wp2_with fail
  go_at_call 26
  refine (HM.out _  ).mono ?_
  rintro e w4 ⟨rfl, g⟩
  have sz_ := g.size
  try simp only [World.size_alloc] at sz_
  have zs4 := World.grownBy.size g
  try simp only [World.size_alloc] at zs4
  have rA19_ := Lib.hid (show (w4).heap[W.heap.size]? = some (.cells #[.int .i64 i1_0, .int .i64 i1_1, .int .i64 i1_2] 23 (0, 0)) from row_held g rA17_.out)
  clear rA17_
  have G10_ := Lib.hid (show (W).grownBy (w4) none from gby_trans G8_.out g)
  clear g
  have szw4 := sz_
  clear sz_
  go_wp2
  go_ret
  exact ⟨rfl, gby_below G10_.out⟩

end Go.Proofs.Ytjkjodcgpdhldaa
