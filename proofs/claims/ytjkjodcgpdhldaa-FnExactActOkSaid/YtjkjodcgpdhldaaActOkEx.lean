/-
  The walk of FnExactActOk: at every argument the program answers as its model and writes nothing that was there.
-/
import Derived.Test.YtjkjodcgpdhldaaQAct
import Derived.Test.YtjkjodcgpdhldaaRActOk
import Derived.WalkKit
import Derived.Deep.RegionHeld3
import Derived.Below
namespace Go.Proofs.Ytjkjodcgpdhldaa
open Go Go.RowKit

set_option maxRecDepth 8000 in
set_option maxHeartbeats 16000000 in
theorem walk_exactActOk_of (both : ∀ (i0_0 : Int) (i0_1 : Int) (i0_2 : Int) (i0_3 : Int), ∃ (br0 : Bool), (∀ (W : World), Calls Try.prog 31 #[.agg #[.int .i64 i0_0, .int .i64 i0_1, .int .i64 i0_2, .int .i64 i0_3]] W (ResSActOk br0 W)) ∧ ∀ (W : World), Calls Try.prog 33 #[.agg #[.int .i64 i0_0, .int .i64 i0_1, .int .i64 i0_2, .int .i64 i0_3]] W (ResIActOk br0 W))
    (W : World) (i0_0 : Int) (i0_1 : Int) (i0_2 : Int) (i0_3 : Int)  :
    Calls Try.prog 9 #[.agg #[.int .i64 i0_0, .int .i64 i0_1, .int .i64 i0_2, .int .i64 i0_3]] W fun e w' => e = .returned (.bool true) ∧ Below W.heap.size W w' := by
  obtain ⟨br0, hs_, hi_⟩ := both i0_0 i0_1 i0_2 i0_3 
  have HS := Lib.hid hs_
  have HM := Lib.hid hi_
  clear hs_ hi_
  try clear both
  have hb_br0 : (br0 != br0) = false := by simp
  go_enter Try.func9, Try.ntmps9
  have rA01_ := Lib.hid (show ((W.alloc (.cells #[.int .i64 i0_0, .int .i64 i0_1, .int .i64 i0_2, .int .i64 i0_3] 43))).heap[W.heap.size]? = some (.cells #[.int .i64 i0_0, .int .i64 i0_1, .int .i64 i0_2, .int .i64 i0_3] 43 (0, 0)) from by exact heap_alloc_new _ _)
  have G2_ := Lib.hid (show (W).grownBy ((W.alloc (.cells #[.int .i64 i0_0, .int .i64 i0_1, .int .i64 i0_2, .int .i64 i0_3] 43))) none from (gby_alloc (gby_refl _ _) _))
  have A0_0_ : ((W.alloc (.cells #[.int .i64 i0_0, .int .i64 i0_1, .int .i64 i0_2, .int .i64 i0_3] 43))).cell? ⟨W.heap.size, 0, none⟩ = some (.int .i64 i0_0) := cell_of_row _ _ 0 _ _ _ rA01_.out
  have A0_1_ : ((W.alloc (.cells #[.int .i64 i0_0, .int .i64 i0_1, .int .i64 i0_2, .int .i64 i0_3] 43))).cell? ⟨W.heap.size, 1, none⟩ = some (.int .i64 i0_1) := cell_of_row _ _ 1 _ _ _ rA01_.out
  have A0_2_ : ((W.alloc (.cells #[.int .i64 i0_0, .int .i64 i0_1, .int .i64 i0_2, .int .i64 i0_3] 43))).cell? ⟨W.heap.size, 2, none⟩ = some (.int .i64 i0_2) := cell_of_row _ _ 2 _ _ _ rA01_.out
  have A0_3_ : ((W.alloc (.cells #[.int .i64 i0_0, .int .i64 i0_1, .int .i64 i0_2, .int .i64 i0_3] 43))).cell? ⟨W.heap.size, 3, none⟩ = some (.int .i64 i0_3) := cell_of_row _ _ 3 _ _ _ rA01_.out
  go_wp2_with fail
  go_at_call 32
  refine (toAct_d _ i0_0 i0_1 i0_2 i0_3  ).mono ?_
  rintro e w1 ⟨rfl, g⟩
  have sz_ := g.size
  try simp only [World.size_alloc] at sz_
  have zs1 := World.grownBy.size g
  try simp only [World.size_alloc] at zs1
  clear A0_0_ A0_1_ A0_2_ A0_3_
  have rA03_ := Lib.hid (show (w1).heap[W.heap.size]? = some (.cells #[.int .i64 i0_0, .int .i64 i0_1, .int .i64 i0_2, .int .i64 i0_3] 43 (0, 0)) from row_held g rA01_.out)
  clear rA01_
  have G4_ := Lib.hid (show (W).grownBy (w1) none from gby_trans G2_.out g)
  clear g
  have szw1 := sz_
  clear sz_
  try unfold vAct
  go_wp2_with fail
  go_at_call 31
  refine (HS.out _  ).mono ?_
  rintro e w2 ⟨rfl, g⟩
  have sz_ := g.size
  try simp only [World.size_alloc] at sz_
  have zs2 := World.grownBy.size g
  try simp only [World.size_alloc] at zs2
  have rA05_ := Lib.hid (show (w2).heap[W.heap.size]? = some (.cells #[.int .i64 i0_0, .int .i64 i0_1, .int .i64 i0_2, .int .i64 i0_3] 43 (0, 0)) from row_held g rA03_.out)
  clear rA03_
  have G6_ := Lib.hid (show (W).grownBy (w2) none from gby_trans G4_.out g)
  clear g
  have szw2 := sz_
  clear sz_
  have A0_0_ : (w2).cell? ⟨W.heap.size, 0, none⟩ = some (.int .i64 i0_0) := cell_of_row _ _ 0 _ _ _ rA05_.out
  have A0_1_ : (w2).cell? ⟨W.heap.size, 1, none⟩ = some (.int .i64 i0_1) := cell_of_row _ _ 1 _ _ _ rA05_.out
  have A0_2_ : (w2).cell? ⟨W.heap.size, 2, none⟩ = some (.int .i64 i0_2) := cell_of_row _ _ 2 _ _ _ rA05_.out
  have A0_3_ : (w2).cell? ⟨W.heap.size, 3, none⟩ = some (.int .i64 i0_3) := cell_of_row _ _ 3 _ _ _ rA05_.out
  go_wp2_with fail
  go_at_call 32
  refine (toAct_d _ i0_0 i0_1 i0_2 i0_3  ).mono ?_
  rintro e w3 ⟨rfl, g⟩
  have sz_ := g.size
  try simp only [World.size_alloc] at sz_
  have zs3 := World.grownBy.size g
  try simp only [World.size_alloc] at zs3
  clear A0_0_ A0_1_ A0_2_ A0_3_
  have rA07_ := Lib.hid (show (w3).heap[W.heap.size]? = some (.cells #[.int .i64 i0_0, .int .i64 i0_1, .int .i64 i0_2, .int .i64 i0_3] 43 (0, 0)) from row_held g rA05_.out)
  clear rA05_
  have G8_ := Lib.hid (show (W).grownBy (w3) none from gby_trans G6_.out g)
  clear g
  have szw3 := sz_
  clear sz_
  try unfold vAct
  go_wp2_with fail
  go_at_call 33
  refine (HM.out _  ).mono ?_
  rintro e w4 ⟨rfl, g⟩
  have sz_ := g.size
  try simp only [World.size_alloc] at sz_
  have zs4 := World.grownBy.size g
  try simp only [World.size_alloc] at zs4
  have rA09_ := Lib.hid (show (w4).heap[W.heap.size]? = some (.cells #[.int .i64 i0_0, .int .i64 i0_1, .int .i64 i0_2, .int .i64 i0_3] 43 (0, 0)) from row_held g rA07_.out)
  clear rA07_
  have G10_ := Lib.hid (show (W).grownBy (w4) none from gby_trans G8_.out g)
  clear g
  have szw4 := sz_
  clear sz_
  go_wp2
  go_ret
  exact ⟨rfl, gby_below G10_.out⟩

end Go.Proofs.Ytjkjodcgpdhldaa
