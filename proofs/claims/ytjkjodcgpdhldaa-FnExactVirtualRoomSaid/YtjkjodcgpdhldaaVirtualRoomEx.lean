/-
  The walk of FnExactVirtualRoom: at every argument the program answers as its model and writes nothing that was there.
-/
import Derived.Test.YtjkjodcgpdhldaaRVirtualRoom
import Derived.WalkKit
import Derived.Deep.RegionHeld3
import Derived.Below
namespace Go.Proofs.Ytjkjodcgpdhldaa
open Go Go.RowKit

set_option maxRecDepth 8000 in
set_option maxHeartbeats 16000000 in
theorem walk_exactVirtualRoom_of (both : ∀ (i0 : Int) (i1 : Int) (i2 : Int), ∃ (ir0 : Int), (∀ (W : World), Calls Try.prog 27 #[.int .i64 i0, .int .i64 i1, .int .i64 i2] W (ResSVirtualRoom ir0 W)) ∧ ∀ (W : World), Calls Try.prog 28 #[.int .i64 i0, .int .i64 i1, .int .i64 i2] W (ResIVirtualRoom ir0 W))
    (W : World) (i0 : Int) (i1 : Int) (i2 : Int)  :
    Calls Try.prog 7 #[.int .i64 i0, .int .i64 i1, .int .i64 i2] W fun e w' => e = .returned (.bool true) ∧ Below W.heap.size W w' := by
  obtain ⟨ir0, hs_, hi_⟩ := both i0 i1 i2 
  have HS := Lib.hid hs_
  have HM := Lib.hid hi_
  clear hs_ hi_
  try clear both
  have hb_ir0 : (ir0 != ir0) = false := by simp
  go_enter Try.func7, Try.ntmps7
  have G1_ := Lib.hid (show (W).grownBy (W) none from (gby_refl _ _))
  go_wp2_with fail
  go_at_call 27
  refine (HS.out _  ).mono ?_
  rintro e w1 ⟨rfl, g⟩
  have sz_ := g.size
  try simp only [World.size_alloc] at sz_
  have zs1 := World.grownBy.size g
  try simp only [World.size_alloc] at zs1
  have G2_ := Lib.hid (show (W).grownBy (w1) none from gby_trans G1_.out g)
  clear g
  have szw1 := sz_
  clear sz_
  go_wp2_with fail
  go_at_call 28
  refine (HM.out _  ).mono ?_
  rintro e w2 ⟨rfl, g⟩
  have sz_ := g.size
  try simp only [World.size_alloc] at sz_
  have zs2 := World.grownBy.size g
  try simp only [World.size_alloc] at zs2
  have G3_ := Lib.hid (show (W).grownBy (w2) none from gby_trans G2_.out g)
  clear g
  have szw2 := sz_
  clear sz_
  go_wp2
  go_ret
  exact ⟨rfl, gby_below G3_.out⟩

end Go.Proofs.Ytjkjodcgpdhldaa
