/-
  The walk of FnExactSeverityName: at every argument the program answers as its model and writes nothing that was there.
-/
import Derived.Test.YtjkjodcgpdhldaaRSeverityName
import Derived.WalkKit
import Derived.Deep.RegionHeld3
import Derived.Below
namespace Go.Proofs.Ytjkjodcgpdhldaa
open Go Go.RowKit

set_option maxRecDepth 8000 in
set_option maxHeartbeats 16000000 in
theorem walk_exactSeverityName_of (both : ∀ (i0 : Int), ∃ (sr0 : ByteArray), (∀ (W : World), Calls Try.prog 34 #[.int .i64 i0] W (ResSSeverityName sr0 W)) ∧ ∀ (W : World), Calls Try.prog 35 #[.int .i64 i0] W (ResISeverityName sr0 W))
    (W : World) (i0 : Int)  :
    Calls Try.prog 10 #[.int .i64 i0] W fun e w' => e = .returned (.bool true) ∧ Below W.heap.size W w' := by
  obtain ⟨sr0, hs_, hi_⟩ := both i0 
  have HS := Lib.hid hs_
  have HM := Lib.hid hi_
  clear hs_ hi_
  try clear both
  have hb_sr0 : (!(sr0.toList == sr0.toList)) = false := by simp
  go_enter Try.func10, Try.ntmps10
  have G1_ := Lib.hid (show (W).grownBy (W) none from (gby_refl _ _))
  go_wp2_with fail
  go_at_call 34
  refine (HS.out _  ).mono ?_
  rintro e w1 ⟨rfl, g⟩
  have sz_ := g.size
  try simp only [World.size_alloc] at sz_
  have zs1 := World.grownBy.size g
  try simp only [World.size_alloc] at zs1
  have G2_ := Lib.hid (show (W).grownBy (w1) none from gby_trans G1_.out g)
  clear g
  have szw1 := sz_
  clear sz_
  go_wp2_with fail
  go_at_call 35
  refine (HM.out _  ).mono ?_
  rintro e w2 ⟨rfl, g⟩
  have sz_ := g.size
  try simp only [World.size_alloc] at sz_
  have zs2 := World.grownBy.size g
  try simp only [World.size_alloc] at zs2
  have G3_ := Lib.hid (show (W).grownBy (w2) none from gby_trans G2_.out g)
  clear g
  have szw2 := sz_
  clear sz_
  go_wp2
  go_ret
  exact ⟨rfl, gby_below G3_.out⟩

end Go.Proofs.Ytjkjodcgpdhldaa
