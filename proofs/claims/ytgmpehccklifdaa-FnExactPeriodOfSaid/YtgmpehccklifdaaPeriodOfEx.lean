/-
  The walk of FnExactPeriodOf: at every argument the program answers as its model and writes nothing that was there.
-/
import Derived.Test.YtgmpehccklifdaaStSpec
import Derived.WalkKit
import Derived.Deep.RegionHeld3
import Derived.Below
namespace Go.Proofs.Ytgmpehccklifdaa
open Go Go.RowKit

set_option maxRecDepth 8000 in
set_option maxHeartbeats 8000000 in
theorem walk_exactPeriodOf_of (both : ∀ (q0 : Int), ∃ (r : Int), (∀ (W : World), Calls Try.prog 42 #[.int .i64 q0] W (AnsN (.int .i64 r) W)) ∧ ∀ (W : World), Calls Try.prog 43 #[.int .i64 q0] W (AnsN (.int .i64 r) W))
    (W : World) (q0 : Int)  :
    Calls Try.prog 13 #[.int .i64 q0] W fun e w' => e = .returned (.bool true) ∧ Below W.heap.size W w' := by
  obtain ⟨r, hs_, hi_⟩ := both q0 
  have HS := Lib.hid hs_
  have HM := Lib.hid hi_
  clear hs_ hi_ both
  have hzz : (r != r) = false := by simp
  go_enter Try.func13, Try.ntmps13
  go_wp2_with fail
  go_at_call 42
  refine (HS.out _ ).mono ?_
  rintro e w1 ⟨rfl, g⟩
  have s1 := g.size
  try simp only [World.size_alloc] at s1
  have G1 := Lib.hid (gby_trans (gby_refl _ _) g)
  clear g
  go_wp2_with fail
  go_at_call 43
  refine (HM.out _ ).mono ?_
  rintro e w2 ⟨rfl, g⟩
  have s2 := g.size
  try simp only [World.size_alloc] at s2
  have G2 := Lib.hid (gby_trans G1.out g)
  clear g
  go_wp2
  go_ret
  exact ⟨rfl, gby_below G2.out⟩
  
end Go.Proofs.Ytgmpehccklifdaa
