/-
  The walk of FnExactTotalSize: at every argument the program answers as its model and writes nothing that was there.
-/
import Derived.Test.YtoedgncidoldaaaRTotalSize
import Derived.Test.YtoedgncidoldaaaShpI
import Derived.WalkKit
import Derived.Deep.RegionHeld3
import Derived.Below
namespace Go.Proofs.Ytoedgncidoldaaa
open Go Go.RowKit

set_option maxRecDepth 8000 in
set_option maxHeartbeats 16000000 in
theorem walk_exactTotalSize_of (both : ∀ (xs0 : List Int), szL shI xs0 ≤ 1048576 → ∃ (ir0 : Int), (∀ (W : World), ∀ u0, RdL shI W u0 xs0 → Calls Try.prog 19 #[u0] W (ResSTotalSize ir0 W)) ∧ ∀ (W : World), ∀ u0, RdL shI W u0 xs0 → Calls Try.prog 20 #[u0] W (ResITotalSize ir0 W))
    (W : World) (a0 : Value) (xs0 : List Int) (H0 : RdL shI W a0 xs0) :
    Calls Try.prog 4 #[a0] W fun e w' => e = .returned (.bool true) ∧ Below W.heap.size W w' := by
  have HI0 := Lib.hid H0
  have hmx0 := H0.max
  clear H0
  have hlen0 : ∃ p n c, a0 = .slice p n c ∧ n = xs0.length := by
    obtain ⟨p, c, h, _⟩ := HI0.out
    exact ⟨p, _, c, h, rfl⟩
  obtain ⟨p0, n0, c0, hv0, hnx0⟩ := hlen0
  subst hv0
  by_cases hbig0 : (1048576 : Int) < (n0 : Int)
  · have HN := Lib.hid hnx0
    clear hnx0
    go_enter Try.func4, Try.ntmps4
    go_wp2
    go_ret
    exact ⟨rfl, by first | exact Below.refl _ _ | exact gby_below (by repeat (with_reducible refine gby_alloc ?_ _); exact gby_refl _ _)⟩
  have hl0 : szL shI xs0 ≤ 1048576 := by have : szL shI xs0 = xs0.length := szL_I _; omega
  have HN0 := Lib.hid hnx0
  clear hnx0
  obtain ⟨ir0, hs_, hi_⟩ := both xs0 hl0
  have HS := Lib.hid hs_
  have HM := Lib.hid hi_
  clear hs_ hi_ both
  have hb_ir0 : (ir0 != ir0) = false := by simp
  go_enter Try.func4, Try.ntmps4
  have G1_ := Lib.hid (show (W).grownBy (W) none from (gby_refl _ _))
  go_wp2_with fail
  go_at_call 16
  refine (toIntS_d _ (.slice p0 n0 c0) xs0 (HI0.out.grow G1_.out) hl0).mono ?_
  rintro e w1 ⟨t10, rfl, o, g⟩
  have sz_ := g.size
  try simp only [World.size_alloc] at sz_
  try simp only [World.size_alloc] at o
  have zs1 := World.grownBy.size g
  try simp only [World.size_alloc] at zs1
  have G2_ := Lib.hid (show (W).grownBy (w1) none from gby_trans G1_.out g)
  clear g
  have szw1 := sz_
  clear sz_
  obtain ⟨t10p, t10n, t10c, hv_⟩ := RdL.form (OwL.rd o)
  subst hv_
  have oT13_ := Lib.hid (show OwU (w1) (W.heap.size) (w1.heap.size) [] [own shI (.slice t10p t10n t10c) xs0] from OwU.one o)
  clear o
  go_wp2_with fail
  go_at_call 19
  refine (HS.out _ (.slice t10p t10n t10c) (OwU.rd oT13_.out)).mono ?_
  rintro e w2 ⟨rfl, g⟩
  have sz_ := g.size
  try simp only [World.size_alloc] at sz_
  have zs2 := World.grownBy.size g
  try simp only [World.size_alloc] at zs2
  have oT14_ := Lib.hid (show OwU (w2) (W.heap.size) (w1.heap.size) [] [own shI (.slice t10p t10n t10c) xs0] from OwU.grow oT13_.out g)
  clear oT13_
  have G5_ := Lib.hid (show (W).grownBy (w2) none from gby_trans G2_.out g)
  clear g
  have szw2 := sz_
  clear sz_
  clear oT14_
  go_wp2_with fail
  go_at_call 16
  refine (toIntS_d _ (.slice p0 n0 c0) xs0 (HI0.out.grow G5_.out) hl0).mono ?_
  rintro e w3 ⟨x00, rfl, o, g⟩
  have sz_ := g.size
  try simp only [World.size_alloc] at sz_
  try simp only [World.size_alloc] at o
  have zs3 := World.grownBy.size g
  try simp only [World.size_alloc] at zs3
  have G6_ := Lib.hid (show (W).grownBy (w3) none from gby_trans G5_.out g)
  clear g
  have szw3 := sz_
  clear sz_
  obtain ⟨x00p, x00n, x00c, hv_⟩ := RdL.form (OwL.rd o)
  subst hv_
  have ox07_ := Lib.hid (show OwU (w3) (w2.heap.size) (w3.heap.size) [] [own shI (.slice x00p x00n x00c) xs0] from OwU.one o)
  clear o
  go_wp2_with fail
  go_at_call 20
  refine (HM.out _ (.slice x00p x00n x00c) (OwU.rd ox07_.out)).mono ?_
  rintro e w4 ⟨rfl, g⟩
  have sz_ := g.size
  try simp only [World.size_alloc] at sz_
  have zs4 := World.grownBy.size g
  try simp only [World.size_alloc] at zs4
  have ox08_ := Lib.hid (show OwU (w4) (w2.heap.size) (w3.heap.size) [] [own shI (.slice x00p x00n x00c) xs0] from OwU.grow ox07_.out g)
  clear ox07_
  have G9_ := Lib.hid (show (W).grownBy (w4) none from gby_trans G6_.out g)
  clear g
  have szw4 := sz_
  clear sz_
  go_wp2_with fail
  go_at_call 16
  refine (toIntS_d _ (.slice p0 n0 c0) xs0 (HI0.out.grow G9_.out) hl0).mono ?_
  rintro e w5 ⟨t20, rfl, o, g⟩
  have sz_ := g.size
  try simp only [World.size_alloc] at sz_
  try simp only [World.size_alloc] at o
  have zs5 := World.grownBy.size g
  try simp only [World.size_alloc] at zs5
  have ox010_ := Lib.hid (show OwU (w5) (w2.heap.size) (w3.heap.size) [] [own shI (.slice x00p x00n x00c) xs0] from OwU.grow ox08_.out g)
  clear ox08_
  have G11_ := Lib.hid (show (W).grownBy (w5) none from gby_trans G9_.out g)
  clear g
  have szw5 := sz_
  clear sz_
  obtain ⟨t20p, t20n, t20c, hv_⟩ := RdL.form (OwL.rd o)
  subst hv_
  have oT212_ := Lib.hid (show OwU (w5) (w4.heap.size) (w5.heap.size) [] [own shI (.slice t20p t20n t20c) xs0] from OwU.one o)
  clear o
  go_wp2_with fail
  go_at_call 18
  refine (eqIntS_d _ (.slice x00p x00n x00c) (.slice t20p t20n t20c) xs0 (OwU.rd ox010_.out) (OwU.rd oT212_.out) hl0).mono ?_
  rintro e w6 ⟨rfl, g⟩
  have zs6 := World.grownBy.size g
  try simp only [World.size_alloc] at zs6
  have ox013_ := Lib.hid (show OwU (w6) (w2.heap.size) (w3.heap.size) [] [own shI (.slice x00p x00n x00c) xs0] from OwU.grow ox010_.out g)
  clear ox010_
  have oT214_ := Lib.hid (show OwU (w6) (w4.heap.size) (w5.heap.size) [] [own shI (.slice t20p t20n t20c) xs0] from OwU.grow oT212_.out g)
  clear oT212_
  have G15_ := Lib.hid (show (W).grownBy (w6) none from gby_trans G11_.out g)
  clear g
  clear oT214_
  go_wp2
  go_ret
  exact ⟨rfl, gby_below G15_.out⟩

end Go.Proofs.Ytoedgncidoldaaa
