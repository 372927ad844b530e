/-
  The walk of FnExactIsLegalOrder: at every argument the program answers as its model and writes nothing that was there.
-/
import Derived.Test.YtnighnkkeiegnaaQSPacket
import Derived.Test.YtnighnkkeiegnaaRIsLegalOrder
import Derived.Test.YtnighnkkeiegnaaShpI
import Derived.WalkKit
import Derived.Deep.RegionHeld3
import Derived.Below
namespace Go.Proofs.Ytnighnkkeiegnaa
open Go Go.RowKit

set_option maxRecDepth 8000 in
set_option maxHeartbeats 16000000 in
theorem walk_exactIsLegalOrder_of (both : ∀ (xs0 : List DPacket) (xs1 : List Int), szL shPacket xs0 ≤ 1048576 → szL shI xs1 ≤ 1048576 → ∃ (br0 : Bool), (∀ (W : World), ∀ u0 u1, RdL shPacket W u0 xs0 → RdL shI W u1 xs1 → Calls Try.prog 22 #[u0, u1] W (ResSIsLegalOrder br0 W)) ∧ ∀ (W : World), ∀ u0 u1, RdL shPacket W u0 xs0 → RdL shI W u1 xs1 → Calls Try.prog 25 #[u0, u1] W (ResIIsLegalOrder br0 W))
    (W : World) (a0 : Value) (xs0 : List DPacket) (a1 : Value) (xs1 : List Int) (H0 : RdL shPacket W a0 xs0) (H1 : RdL shI W a1 xs1) :
    Calls Try.prog 5 #[a0, a1] W fun e w' => e = .returned (.bool true) ∧ Below W.heap.size W w' := by
  have HI0 := Lib.hid H0
  have hmx0 := H0.max
  clear H0
  have HI1 := Lib.hid H1
  have hmx1 := H1.max
  clear H1
  have hlen1 : ∃ p n c, a1 = .slice p n c ∧ n = xs1.length := by
    obtain ⟨p, c, h, _⟩ := HI1.out
    exact ⟨p, _, c, h, rfl⟩
  obtain ⟨p1, n1, c1, hv1, hnx1⟩ := hlen1
  subst hv1
  by_cases hbig1 : (1048576 : Int) < (n1 : Int)
  · have HN := Lib.hid hnx1
    clear hnx1
    go_enter Try.func5, Try.ntmps5
    go_wp2
    go_ret
    exact ⟨rfl, by first | exact Below.refl _ _ | exact gby_below (by repeat (with_reducible refine gby_alloc ?_ _); exact gby_refl _ _)⟩
  have hl1 : szL shI xs1 ≤ 1048576 := by have : szL shI xs1 = xs1.length := szL_I _; omega
  have HN1 := Lib.hid hnx1
  clear hnx1
  by_cases hs0 : (1048576 : Int) < (((szL shPacket xs0) : Nat) : Int)
  · have hneg : (-1 : Int) < 0 := by omega
    go_enter Try.func5, Try.ntmps5
    have G1_ := Lib.hid (show (W).grownBy (W) none from (gby_refl _ _))
    go_wp2_with fail
    go_at_call 21
    refine (szPacketS_d _ 1048576 a0 xs0 (HI0.out.grow G1_.out) (by omega) (by omega)).mono ?_
    rintro e w1 ⟨he, g⟩
    rw [show lessN 1048576 (szL shPacket xs0) = -1 from if_pos hs0] at he
    subst he
    have G2_ := Lib.hid (show (W).grownBy (w1) none from gby_trans G1_.out g)
    clear g
    go_wp2
    go_ret
    exact ⟨rfl, gby_below G2_.out⟩
  obtain ⟨rr0, hr0⟩ : ∃ r, r = lessN 1048576 (szL shPacket xs0) := ⟨_, rfl⟩
  have hrr0 : rr0 = (1048576 : Int) - (((szL shPacket xs0) : Nat) : Int) := hr0.trans (if_neg hs0)
  have hn0 : ¬ rr0 < 0 := by omega
  have hu0 : rr0 ≤ 1048576 := by omega
  have hl0 : szL shPacket xs0 ≤ 1048576 := by omega
  have HR0 := Lib.hid hr0
  clear hs0 hr0 hrr0
  obtain ⟨br0, hs_, hi_⟩ := both xs0 xs1 hl0 hl1
  have HS := Lib.hid hs_
  have HM := Lib.hid hi_
  clear hs_ hi_
  try clear both
  have hb_br0 : (br0 != br0) = false := by simp
  go_enter Try.func5, Try.ntmps5
  have G1_ := Lib.hid (show (W).grownBy (W) none from (gby_refl _ _))
  go_wp2_with fail
  go_at_call 21
  refine (szPacketS_d _ 1048576 a0 xs0 (HI0.out.grow G1_.out) (by omega) (by omega)).mono ?_
  rintro e w1 ⟨he, g⟩
  rw [← HR0.out] at he
  subst he
  have zs1 := World.grownBy.size g
  try simp only [World.size_alloc] at zs1
  have G2_ := Lib.hid (show (W).grownBy (w1) none from gby_trans G1_.out g)
  clear g
  go_wp2_with fail
  go_at_call 23
  refine (toPacketS_d _ a0 xs0 (HI0.out.grow G2_.out) hl0).mono ?_
  rintro e w2 ⟨t10, rfl, o, g⟩
  have sz_ := g.size
  try simp only [World.size_alloc] at sz_
  try simp only [World.size_alloc] at o
  have zs2 := World.grownBy.size g
  try simp only [World.size_alloc] at zs2
  have G3_ := Lib.hid (show (W).grownBy (w2) none from gby_trans G2_.out g)
  clear g
  have szw2 := sz_
  clear sz_
  obtain ⟨t10p, t10n, t10c, hv_⟩ := RdL.form (OwL.rd o)
  subst hv_
  have oT14_ := Lib.hid (show OwU (w2) (w1.heap.size) (w2.heap.size) [] [own shPacket (.slice t10p t10n t10c) xs0] from OwU.one o)
  clear o
  go_wp2_with fail
  go_at_call 24
  refine (toIntS_d _ (.slice p1 n1 c1) xs1 (HI1.out.grow G3_.out) hl1).mono ?_
  rintro e w3 ⟨t21, rfl, o, g⟩
  have sz_ := g.size
  try simp only [World.size_alloc] at sz_
  try simp only [World.size_alloc] at o
  have zs3 := World.grownBy.size g
  try simp only [World.size_alloc] at zs3
  have oT15_ := Lib.hid (show OwU (w3) (w1.heap.size) (w2.heap.size) [] [own shPacket (.slice t10p t10n t10c) xs0] from OwU.grow oT14_.out g)
  clear oT14_
  have G6_ := Lib.hid (show (W).grownBy (w3) none from gby_trans G3_.out g)
  clear g
  have szw3 := sz_
  clear sz_
  obtain ⟨t21p, t21n, t21c, hv_⟩ := RdL.form (OwL.rd o)
  subst hv_
  have oT27_ := Lib.hid (show OwU (w3) (w2.heap.size) (w3.heap.size) [] [own shI (.slice t21p t21n t21c) xs1] from OwU.one o)
  clear o
  go_wp2_with fail
  go_at_call 22
  refine (HS.out _ (.slice t10p t10n t10c) (.slice t21p t21n t21c) (OwU.rd oT15_.out) (OwU.rd oT27_.out)).mono ?_
  rintro e w4 ⟨rfl, g⟩
  have sz_ := g.size
  try simp only [World.size_alloc] at sz_
  have zs4 := World.grownBy.size g
  try simp only [World.size_alloc] at zs4
  have oT18_ := Lib.hid (show OwU (w4) (w1.heap.size) (w2.heap.size) [] [own shPacket (.slice t10p t10n t10c) xs0] from OwU.grow oT15_.out g)
  clear oT15_
  have oT29_ := Lib.hid (show OwU (w4) (w2.heap.size) (w3.heap.size) [] [own shI (.slice t21p t21n t21c) xs1] from OwU.grow oT27_.out g)
  clear oT27_
  have G10_ := Lib.hid (show (W).grownBy (w4) none from gby_trans G6_.out g)
  clear g
  have szw4 := sz_
  clear sz_
  clear oT18_
  clear oT29_
  go_wp2_with fail
  go_at_call 23
  refine (toPacketS_d _ a0 xs0 (HI0.out.grow G10_.out) hl0).mono ?_
  rintro e w5 ⟨x00, rfl, o, g⟩
  have sz_ := g.size
  try simp only [World.size_alloc] at sz_
  try simp only [World.size_alloc] at o
  have zs5 := World.grownBy.size g
  try simp only [World.size_alloc] at zs5
  have G11_ := Lib.hid (show (W).grownBy (w5) none from gby_trans G10_.out g)
  clear g
  have szw5 := sz_
  clear sz_
  obtain ⟨x00p, x00n, x00c, hv_⟩ := RdL.form (OwL.rd o)
  subst hv_
  have ox012_ := Lib.hid (show OwU (w5) (w4.heap.size) (w5.heap.size) [] [own shPacket (.slice x00p x00n x00c) xs0] from OwU.one o)
  clear o
  go_wp2_with fail
  go_at_call 24
  refine (toIntS_d _ (.slice p1 n1 c1) xs1 (HI1.out.grow G11_.out) hl1).mono ?_
  rintro e w6 ⟨x11, rfl, o, g⟩
  have sz_ := g.size
  try simp only [World.size_alloc] at sz_
  try simp only [World.size_alloc] at o
  have zs6 := World.grownBy.size g
  try simp only [World.size_alloc] at zs6
  have ox013_ := Lib.hid (show OwU (w6) (w4.heap.size) (w5.heap.size) [] [own shPacket (.slice x00p x00n x00c) xs0] from OwU.grow ox012_.out g)
  clear ox012_
  have G14_ := Lib.hid (show (W).grownBy (w6) none from gby_trans G11_.out g)
  clear g
  have szw6 := sz_
  clear sz_
  obtain ⟨x11p, x11n, x11c, hv_⟩ := RdL.form (OwL.rd o)
  subst hv_
  have ox115_ := Lib.hid (show OwU (w6) (w5.heap.size) (w6.heap.size) [] [own shI (.slice x11p x11n x11c) xs1] from OwU.one o)
  clear o
  go_wp2_with fail
  go_at_call 25
  refine (HM.out _ (.slice x00p x00n x00c) (.slice x11p x11n x11c) (OwU.rd ox013_.out) (OwU.rd ox115_.out)).mono ?_
  rintro e w7 ⟨rfl, g⟩
  have sz_ := g.size
  try simp only [World.size_alloc] at sz_
  have zs7 := World.grownBy.size g
  try simp only [World.size_alloc] at zs7
  have ox016_ := Lib.hid (show OwU (w7) (w4.heap.size) (w5.heap.size) [] [own shPacket (.slice x00p x00n x00c) xs0] from OwU.grow ox013_.out g)
  clear ox013_
  have ox117_ := Lib.hid (show OwU (w7) (w5.heap.size) (w6.heap.size) [] [own shI (.slice x11p x11n x11c) xs1] from OwU.grow ox115_.out g)
  clear ox115_
  have G18_ := Lib.hid (show (W).grownBy (w7) none from gby_trans G14_.out g)
  clear g
  have szw7 := sz_
  clear sz_
  go_wp2_with fail
  go_at_call 23
  refine (toPacketS_d _ a0 xs0 (HI0.out.grow G18_.out) hl0).mono ?_
  rintro e w8 ⟨t30, rfl, o, g⟩
  have sz_ := g.size
  try simp only [World.size_alloc] at sz_
  try simp only [World.size_alloc] at o
  have zs8 := World.grownBy.size g
  try simp only [World.size_alloc] at zs8
  have ox019_ := Lib.hid (show OwU (w8) (w4.heap.size) (w5.heap.size) [] [own shPacket (.slice x00p x00n x00c) xs0] from OwU.grow ox016_.out g)
  clear ox016_
  have ox120_ := Lib.hid (show OwU (w8) (w5.heap.size) (w6.heap.size) [] [own shI (.slice x11p x11n x11c) xs1] from OwU.grow ox117_.out g)
  clear ox117_
  have G21_ := Lib.hid (show (W).grownBy (w8) none from gby_trans G18_.out g)
  clear g
  have szw8 := sz_
  clear sz_
  obtain ⟨t30p, t30n, t30c, hv_⟩ := RdL.form (OwL.rd o)
  subst hv_
  have oT322_ := Lib.hid (show OwU (w8) (w7.heap.size) (w8.heap.size) [] [own shPacket (.slice t30p t30n t30c) xs0] from OwU.one o)
  clear o
  go_wp2_with fail
  go_at_call 26
  refine (eqPacketS_d _ (.slice x00p x00n x00c) (.slice t30p t30n t30c) xs0 (OwU.rd ox019_.out) (OwU.rd oT322_.out) hl0).mono ?_
  rintro e w9 ⟨rfl, g⟩
  have zs9 := World.grownBy.size g
  try simp only [World.size_alloc] at zs9
  have ox023_ := Lib.hid (show OwU (w9) (w4.heap.size) (w5.heap.size) [] [own shPacket (.slice x00p x00n x00c) xs0] from OwU.grow ox019_.out g)
  clear ox019_
  have ox124_ := Lib.hid (show OwU (w9) (w5.heap.size) (w6.heap.size) [] [own shI (.slice x11p x11n x11c) xs1] from OwU.grow ox120_.out g)
  clear ox120_
  have oT325_ := Lib.hid (show OwU (w9) (w7.heap.size) (w8.heap.size) [] [own shPacket (.slice t30p t30n t30c) xs0] from OwU.grow oT322_.out g)
  clear oT322_
  have G26_ := Lib.hid (show (W).grownBy (w9) none from gby_trans G21_.out g)
  clear g
  clear oT325_
  go_wp2_with fail
  go_at_call 24
  refine (toIntS_d _ (.slice p1 n1 c1) xs1 (HI1.out.grow G26_.out) hl1).mono ?_
  rintro e w10 ⟨t41, rfl, o, g⟩
  have sz_ := g.size
  try simp only [World.size_alloc] at sz_
  try simp only [World.size_alloc] at o
  have zs10 := World.grownBy.size g
  try simp only [World.size_alloc] at zs10
  have ox027_ := Lib.hid (show OwU (w10) (w4.heap.size) (w5.heap.size) [] [own shPacket (.slice x00p x00n x00c) xs0] from OwU.grow ox023_.out g)
  clear ox023_
  have ox128_ := Lib.hid (show OwU (w10) (w5.heap.size) (w6.heap.size) [] [own shI (.slice x11p x11n x11c) xs1] from OwU.grow ox124_.out g)
  clear ox124_
  have G29_ := Lib.hid (show (W).grownBy (w10) none from gby_trans G26_.out g)
  clear g
  have szw10 := sz_
  clear sz_
  obtain ⟨t41p, t41n, t41c, hv_⟩ := RdL.form (OwL.rd o)
  subst hv_
  have oT430_ := Lib.hid (show OwU (w10) (w9.heap.size) (w10.heap.size) [] [own shI (.slice t41p t41n t41c) xs1] from OwU.one o)
  clear o
  go_wp2_with fail
  go_at_call 27
  refine (eqIntS_d _ (.slice x11p x11n x11c) (.slice t41p t41n t41c) xs1 (OwU.rd ox128_.out) (OwU.rd oT430_.out) hl1).mono ?_
  rintro e w11 ⟨rfl, g⟩
  have zs11 := World.grownBy.size g
  try simp only [World.size_alloc] at zs11
  have ox031_ := Lib.hid (show OwU (w11) (w4.heap.size) (w5.heap.size) [] [own shPacket (.slice x00p x00n x00c) xs0] from OwU.grow ox027_.out g)
  clear ox027_
  have ox132_ := Lib.hid (show OwU (w11) (w5.heap.size) (w6.heap.size) [] [own shI (.slice x11p x11n x11c) xs1] from OwU.grow ox128_.out g)
  clear ox128_
  have oT433_ := Lib.hid (show OwU (w11) (w9.heap.size) (w10.heap.size) [] [own shI (.slice t41p t41n t41c) xs1] from OwU.grow oT430_.out g)
  clear oT430_
  have G34_ := Lib.hid (show (W).grownBy (w11) none from gby_trans G29_.out g)
  clear g
  clear oT433_
  go_wp2
  go_ret
  exact ⟨rfl, gby_below G34_.out⟩

end Go.Proofs.Ytnighnkkeiegnaa
