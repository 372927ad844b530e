/-
  The walk of FnExactIsNested: at every argument the program answers as its model and writes nothing that was there.
-/
import Derived.Test.YtdddidnibelmhaaQSBar
import Derived.Test.YtdddidnibelmhaaQSNode
import Derived.Test.YtdddidnibelmhaaRIsNested
import Derived.Test.YtdddidnibelmhaaNestMath
import Derived.WalkKit
import Derived.Deep.RegionHeld3
import Derived.Below
namespace Go.Proofs.Ytdddidnibelmhaa
open Go Go.RowKit

set_option maxRecDepth 8000 in
set_option maxHeartbeats 16000000 in
theorem walk_exactIsNested_of (both : ∀ (xs0 : List DBar) (xs1 : List DNode), B64 xs0 → szL shBar xs0 ≤ 1048576 → szL shNode xs1 ≤ 1048576 → ∃ (br0 : Bool), (∀ (W : World), ∀ u0 u1, RdL shBar W u0 xs0 → RdL shNode W u1 xs1 → Calls Try.prog 9 #[u0, u1] W (ResSIsNested br0 W)) ∧ ∀ (W : World), ∀ u0 u1, RdL shBar W u0 xs0 → RdL shNode W u1 xs1 → Calls Try.prog 12 #[u0, u1] W (ResIIsNested br0 W))
    (W : World) (a0 : Value) (xs0 : List DBar) (a1 : Value) (xs1 : List DNode) (hB64 : B64 xs0) (H0 : RdL shBar W a0 xs0) (H1 : RdL shNode W a1 xs1) :
    Calls Try.prog 3 #[a0, a1] W fun e w' => e = .returned (.bool true) ∧ Below W.heap.size W w' := by
  have HI0 := Lib.hid H0
  have hmx0 := H0.max
  clear H0
  have HI1 := Lib.hid H1
  have hmx1 := H1.max
  clear H1
  by_cases hs0 : (1048576 : Int) < (((szL shBar xs0) : Nat) : Int)
  · have hneg : (-1 : Int) < 0 := by omega
    go_enter Try.func3, Try.ntmps3
    have G1_ := Lib.hid (show (W).grownBy (W) none from (gby_refl _ _))
    go_wp2_with fail
    go_at_call 7
    refine (szBarS_d _ 1048576 a0 xs0 (HI0.out.grow G1_.out) (by omega) (by omega)).mono ?_
    rintro e w1 ⟨he, g⟩
    rw [show lessN 1048576 (szL shBar xs0) = -1 from if_pos hs0] at he
    subst he
    have G2_ := Lib.hid (show (W).grownBy (w1) none from gby_trans G1_.out g)
    clear g
    go_wp2
    go_ret
    exact ⟨rfl, gby_below G2_.out⟩
  obtain ⟨rr0, hr0⟩ : ∃ r, r = lessN 1048576 (szL shBar xs0) := ⟨_, rfl⟩
  have hrr0 : rr0 = (1048576 : Int) - (((szL shBar xs0) : Nat) : Int) := hr0.trans (if_neg hs0)
  have hn0 : ¬ rr0 < 0 := by omega
  have hu0 : rr0 ≤ 1048576 := by omega
  by_cases hs1 : rr0 < (((szL shNode xs1) : Nat) : Int)
  · have hneg : (-1 : Int) < 0 := by omega
    have HR0 := Lib.hid hr0
    clear hr0 hrr0
    go_enter Try.func3, Try.ntmps3
    have G1_ := Lib.hid (show (W).grownBy (W) none from (gby_refl _ _))
    go_wp2_with fail
    go_at_call 7
    refine (szBarS_d _ 1048576 a0 xs0 (HI0.out.grow G1_.out) (by omega) (by omega)).mono ?_
    rintro e w1 ⟨he, g⟩
    rw [← HR0.out] at he
    subst he
    have G2_ := Lib.hid (show (W).grownBy (w1) none from gby_trans G1_.out g)
    clear g
    go_wp2_with fail
    go_at_call 8
    refine (szNodeS_d _ rr0 a1 xs1 (HI1.out.grow G2_.out) (by omega) (by omega)).mono ?_
    rintro e w2 ⟨he, g⟩
    rw [show lessN rr0 (szL shNode xs1) = -1 from if_pos hs1] at he
    subst he
    have G3_ := Lib.hid (show (W).grownBy (w2) none from gby_trans G2_.out g)
    clear g
    go_wp2
    go_ret
    exact ⟨rfl, gby_below G3_.out⟩
  obtain ⟨rr1, hr1⟩ : ∃ r, r = lessN rr0 (szL shNode xs1) := ⟨_, rfl⟩
  have hrr1 : rr1 = rr0 - (((szL shNode xs1) : Nat) : Int) := hr1.trans (if_neg hs1)
  have hn1 : ¬ rr1 < 0 := by omega
  have hu1 : rr1 ≤ 1048576 := by omega
  have hl0 : szL shBar xs0 ≤ 1048576 := by omega
  have hl1 : szL shNode xs1 ≤ 1048576 := by omega
  have HR0 := Lib.hid hr0
  clear hs0 hr0 hrr0
  have HR1 := Lib.hid hr1
  clear hs1 hr1 hrr1
  obtain ⟨br0, hs_, hi_⟩ := both xs0 xs1 hB64 hl0 hl1
  have HS := Lib.hid hs_
  have HM := Lib.hid hi_
  clear hs_ hi_
  try clear both
  have hb_br0 : (br0 != br0) = false := by simp
  go_enter Try.func3, Try.ntmps3
  have G1_ := Lib.hid (show (W).grownBy (W) none from (gby_refl _ _))
  go_wp2_with fail
  go_at_call 7
  refine (szBarS_d _ 1048576 a0 xs0 (HI0.out.grow G1_.out) (by omega) (by omega)).mono ?_
  rintro e w1 ⟨he, g⟩
  rw [← HR0.out] at he
  subst he
  have zs1 := World.grownBy.size g
  try simp only [World.size_alloc] at zs1
  have G2_ := Lib.hid (show (W).grownBy (w1) none from gby_trans G1_.out g)
  clear g
  go_wp2_with fail
  go_at_call 8
  refine (szNodeS_d _ rr0 a1 xs1 (HI1.out.grow G2_.out) (by omega) (by omega)).mono ?_
  rintro e w2 ⟨he, g⟩
  rw [← HR1.out] at he
  subst he
  have zs2 := World.grownBy.size g
  try simp only [World.size_alloc] at zs2
  have G3_ := Lib.hid (show (W).grownBy (w2) none from gby_trans G2_.out g)
  clear g
  go_wp2_with fail
  go_at_call 10
  refine (toBarS_d _ a0 xs0 (HI0.out.grow G3_.out) hl0).mono ?_
  rintro e w3 ⟨t10, rfl, o, g⟩
  have sz_ := g.size
  try simp only [World.size_alloc] at sz_
  try simp only [World.size_alloc] at o
  have zs3 := World.grownBy.size g
  try simp only [World.size_alloc] at zs3
  have G4_ := Lib.hid (show (W).grownBy (w3) none from gby_trans G3_.out g)
  clear g
  have szw3 := sz_
  clear sz_
  obtain ⟨t10p, t10n, t10c, hv_⟩ := RdL.form (OwL.rd o)
  subst hv_
  have oT15_ := Lib.hid (show OwU (w3) (w2.heap.size) (w3.heap.size) [] [own shBar (.slice t10p t10n t10c) xs0] from OwU.one o)
  clear o
  go_wp2_with fail
  go_at_call 11
  refine (toNodeS_d _ a1 xs1 (HI1.out.grow G4_.out) hl1).mono ?_
  rintro e w4 ⟨t21, rfl, o, g⟩
  have sz_ := g.size
  try simp only [World.size_alloc] at sz_
  try simp only [World.size_alloc] at o
  have zs4 := World.grownBy.size g
  try simp only [World.size_alloc] at zs4
  have oT16_ := Lib.hid (show OwU (w4) (w2.heap.size) (w3.heap.size) [] [own shBar (.slice t10p t10n t10c) xs0] from OwU.grow oT15_.out g)
  clear oT15_
  have G7_ := Lib.hid (show (W).grownBy (w4) none from gby_trans G4_.out g)
  clear g
  have szw4 := sz_
  clear sz_
  obtain ⟨t21p, t21n, t21c, hv_⟩ := RdL.form (OwL.rd o)
  subst hv_
  have oT28_ := Lib.hid (show OwU (w4) (w3.heap.size) (w4.heap.size) [] [own shNode (.slice t21p t21n t21c) xs1] from OwU.one o)
  clear o
  go_wp2_with fail
  go_at_call 9
  refine (HS.out _ (.slice t10p t10n t10c) (.slice t21p t21n t21c) (OwU.rd oT16_.out) (OwU.rd oT28_.out)).mono ?_
  rintro e w5 ⟨rfl, g⟩
  have sz_ := g.size
  try simp only [World.size_alloc] at sz_
  have zs5 := World.grownBy.size g
  try simp only [World.size_alloc] at zs5
  have oT19_ := Lib.hid (show OwU (w5) (w2.heap.size) (w3.heap.size) [] [own shBar (.slice t10p t10n t10c) xs0] from OwU.grow oT16_.out g)
  clear oT16_
  have oT210_ := Lib.hid (show OwU (w5) (w3.heap.size) (w4.heap.size) [] [own shNode (.slice t21p t21n t21c) xs1] from OwU.grow oT28_.out g)
  clear oT28_
  have G11_ := Lib.hid (show (W).grownBy (w5) none from gby_trans G7_.out g)
  clear g
  have szw5 := sz_
  clear sz_
  clear oT19_
  clear oT210_
  go_wp2_with fail
  go_at_call 10
  refine (toBarS_d _ a0 xs0 (HI0.out.grow G11_.out) hl0).mono ?_
  rintro e w6 ⟨x00, rfl, o, g⟩
  have sz_ := g.size
  try simp only [World.size_alloc] at sz_
  try simp only [World.size_alloc] at o
  have zs6 := World.grownBy.size g
  try simp only [World.size_alloc] at zs6
  have G12_ := Lib.hid (show (W).grownBy (w6) none from gby_trans G11_.out g)
  clear g
  have szw6 := sz_
  clear sz_
  obtain ⟨x00p, x00n, x00c, hv_⟩ := RdL.form (OwL.rd o)
  subst hv_
  have ox013_ := Lib.hid (show OwU (w6) (w5.heap.size) (w6.heap.size) [] [own shBar (.slice x00p x00n x00c) xs0] from OwU.one o)
  clear o
  go_wp2_with fail
  go_at_call 11
  refine (toNodeS_d _ a1 xs1 (HI1.out.grow G12_.out) hl1).mono ?_
  rintro e w7 ⟨x11, rfl, o, g⟩
  have sz_ := g.size
  try simp only [World.size_alloc] at sz_
  try simp only [World.size_alloc] at o
  have zs7 := World.grownBy.size g
  try simp only [World.size_alloc] at zs7
  have ox014_ := Lib.hid (show OwU (w7) (w5.heap.size) (w6.heap.size) [] [own shBar (.slice x00p x00n x00c) xs0] from OwU.grow ox013_.out g)
  clear ox013_
  have G15_ := Lib.hid (show (W).grownBy (w7) none from gby_trans G12_.out g)
  clear g
  have szw7 := sz_
  clear sz_
  obtain ⟨x11p, x11n, x11c, hv_⟩ := RdL.form (OwL.rd o)
  subst hv_
  have ox116_ := Lib.hid (show OwU (w7) (w6.heap.size) (w7.heap.size) [] [own shNode (.slice x11p x11n x11c) xs1] from OwU.one o)
  clear o
  go_wp2_with fail
  go_at_call 12
  refine (HM.out _ (.slice x00p x00n x00c) (.slice x11p x11n x11c) (OwU.rd ox014_.out) (OwU.rd ox116_.out)).mono ?_
  rintro e w8 ⟨rfl, g⟩
  have sz_ := g.size
  try simp only [World.size_alloc] at sz_
  have zs8 := World.grownBy.size g
  try simp only [World.size_alloc] at zs8
  have ox017_ := Lib.hid (show OwU (w8) (w5.heap.size) (w6.heap.size) [] [own shBar (.slice x00p x00n x00c) xs0] from OwU.grow ox014_.out g)
  clear ox014_
  have ox118_ := Lib.hid (show OwU (w8) (w6.heap.size) (w7.heap.size) [] [own shNode (.slice x11p x11n x11c) xs1] from OwU.grow ox116_.out g)
  clear ox116_
  have G19_ := Lib.hid (show (W).grownBy (w8) none from gby_trans G15_.out g)
  clear g
  have szw8 := sz_
  clear sz_
  go_wp2_with fail
  go_at_call 10
  refine (toBarS_d _ a0 xs0 (HI0.out.grow G19_.out) hl0).mono ?_
  rintro e w9 ⟨t30, rfl, o, g⟩
  have sz_ := g.size
  try simp only [World.size_alloc] at sz_
  try simp only [World.size_alloc] at o
  have zs9 := World.grownBy.size g
  try simp only [World.size_alloc] at zs9
  have ox020_ := Lib.hid (show OwU (w9) (w5.heap.size) (w6.heap.size) [] [own shBar (.slice x00p x00n x00c) xs0] from OwU.grow ox017_.out g)
  clear ox017_
  have ox121_ := Lib.hid (show OwU (w9) (w6.heap.size) (w7.heap.size) [] [own shNode (.slice x11p x11n x11c) xs1] from OwU.grow ox118_.out g)
  clear ox118_
  have G22_ := Lib.hid (show (W).grownBy (w9) none from gby_trans G19_.out g)
  clear g
  have szw9 := sz_
  clear sz_
  obtain ⟨t30p, t30n, t30c, hv_⟩ := RdL.form (OwL.rd o)
  subst hv_
  have oT323_ := Lib.hid (show OwU (w9) (w8.heap.size) (w9.heap.size) [] [own shBar (.slice t30p t30n t30c) xs0] from OwU.one o)
  clear o
  go_wp2_with fail
  go_at_call 13
  refine (eqBarS_d _ (.slice x00p x00n x00c) (.slice t30p t30n t30c) xs0 (OwU.rd ox020_.out) (OwU.rd oT323_.out) hl0).mono ?_
  rintro e w10 ⟨rfl, g⟩
  have zs10 := World.grownBy.size g
  try simp only [World.size_alloc] at zs10
  have ox024_ := Lib.hid (show OwU (w10) (w5.heap.size) (w6.heap.size) [] [own shBar (.slice x00p x00n x00c) xs0] from OwU.grow ox020_.out g)
  clear ox020_
  have ox125_ := Lib.hid (show OwU (w10) (w6.heap.size) (w7.heap.size) [] [own shNode (.slice x11p x11n x11c) xs1] from OwU.grow ox121_.out g)
  clear ox121_
  have oT326_ := Lib.hid (show OwU (w10) (w8.heap.size) (w9.heap.size) [] [own shBar (.slice t30p t30n t30c) xs0] from OwU.grow oT323_.out g)
  clear oT323_
  have G27_ := Lib.hid (show (W).grownBy (w10) none from gby_trans G22_.out g)
  clear g
  clear oT326_
  go_wp2_with fail
  go_at_call 11
  refine (toNodeS_d _ a1 xs1 (HI1.out.grow G27_.out) hl1).mono ?_
  rintro e w11 ⟨t41, rfl, o, g⟩
  have sz_ := g.size
  try simp only [World.size_alloc] at sz_
  try simp only [World.size_alloc] at o
  have zs11 := World.grownBy.size g
  try simp only [World.size_alloc] at zs11
  have ox028_ := Lib.hid (show OwU (w11) (w5.heap.size) (w6.heap.size) [] [own shBar (.slice x00p x00n x00c) xs0] from OwU.grow ox024_.out g)
  clear ox024_
  have ox129_ := Lib.hid (show OwU (w11) (w6.heap.size) (w7.heap.size) [] [own shNode (.slice x11p x11n x11c) xs1] from OwU.grow ox125_.out g)
  clear ox125_
  have G30_ := Lib.hid (show (W).grownBy (w11) none from gby_trans G27_.out g)
  clear g
  have szw11 := sz_
  clear sz_
  obtain ⟨t41p, t41n, t41c, hv_⟩ := RdL.form (OwL.rd o)
  subst hv_
  have oT431_ := Lib.hid (show OwU (w11) (w10.heap.size) (w11.heap.size) [] [own shNode (.slice t41p t41n t41c) xs1] from OwU.one o)
  clear o
  go_wp2_with fail
  go_at_call 14
  refine (eqNodeS_d _ (.slice x11p x11n x11c) (.slice t41p t41n t41c) xs1 (OwU.rd ox129_.out) (OwU.rd oT431_.out) hl1).mono ?_
  rintro e w12 ⟨rfl, g⟩
  have zs12 := World.grownBy.size g
  try simp only [World.size_alloc] at zs12
  have ox032_ := Lib.hid (show OwU (w12) (w5.heap.size) (w6.heap.size) [] [own shBar (.slice x00p x00n x00c) xs0] from OwU.grow ox028_.out g)
  clear ox028_
  have ox133_ := Lib.hid (show OwU (w12) (w6.heap.size) (w7.heap.size) [] [own shNode (.slice x11p x11n x11c) xs1] from OwU.grow ox129_.out g)
  clear ox129_
  have oT434_ := Lib.hid (show OwU (w12) (w10.heap.size) (w11.heap.size) [] [own shNode (.slice t41p t41n t41c) xs1] from OwU.grow oT431_.out g)
  clear oT431_
  have G35_ := Lib.hid (show (W).grownBy (w12) none from gby_trans G30_.out g)
  clear g
  clear oT434_
  go_wp2
  go_ret
  exact ⟨rfl, gby_below G35_.out⟩

end Go.Proofs.Ytdddidnibelmhaa
