/-
  The walk of FnExactRouteToAddress: at every argument the program answers as its model and writes nothing that was there, and its answer owns its memory.
-/
import Derived.Test.YtdddidnibelmhaaQSBar
import Derived.Test.YtdddidnibelmhaaQSNode
import Derived.Test.YtdddidnibelmhaaRRouteToAddress
import Derived.Test.YtdddidnibelmhaaShpI
import Derived.WalkKit
import Derived.Deep.RegionHeld3
import Derived.Below
namespace Go.Proofs.Ytdddidnibelmhaa
open Go Go.RowKit

set_option maxRecDepth 8000 in
set_option maxHeartbeats 16000000 in
theorem walk_exactRouteToAddress_of (both : ∀ (xs0 : List DNode) (xs1 : List DBar) (i2 : Int) (i3 : Int), szL shNode xs0 ≤ 1048576 → szL shBar xs1 ≤ 1048576 → ∃ (xsr0 : List Int), szL shI xsr0 ≤ 1048576 ∧ (∀ (W : World), ∀ u0 u1, RdL shNode W u0 xs0 → RdL shBar W u1 xs1 → Calls Try.prog 24 #[u0, u1, .int .i64 i2, .int .i64 i3] W (ResSRouteToAddress xsr0 W)) ∧ ∀ (W : World), ∀ u0 u1, RdL shNode W u0 xs0 → RdL shBar W u1 xs1 → Calls Try.prog 25 #[u0, u1, .int .i64 i2, .int .i64 i3] W (ResIRouteToAddress xsr0 W))
    (W : World) (a0 : Value) (xs0 : List DNode) (a1 : Value) (xs1 : List DBar) (i2 : Int) (i3 : Int) (H0 : RdL shNode W a0 xs0) (H1 : RdL shBar W a1 xs1) :
    Calls Try.prog 6 #[a0, a1, .int .i64 i2, .int .i64 i3] W fun e w' => e = .returned (.bool true) ∧ Below W.heap.size W w' := by
  have HI0 := Lib.hid H0
  have hmx0 := H0.max
  clear H0
  have HI1 := Lib.hid H1
  have hmx1 := H1.max
  clear H1
  by_cases hs0 : (1048576 : Int) < (((szL shNode xs0) : Nat) : Int)
  · have hneg : (-1 : Int) < 0 := by omega
    go_enter Try.func6, Try.ntmps6
    have G1_ := Lib.hid (show (W).grownBy (W) none from (gby_refl _ _))
    go_wp2_with fail
    go_at_call 8
    refine (szNodeS_d _ 1048576 a0 xs0 (HI0.out.grow G1_.out) (by omega) (by omega)).mono ?_
    rintro e w1 ⟨he, g⟩
    rw [show lessN 1048576 (szL shNode xs0) = -1 from if_pos hs0] at he
    subst he
    have G2_ := Lib.hid (show (W).grownBy (w1) none from gby_trans G1_.out g)
    clear g
    go_wp2
    go_ret
    exact ⟨rfl, gby_below G2_.out⟩
  obtain ⟨rr0, hr0⟩ : ∃ r, r = lessN 1048576 (szL shNode xs0) := ⟨_, rfl⟩
  have hrr0 : rr0 = (1048576 : Int) - (((szL shNode xs0) : Nat) : Int) := hr0.trans (if_neg hs0)
  have hn0 : ¬ rr0 < 0 := by omega
  have hu0 : rr0 ≤ 1048576 := by omega
  by_cases hs1 : rr0 < (((szL shBar xs1) : Nat) : Int)
  · have hneg : (-1 : Int) < 0 := by omega
    have HR0 := Lib.hid hr0
    clear hr0 hrr0
    go_enter Try.func6, Try.ntmps6
    have G1_ := Lib.hid (show (W).grownBy (W) none from (gby_refl _ _))
    go_wp2_with fail
    go_at_call 8
    refine (szNodeS_d _ 1048576 a0 xs0 (HI0.out.grow G1_.out) (by omega) (by omega)).mono ?_
    rintro e w1 ⟨he, g⟩
    rw [← HR0.out] at he
    subst he
    have G2_ := Lib.hid (show (W).grownBy (w1) none from gby_trans G1_.out g)
    clear g
    go_wp2_with fail
    go_at_call 7
    refine (szBarS_d _ rr0 a1 xs1 (HI1.out.grow G2_.out) (by omega) (by omega)).mono ?_
    rintro e w2 ⟨he, g⟩
    rw [show lessN rr0 (szL shBar xs1) = -1 from if_pos hs1] at he
    subst he
    have G3_ := Lib.hid (show (W).grownBy (w2) none from gby_trans G2_.out g)
    clear g
    go_wp2
    go_ret
    exact ⟨rfl, gby_below G3_.out⟩
  obtain ⟨rr1, hr1⟩ : ∃ r, r = lessN rr0 (szL shBar xs1) := ⟨_, rfl⟩
  have hrr1 : rr1 = rr0 - (((szL shBar xs1) : Nat) : Int) := hr1.trans (if_neg hs1)
  have hn1 : ¬ rr1 < 0 := by omega
  have hu1 : rr1 ≤ 1048576 := by omega
  have hl0 : szL shNode xs0 ≤ 1048576 := by omega
  have hl1 : szL shBar xs1 ≤ 1048576 := by omega
  have HR0 := Lib.hid hr0
  clear hs0 hr0 hrr0
  have HR1 := Lib.hid hr1
  clear hs1 hr1 hrr1
  obtain ⟨xsr0, hLr0, hs_, hi_⟩ := both xs0 xs1 i2 i3 hl0 hl1
  have HS := Lib.hid hs_
  have HM := Lib.hid hi_
  clear hs_ hi_
  try clear both
  have hq0 : ecL shNode xs0 ≤ 104857600 := Nat.le_trans (ecL_le _ _) (Nat.le_trans (Nat.mul_le_mul_left _ hl0) (Nat.mul_le_mul_right 1048576 (show shNode.c ≤ 100 by decide)))
  have hq1 : ecL shBar xs1 ≤ 104857600 := Nat.le_trans (ecL_le _ _) (Nat.le_trans (Nat.mul_le_mul_left _ hl1) (Nat.mul_le_mul_right 1048576 (show shBar.c ≤ 100 by decide)))
  have hqr0 : ecL shI xsr0 ≤ 104857600 := Nat.le_trans (ecL_le _ _) (Nat.le_trans (Nat.mul_le_mul_left _ hLr0) (Nat.mul_le_mul_right 1048576 (show shI.c ≤ 100 by decide)))
  go_enter Try.func6, Try.ntmps6
  have G1_ := Lib.hid (show (W).grownBy (W) none from (gby_refl _ _))
  go_wp2_with fail
  go_at_call 8
  refine (szNodeS_d _ 1048576 a0 xs0 (HI0.out.grow G1_.out) (by omega) (by omega)).mono ?_
  rintro e w1 ⟨he, g⟩
  rw [← HR0.out] at he
  subst he
  have zs1 := World.grownBy.size g
  try simp only [World.size_alloc] at zs1
  have G2_ := Lib.hid (show (W).grownBy (w1) none from gby_trans G1_.out g)
  clear g
  go_wp2_with fail
  go_at_call 7
  refine (szBarS_d _ rr0 a1 xs1 (HI1.out.grow G2_.out) (by omega) (by omega)).mono ?_
  rintro e w2 ⟨he, g⟩
  rw [← HR1.out] at he
  subst he
  have zs2 := World.grownBy.size g
  try simp only [World.size_alloc] at zs2
  have G3_ := Lib.hid (show (W).grownBy (w2) none from gby_trans G2_.out g)
  clear g
  go_wp2_with fail
  go_at_call 11
  refine (toNodeS_d _ a0 xs0 (HI0.out.grow G3_.out) hl0).mono ?_
  rintro e w3 ⟨t10, rfl, o, g⟩
  have sz_ := g.size
  try simp only [World.size_alloc] at sz_
  try simp only [World.size_alloc] at o
  have zs3 := World.grownBy.size g
  try simp only [World.size_alloc] at zs3
  have G4_ := Lib.hid (show (W).grownBy (w3) none from gby_trans G3_.out g)
  clear g
  have szw3 := sz_
  clear sz_
  obtain ⟨t10p, t10n, t10c, hv_⟩ := RdL.form (OwL.rd o)
  subst hv_
  have oT15_ := Lib.hid (show OwU (w3) (w2.heap.size) (w3.heap.size) [] [own shNode (.slice t10p t10n t10c) xs0] from OwU.one o)
  clear o
  go_wp2_with fail
  go_at_call 10
  refine (toBarS_d _ a1 xs1 (HI1.out.grow G4_.out) hl1).mono ?_
  rintro e w4 ⟨t21, rfl, o, g⟩
  have sz_ := g.size
  try simp only [World.size_alloc] at sz_
  try simp only [World.size_alloc] at o
  have zs4 := World.grownBy.size g
  try simp only [World.size_alloc] at zs4
  have oT16_ := Lib.hid (show OwU (w4) (w2.heap.size) (w3.heap.size) [] [own shNode (.slice t10p t10n t10c) xs0] from OwU.grow oT15_.out g)
  clear oT15_
  have G7_ := Lib.hid (show (W).grownBy (w4) none from gby_trans G4_.out g)
  clear g
  have szw4 := sz_
  clear sz_
  obtain ⟨t21p, t21n, t21c, hv_⟩ := RdL.form (OwL.rd o)
  subst hv_
  have oT28_ := Lib.hid (show OwU (w4) (w3.heap.size) (w4.heap.size) [] [own shBar (.slice t21p t21n t21c) xs1] from OwU.one o)
  clear o
  go_wp2_with fail
  go_at_call 24
  refine (HS.out _ (.slice t10p t10n t10c) (.slice t21p t21n t21c) (OwU.rd oT16_.out) (OwU.rd oT28_.out)).mono ?_
  rintro e w5 ⟨wr0, rfl, or0, g⟩
  have sz_ := g.size
  try simp only [World.size_alloc] at sz_
  have zs5 := World.grownBy.size g
  try simp only [World.size_alloc] at zs5
  have oT19_ := Lib.hid (show OwU (w5) (w2.heap.size) (w3.heap.size) [] [own shNode (.slice t10p t10n t10c) xs0] from OwU.grow oT16_.out g)
  clear oT16_
  have oT210_ := Lib.hid (show OwU (w5) (w3.heap.size) (w4.heap.size) [] [own shBar (.slice t21p t21n t21c) xs1] from OwU.grow oT28_.out g)
  clear oT28_
  have G11_ := Lib.hid (show (W).grownBy (w5) none from gby_trans G7_.out g)
  clear g
  have szw5 := sz_
  clear sz_
  obtain ⟨wr0p, wr0n, wr0c, hv_⟩ := RdL.form (or0)
  subst hv_
  have rd12_ := Lib.hid or0
  clear or0
  have qG13_ := Lib.hid (gby_refl w5 none)
  clear oT19_
  clear oT210_
  go_wp2_with fail
  go_at_call 11
  refine (toNodeS_d _ a0 xs0 (HI0.out.grow G11_.out) hl0).mono ?_
  rintro e w6 ⟨x00, rfl, o, g⟩
  have sz_ := g.size
  try simp only [World.size_alloc] at sz_
  try simp only [World.size_alloc] at o
  have zs6 := World.grownBy.size g
  try simp only [World.size_alloc] at zs6
  have G14_ := Lib.hid (show (W).grownBy (w6) none from gby_trans G11_.out g)
  have qw15_ := Lib.hid (show (w5).grownBy (w6) none from gby_trans qG13_.out g)
  clear qG13_
  clear g
  have szw6 := sz_
  clear sz_
  obtain ⟨x00p, x00n, x00c, hv_⟩ := RdL.form (OwL.rd o)
  subst hv_
  have ox016_ := Lib.hid (show OwU (w6) (w5.heap.size) (w6.heap.size) [] [own shNode (.slice x00p x00n x00c) xs0] from OwU.one o)
  clear o
  go_wp2_with fail
  go_at_call 10
  refine (toBarS_d _ a1 xs1 (HI1.out.grow G14_.out) hl1).mono ?_
  rintro e w7 ⟨x11, rfl, o, g⟩
  have sz_ := g.size
  try simp only [World.size_alloc] at sz_
  try simp only [World.size_alloc] at o
  have zs7 := World.grownBy.size g
  try simp only [World.size_alloc] at zs7
  have ox017_ := Lib.hid (show OwU (w7) (w5.heap.size) (w6.heap.size) [] [own shNode (.slice x00p x00n x00c) xs0] from OwU.grow ox016_.out g)
  clear ox016_
  have G18_ := Lib.hid (show (W).grownBy (w7) none from gby_trans G14_.out g)
  have qw19_ := Lib.hid (show (w5).grownBy (w7) none from gby_trans qw15_.out g)
  clear qw15_
  clear g
  have szw7 := sz_
  clear sz_
  obtain ⟨x11p, x11n, x11c, hv_⟩ := RdL.form (OwL.rd o)
  subst hv_
  have ox120_ := Lib.hid (show OwU (w7) (w6.heap.size) (w7.heap.size) [] [own shBar (.slice x11p x11n x11c) xs1] from OwU.one o)
  clear o
  go_wp2_with fail
  go_at_call 25
  refine (HM.out _ (.slice x00p x00n x00c) (.slice x11p x11n x11c) (OwU.rd ox017_.out) (OwU.rd ox120_.out)).mono ?_
  rintro e w8 ⟨gr0, rfl, o, g⟩
  have sz_ := g.size
  try simp only [World.size_alloc] at sz_
  try simp only [World.size_alloc] at o
  have zs8 := World.grownBy.size g
  try simp only [World.size_alloc] at zs8
  have ox021_ := Lib.hid (show OwU (w8) (w5.heap.size) (w6.heap.size) [] [own shNode (.slice x00p x00n x00c) xs0] from OwU.grow ox017_.out g)
  clear ox017_
  have ox122_ := Lib.hid (show OwU (w8) (w6.heap.size) (w7.heap.size) [] [own shBar (.slice x11p x11n x11c) xs1] from OwU.grow ox120_.out g)
  clear ox120_
  have G23_ := Lib.hid (show (W).grownBy (w8) none from gby_trans G18_.out g)
  have qw24_ := Lib.hid (show (w5).grownBy (w8) none from gby_trans qw19_.out g)
  clear qw19_
  clear g
  have szw8 := sz_
  clear sz_
  obtain ⟨gr0p, gr0n, gr0c, hv_⟩ := RdL.form (OwU.rd o)
  subst hv_
  have og25_ := Lib.hid (show OwU (w8) (w7.heap.size) (w8.heap.size) [] [own shI (.slice gr0p gr0n gr0c) xsr0] from o)
  clear o
  go_wp2_with fail
  go_at_call 19
  refine (eqIntS_d _ (.slice gr0p gr0n gr0c) (.slice wr0p wr0n wr0c) xsr0 (OwU.rd og25_.out) (RdL.grow rd12_.out qw24_.out) hLr0).mono ?_
  rintro e w9 ⟨rfl, g⟩
  have zs9 := World.grownBy.size g
  try simp only [World.size_alloc] at zs9
  have ox026_ := Lib.hid (show OwU (w9) (w5.heap.size) (w6.heap.size) [] [own shNode (.slice x00p x00n x00c) xs0] from OwU.grow ox021_.out g)
  clear ox021_
  have ox127_ := Lib.hid (show OwU (w9) (w6.heap.size) (w7.heap.size) [] [own shBar (.slice x11p x11n x11c) xs1] from OwU.grow ox122_.out g)
  clear ox122_
  have og28_ := Lib.hid (show OwU (w9) (w7.heap.size) (w8.heap.size) [] [own shI (.slice gr0p gr0n gr0c) xsr0] from OwU.grow og25_.out g)
  clear og25_
  have G29_ := Lib.hid (show (W).grownBy (w9) none from gby_trans G23_.out g)
  have qw30_ := Lib.hid (show (w5).grownBy (w9) none from gby_trans qw24_.out g)
  clear qw24_
  clear g
  go_wp2_with fail
  go_at_call 11
  refine (toNodeS_d _ a0 xs0 (HI0.out.grow G29_.out) hl0).mono ?_
  rintro e w10 ⟨t30, rfl, o, g⟩
  have sz_ := g.size
  try simp only [World.size_alloc] at sz_
  try simp only [World.size_alloc] at o
  have zs10 := World.grownBy.size g
  try simp only [World.size_alloc] at zs10
  have ox031_ := Lib.hid (show OwU (w10) (w5.heap.size) (w6.heap.size) [] [own shNode (.slice x00p x00n x00c) xs0] from OwU.grow ox026_.out g)
  clear ox026_
  have ox132_ := Lib.hid (show OwU (w10) (w6.heap.size) (w7.heap.size) [] [own shBar (.slice x11p x11n x11c) xs1] from OwU.grow ox127_.out g)
  clear ox127_
  have og33_ := Lib.hid (show OwU (w10) (w7.heap.size) (w8.heap.size) [] [own shI (.slice gr0p gr0n gr0c) xsr0] from OwU.grow og28_.out g)
  clear og28_
  have G34_ := Lib.hid (show (W).grownBy (w10) none from gby_trans G29_.out g)
  have qw35_ := Lib.hid (show (w5).grownBy (w10) none from gby_trans qw30_.out g)
  clear qw30_
  clear g
  have szw10 := sz_
  clear sz_
  obtain ⟨t30p, t30n, t30c, hv_⟩ := RdL.form (OwL.rd o)
  subst hv_
  have oT336_ := Lib.hid (show OwU (w10) (w9.heap.size) (w10.heap.size) [] [own shNode (.slice t30p t30n t30c) xs0] from OwU.one o)
  clear o
  go_wp2_with fail
  go_at_call 14
  refine (eqNodeS_d _ (.slice x00p x00n x00c) (.slice t30p t30n t30c) xs0 (OwU.rd ox031_.out) (OwU.rd oT336_.out) hl0).mono ?_
  rintro e w11 ⟨rfl, g⟩
  have zs11 := World.grownBy.size g
  try simp only [World.size_alloc] at zs11
  have ox037_ := Lib.hid (show OwU (w11) (w5.heap.size) (w6.heap.size) [] [own shNode (.slice x00p x00n x00c) xs0] from OwU.grow ox031_.out g)
  clear ox031_
  have ox138_ := Lib.hid (show OwU (w11) (w6.heap.size) (w7.heap.size) [] [own shBar (.slice x11p x11n x11c) xs1] from OwU.grow ox132_.out g)
  clear ox132_
  have og39_ := Lib.hid (show OwU (w11) (w7.heap.size) (w8.heap.size) [] [own shI (.slice gr0p gr0n gr0c) xsr0] from OwU.grow og33_.out g)
  clear og33_
  have oT340_ := Lib.hid (show OwU (w11) (w9.heap.size) (w10.heap.size) [] [own shNode (.slice t30p t30n t30c) xs0] from OwU.grow oT336_.out g)
  clear oT336_
  have G41_ := Lib.hid (show (W).grownBy (w11) none from gby_trans G34_.out g)
  have qw42_ := Lib.hid (show (w5).grownBy (w11) none from gby_trans qw35_.out g)
  clear qw35_
  clear g
  clear oT340_
  go_wp2_with fail
  go_at_call 10
  refine (toBarS_d _ a1 xs1 (HI1.out.grow G41_.out) hl1).mono ?_
  rintro e w12 ⟨t41, rfl, o, g⟩
  have sz_ := g.size
  try simp only [World.size_alloc] at sz_
  try simp only [World.size_alloc] at o
  have zs12 := World.grownBy.size g
  try simp only [World.size_alloc] at zs12
  have ox043_ := Lib.hid (show OwU (w12) (w5.heap.size) (w6.heap.size) [] [own shNode (.slice x00p x00n x00c) xs0] from OwU.grow ox037_.out g)
  clear ox037_
  have ox144_ := Lib.hid (show OwU (w12) (w6.heap.size) (w7.heap.size) [] [own shBar (.slice x11p x11n x11c) xs1] from OwU.grow ox138_.out g)
  clear ox138_
  have og45_ := Lib.hid (show OwU (w12) (w7.heap.size) (w8.heap.size) [] [own shI (.slice gr0p gr0n gr0c) xsr0] from OwU.grow og39_.out g)
  clear og39_
  have G46_ := Lib.hid (show (W).grownBy (w12) none from gby_trans G41_.out g)
  have qw47_ := Lib.hid (show (w5).grownBy (w12) none from gby_trans qw42_.out g)
  clear qw42_
  clear g
  have szw12 := sz_
  clear sz_
  obtain ⟨t41p, t41n, t41c, hv_⟩ := RdL.form (OwL.rd o)
  subst hv_
  have oT448_ := Lib.hid (show OwU (w12) (w11.heap.size) (w12.heap.size) [] [own shBar (.slice t41p t41n t41c) xs1] from OwU.one o)
  clear o
  go_wp2_with fail
  go_at_call 13
  refine (eqBarS_d _ (.slice x11p x11n x11c) (.slice t41p t41n t41c) xs1 (OwU.rd ox144_.out) (OwU.rd oT448_.out) hl1).mono ?_
  rintro e w13 ⟨rfl, g⟩
  have zs13 := World.grownBy.size g
  try simp only [World.size_alloc] at zs13
  have ox049_ := Lib.hid (show OwU (w13) (w5.heap.size) (w6.heap.size) [] [own shNode (.slice x00p x00n x00c) xs0] from OwU.grow ox043_.out g)
  clear ox043_
  have ox150_ := Lib.hid (show OwU (w13) (w6.heap.size) (w7.heap.size) [] [own shBar (.slice x11p x11n x11c) xs1] from OwU.grow ox144_.out g)
  clear ox144_
  have og51_ := Lib.hid (show OwU (w13) (w7.heap.size) (w8.heap.size) [] [own shI (.slice gr0p gr0n gr0c) xsr0] from OwU.grow og45_.out g)
  clear og45_
  have oT452_ := Lib.hid (show OwU (w13) (w11.heap.size) (w12.heap.size) [] [own shBar (.slice t41p t41n t41c) xs1] from OwU.grow oT448_.out g)
  clear oT448_
  have G53_ := Lib.hid (show (W).grownBy (w13) none from gby_trans G46_.out g)
  have qw54_ := Lib.hid (show (w5).grownBy (w13) none from gby_trans qw47_.out g)
  clear qw47_
  clear g
  clear oT452_
  obtain ⟨lo_, hi_, l_, u_, _, oo, ff⟩ := OwU.focus (pre := []) (p := own shNode (.slice x00p x00n x00c) xs0) (post := []) ox049_.out
  have FF := Lib.hid ff
  clear ff
  go_wp2_with fail
  go_at_call 20
  refine (markNodeS_d _ lo_ hi_ (1) (.slice x00p x00n x00c) xs0 oo hl0 (by omega)).mono ?_
  rintro e w14 ⟨rfl, o, c⟩
  have o_ := c
  have c' := chg_wide c (lo' := w5.heap.size) (hi' := w6.heap.size) l_ u_
  clear c
  have c := c'
  clear c'
  have szw14 := c.size
  try simp only [World.size_alloc] at szw14
  have ox155_ := Lib.hid (show OwU (w14) (w6.heap.size) (w7.heap.size) [] [own shBar (.slice x11p x11n x11c) xs1] from OwU.keep c (by omega) ox150_.out)
  clear ox150_
  have og56_ := Lib.hid (show OwU (w14) (w7.heap.size) (w8.heap.size) [] [own shI (.slice gr0p gr0n gr0c) xsr0] from OwU.keep c (by omega) og51_.out)
  clear og51_
  have G57_ := Lib.hid (show (W).grownBy (w14) none from gby_chg G53_.out c (by omega))
  have qw58_ := Lib.hid (show (w5).grownBy (w14) none from gby_chg qw54_.out c (by omega))
  clear qw54_
  have ox059_ := Lib.hid (show OwU (w14) (w5.heap.size) (w6.heap.size) [] [own shNode (.slice x00p x00n x00c) (emL shNode (1) xs0)] from FF.out _ (own shNode (.slice x00p x00n x00c) (emL shNode (1) xs0)) o_ o)
  clear ox049_ o c oo FF o_
  obtain ⟨lo_, hi_, l_, u_, _, oo, ff⟩ := OwU.focus (pre := []) (p := own shBar (.slice x11p x11n x11c) xs1) (post := []) ox155_.out
  have FF := Lib.hid ff
  clear ff
  go_wp2_with fail
  go_at_call 21
  refine (markBarS_d _ lo_ hi_ (1 + ecL shNode xs0) (.slice x11p x11n x11c) xs1 oo hl1 (by omega)).mono ?_
  rintro e w15 ⟨rfl, o, c⟩
  have o_ := c
  have c' := chg_wide c (lo' := w6.heap.size) (hi' := w7.heap.size) l_ u_
  clear c
  have c := c'
  clear c'
  have szw15 := c.size
  try simp only [World.size_alloc] at szw15
  have ox060_ := Lib.hid (show OwU (w15) (w5.heap.size) (w6.heap.size) [] [own shNode (.slice x00p x00n x00c) (emL shNode (1) xs0)] from OwU.keep c (by omega) ox059_.out)
  clear ox059_
  have og61_ := Lib.hid (show OwU (w15) (w7.heap.size) (w8.heap.size) [] [own shI (.slice gr0p gr0n gr0c) xsr0] from OwU.keep c (by omega) og56_.out)
  clear og56_
  have G62_ := Lib.hid (show (W).grownBy (w15) none from gby_chg G57_.out c (by omega))
  have qw63_ := Lib.hid (show (w5).grownBy (w15) none from gby_chg qw58_.out c (by omega))
  clear qw58_
  have ox164_ := Lib.hid (show OwU (w15) (w6.heap.size) (w7.heap.size) [] [own shBar (.slice x11p x11n x11c) (emL shBar (1 + ecL shNode xs0) xs1)] from FF.out _ (own shBar (.slice x11p x11n x11c) (emL shBar (1 + ecL shNode xs0) xs1)) o_ o)
  clear ox155_ o c oo FF o_
  go_wp2_with fail
  go_at_call 19
  refine (eqIntS_d _ (.slice gr0p gr0n gr0c) (.slice wr0p wr0n wr0c) xsr0 (OwU.rd og61_.out) (RdL.grow rd12_.out qw63_.out) hLr0).mono ?_
  rintro e w16 ⟨rfl, g⟩
  have zs14 := World.grownBy.size g
  try simp only [World.size_alloc] at zs14
  have ox065_ := Lib.hid (show OwU (w16) (w5.heap.size) (w6.heap.size) [] [own shNode (.slice x00p x00n x00c) (emL shNode (1) xs0)] from OwU.grow ox060_.out g)
  clear ox060_
  have ox166_ := Lib.hid (show OwU (w16) (w6.heap.size) (w7.heap.size) [] [own shBar (.slice x11p x11n x11c) (emL shBar (1 + ecL shNode xs0) xs1)] from OwU.grow ox164_.out g)
  clear ox164_
  have og67_ := Lib.hid (show OwU (w16) (w7.heap.size) (w8.heap.size) [] [own shI (.slice gr0p gr0n gr0c) xsr0] from OwU.grow og61_.out g)
  clear og61_
  have G68_ := Lib.hid (show (W).grownBy (w16) none from gby_trans G62_.out g)
  have qw69_ := Lib.hid (show (w5).grownBy (w16) none from gby_trans qw63_.out g)
  clear qw63_
  clear g
  obtain ⟨lo_, hi_, l_, u_, _, oo, ff⟩ := OwU.focus (pre := []) (p := own shI (.slice gr0p gr0n gr0c) xsr0) (post := []) og67_.out
  have FF := Lib.hid ff
  clear ff
  go_wp2_with fail
  go_at_call 22
  refine (markIntS_d _ lo_ hi_ (1) (.slice gr0p gr0n gr0c) xsr0 oo hLr0 (by omega)).mono ?_
  rintro e w17 ⟨rfl, o, c⟩
  have o_ := c
  have c' := chg_wide c (lo' := w7.heap.size) (hi' := w8.heap.size) l_ u_
  clear c
  have c := c'
  clear c'
  have szw17 := c.size
  try simp only [World.size_alloc] at szw17
  have ox070_ := Lib.hid (show OwU (w17) (w5.heap.size) (w6.heap.size) [] [own shNode (.slice x00p x00n x00c) (emL shNode (1) xs0)] from OwU.keep c (by omega) ox065_.out)
  clear ox065_
  have ox171_ := Lib.hid (show OwU (w17) (w6.heap.size) (w7.heap.size) [] [own shBar (.slice x11p x11n x11c) (emL shBar (1 + ecL shNode xs0) xs1)] from OwU.keep c (by omega) ox166_.out)
  clear ox166_
  have G72_ := Lib.hid (show (W).grownBy (w17) none from gby_chg G68_.out c (by omega))
  have qw73_ := Lib.hid (show (w5).grownBy (w17) none from gby_chg qw69_.out c (by omega))
  clear qw69_
  have og74_ := Lib.hid (show OwU (w17) (w7.heap.size) (w8.heap.size) [] [own shI (.slice gr0p gr0n gr0c) (emL shI (1) xsr0)] from FF.out _ (own shI (.slice gr0p gr0n gr0c) (emL shI (1) xsr0)) o_ o)
  clear og67_ o c oo FF o_
  go_wp2_with fail
  go_at_call 23
  refine (heldIntS_d _ (1) (.slice gr0p gr0n gr0c) xsr0 (OwU.rd og74_.out) hLr0 (by omega)).mono ?_
  rintro e w18 ⟨rfl, g⟩
  have zs15 := World.grownBy.size g
  try simp only [World.size_alloc] at zs15
  have ox075_ := Lib.hid (show OwU (w18) (w5.heap.size) (w6.heap.size) [] [own shNode (.slice x00p x00n x00c) (emL shNode (1) xs0)] from OwU.grow ox070_.out g)
  clear ox070_
  have ox176_ := Lib.hid (show OwU (w18) (w6.heap.size) (w7.heap.size) [] [own shBar (.slice x11p x11n x11c) (emL shBar (1 + ecL shNode xs0) xs1)] from OwU.grow ox171_.out g)
  clear ox171_
  have og77_ := Lib.hid (show OwU (w18) (w7.heap.size) (w8.heap.size) [] [own shI (.slice gr0p gr0n gr0c) (emL shI (1) xsr0)] from OwU.grow og74_.out g)
  clear og74_
  have G78_ := Lib.hid (show (W).grownBy (w18) none from gby_trans G72_.out g)
  have qw79_ := Lib.hid (show (w5).grownBy (w18) none from gby_trans qw73_.out g)
  clear qw73_
  clear g
  have ng18 : ¬ (((1 + ecL shI xsr0 : Nat) : Int) < 0) := by omega
  go_wp2_with fail
  go_at_call 11
  refine (toNodeS_d _ a0 xs0 (HI0.out.grow G78_.out) hl0).mono ?_
  rintro e w19 ⟨t50, rfl, o, g⟩
  have sz_ := g.size
  try simp only [World.size_alloc] at sz_
  try simp only [World.size_alloc] at o
  have zs16 := World.grownBy.size g
  try simp only [World.size_alloc] at zs16
  have ox080_ := Lib.hid (show OwU (w19) (w5.heap.size) (w6.heap.size) [] [own shNode (.slice x00p x00n x00c) (emL shNode (1) xs0)] from OwU.grow ox075_.out g)
  clear ox075_
  have ox181_ := Lib.hid (show OwU (w19) (w6.heap.size) (w7.heap.size) [] [own shBar (.slice x11p x11n x11c) (emL shBar (1 + ecL shNode xs0) xs1)] from OwU.grow ox176_.out g)
  clear ox176_
  have og82_ := Lib.hid (show OwU (w19) (w7.heap.size) (w8.heap.size) [] [own shI (.slice gr0p gr0n gr0c) (emL shI (1) xsr0)] from OwU.grow og77_.out g)
  clear og77_
  have G83_ := Lib.hid (show (W).grownBy (w19) none from gby_trans G78_.out g)
  have qw84_ := Lib.hid (show (w5).grownBy (w19) none from gby_trans qw79_.out g)
  clear qw79_
  clear g
  have szw19 := sz_
  clear sz_
  obtain ⟨t50p, t50n, t50c, hv_⟩ := RdL.form (OwL.rd o)
  subst hv_
  have oT585_ := Lib.hid (show OwU (w19) (w18.heap.size) (w19.heap.size) [] [own shNode (.slice t50p t50n t50c) xs0] from OwU.one o)
  clear o
  go_wp2_with fail
  go_at_call 10
  refine (toBarS_d _ a1 xs1 (HI1.out.grow G83_.out) hl1).mono ?_
  rintro e w20 ⟨t61, rfl, o, g⟩
  have sz_ := g.size
  try simp only [World.size_alloc] at sz_
  try simp only [World.size_alloc] at o
  have zs17 := World.grownBy.size g
  try simp only [World.size_alloc] at zs17
  have ox086_ := Lib.hid (show OwU (w20) (w5.heap.size) (w6.heap.size) [] [own shNode (.slice x00p x00n x00c) (emL shNode (1) xs0)] from OwU.grow ox080_.out g)
  clear ox080_
  have ox187_ := Lib.hid (show OwU (w20) (w6.heap.size) (w7.heap.size) [] [own shBar (.slice x11p x11n x11c) (emL shBar (1 + ecL shNode xs0) xs1)] from OwU.grow ox181_.out g)
  clear ox181_
  have og88_ := Lib.hid (show OwU (w20) (w7.heap.size) (w8.heap.size) [] [own shI (.slice gr0p gr0n gr0c) (emL shI (1) xsr0)] from OwU.grow og82_.out g)
  clear og82_
  have oT589_ := Lib.hid (show OwU (w20) (w18.heap.size) (w19.heap.size) [] [own shNode (.slice t50p t50n t50c) xs0] from OwU.grow oT585_.out g)
  clear oT585_
  have G90_ := Lib.hid (show (W).grownBy (w20) none from gby_trans G83_.out g)
  have qw91_ := Lib.hid (show (w5).grownBy (w20) none from gby_trans qw84_.out g)
  clear qw84_
  clear g
  have szw20 := sz_
  clear sz_
  obtain ⟨t61p, t61n, t61c, hv_⟩ := RdL.form (OwL.rd o)
  subst hv_
  have oT692_ := Lib.hid (show OwU (w20) (w19.heap.size) (w20.heap.size) [] [own shBar (.slice t61p t61n t61c) xs1] from OwU.one o)
  clear o
  go_wp2_with fail
  go_at_call 25
  refine (HM.out _ (.slice t50p t50n t50c) (.slice t61p t61n t61c) (OwU.rd oT589_.out) (OwU.rd oT692_.out)).mono ?_
  rintro e w21 ⟨hr0, rfl, o, g⟩
  have sz_ := g.size
  try simp only [World.size_alloc] at sz_
  try simp only [World.size_alloc] at o
  have zs18 := World.grownBy.size g
  try simp only [World.size_alloc] at zs18
  have ox093_ := Lib.hid (show OwU (w21) (w5.heap.size) (w6.heap.size) [] [own shNode (.slice x00p x00n x00c) (emL shNode (1) xs0)] from OwU.grow ox086_.out g)
  clear ox086_
  have ox194_ := Lib.hid (show OwU (w21) (w6.heap.size) (w7.heap.size) [] [own shBar (.slice x11p x11n x11c) (emL shBar (1 + ecL shNode xs0) xs1)] from OwU.grow ox187_.out g)
  clear ox187_
  have og95_ := Lib.hid (show OwU (w21) (w7.heap.size) (w8.heap.size) [] [own shI (.slice gr0p gr0n gr0c) (emL shI (1) xsr0)] from OwU.grow og88_.out g)
  clear og88_
  have oT596_ := Lib.hid (show OwU (w21) (w18.heap.size) (w19.heap.size) [] [own shNode (.slice t50p t50n t50c) xs0] from OwU.grow oT589_.out g)
  clear oT589_
  have oT697_ := Lib.hid (show OwU (w21) (w19.heap.size) (w20.heap.size) [] [own shBar (.slice t61p t61n t61c) xs1] from OwU.grow oT692_.out g)
  clear oT692_
  have G98_ := Lib.hid (show (W).grownBy (w21) none from gby_trans G90_.out g)
  have qw99_ := Lib.hid (show (w5).grownBy (w21) none from gby_trans qw91_.out g)
  clear qw91_
  clear g
  have szw21 := sz_
  clear sz_
  obtain ⟨hr0p, hr0n, hr0c, hv_⟩ := RdL.form (OwU.rd o)
  subst hv_
  have oh100_ := Lib.hid (show OwU (w21) (w20.heap.size) (w21.heap.size) [] [own shI (.slice hr0p hr0n hr0c) xsr0] from o)
  clear o
  clear oT596_
  clear oT697_
  go_wp2_with fail
  go_at_call 19
  refine (eqIntS_d _ (.slice hr0p hr0n hr0c) (.slice wr0p wr0n wr0c) xsr0 (OwU.rd oh100_.out) (RdL.grow rd12_.out qw99_.out) hLr0).mono ?_
  rintro e w22 ⟨rfl, g⟩
  have zs19 := World.grownBy.size g
  try simp only [World.size_alloc] at zs19
  have ox0101_ := Lib.hid (show OwU (w22) (w5.heap.size) (w6.heap.size) [] [own shNode (.slice x00p x00n x00c) (emL shNode (1) xs0)] from OwU.grow ox093_.out g)
  clear ox093_
  have ox1102_ := Lib.hid (show OwU (w22) (w6.heap.size) (w7.heap.size) [] [own shBar (.slice x11p x11n x11c) (emL shBar (1 + ecL shNode xs0) xs1)] from OwU.grow ox194_.out g)
  clear ox194_
  have og103_ := Lib.hid (show OwU (w22) (w7.heap.size) (w8.heap.size) [] [own shI (.slice gr0p gr0n gr0c) (emL shI (1) xsr0)] from OwU.grow og95_.out g)
  clear og95_
  have oh104_ := Lib.hid (show OwU (w22) (w20.heap.size) (w21.heap.size) [] [own shI (.slice hr0p hr0n hr0c) xsr0] from OwU.grow oh100_.out g)
  clear oh100_
  have G105_ := Lib.hid (show (W).grownBy (w22) none from gby_trans G98_.out g)
  have qw106_ := Lib.hid (show (w5).grownBy (w22) none from gby_trans qw99_.out g)
  clear qw99_
  clear g
  go_wp2_with fail
  go_at_call 23
  refine (heldIntS_d _ (1) (.slice gr0p gr0n gr0c) xsr0 (OwU.rd og103_.out) hLr0 (by omega)).mono ?_
  rintro e w23 ⟨rfl, g⟩
  have zs20 := World.grownBy.size g
  try simp only [World.size_alloc] at zs20
  have ox0107_ := Lib.hid (show OwU (w23) (w5.heap.size) (w6.heap.size) [] [own shNode (.slice x00p x00n x00c) (emL shNode (1) xs0)] from OwU.grow ox0101_.out g)
  clear ox0101_
  have ox1108_ := Lib.hid (show OwU (w23) (w6.heap.size) (w7.heap.size) [] [own shBar (.slice x11p x11n x11c) (emL shBar (1 + ecL shNode xs0) xs1)] from OwU.grow ox1102_.out g)
  clear ox1102_
  have og109_ := Lib.hid (show OwU (w23) (w7.heap.size) (w8.heap.size) [] [own shI (.slice gr0p gr0n gr0c) (emL shI (1) xsr0)] from OwU.grow og103_.out g)
  clear og103_
  have oh110_ := Lib.hid (show OwU (w23) (w20.heap.size) (w21.heap.size) [] [own shI (.slice hr0p hr0n hr0c) xsr0] from OwU.grow oh104_.out g)
  clear oh104_
  have G111_ := Lib.hid (show (W).grownBy (w23) none from gby_trans G105_.out g)
  have qw112_ := Lib.hid (show (w5).grownBy (w23) none from gby_trans qw106_.out g)
  clear qw106_
  clear g
  have ng23 : ¬ (((1 + ecL shI xsr0 : Nat) : Int) < 0) := by omega
  go_wp2
  go_ret
  exact ⟨rfl, gby_below G111_.out⟩

end Go.Proofs.Ytdddidnibelmhaa
