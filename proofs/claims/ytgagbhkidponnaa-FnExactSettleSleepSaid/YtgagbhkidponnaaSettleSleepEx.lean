/-
  The walk of FnExactSettleSleep: at every argument the program answers as its model and writes nothing that was there, and its answer owns its memory.
-/
import Derived.Test.YtgagbhkidponnaaQSNode
import Derived.Test.YtgagbhkidponnaaRSettleSleep
import Derived.Test.YtgagbhkidponnaaShpI
import Derived.WalkKit
import Derived.Deep.RegionHeld3
import Derived.Below
namespace Go.Proofs.Ytgagbhkidponnaa
open Go Go.RowKit

set_option maxRecDepth 8000 in
set_option maxHeartbeats 16000000 in
theorem walk_exactSettleSleep_of (both : ∀ (xs0 : List DNode) (xs1 : List Int), szL shNode xs0 ≤ 1048576 → szL shI xs1 ≤ 1048576 → ∃ (xsr0 : List Int), szL shI xsr0 ≤ 1048576 ∧ (∀ (W : World), ∀ u0 u1, RdL shNode W u0 xs0 → RdL shI W u1 xs1 → Calls Try.prog 12 #[u0, u1] W (ResSSettleSleep xsr0 W)) ∧ ∀ (W : World), ∀ u0 u1, RdL shNode W u0 xs0 → RdL shI W u1 xs1 → Calls Try.prog 15 #[u0, u1] W (ResISettleSleep xsr0 W))
    (W : World) (a0 : Value) (xs0 : List DNode) (a1 : Value) (xs1 : List Int) (H0 : RdL shNode W a0 xs0) (H1 : RdL shI W a1 xs1) :
    Calls Try.prog 3 #[a0, a1] W fun e w' => e = .returned (.bool true) ∧ Below W.heap.size W w' := by
  have HI0 := Lib.hid H0
  have hmx0 := H0.max
  clear H0
  have HI1 := Lib.hid H1
  have hmx1 := H1.max
  clear H1
  have hlen1 : ∃ p n c, a1 = .slice p n c ∧ n = xs1.length := by
    obtain ⟨p, c, h, _⟩ := HI1.out
    exact ⟨p, _, c, h, rfl⟩
  obtain ⟨p1, n1, c1, hv1, hnx1⟩ := hlen1
  subst hv1
  by_cases hbig1 : (1048576 : Int) < (n1 : Int)
  · have HN := Lib.hid hnx1
    clear hnx1
    go_enter Try.func3, Try.ntmps3
    go_wp2
    go_ret
    exact ⟨rfl, by first | exact Below.refl _ _ | exact gby_below (by repeat (with_reducible refine gby_alloc ?_ _); exact gby_refl _ _)⟩
  have hl1 : szL shI xs1 ≤ 1048576 := by have : szL shI xs1 = xs1.length := szL_I _; omega
  have HN1 := Lib.hid hnx1
  clear hnx1
  by_cases hs0 : (1048576 : Int) < (((szL shNode xs0) : Nat) : Int)
  · have hneg : (-1 : Int) < 0 := by omega
    go_enter Try.func3, Try.ntmps3
    have G1_ := Lib.hid (show (W).grownBy (W) none from (gby_refl _ _))
    go_wp2_with fail
    go_at_call 11
    refine (szNodeS_d _ 1048576 a0 xs0 (HI0.out.grow G1_.out) (by omega) (by omega)).mono ?_
    rintro e w1 ⟨he, g⟩
    rw [show lessN 1048576 (szL shNode xs0) = -1 from if_pos hs0] at he
    subst he
    have G2_ := Lib.hid (show (W).grownBy (w1) none from gby_trans G1_.out g)
    clear g
    go_wp2
    go_ret
    exact ⟨rfl, gby_below G2_.out⟩
  obtain ⟨rr0, hr0⟩ : ∃ r, r = lessN 1048576 (szL shNode xs0) := ⟨_, rfl⟩
  have hrr0 : rr0 = (1048576 : Int) - (((szL shNode xs0) : Nat) : Int) := hr0.trans (if_neg hs0)
  have hn0 : ¬ rr0 < 0 := by omega
  have hu0 : rr0 ≤ 1048576 := by omega
  have hl0 : szL shNode xs0 ≤ 1048576 := by omega
  have HR0 := Lib.hid hr0
  clear hs0 hr0 hrr0
  obtain ⟨xsr0, hLr0, hs_, hi_⟩ := both xs0 xs1 hl0 hl1
  have HS := Lib.hid hs_
  have HM := Lib.hid hi_
  clear hs_ hi_
  try clear both
  have hq0 : ecL shNode xs0 ≤ 104857600 := Nat.le_trans (ecL_le _ _) (Nat.le_trans (Nat.mul_le_mul_left _ hl0) (Nat.mul_le_mul_right 1048576 (show shNode.c ≤ 100 by decide)))
  have hq1 : ecL shI xs1 ≤ 104857600 := Nat.le_trans (ecL_le _ _) (Nat.le_trans (Nat.mul_le_mul_left _ hl1) (Nat.mul_le_mul_right 1048576 (show shI.c ≤ 100 by decide)))
  have hqr0 : ecL shI xsr0 ≤ 104857600 := Nat.le_trans (ecL_le _ _) (Nat.le_trans (Nat.mul_le_mul_left _ hLr0) (Nat.mul_le_mul_right 1048576 (show shI.c ≤ 100 by decide)))
  go_enter Try.func3, Try.ntmps3
  have G1_ := Lib.hid (show (W).grownBy (W) none from (gby_refl _ _))
  go_wp2_with fail
  go_at_call 11
  refine (szNodeS_d _ 1048576 a0 xs0 (HI0.out.grow G1_.out) (by omega) (by omega)).mono ?_
  rintro e w1 ⟨he, g⟩
  rw [← HR0.out] at he
  subst he
  have zs1 := World.grownBy.size g
  try simp only [World.size_alloc] at zs1
  have G2_ := Lib.hid (show (W).grownBy (w1) none from gby_trans G1_.out g)
  clear g
  go_wp2_with fail
  go_at_call 13
  refine (toNodeS_d _ a0 xs0 (HI0.out.grow G2_.out) hl0).mono ?_
  rintro e w2 ⟨t10, rfl, o, g⟩
  have sz_ := g.size
  try simp only [World.size_alloc] at sz_
  try simp only [World.size_alloc] at o
  have zs2 := World.grownBy.size g
  try simp only [World.size_alloc] at zs2
  have G3_ := Lib.hid (show (W).grownBy (w2) none from gby_trans G2_.out g)
  clear g
  have szw2 := sz_
  clear sz_
  obtain ⟨t10p, t10n, t10c, hv_⟩ := RdL.form (OwL.rd o)
  subst hv_
  have oT14_ := Lib.hid (show OwU (w2) (w1.heap.size) (w2.heap.size) [] [own shNode (.slice t10p t10n t10c) xs0] from OwU.one o)
  clear o
  go_wp2_with fail
  go_at_call 14
  refine (toIntS_d _ (.slice p1 n1 c1) xs1 (HI1.out.grow G3_.out) hl1).mono ?_
  rintro e w3 ⟨t21, rfl, o, g⟩
  have sz_ := g.size
  try simp only [World.size_alloc] at sz_
  try simp only [World.size_alloc] at o
  have zs3 := World.grownBy.size g
  try simp only [World.size_alloc] at zs3
  have oT15_ := Lib.hid (show OwU (w3) (w1.heap.size) (w2.heap.size) [] [own shNode (.slice t10p t10n t10c) xs0] from OwU.grow oT14_.out g)
  clear oT14_
  have G6_ := Lib.hid (show (W).grownBy (w3) none from gby_trans G3_.out g)
  clear g
  have szw3 := sz_
  clear sz_
  obtain ⟨t21p, t21n, t21c, hv_⟩ := RdL.form (OwL.rd o)
  subst hv_
  have oT27_ := Lib.hid (show OwU (w3) (w2.heap.size) (w3.heap.size) [] [own shI (.slice t21p t21n t21c) xs1] from OwU.one o)
  clear o
  go_wp2_with fail
  go_at_call 12
  refine (HS.out _ (.slice t10p t10n t10c) (.slice t21p t21n t21c) (OwU.rd oT15_.out) (OwU.rd oT27_.out)).mono ?_
  rintro e w4 ⟨wr0, rfl, or0, g⟩
  have sz_ := g.size
  try simp only [World.size_alloc] at sz_
  have zs4 := World.grownBy.size g
  try simp only [World.size_alloc] at zs4
  have oT18_ := Lib.hid (show OwU (w4) (w1.heap.size) (w2.heap.size) [] [own shNode (.slice t10p t10n t10c) xs0] from OwU.grow oT15_.out g)
  clear oT15_
  have oT29_ := Lib.hid (show OwU (w4) (w2.heap.size) (w3.heap.size) [] [own shI (.slice t21p t21n t21c) xs1] from OwU.grow oT27_.out g)
  clear oT27_
  have G10_ := Lib.hid (show (W).grownBy (w4) none from gby_trans G6_.out g)
  clear g
  have szw4 := sz_
  clear sz_
  obtain ⟨wr0p, wr0n, wr0c, hv_⟩ := RdL.form (or0)
  subst hv_
  have rd11_ := Lib.hid or0
  clear or0
  have qG12_ := Lib.hid (gby_refl w4 none)
  clear oT18_
  clear oT29_
  go_wp2_with fail
  go_at_call 13
  refine (toNodeS_d _ a0 xs0 (HI0.out.grow G10_.out) hl0).mono ?_
  rintro e w5 ⟨x00, rfl, o, g⟩
  have sz_ := g.size
  try simp only [World.size_alloc] at sz_
  try simp only [World.size_alloc] at o
  have zs5 := World.grownBy.size g
  try simp only [World.size_alloc] at zs5
  have G13_ := Lib.hid (show (W).grownBy (w5) none from gby_trans G10_.out g)
  have qw14_ := Lib.hid (show (w4).grownBy (w5) none from gby_trans qG12_.out g)
  clear qG12_
  clear g
  have szw5 := sz_
  clear sz_
  obtain ⟨x00p, x00n, x00c, hv_⟩ := RdL.form (OwL.rd o)
  subst hv_
  have ox015_ := Lib.hid (show OwU (w5) (w4.heap.size) (w5.heap.size) [] [own shNode (.slice x00p x00n x00c) xs0] from OwU.one o)
  clear o
  go_wp2_with fail
  go_at_call 14
  refine (toIntS_d _ (.slice p1 n1 c1) xs1 (HI1.out.grow G13_.out) hl1).mono ?_
  rintro e w6 ⟨x11, rfl, o, g⟩
  have sz_ := g.size
  try simp only [World.size_alloc] at sz_
  try simp only [World.size_alloc] at o
  have zs6 := World.grownBy.size g
  try simp only [World.size_alloc] at zs6
  have ox016_ := Lib.hid (show OwU (w6) (w4.heap.size) (w5.heap.size) [] [own shNode (.slice x00p x00n x00c) xs0] from OwU.grow ox015_.out g)
  clear ox015_
  have G17_ := Lib.hid (show (W).grownBy (w6) none from gby_trans G13_.out g)
  have qw18_ := Lib.hid (show (w4).grownBy (w6) none from gby_trans qw14_.out g)
  clear qw14_
  clear g
  have szw6 := sz_
  clear sz_
  obtain ⟨x11p, x11n, x11c, hv_⟩ := RdL.form (OwL.rd o)
  subst hv_
  have ox119_ := Lib.hid (show OwU (w6) (w5.heap.size) (w6.heap.size) [] [own shI (.slice x11p x11n x11c) xs1] from OwU.one o)
  clear o
  go_wp2_with fail
  go_at_call 15
  refine (HM.out _ (.slice x00p x00n x00c) (.slice x11p x11n x11c) (OwU.rd ox016_.out) (OwU.rd ox119_.out)).mono ?_
  rintro e w7 ⟨gr0, rfl, o, g⟩
  have sz_ := g.size
  try simp only [World.size_alloc] at sz_
  try simp only [World.size_alloc] at o
  have zs7 := World.grownBy.size g
  try simp only [World.size_alloc] at zs7
  have ox020_ := Lib.hid (show OwU (w7) (w4.heap.size) (w5.heap.size) [] [own shNode (.slice x00p x00n x00c) xs0] from OwU.grow ox016_.out g)
  clear ox016_
  have ox121_ := Lib.hid (show OwU (w7) (w5.heap.size) (w6.heap.size) [] [own shI (.slice x11p x11n x11c) xs1] from OwU.grow ox119_.out g)
  clear ox119_
  have G22_ := Lib.hid (show (W).grownBy (w7) none from gby_trans G17_.out g)
  have qw23_ := Lib.hid (show (w4).grownBy (w7) none from gby_trans qw18_.out g)
  clear qw18_
  clear g
  have szw7 := sz_
  clear sz_
  obtain ⟨gr0p, gr0n, gr0c, hv_⟩ := RdL.form (OwU.rd o)
  subst hv_
  have og24_ := Lib.hid (show OwU (w7) (w6.heap.size) (w7.heap.size) [] [own shI (.slice gr0p gr0n gr0c) xsr0] from o)
  clear o
  go_wp2_with fail
  go_at_call 16
  refine (eqIntS_d _ (.slice gr0p gr0n gr0c) (.slice wr0p wr0n wr0c) xsr0 (OwU.rd og24_.out) (RdL.grow rd11_.out qw23_.out) hLr0).mono ?_
  rintro e w8 ⟨rfl, g⟩
  have zs8 := World.grownBy.size g
  try simp only [World.size_alloc] at zs8
  have ox025_ := Lib.hid (show OwU (w8) (w4.heap.size) (w5.heap.size) [] [own shNode (.slice x00p x00n x00c) xs0] from OwU.grow ox020_.out g)
  clear ox020_
  have ox126_ := Lib.hid (show OwU (w8) (w5.heap.size) (w6.heap.size) [] [own shI (.slice x11p x11n x11c) xs1] from OwU.grow ox121_.out g)
  clear ox121_
  have og27_ := Lib.hid (show OwU (w8) (w6.heap.size) (w7.heap.size) [] [own shI (.slice gr0p gr0n gr0c) xsr0] from OwU.grow og24_.out g)
  clear og24_
  have G28_ := Lib.hid (show (W).grownBy (w8) none from gby_trans G22_.out g)
  have qw29_ := Lib.hid (show (w4).grownBy (w8) none from gby_trans qw23_.out g)
  clear qw23_
  clear g
  go_wp2_with fail
  go_at_call 13
  refine (toNodeS_d _ a0 xs0 (HI0.out.grow G28_.out) hl0).mono ?_
  rintro e w9 ⟨t30, rfl, o, g⟩
  have sz_ := g.size
  try simp only [World.size_alloc] at sz_
  try simp only [World.size_alloc] at o
  have zs9 := World.grownBy.size g
  try simp only [World.size_alloc] at zs9
  have ox030_ := Lib.hid (show OwU (w9) (w4.heap.size) (w5.heap.size) [] [own shNode (.slice x00p x00n x00c) xs0] from OwU.grow ox025_.out g)
  clear ox025_
  have ox131_ := Lib.hid (show OwU (w9) (w5.heap.size) (w6.heap.size) [] [own shI (.slice x11p x11n x11c) xs1] from OwU.grow ox126_.out g)
  clear ox126_
  have og32_ := Lib.hid (show OwU (w9) (w6.heap.size) (w7.heap.size) [] [own shI (.slice gr0p gr0n gr0c) xsr0] from OwU.grow og27_.out g)
  clear og27_
  have G33_ := Lib.hid (show (W).grownBy (w9) none from gby_trans G28_.out g)
  have qw34_ := Lib.hid (show (w4).grownBy (w9) none from gby_trans qw29_.out g)
  clear qw29_
  clear g
  have szw9 := sz_
  clear sz_
  obtain ⟨t30p, t30n, t30c, hv_⟩ := RdL.form (OwL.rd o)
  subst hv_
  have oT335_ := Lib.hid (show OwU (w9) (w8.heap.size) (w9.heap.size) [] [own shNode (.slice t30p t30n t30c) xs0] from OwU.one o)
  clear o
  go_wp2_with fail
  go_at_call 17
  refine (eqNodeS_d _ (.slice x00p x00n x00c) (.slice t30p t30n t30c) xs0 (OwU.rd ox030_.out) (OwU.rd oT335_.out) hl0).mono ?_
  rintro e w10 ⟨rfl, g⟩
  have zs10 := World.grownBy.size g
  try simp only [World.size_alloc] at zs10
  have ox036_ := Lib.hid (show OwU (w10) (w4.heap.size) (w5.heap.size) [] [own shNode (.slice x00p x00n x00c) xs0] from OwU.grow ox030_.out g)
  clear ox030_
  have ox137_ := Lib.hid (show OwU (w10) (w5.heap.size) (w6.heap.size) [] [own shI (.slice x11p x11n x11c) xs1] from OwU.grow ox131_.out g)
  clear ox131_
  have og38_ := Lib.hid (show OwU (w10) (w6.heap.size) (w7.heap.size) [] [own shI (.slice gr0p gr0n gr0c) xsr0] from OwU.grow og32_.out g)
  clear og32_
  have oT339_ := Lib.hid (show OwU (w10) (w8.heap.size) (w9.heap.size) [] [own shNode (.slice t30p t30n t30c) xs0] from OwU.grow oT335_.out g)
  clear oT335_
  have G40_ := Lib.hid (show (W).grownBy (w10) none from gby_trans G33_.out g)
  have qw41_ := Lib.hid (show (w4).grownBy (w10) none from gby_trans qw34_.out g)
  clear qw34_
  clear g
  clear oT339_
  go_wp2_with fail
  go_at_call 14
  refine (toIntS_d _ (.slice p1 n1 c1) xs1 (HI1.out.grow G40_.out) hl1).mono ?_
  rintro e w11 ⟨t41, rfl, o, g⟩
  have sz_ := g.size
  try simp only [World.size_alloc] at sz_
  try simp only [World.size_alloc] at o
  have zs11 := World.grownBy.size g
  try simp only [World.size_alloc] at zs11
  have ox042_ := Lib.hid (show OwU (w11) (w4.heap.size) (w5.heap.size) [] [own shNode (.slice x00p x00n x00c) xs0] from OwU.grow ox036_.out g)
  clear ox036_
  have ox143_ := Lib.hid (show OwU (w11) (w5.heap.size) (w6.heap.size) [] [own shI (.slice x11p x11n x11c) xs1] from OwU.grow ox137_.out g)
  clear ox137_
  have og44_ := Lib.hid (show OwU (w11) (w6.heap.size) (w7.heap.size) [] [own shI (.slice gr0p gr0n gr0c) xsr0] from OwU.grow og38_.out g)
  clear og38_
  have G45_ := Lib.hid (show (W).grownBy (w11) none from gby_trans G40_.out g)
  have qw46_ := Lib.hid (show (w4).grownBy (w11) none from gby_trans qw41_.out g)
  clear qw41_
  clear g
  have szw11 := sz_
  clear sz_
  obtain ⟨t41p, t41n, t41c, hv_⟩ := RdL.form (OwL.rd o)
  subst hv_
  have oT447_ := Lib.hid (show OwU (w11) (w10.heap.size) (w11.heap.size) [] [own shI (.slice t41p t41n t41c) xs1] from OwU.one o)
  clear o
  go_wp2_with fail
  go_at_call 16
  refine (eqIntS_d _ (.slice x11p x11n x11c) (.slice t41p t41n t41c) xs1 (OwU.rd ox143_.out) (OwU.rd oT447_.out) hl1).mono ?_
  rintro e w12 ⟨rfl, g⟩
  have zs12 := World.grownBy.size g
  try simp only [World.size_alloc] at zs12
  have ox048_ := Lib.hid (show OwU (w12) (w4.heap.size) (w5.heap.size) [] [own shNode (.slice x00p x00n x00c) xs0] from OwU.grow ox042_.out g)
  clear ox042_
  have ox149_ := Lib.hid (show OwU (w12) (w5.heap.size) (w6.heap.size) [] [own shI (.slice x11p x11n x11c) xs1] from OwU.grow ox143_.out g)
  clear ox143_
  have og50_ := Lib.hid (show OwU (w12) (w6.heap.size) (w7.heap.size) [] [own shI (.slice gr0p gr0n gr0c) xsr0] from OwU.grow og44_.out g)
  clear og44_
  have oT451_ := Lib.hid (show OwU (w12) (w10.heap.size) (w11.heap.size) [] [own shI (.slice t41p t41n t41c) xs1] from OwU.grow oT447_.out g)
  clear oT447_
  have G52_ := Lib.hid (show (W).grownBy (w12) none from gby_trans G45_.out g)
  have qw53_ := Lib.hid (show (w4).grownBy (w12) none from gby_trans qw46_.out g)
  clear qw46_
  clear g
  clear oT451_
  obtain ⟨lo_, hi_, l_, u_, _, oo, ff⟩ := OwU.focus (pre := []) (p := own shNode (.slice x00p x00n x00c) xs0) (post := []) ox048_.out
  have FF := Lib.hid ff
  clear ff
  go_wp2_with fail
  go_at_call 18
  refine (markNodeS_d _ lo_ hi_ (1) (.slice x00p x00n x00c) xs0 oo hl0 (by omega)).mono ?_
  rintro e w13 ⟨rfl, o, c⟩
  have o_ := c
  have c' := chg_wide c (lo' := w4.heap.size) (hi' := w5.heap.size) l_ u_
  clear c
  have c := c'
  clear c'
  have szw13 := c.size
  try simp only [World.size_alloc] at szw13
  have ox154_ := Lib.hid (show OwU (w13) (w5.heap.size) (w6.heap.size) [] [own shI (.slice x11p x11n x11c) xs1] from OwU.keep c (by omega) ox149_.out)
  clear ox149_
  have og55_ := Lib.hid (show OwU (w13) (w6.heap.size) (w7.heap.size) [] [own shI (.slice gr0p gr0n gr0c) xsr0] from OwU.keep c (by omega) og50_.out)
  clear og50_
  have G56_ := Lib.hid (show (W).grownBy (w13) none from gby_chg G52_.out c (by omega))
  have qw57_ := Lib.hid (show (w4).grownBy (w13) none from gby_chg qw53_.out c (by omega))
  clear qw53_
  have ox058_ := Lib.hid (show OwU (w13) (w4.heap.size) (w5.heap.size) [] [own shNode (.slice x00p x00n x00c) (emL shNode (1) xs0)] from FF.out _ (own shNode (.slice x00p x00n x00c) (emL shNode (1) xs0)) o_ o)
  clear ox048_ o c oo FF o_
  obtain ⟨lo_, hi_, l_, u_, _, oo, ff⟩ := OwU.focus (pre := []) (p := own shI (.slice x11p x11n x11c) xs1) (post := []) ox154_.out
  have FF := Lib.hid ff
  clear ff
  go_wp2_with fail
  go_at_call 19
  refine (markIntS_d _ lo_ hi_ (1 + ecL shNode xs0) (.slice x11p x11n x11c) xs1 oo hl1 (by omega)).mono ?_
  rintro e w14 ⟨rfl, o, c⟩
  have o_ := c
  have c' := chg_wide c (lo' := w5.heap.size) (hi' := w6.heap.size) l_ u_
  clear c
  have c := c'
  clear c'
  have szw14 := c.size
  try simp only [World.size_alloc] at szw14
  have ox059_ := Lib.hid (show OwU (w14) (w4.heap.size) (w5.heap.size) [] [own shNode (.slice x00p x00n x00c) (emL shNode (1) xs0)] from OwU.keep c (by omega) ox058_.out)
  clear ox058_
  have og60_ := Lib.hid (show OwU (w14) (w6.heap.size) (w7.heap.size) [] [own shI (.slice gr0p gr0n gr0c) xsr0] from OwU.keep c (by omega) og55_.out)
  clear og55_
  have G61_ := Lib.hid (show (W).grownBy (w14) none from gby_chg G56_.out c (by omega))
  have qw62_ := Lib.hid (show (w4).grownBy (w14) none from gby_chg qw57_.out c (by omega))
  clear qw57_
  have ox163_ := Lib.hid (show OwU (w14) (w5.heap.size) (w6.heap.size) [] [own shI (.slice x11p x11n x11c) (emL shI (1 + ecL shNode xs0) xs1)] from FF.out _ (own shI (.slice x11p x11n x11c) (emL shI (1 + ecL shNode xs0) xs1)) o_ o)
  clear ox154_ o c oo FF o_
  go_wp2_with fail
  go_at_call 16
  refine (eqIntS_d _ (.slice gr0p gr0n gr0c) (.slice wr0p wr0n wr0c) xsr0 (OwU.rd og60_.out) (RdL.grow rd11_.out qw62_.out) hLr0).mono ?_
  rintro e w15 ⟨rfl, g⟩
  have zs13 := World.grownBy.size g
  try simp only [World.size_alloc] at zs13
  have ox064_ := Lib.hid (show OwU (w15) (w4.heap.size) (w5.heap.size) [] [own shNode (.slice x00p x00n x00c) (emL shNode (1) xs0)] from OwU.grow ox059_.out g)
  clear ox059_
  have ox165_ := Lib.hid (show OwU (w15) (w5.heap.size) (w6.heap.size) [] [own shI (.slice x11p x11n x11c) (emL shI (1 + ecL shNode xs0) xs1)] from OwU.grow ox163_.out g)
  clear ox163_
  have og66_ := Lib.hid (show OwU (w15) (w6.heap.size) (w7.heap.size) [] [own shI (.slice gr0p gr0n gr0c) xsr0] from OwU.grow og60_.out g)
  clear og60_
  have G67_ := Lib.hid (show (W).grownBy (w15) none from gby_trans G61_.out g)
  have qw68_ := Lib.hid (show (w4).grownBy (w15) none from gby_trans qw62_.out g)
  clear qw62_
  clear g
  obtain ⟨lo_, hi_, l_, u_, _, oo, ff⟩ := OwU.focus (pre := []) (p := own shI (.slice gr0p gr0n gr0c) xsr0) (post := []) og66_.out
  have FF := Lib.hid ff
  clear ff
  go_wp2_with fail
  go_at_call 19
  refine (markIntS_d _ lo_ hi_ (1) (.slice gr0p gr0n gr0c) xsr0 oo hLr0 (by omega)).mono ?_
  rintro e w16 ⟨rfl, o, c⟩
  have o_ := c
  have c' := chg_wide c (lo' := w6.heap.size) (hi' := w7.heap.size) l_ u_
  clear c
  have c := c'
  clear c'
  have szw16 := c.size
  try simp only [World.size_alloc] at szw16
  have ox069_ := Lib.hid (show OwU (w16) (w4.heap.size) (w5.heap.size) [] [own shNode (.slice x00p x00n x00c) (emL shNode (1) xs0)] from OwU.keep c (by omega) ox064_.out)
  clear ox064_
  have ox170_ := Lib.hid (show OwU (w16) (w5.heap.size) (w6.heap.size) [] [own shI (.slice x11p x11n x11c) (emL shI (1 + ecL shNode xs0) xs1)] from OwU.keep c (by omega) ox165_.out)
  clear ox165_
  have G71_ := Lib.hid (show (W).grownBy (w16) none from gby_chg G67_.out c (by omega))
  have qw72_ := Lib.hid (show (w4).grownBy (w16) none from gby_chg qw68_.out c (by omega))
  clear qw68_
  have og73_ := Lib.hid (show OwU (w16) (w6.heap.size) (w7.heap.size) [] [own shI (.slice gr0p gr0n gr0c) (emL shI (1) xsr0)] from FF.out _ (own shI (.slice gr0p gr0n gr0c) (emL shI (1) xsr0)) o_ o)
  clear og66_ o c oo FF o_
  go_wp2_with fail
  go_at_call 20
  refine (heldIntS_d _ (1) (.slice gr0p gr0n gr0c) xsr0 (OwU.rd og73_.out) hLr0 (by omega)).mono ?_
  rintro e w17 ⟨rfl, g⟩
  have zs14 := World.grownBy.size g
  try simp only [World.size_alloc] at zs14
  have ox074_ := Lib.hid (show OwU (w17) (w4.heap.size) (w5.heap.size) [] [own shNode (.slice x00p x00n x00c) (emL shNode (1) xs0)] from OwU.grow ox069_.out g)
  clear ox069_
  have ox175_ := Lib.hid (show OwU (w17) (w5.heap.size) (w6.heap.size) [] [own shI (.slice x11p x11n x11c) (emL shI (1 + ecL shNode xs0) xs1)] from OwU.grow ox170_.out g)
  clear ox170_
  have og76_ := Lib.hid (show OwU (w17) (w6.heap.size) (w7.heap.size) [] [own shI (.slice gr0p gr0n gr0c) (emL shI (1) xsr0)] from OwU.grow og73_.out g)
  clear og73_
  have G77_ := Lib.hid (show (W).grownBy (w17) none from gby_trans G71_.out g)
  have qw78_ := Lib.hid (show (w4).grownBy (w17) none from gby_trans qw72_.out g)
  clear qw72_
  clear g
  have ng17 : ¬ (((1 + ecL shI xsr0 : Nat) : Int) < 0) := by omega
  go_wp2_with fail
  go_at_call 13
  refine (toNodeS_d _ a0 xs0 (HI0.out.grow G77_.out) hl0).mono ?_
  rintro e w18 ⟨t50, rfl, o, g⟩
  have sz_ := g.size
  try simp only [World.size_alloc] at sz_
  try simp only [World.size_alloc] at o
  have zs15 := World.grownBy.size g
  try simp only [World.size_alloc] at zs15
  have ox079_ := Lib.hid (show OwU (w18) (w4.heap.size) (w5.heap.size) [] [own shNode (.slice x00p x00n x00c) (emL shNode (1) xs0)] from OwU.grow ox074_.out g)
  clear ox074_
  have ox180_ := Lib.hid (show OwU (w18) (w5.heap.size) (w6.heap.size) [] [own shI (.slice x11p x11n x11c) (emL shI (1 + ecL shNode xs0) xs1)] from OwU.grow ox175_.out g)
  clear ox175_
  have og81_ := Lib.hid (show OwU (w18) (w6.heap.size) (w7.heap.size) [] [own shI (.slice gr0p gr0n gr0c) (emL shI (1) xsr0)] from OwU.grow og76_.out g)
  clear og76_
  have G82_ := Lib.hid (show (W).grownBy (w18) none from gby_trans G77_.out g)
  have qw83_ := Lib.hid (show (w4).grownBy (w18) none from gby_trans qw78_.out g)
  clear qw78_
  clear g
  have szw18 := sz_
  clear sz_
  obtain ⟨t50p, t50n, t50c, hv_⟩ := RdL.form (OwL.rd o)
  subst hv_
  have oT584_ := Lib.hid (show OwU (w18) (w17.heap.size) (w18.heap.size) [] [own shNode (.slice t50p t50n t50c) xs0] from OwU.one o)
  clear o
  go_wp2_with fail
  go_at_call 14
  refine (toIntS_d _ (.slice p1 n1 c1) xs1 (HI1.out.grow G82_.out) hl1).mono ?_
  rintro e w19 ⟨t61, rfl, o, g⟩
  have sz_ := g.size
  try simp only [World.size_alloc] at sz_
  try simp only [World.size_alloc] at o
  have zs16 := World.grownBy.size g
  try simp only [World.size_alloc] at zs16
  have ox085_ := Lib.hid (show OwU (w19) (w4.heap.size) (w5.heap.size) [] [own shNode (.slice x00p x00n x00c) (emL shNode (1) xs0)] from OwU.grow ox079_.out g)
  clear ox079_
  have ox186_ := Lib.hid (show OwU (w19) (w5.heap.size) (w6.heap.size) [] [own shI (.slice x11p x11n x11c) (emL shI (1 + ecL shNode xs0) xs1)] from OwU.grow ox180_.out g)
  clear ox180_
  have og87_ := Lib.hid (show OwU (w19) (w6.heap.size) (w7.heap.size) [] [own shI (.slice gr0p gr0n gr0c) (emL shI (1) xsr0)] from OwU.grow og81_.out g)
  clear og81_
  have oT588_ := Lib.hid (show OwU (w19) (w17.heap.size) (w18.heap.size) [] [own shNode (.slice t50p t50n t50c) xs0] from OwU.grow oT584_.out g)
  clear oT584_
  have G89_ := Lib.hid (show (W).grownBy (w19) none from gby_trans G82_.out g)
  have qw90_ := Lib.hid (show (w4).grownBy (w19) none from gby_trans qw83_.out g)
  clear qw83_
  clear g
  have szw19 := sz_
  clear sz_
  obtain ⟨t61p, t61n, t61c, hv_⟩ := RdL.form (OwL.rd o)
  subst hv_
  have oT691_ := Lib.hid (show OwU (w19) (w18.heap.size) (w19.heap.size) [] [own shI (.slice t61p t61n t61c) xs1] from OwU.one o)
  clear o
  go_wp2_with fail
  go_at_call 15
  refine (HM.out _ (.slice t50p t50n t50c) (.slice t61p t61n t61c) (OwU.rd oT588_.out) (OwU.rd oT691_.out)).mono ?_
  rintro e w20 ⟨hr0, rfl, o, g⟩
  have sz_ := g.size
  try simp only [World.size_alloc] at sz_
  try simp only [World.size_alloc] at o
  have zs17 := World.grownBy.size g
  try simp only [World.size_alloc] at zs17
  have ox092_ := Lib.hid (show OwU (w20) (w4.heap.size) (w5.heap.size) [] [own shNode (.slice x00p x00n x00c) (emL shNode (1) xs0)] from OwU.grow ox085_.out g)
  clear ox085_
  have ox193_ := Lib.hid (show OwU (w20) (w5.heap.size) (w6.heap.size) [] [own shI (.slice x11p x11n x11c) (emL shI (1 + ecL shNode xs0) xs1)] from OwU.grow ox186_.out g)
  clear ox186_
  have og94_ := Lib.hid (show OwU (w20) (w6.heap.size) (w7.heap.size) [] [own shI (.slice gr0p gr0n gr0c) (emL shI (1) xsr0)] from OwU.grow og87_.out g)
  clear og87_
  have oT595_ := Lib.hid (show OwU (w20) (w17.heap.size) (w18.heap.size) [] [own shNode (.slice t50p t50n t50c) xs0] from OwU.grow oT588_.out g)
  clear oT588_
  have oT696_ := Lib.hid (show OwU (w20) (w18.heap.size) (w19.heap.size) [] [own shI (.slice t61p t61n t61c) xs1] from OwU.grow oT691_.out g)
  clear oT691_
  have G97_ := Lib.hid (show (W).grownBy (w20) none from gby_trans G89_.out g)
  have qw98_ := Lib.hid (show (w4).grownBy (w20) none from gby_trans qw90_.out g)
  clear qw90_
  clear g
  have szw20 := sz_
  clear sz_
  obtain ⟨hr0p, hr0n, hr0c, hv_⟩ := RdL.form (OwU.rd o)
  subst hv_
  have oh99_ := Lib.hid (show OwU (w20) (w19.heap.size) (w20.heap.size) [] [own shI (.slice hr0p hr0n hr0c) xsr0] from o)
  clear o
  clear oT595_
  clear oT696_
  go_wp2_with fail
  go_at_call 16
  refine (eqIntS_d _ (.slice hr0p hr0n hr0c) (.slice wr0p wr0n wr0c) xsr0 (OwU.rd oh99_.out) (RdL.grow rd11_.out qw98_.out) hLr0).mono ?_
  rintro e w21 ⟨rfl, g⟩
  have zs18 := World.grownBy.size g
  try simp only [World.size_alloc] at zs18
  have ox0100_ := Lib.hid (show OwU (w21) (w4.heap.size) (w5.heap.size) [] [own shNode (.slice x00p x00n x00c) (emL shNode (1) xs0)] from OwU.grow ox092_.out g)
  clear ox092_
  have ox1101_ := Lib.hid (show OwU (w21) (w5.heap.size) (w6.heap.size) [] [own shI (.slice x11p x11n x11c) (emL shI (1 + ecL shNode xs0) xs1)] from OwU.grow ox193_.out g)
  clear ox193_
  have og102_ := Lib.hid (show OwU (w21) (w6.heap.size) (w7.heap.size) [] [own shI (.slice gr0p gr0n gr0c) (emL shI (1) xsr0)] from OwU.grow og94_.out g)
  clear og94_
  have oh103_ := Lib.hid (show OwU (w21) (w19.heap.size) (w20.heap.size) [] [own shI (.slice hr0p hr0n hr0c) xsr0] from OwU.grow oh99_.out g)
  clear oh99_
  have G104_ := Lib.hid (show (W).grownBy (w21) none from gby_trans G97_.out g)
  have qw105_ := Lib.hid (show (w4).grownBy (w21) none from gby_trans qw98_.out g)
  clear qw98_
  clear g
  go_wp2_with fail
  go_at_call 20
  refine (heldIntS_d _ (1) (.slice gr0p gr0n gr0c) xsr0 (OwU.rd og102_.out) hLr0 (by omega)).mono ?_
  rintro e w22 ⟨rfl, g⟩
  have zs19 := World.grownBy.size g
  try simp only [World.size_alloc] at zs19
  have ox0106_ := Lib.hid (show OwU (w22) (w4.heap.size) (w5.heap.size) [] [own shNode (.slice x00p x00n x00c) (emL shNode (1) xs0)] from OwU.grow ox0100_.out g)
  clear ox0100_
  have ox1107_ := Lib.hid (show OwU (w22) (w5.heap.size) (w6.heap.size) [] [own shI (.slice x11p x11n x11c) (emL shI (1 + ecL shNode xs0) xs1)] from OwU.grow ox1101_.out g)
  clear ox1101_
  have og108_ := Lib.hid (show OwU (w22) (w6.heap.size) (w7.heap.size) [] [own shI (.slice gr0p gr0n gr0c) (emL shI (1) xsr0)] from OwU.grow og102_.out g)
  clear og102_
  have oh109_ := Lib.hid (show OwU (w22) (w19.heap.size) (w20.heap.size) [] [own shI (.slice hr0p hr0n hr0c) xsr0] from OwU.grow oh103_.out g)
  clear oh103_
  have G110_ := Lib.hid (show (W).grownBy (w22) none from gby_trans G104_.out g)
  have qw111_ := Lib.hid (show (w4).grownBy (w22) none from gby_trans qw105_.out g)
  clear qw105_
  clear g
  have ng22 : ¬ (((1 + ecL shI xsr0 : Nat) : Int) < 0) := by omega
  go_wp2
  go_ret
  exact ⟨rfl, gby_below G110_.out⟩

end Go.Proofs.Ytgagbhkidponnaa
