/-
  The walk of FnExactJoinLanes: at every argument the program answers as its model and writes nothing that was there, and its answer owns its memory.
-/
import Derived.Test.YtnighnkkeiegnabQSIntS
import Derived.Test.YtnighnkkeiegnabRJoinLanes
import Derived.Test.YtnighnkkeiegnabShpI
import Derived.WalkKit
import Derived.Deep.RegionHeld3
import Derived.Below
namespace Go.Proofs.Ytnighnkkeiegnab
open Go Go.RowKit

set_option maxRecDepth 8000 in
set_option maxHeartbeats 16000000 in
theorem walk_exactJoinLanes_of (both : ∀ (xs0 : List (List Int)), szL (shL shI) xs0 ≤ 1048576 → ∃ (xsr0 : List Int) (br1 : Bool), szL shI xsr0 ≤ 1048576 ∧ (∀ (W : World), ∀ u0, RdL (shL shI) W u0 xs0 → Calls Try.prog 21 #[u0] W (ResSJoinLanes xsr0 br1 W)) ∧ ∀ (W : World), ∀ u0, RdL (shL shI) W u0 xs0 → Calls Try.prog 23 #[u0] W (ResIJoinLanes xsr0 br1 W))
    (W : World) (a0 : Value) (xs0 : List (List Int)) (H0 : RdL (shL shI) W a0 xs0) :
    Calls Try.prog 5 #[a0] W fun e w' => e = .returned (.bool true) ∧ Below W.heap.size W w' := by
  have HI0 := Lib.hid H0
  have hmx0 := H0.max
  clear H0
  by_cases hs0 : (1048576 : Int) < (((szL (shL shI) xs0) : Nat) : Int)
  · have hneg : (-1 : Int) < 0 := by omega
    go_enter Try.func5, Try.ntmps5
    have G1_ := Lib.hid (show (W).grownBy (W) none from (gby_refl _ _))
    go_wp2_with fail
    go_at_call 20
    refine (szIntSS_d _ 1048576 a0 xs0 (HI0.out.grow G1_.out) (by omega) (by omega)).mono ?_
    rintro e w1 ⟨he, g⟩
    rw [show lessN 1048576 (szL (shL shI) xs0) = -1 from if_pos hs0] at he
    subst he
    have G2_ := Lib.hid (show (W).grownBy (w1) none from gby_trans G1_.out g)
    clear g
    go_wp2
    go_ret
    exact ⟨rfl, gby_below G2_.out⟩
  obtain ⟨rr0, hr0⟩ : ∃ r, r = lessN 1048576 (szL (shL shI) xs0) := ⟨_, rfl⟩
  have hrr0 : rr0 = (1048576 : Int) - (((szL (shL shI) xs0) : Nat) : Int) := hr0.trans (if_neg hs0)
  have hn0 : ¬ rr0 < 0 := by omega
  have hu0 : rr0 ≤ 1048576 := by omega
  have hl0 : szL (shL shI) xs0 ≤ 1048576 := by omega
  have HR0 := Lib.hid hr0
  clear hs0 hr0 hrr0
  obtain ⟨xsr0, br1, hLr0, hs_, hi_⟩ := both xs0 hl0
  have HS := Lib.hid hs_
  have HM := Lib.hid hi_
  clear hs_ hi_
  try clear both
  have hb_br1 : (br1 != br1) = false := by simp
  have hq0 : ecL (shL shI) xs0 ≤ 104857600 := Nat.le_trans (ecL_le _ _) (Nat.le_trans (Nat.mul_le_mul_left _ hl0) (Nat.mul_le_mul_right 1048576 (show (shL shI).c ≤ 100 by decide)))
  have hqr0 : ecL shI xsr0 ≤ 104857600 := Nat.le_trans (ecL_le _ _) (Nat.le_trans (Nat.mul_le_mul_left _ hLr0) (Nat.mul_le_mul_right 1048576 (show shI.c ≤ 100 by decide)))
  go_enter Try.func5, Try.ntmps5
  have G1_ := Lib.hid (show (W).grownBy (W) none from (gby_refl _ _))
  go_wp2_with fail
  go_at_call 20
  refine (szIntSS_d _ 1048576 a0 xs0 (HI0.out.grow G1_.out) (by omega) (by omega)).mono ?_
  rintro e w1 ⟨he, g⟩
  rw [← HR0.out] at he
  subst he
  have zs1 := World.grownBy.size g
  try simp only [World.size_alloc] at zs1
  have G2_ := Lib.hid (show (W).grownBy (w1) none from gby_trans G1_.out g)
  clear g
  go_wp2_with fail
  go_at_call 22
  refine (toIntSS_d _ a0 xs0 (HI0.out.grow G2_.out) hl0).mono ?_
  rintro e w2 ⟨t10, rfl, o, g⟩
  have sz_ := g.size
  try simp only [World.size_alloc] at sz_
  try simp only [World.size_alloc] at o
  have zs2 := World.grownBy.size g
  try simp only [World.size_alloc] at zs2
  have G3_ := Lib.hid (show (W).grownBy (w2) none from gby_trans G2_.out g)
  clear g
  have szw2 := sz_
  clear sz_
  obtain ⟨t10p, t10n, t10c, hv_⟩ := RdL.form (OwL.rd o)
  subst hv_
  have oT14_ := Lib.hid (show OwU (w2) (w1.heap.size) (w2.heap.size) [] [own (shL shI) (.slice t10p t10n t10c) xs0] from OwU.one o)
  clear o
  go_wp2_with fail
  go_at_call 21
  refine (HS.out _ (.slice t10p t10n t10c) (OwU.rd oT14_.out)).mono ?_
  rintro e w3 ⟨wr0, rfl, or0, g⟩
  have sz_ := g.size
  try simp only [World.size_alloc] at sz_
  have zs3 := World.grownBy.size g
  try simp only [World.size_alloc] at zs3
  have oT15_ := Lib.hid (show OwU (w3) (w1.heap.size) (w2.heap.size) [] [own (shL shI) (.slice t10p t10n t10c) xs0] from OwU.grow oT14_.out g)
  clear oT14_
  have G6_ := Lib.hid (show (W).grownBy (w3) none from gby_trans G3_.out g)
  clear g
  have szw3 := sz_
  clear sz_
  obtain ⟨wr0p, wr0n, wr0c, hv_⟩ := RdL.form (or0)
  subst hv_
  have rd7_ := Lib.hid or0
  clear or0
  have qG8_ := Lib.hid (gby_refl w3 none)
  clear oT15_
  go_wp2_with fail
  go_at_call 22
  refine (toIntSS_d _ a0 xs0 (HI0.out.grow G6_.out) hl0).mono ?_
  rintro e w4 ⟨x00, rfl, o, g⟩
  have sz_ := g.size
  try simp only [World.size_alloc] at sz_
  try simp only [World.size_alloc] at o
  have zs4 := World.grownBy.size g
  try simp only [World.size_alloc] at zs4
  have G9_ := Lib.hid (show (W).grownBy (w4) none from gby_trans G6_.out g)
  have qw10_ := Lib.hid (show (w3).grownBy (w4) none from gby_trans qG8_.out g)
  clear qG8_
  clear g
  have szw4 := sz_
  clear sz_
  obtain ⟨x00p, x00n, x00c, hv_⟩ := RdL.form (OwL.rd o)
  subst hv_
  have ox011_ := Lib.hid (show OwU (w4) (w3.heap.size) (w4.heap.size) [] [own (shL shI) (.slice x00p x00n x00c) xs0] from OwU.one o)
  clear o
  go_wp2_with fail
  go_at_call 23
  refine (HM.out _ (.slice x00p x00n x00c) (OwU.rd ox011_.out)).mono ?_
  rintro e w5 ⟨gr0, rfl, o, g⟩
  have sz_ := g.size
  try simp only [World.size_alloc] at sz_
  try simp only [World.size_alloc] at o
  have zs5 := World.grownBy.size g
  try simp only [World.size_alloc] at zs5
  have ox012_ := Lib.hid (show OwU (w5) (w3.heap.size) (w4.heap.size) [] [own (shL shI) (.slice x00p x00n x00c) xs0] from OwU.grow ox011_.out g)
  clear ox011_
  have G13_ := Lib.hid (show (W).grownBy (w5) none from gby_trans G9_.out g)
  have qw14_ := Lib.hid (show (w3).grownBy (w5) none from gby_trans qw10_.out g)
  clear qw10_
  clear g
  have szw5 := sz_
  clear sz_
  obtain ⟨gr0p, gr0n, gr0c, hv_⟩ := RdL.form (OwU.rd o)
  subst hv_
  have og15_ := Lib.hid (show OwU (w5) (w4.heap.size) (w5.heap.size) [] [own shI (.slice gr0p gr0n gr0c) xsr0] from o)
  clear o
  go_wp2_with fail
  go_at_call 24
  refine (eqIntS_d _ (.slice gr0p gr0n gr0c) (.slice wr0p wr0n wr0c) xsr0 (OwU.rd og15_.out) (RdL.grow rd7_.out qw14_.out) hLr0).mono ?_
  rintro e w6 ⟨rfl, g⟩
  have zs6 := World.grownBy.size g
  try simp only [World.size_alloc] at zs6
  have ox016_ := Lib.hid (show OwU (w6) (w3.heap.size) (w4.heap.size) [] [own (shL shI) (.slice x00p x00n x00c) xs0] from OwU.grow ox012_.out g)
  clear ox012_
  have og17_ := Lib.hid (show OwU (w6) (w4.heap.size) (w5.heap.size) [] [own shI (.slice gr0p gr0n gr0c) xsr0] from OwU.grow og15_.out g)
  clear og15_
  have G18_ := Lib.hid (show (W).grownBy (w6) none from gby_trans G13_.out g)
  have qw19_ := Lib.hid (show (w3).grownBy (w6) none from gby_trans qw14_.out g)
  clear qw14_
  clear g
  go_wp2_with fail
  go_at_call 22
  refine (toIntSS_d _ a0 xs0 (HI0.out.grow G18_.out) hl0).mono ?_
  rintro e w7 ⟨t20, rfl, o, g⟩
  have sz_ := g.size
  try simp only [World.size_alloc] at sz_
  try simp only [World.size_alloc] at o
  have zs7 := World.grownBy.size g
  try simp only [World.size_alloc] at zs7
  have ox020_ := Lib.hid (show OwU (w7) (w3.heap.size) (w4.heap.size) [] [own (shL shI) (.slice x00p x00n x00c) xs0] from OwU.grow ox016_.out g)
  clear ox016_
  have og21_ := Lib.hid (show OwU (w7) (w4.heap.size) (w5.heap.size) [] [own shI (.slice gr0p gr0n gr0c) xsr0] from OwU.grow og17_.out g)
  clear og17_
  have G22_ := Lib.hid (show (W).grownBy (w7) none from gby_trans G18_.out g)
  have qw23_ := Lib.hid (show (w3).grownBy (w7) none from gby_trans qw19_.out g)
  clear qw19_
  clear g
  have szw7 := sz_
  clear sz_
  obtain ⟨t20p, t20n, t20c, hv_⟩ := RdL.form (OwL.rd o)
  subst hv_
  have oT224_ := Lib.hid (show OwU (w7) (w6.heap.size) (w7.heap.size) [] [own (shL shI) (.slice t20p t20n t20c) xs0] from OwU.one o)
  clear o
  go_wp2_with fail
  go_at_call 25
  refine (eqIntSS_d _ (.slice x00p x00n x00c) (.slice t20p t20n t20c) xs0 (OwU.rd ox020_.out) (OwU.rd oT224_.out) hl0).mono ?_
  rintro e w8 ⟨rfl, g⟩
  have zs8 := World.grownBy.size g
  try simp only [World.size_alloc] at zs8
  have ox025_ := Lib.hid (show OwU (w8) (w3.heap.size) (w4.heap.size) [] [own (shL shI) (.slice x00p x00n x00c) xs0] from OwU.grow ox020_.out g)
  clear ox020_
  have og26_ := Lib.hid (show OwU (w8) (w4.heap.size) (w5.heap.size) [] [own shI (.slice gr0p gr0n gr0c) xsr0] from OwU.grow og21_.out g)
  clear og21_
  have oT227_ := Lib.hid (show OwU (w8) (w6.heap.size) (w7.heap.size) [] [own (shL shI) (.slice t20p t20n t20c) xs0] from OwU.grow oT224_.out g)
  clear oT224_
  have G28_ := Lib.hid (show (W).grownBy (w8) none from gby_trans G22_.out g)
  have qw29_ := Lib.hid (show (w3).grownBy (w8) none from gby_trans qw23_.out g)
  clear qw23_
  clear g
  clear oT227_
  obtain ⟨lo_, hi_, l_, u_, _, oo, ff⟩ := OwU.focus (pre := []) (p := own (shL shI) (.slice x00p x00n x00c) xs0) (post := []) ox025_.out
  have FF := Lib.hid ff
  clear ff
  go_wp2_with fail
  go_at_call 26
  refine (markIntSS_d _ lo_ hi_ (1) (.slice x00p x00n x00c) xs0 oo hl0 (by omega)).mono ?_
  rintro e w9 ⟨rfl, o, c⟩
  have o_ := c
  have c' := chg_wide c (lo' := w3.heap.size) (hi' := w4.heap.size) l_ u_
  clear c
  have c := c'
  clear c'
  have szw9 := c.size
  try simp only [World.size_alloc] at szw9
  have og30_ := Lib.hid (show OwU (w9) (w4.heap.size) (w5.heap.size) [] [own shI (.slice gr0p gr0n gr0c) xsr0] from OwU.keep c (by omega) og26_.out)
  clear og26_
  have G31_ := Lib.hid (show (W).grownBy (w9) none from gby_chg G28_.out c (by omega))
  have qw32_ := Lib.hid (show (w3).grownBy (w9) none from gby_chg qw29_.out c (by omega))
  clear qw29_
  have ox033_ := Lib.hid (show OwU (w9) (w3.heap.size) (w4.heap.size) [] [own (shL shI) (.slice x00p x00n x00c) (emL (shL shI) (1) xs0)] from FF.out _ (own (shL shI) (.slice x00p x00n x00c) (emL (shL shI) (1) xs0)) o_ o)
  clear ox025_ o c oo FF o_
  go_wp2_with fail
  go_at_call 24
  refine (eqIntS_d _ (.slice gr0p gr0n gr0c) (.slice wr0p wr0n wr0c) xsr0 (OwU.rd og30_.out) (RdL.grow rd7_.out qw32_.out) hLr0).mono ?_
  rintro e w10 ⟨rfl, g⟩
  have zs9 := World.grownBy.size g
  try simp only [World.size_alloc] at zs9
  have ox034_ := Lib.hid (show OwU (w10) (w3.heap.size) (w4.heap.size) [] [own (shL shI) (.slice x00p x00n x00c) (emL (shL shI) (1) xs0)] from OwU.grow ox033_.out g)
  clear ox033_
  have og35_ := Lib.hid (show OwU (w10) (w4.heap.size) (w5.heap.size) [] [own shI (.slice gr0p gr0n gr0c) xsr0] from OwU.grow og30_.out g)
  clear og30_
  have G36_ := Lib.hid (show (W).grownBy (w10) none from gby_trans G31_.out g)
  have qw37_ := Lib.hid (show (w3).grownBy (w10) none from gby_trans qw32_.out g)
  clear qw32_
  clear g
  obtain ⟨lo_, hi_, l_, u_, _, oo, ff⟩ := OwU.focus (pre := []) (p := own shI (.slice gr0p gr0n gr0c) xsr0) (post := []) og35_.out
  have FF := Lib.hid ff
  clear ff
  go_wp2_with fail
  go_at_call 27
  refine (markIntS_d _ lo_ hi_ (1) (.slice gr0p gr0n gr0c) xsr0 oo hLr0 (by omega)).mono ?_
  rintro e w11 ⟨rfl, o, c⟩
  have o_ := c
  have c' := chg_wide c (lo' := w4.heap.size) (hi' := w5.heap.size) l_ u_
  clear c
  have c := c'
  clear c'
  have szw11 := c.size
  try simp only [World.size_alloc] at szw11
  have ox038_ := Lib.hid (show OwU (w11) (w3.heap.size) (w4.heap.size) [] [own (shL shI) (.slice x00p x00n x00c) (emL (shL shI) (1) xs0)] from OwU.keep c (by omega) ox034_.out)
  clear ox034_
  have G39_ := Lib.hid (show (W).grownBy (w11) none from gby_chg G36_.out c (by omega))
  have qw40_ := Lib.hid (show (w3).grownBy (w11) none from gby_chg qw37_.out c (by omega))
  clear qw37_
  have og41_ := Lib.hid (show OwU (w11) (w4.heap.size) (w5.heap.size) [] [own shI (.slice gr0p gr0n gr0c) (emL shI (1) xsr0)] from FF.out _ (own shI (.slice gr0p gr0n gr0c) (emL shI (1) xsr0)) o_ o)
  clear og35_ o c oo FF o_
  go_wp2_with fail
  go_at_call 28
  refine (heldIntS_d _ (1) (.slice gr0p gr0n gr0c) xsr0 (OwU.rd og41_.out) hLr0 (by omega)).mono ?_
  rintro e w12 ⟨rfl, g⟩
  have zs10 := World.grownBy.size g
  try simp only [World.size_alloc] at zs10
  have ox042_ := Lib.hid (show OwU (w12) (w3.heap.size) (w4.heap.size) [] [own (shL shI) (.slice x00p x00n x00c) (emL (shL shI) (1) xs0)] from OwU.grow ox038_.out g)
  clear ox038_
  have og43_ := Lib.hid (show OwU (w12) (w4.heap.size) (w5.heap.size) [] [own shI (.slice gr0p gr0n gr0c) (emL shI (1) xsr0)] from OwU.grow og41_.out g)
  clear og41_
  have G44_ := Lib.hid (show (W).grownBy (w12) none from gby_trans G39_.out g)
  have qw45_ := Lib.hid (show (w3).grownBy (w12) none from gby_trans qw40_.out g)
  clear qw40_
  clear g
  have ng12 : ¬ (((1 + ecL shI xsr0 : Nat) : Int) < 0) := by omega
  go_wp2_with fail
  go_at_call 22
  refine (toIntSS_d _ a0 xs0 (HI0.out.grow G44_.out) hl0).mono ?_
  rintro e w13 ⟨t30, rfl, o, g⟩
  have sz_ := g.size
  try simp only [World.size_alloc] at sz_
  try simp only [World.size_alloc] at o
  have zs11 := World.grownBy.size g
  try simp only [World.size_alloc] at zs11
  have ox046_ := Lib.hid (show OwU (w13) (w3.heap.size) (w4.heap.size) [] [own (shL shI) (.slice x00p x00n x00c) (emL (shL shI) (1) xs0)] from OwU.grow ox042_.out g)
  clear ox042_
  have og47_ := Lib.hid (show OwU (w13) (w4.heap.size) (w5.heap.size) [] [own shI (.slice gr0p gr0n gr0c) (emL shI (1) xsr0)] from OwU.grow og43_.out g)
  clear og43_
  have G48_ := Lib.hid (show (W).grownBy (w13) none from gby_trans G44_.out g)
  have qw49_ := Lib.hid (show (w3).grownBy (w13) none from gby_trans qw45_.out g)
  clear qw45_
  clear g
  have szw13 := sz_
  clear sz_
  obtain ⟨t30p, t30n, t30c, hv_⟩ := RdL.form (OwL.rd o)
  subst hv_
  have oT350_ := Lib.hid (show OwU (w13) (w12.heap.size) (w13.heap.size) [] [own (shL shI) (.slice t30p t30n t30c) xs0] from OwU.one o)
  clear o
  go_wp2_with fail
  go_at_call 23
  refine (HM.out _ (.slice t30p t30n t30c) (OwU.rd oT350_.out)).mono ?_
  rintro e w14 ⟨hr0, rfl, o, g⟩
  have sz_ := g.size
  try simp only [World.size_alloc] at sz_
  try simp only [World.size_alloc] at o
  have zs12 := World.grownBy.size g
  try simp only [World.size_alloc] at zs12
  have ox051_ := Lib.hid (show OwU (w14) (w3.heap.size) (w4.heap.size) [] [own (shL shI) (.slice x00p x00n x00c) (emL (shL shI) (1) xs0)] from OwU.grow ox046_.out g)
  clear ox046_
  have og52_ := Lib.hid (show OwU (w14) (w4.heap.size) (w5.heap.size) [] [own shI (.slice gr0p gr0n gr0c) (emL shI (1) xsr0)] from OwU.grow og47_.out g)
  clear og47_
  have oT353_ := Lib.hid (show OwU (w14) (w12.heap.size) (w13.heap.size) [] [own (shL shI) (.slice t30p t30n t30c) xs0] from OwU.grow oT350_.out g)
  clear oT350_
  have G54_ := Lib.hid (show (W).grownBy (w14) none from gby_trans G48_.out g)
  have qw55_ := Lib.hid (show (w3).grownBy (w14) none from gby_trans qw49_.out g)
  clear qw49_
  clear g
  have szw14 := sz_
  clear sz_
  obtain ⟨hr0p, hr0n, hr0c, hv_⟩ := RdL.form (OwU.rd o)
  subst hv_
  have oh56_ := Lib.hid (show OwU (w14) (w13.heap.size) (w14.heap.size) [] [own shI (.slice hr0p hr0n hr0c) xsr0] from o)
  clear o
  clear oT353_
  go_wp2_with fail
  go_at_call 24
  refine (eqIntS_d _ (.slice hr0p hr0n hr0c) (.slice wr0p wr0n wr0c) xsr0 (OwU.rd oh56_.out) (RdL.grow rd7_.out qw55_.out) hLr0).mono ?_
  rintro e w15 ⟨rfl, g⟩
  have zs13 := World.grownBy.size g
  try simp only [World.size_alloc] at zs13
  have ox057_ := Lib.hid (show OwU (w15) (w3.heap.size) (w4.heap.size) [] [own (shL shI) (.slice x00p x00n x00c) (emL (shL shI) (1) xs0)] from OwU.grow ox051_.out g)
  clear ox051_
  have og58_ := Lib.hid (show OwU (w15) (w4.heap.size) (w5.heap.size) [] [own shI (.slice gr0p gr0n gr0c) (emL shI (1) xsr0)] from OwU.grow og52_.out g)
  clear og52_
  have oh59_ := Lib.hid (show OwU (w15) (w13.heap.size) (w14.heap.size) [] [own shI (.slice hr0p hr0n hr0c) xsr0] from OwU.grow oh56_.out g)
  clear oh56_
  have G60_ := Lib.hid (show (W).grownBy (w15) none from gby_trans G54_.out g)
  have qw61_ := Lib.hid (show (w3).grownBy (w15) none from gby_trans qw55_.out g)
  clear qw55_
  clear g
  go_wp2_with fail
  go_at_call 28
  refine (heldIntS_d _ (1) (.slice gr0p gr0n gr0c) xsr0 (OwU.rd og58_.out) hLr0 (by omega)).mono ?_
  rintro e w16 ⟨rfl, g⟩
  have zs14 := World.grownBy.size g
  try simp only [World.size_alloc] at zs14
  have ox062_ := Lib.hid (show OwU (w16) (w3.heap.size) (w4.heap.size) [] [own (shL shI) (.slice x00p x00n x00c) (emL (shL shI) (1) xs0)] from OwU.grow ox057_.out g)
  clear ox057_
  have og63_ := Lib.hid (show OwU (w16) (w4.heap.size) (w5.heap.size) [] [own shI (.slice gr0p gr0n gr0c) (emL shI (1) xsr0)] from OwU.grow og58_.out g)
  clear og58_
  have oh64_ := Lib.hid (show OwU (w16) (w13.heap.size) (w14.heap.size) [] [own shI (.slice hr0p hr0n hr0c) xsr0] from OwU.grow oh59_.out g)
  clear oh59_
  have G65_ := Lib.hid (show (W).grownBy (w16) none from gby_trans G60_.out g)
  have qw66_ := Lib.hid (show (w3).grownBy (w16) none from gby_trans qw61_.out g)
  clear qw61_
  clear g
  have ng16 : ¬ (((1 + ecL shI xsr0 : Nat) : Int) < 0) := by omega
  go_wp2
  go_ret
  exact ⟨rfl, gby_below G65_.out⟩

end Go.Proofs.Ytnighnkkeiegnab
