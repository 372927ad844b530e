/-
  The walk of FnExactIsIsolated: at every argument the program answers as its model and writes nothing that was there.
-/
import Derived.Test.YtgagbhkidponnabQSPageGrant
import Derived.Test.YtgagbhkidponnabRIsIsolated
import Derived.WalkKit
import Derived.Deep.RegionHeld3
import Derived.Below
namespace Go.Proofs.Ytgagbhkidponnab
open Go Go.RowKit

set_option maxRecDepth 8000 in
set_option maxHeartbeats 16000000 in
theorem walk_exactIsIsolated_of (both : ∀ (xs0 : List DPageGrant) (i1 : Int) (i2 : Int), szL shPageGrant xs0 ≤ 1048576 → ∃ (br0 : Bool), (∀ (W : World), ∀ u0, RdL shPageGrant W u0 xs0 → Calls Try.prog 16 #[u0, .int .i64 i1, .int .i64 i2] W (ResSIsIsolated br0 W)) ∧ ∀ (W : World), ∀ u0, RdL shPageGrant W u0 xs0 → Calls Try.prog 17 #[u0, .int .i64 i1, .int .i64 i2] W (ResIIsIsolated br0 W))
    (W : World) (a0 : Value) (xs0 : List DPageGrant) (i1 : Int) (i2 : Int) (H0 : RdL shPageGrant W a0 xs0) :
    Calls Try.prog 4 #[a0, .int .i64 i1, .int .i64 i2] W fun e w' => e = .returned (.bool true) ∧ Below W.heap.size W w' := by
  have HI0 := Lib.hid H0
  have hmx0 := H0.max
  clear H0
  by_cases hs0 : (1048576 : Int) < (((szL shPageGrant xs0) : Nat) : Int)
  · have hneg : (-1 : Int) < 0 := by omega
    go_enter Try.func4, Try.ntmps4
    have G1_ := Lib.hid (show (W).grownBy (W) none from (gby_refl _ _))
    go_wp2_with fail
    go_at_call 11
    refine (szPageGrantS_d _ 1048576 a0 xs0 (HI0.out.grow G1_.out) (by omega) (by omega)).mono ?_
    rintro e w1 ⟨he, g⟩
    rw [show lessN 1048576 (szL shPageGrant xs0) = -1 from if_pos hs0] at he
    subst he
    have G2_ := Lib.hid (show (W).grownBy (w1) none from gby_trans G1_.out g)
    clear g
    go_wp2
    go_ret
    exact ⟨rfl, gby_below G2_.out⟩
  obtain ⟨rr0, hr0⟩ : ∃ r, r = lessN 1048576 (szL shPageGrant xs0) := ⟨_, rfl⟩
  have hrr0 : rr0 = (1048576 : Int) - (((szL shPageGrant xs0) : Nat) : Int) := hr0.trans (if_neg hs0)
  have hn0 : ¬ rr0 < 0 := by omega
  have hu0 : rr0 ≤ 1048576 := by omega
  have hl0 : szL shPageGrant xs0 ≤ 1048576 := by omega
  have HR0 := Lib.hid hr0
  clear hs0 hr0 hrr0
  obtain ⟨br0, hs_, hi_⟩ := both xs0 i1 i2 hl0
  have HS := Lib.hid hs_
  have HM := Lib.hid hi_
  clear hs_ hi_
  try clear both
  have hb_br0 : (br0 != br0) = false := by simp
  go_enter Try.func4, Try.ntmps4
  have G1_ := Lib.hid (show (W).grownBy (W) none from (gby_refl _ _))
  go_wp2_with fail
  go_at_call 11
  refine (szPageGrantS_d _ 1048576 a0 xs0 (HI0.out.grow G1_.out) (by omega) (by omega)).mono ?_
  rintro e w1 ⟨he, g⟩
  rw [← HR0.out] at he
  subst he
  have zs1 := World.grownBy.size g
  try simp only [World.size_alloc] at zs1
  have G2_ := Lib.hid (show (W).grownBy (w1) none from gby_trans G1_.out g)
  clear g
  go_wp2_with fail
  go_at_call 13
  refine (toPageGrantS_d _ a0 xs0 (HI0.out.grow G2_.out) hl0).mono ?_
  rintro e w2 ⟨t10, rfl, o, g⟩
  have sz_ := g.size
  try simp only [World.size_alloc] at sz_
  try simp only [World.size_alloc] at o
  have zs2 := World.grownBy.size g
  try simp only [World.size_alloc] at zs2
  have G3_ := Lib.hid (show (W).grownBy (w2) none from gby_trans G2_.out g)
  clear g
  have szw2 := sz_
  clear sz_
  obtain ⟨t10p, t10n, t10c, hv_⟩ := RdL.form (OwL.rd o)
  subst hv_
  have oT14_ := Lib.hid (show OwU (w2) (w1.heap.size) (w2.heap.size) [] [own shPageGrant (.slice t10p t10n t10c) xs0] from OwU.one o)
  clear o
  go_wp2_with fail
  go_at_call 16
  refine (HS.out _ (.slice t10p t10n t10c) (OwU.rd oT14_.out)).mono ?_
  rintro e w3 ⟨rfl, g⟩
  have sz_ := g.size
  try simp only [World.size_alloc] at sz_
  have zs3 := World.grownBy.size g
  try simp only [World.size_alloc] at zs3
  have oT15_ := Lib.hid (show OwU (w3) (w1.heap.size) (w2.heap.size) [] [own shPageGrant (.slice t10p t10n t10c) xs0] from OwU.grow oT14_.out g)
  clear oT14_
  have G6_ := Lib.hid (show (W).grownBy (w3) none from gby_trans G3_.out g)
  clear g
  have szw3 := sz_
  clear sz_
  clear oT15_
  go_wp2_with fail
  go_at_call 13
  refine (toPageGrantS_d _ a0 xs0 (HI0.out.grow G6_.out) hl0).mono ?_
  rintro e w4 ⟨x00, rfl, o, g⟩
  have sz_ := g.size
  try simp only [World.size_alloc] at sz_
  try simp only [World.size_alloc] at o
  have zs4 := World.grownBy.size g
  try simp only [World.size_alloc] at zs4
  have G7_ := Lib.hid (show (W).grownBy (w4) none from gby_trans G6_.out g)
  clear g
  have szw4 := sz_
  clear sz_
  obtain ⟨x00p, x00n, x00c, hv_⟩ := RdL.form (OwL.rd o)
  subst hv_
  have ox08_ := Lib.hid (show OwU (w4) (w3.heap.size) (w4.heap.size) [] [own shPageGrant (.slice x00p x00n x00c) xs0] from OwU.one o)
  clear o
  go_wp2_with fail
  go_at_call 17
  refine (HM.out _ (.slice x00p x00n x00c) (OwU.rd ox08_.out)).mono ?_
  rintro e w5 ⟨rfl, g⟩
  have sz_ := g.size
  try simp only [World.size_alloc] at sz_
  have zs5 := World.grownBy.size g
  try simp only [World.size_alloc] at zs5
  have ox09_ := Lib.hid (show OwU (w5) (w3.heap.size) (w4.heap.size) [] [own shPageGrant (.slice x00p x00n x00c) xs0] from OwU.grow ox08_.out g)
  clear ox08_
  have G10_ := Lib.hid (show (W).grownBy (w5) none from gby_trans G7_.out g)
  clear g
  have szw5 := sz_
  clear sz_
  go_wp2_with fail
  go_at_call 13
  refine (toPageGrantS_d _ a0 xs0 (HI0.out.grow G10_.out) hl0).mono ?_
  rintro e w6 ⟨t20, rfl, o, g⟩
  have sz_ := g.size
  try simp only [World.size_alloc] at sz_
  try simp only [World.size_alloc] at o
  have zs6 := World.grownBy.size g
  try simp only [World.size_alloc] at zs6
  have ox011_ := Lib.hid (show OwU (w6) (w3.heap.size) (w4.heap.size) [] [own shPageGrant (.slice x00p x00n x00c) xs0] from OwU.grow ox09_.out g)
  clear ox09_
  have G12_ := Lib.hid (show (W).grownBy (w6) none from gby_trans G10_.out g)
  clear g
  have szw6 := sz_
  clear sz_
  obtain ⟨t20p, t20n, t20c, hv_⟩ := RdL.form (OwL.rd o)
  subst hv_
  have oT213_ := Lib.hid (show OwU (w6) (w5.heap.size) (w6.heap.size) [] [own shPageGrant (.slice t20p t20n t20c) xs0] from OwU.one o)
  clear o
  go_wp2_with fail
  go_at_call 15
  refine (eqPageGrantS_d _ (.slice x00p x00n x00c) (.slice t20p t20n t20c) xs0 (OwU.rd ox011_.out) (OwU.rd oT213_.out) hl0).mono ?_
  rintro e w7 ⟨rfl, g⟩
  have zs7 := World.grownBy.size g
  try simp only [World.size_alloc] at zs7
  have ox014_ := Lib.hid (show OwU (w7) (w3.heap.size) (w4.heap.size) [] [own shPageGrant (.slice x00p x00n x00c) xs0] from OwU.grow ox011_.out g)
  clear ox011_
  have oT215_ := Lib.hid (show OwU (w7) (w5.heap.size) (w6.heap.size) [] [own shPageGrant (.slice t20p t20n t20c) xs0] from OwU.grow oT213_.out g)
  clear oT213_
  have G16_ := Lib.hid (show (W).grownBy (w7) none from gby_trans G12_.out g)
  clear g
  clear oT215_
  go_wp2
  go_ret
  exact ⟨rfl, gby_below G16_.out⟩

end Go.Proofs.Ytgagbhkidponnab
