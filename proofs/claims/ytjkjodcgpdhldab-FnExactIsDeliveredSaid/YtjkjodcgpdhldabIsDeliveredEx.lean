/-
  The walk of FnExactIsDelivered: at every argument the program answers as its model and writes nothing that was there.
-/
import Derived.Test.YtjkjodcgpdhldabRIsDelivered
import Derived.Test.YtjkjodcgpdhldabShpI
import Derived.WalkKit
import Derived.Deep.RegionHeld3
import Derived.Below
namespace Go.Proofs.Ytjkjodcgpdhldab
open Go Go.RowKit

set_option maxRecDepth 8000 in
set_option maxHeartbeats 16000000 in
theorem walk_exactIsDelivered_of (both : ∀ (xs0 : List Int) (i1 : Int) (xs2 : List Int), szL shI xs0 ≤ 1048576 → szL shI xs2 ≤ 1048576 → ∃ (br0 : Bool), (∀ (W : World), ∀ u0 u2, RdL shI W u0 xs0 → RdL shI W u2 xs2 → Calls Try.prog 15 #[u0, .int .i64 i1, u2] W (ResSIsDelivered br0 W)) ∧ ∀ (W : World), ∀ u0 u2, RdL shI W u0 xs0 → RdL shI W u2 xs2 → Calls Try.prog 17 #[u0, .int .i64 i1, u2] W (ResIIsDelivered br0 W))
    (W : World) (a0 : Value) (xs0 : List Int) (i1 : Int) (a2 : Value) (xs2 : List Int) (H0 : RdL shI W a0 xs0) (H2 : RdL shI W a2 xs2) :
    Calls Try.prog 3 #[a0, .int .i64 i1, a2] W fun e w' => e = .returned (.bool true) ∧ Below W.heap.size W w' := by
  have HI0 := Lib.hid H0
  have hmx0 := H0.max
  clear H0
  have HI2 := Lib.hid H2
  have hmx2 := H2.max
  clear H2
  have hlen0 : ∃ p n c, a0 = .slice p n c ∧ n = xs0.length := by
    obtain ⟨p, c, h, _⟩ := HI0.out
    exact ⟨p, _, c, h, rfl⟩
  obtain ⟨p0, n0, c0, hv0, hnx0⟩ := hlen0
  subst hv0
  have hlen2 : ∃ p n c, a2 = .slice p n c ∧ n = xs2.length := by
    obtain ⟨p, c, h, _⟩ := HI2.out
    exact ⟨p, _, c, h, rfl⟩
  obtain ⟨p2, n2, c2, hv2, hnx2⟩ := hlen2
  subst hv2
  by_cases hbig0 : (1048576 : Int) < (n0 : Int)
  · have HN := Lib.hid hnx0
    clear hnx0
    have HN2 := Lib.hid hnx2
    clear hnx2
    go_enter Try.func3, Try.ntmps3
    go_wp2
    go_ret
    exact ⟨rfl, by first | exact Below.refl _ _ | exact gby_below (by repeat (with_reducible refine gby_alloc ?_ _); exact gby_refl _ _)⟩
  by_cases hbig2 : (1048576 : Int) < (n2 : Int)
  · have HN := Lib.hid hnx2
    clear hnx2
    have HN0 := Lib.hid hnx0
    clear hnx0
    go_enter Try.func3, Try.ntmps3
    go_wp2
    go_ret
    exact ⟨rfl, by first | exact Below.refl _ _ | exact gby_below (by repeat (with_reducible refine gby_alloc ?_ _); exact gby_refl _ _)⟩
  have hl0 : szL shI xs0 ≤ 1048576 := by have : szL shI xs0 = xs0.length := szL_I _; omega
  have HN0 := Lib.hid hnx0
  clear hnx0
  have hl2 : szL shI xs2 ≤ 1048576 := by have : szL shI xs2 = xs2.length := szL_I _; omega
  have HN2 := Lib.hid hnx2
  clear hnx2
  obtain ⟨br0, hs_, hi_⟩ := both xs0 i1 xs2 hl0 hl2
  have HS := Lib.hid hs_
  have HM := Lib.hid hi_
  clear hs_ hi_
  try clear both
  have hb_br0 : (br0 != br0) = false := by simp
  go_enter Try.func3, Try.ntmps3
  have G1_ := Lib.hid (show (W).grownBy (W) none from (gby_refl _ _))
  go_wp2_with fail
  go_at_call 16
  refine (toIntS_d _ (.slice p0 n0 c0) xs0 (HI0.out.grow G1_.out) hl0).mono ?_
  rintro e w1 ⟨t10, rfl, o, g⟩
  have sz_ := g.size
  try simp only [World.size_alloc] at sz_
  try simp only [World.size_alloc] at o
  have zs1 := World.grownBy.size g
  try simp only [World.size_alloc] at zs1
  have G2_ := Lib.hid (show (W).grownBy (w1) none from gby_trans G1_.out g)
  clear g
  have szw1 := sz_
  clear sz_
  obtain ⟨t10p, t10n, t10c, hv_⟩ := RdL.form (OwL.rd o)
  subst hv_
  have oT13_ := Lib.hid (show OwU (w1) (W.heap.size) (w1.heap.size) [] [own shI (.slice t10p t10n t10c) xs0] from OwU.one o)
  clear o
  go_wp2_with fail
  go_at_call 16
  refine (toIntS_d _ (.slice p2 n2 c2) xs2 (HI2.out.grow G2_.out) hl2).mono ?_
  rintro e w2 ⟨t22, rfl, o, g⟩
  have sz_ := g.size
  try simp only [World.size_alloc] at sz_
  try simp only [World.size_alloc] at o
  have zs2 := World.grownBy.size g
  try simp only [World.size_alloc] at zs2
  have oT14_ := Lib.hid (show OwU (w2) (W.heap.size) (w1.heap.size) [] [own shI (.slice t10p t10n t10c) xs0] from OwU.grow oT13_.out g)
  clear oT13_
  have G5_ := Lib.hid (show (W).grownBy (w2) none from gby_trans G2_.out g)
  clear g
  have szw2 := sz_
  clear sz_
  obtain ⟨t22p, t22n, t22c, hv_⟩ := RdL.form (OwL.rd o)
  subst hv_
  have oT26_ := Lib.hid (show OwU (w2) (w1.heap.size) (w2.heap.size) [] [own shI (.slice t22p t22n t22c) xs2] from OwU.one o)
  clear o
  go_wp2_with fail
  go_at_call 15
  refine (HS.out _ (.slice t10p t10n t10c) (.slice t22p t22n t22c) (OwU.rd oT14_.out) (OwU.rd oT26_.out)).mono ?_
  rintro e w3 ⟨rfl, g⟩
  have sz_ := g.size
  try simp only [World.size_alloc] at sz_
  have zs3 := World.grownBy.size g
  try simp only [World.size_alloc] at zs3
  have oT17_ := Lib.hid (show OwU (w3) (W.heap.size) (w1.heap.size) [] [own shI (.slice t10p t10n t10c) xs0] from OwU.grow oT14_.out g)
  clear oT14_
  have oT28_ := Lib.hid (show OwU (w3) (w1.heap.size) (w2.heap.size) [] [own shI (.slice t22p t22n t22c) xs2] from OwU.grow oT26_.out g)
  clear oT26_
  have G9_ := Lib.hid (show (W).grownBy (w3) none from gby_trans G5_.out g)
  clear g
  have szw3 := sz_
  clear sz_
  clear oT17_
  clear oT28_
  go_wp2_with fail
  go_at_call 16
  refine (toIntS_d _ (.slice p0 n0 c0) xs0 (HI0.out.grow G9_.out) hl0).mono ?_
  rintro e w4 ⟨x00, rfl, o, g⟩
  have sz_ := g.size
  try simp only [World.size_alloc] at sz_
  try simp only [World.size_alloc] at o
  have zs4 := World.grownBy.size g
  try simp only [World.size_alloc] at zs4
  have G10_ := Lib.hid (show (W).grownBy (w4) none from gby_trans G9_.out g)
  clear g
  have szw4 := sz_
  clear sz_
  obtain ⟨x00p, x00n, x00c, hv_⟩ := RdL.form (OwL.rd o)
  subst hv_
  have ox011_ := Lib.hid (show OwU (w4) (w3.heap.size) (w4.heap.size) [] [own shI (.slice x00p x00n x00c) xs0] from OwU.one o)
  clear o
  go_wp2_with fail
  go_at_call 16
  refine (toIntS_d _ (.slice p2 n2 c2) xs2 (HI2.out.grow G10_.out) hl2).mono ?_
  rintro e w5 ⟨x22, rfl, o, g⟩
  have sz_ := g.size
  try simp only [World.size_alloc] at sz_
  try simp only [World.size_alloc] at o
  have zs5 := World.grownBy.size g
  try simp only [World.size_alloc] at zs5
  have ox012_ := Lib.hid (show OwU (w5) (w3.heap.size) (w4.heap.size) [] [own shI (.slice x00p x00n x00c) xs0] from OwU.grow ox011_.out g)
  clear ox011_
  have G13_ := Lib.hid (show (W).grownBy (w5) none from gby_trans G10_.out g)
  clear g
  have szw5 := sz_
  clear sz_
  obtain ⟨x22p, x22n, x22c, hv_⟩ := RdL.form (OwL.rd o)
  subst hv_
  have ox214_ := Lib.hid (show OwU (w5) (w4.heap.size) (w5.heap.size) [] [own shI (.slice x22p x22n x22c) xs2] from OwU.one o)
  clear o
  go_wp2_with fail
  go_at_call 17
  refine (HM.out _ (.slice x00p x00n x00c) (.slice x22p x22n x22c) (OwU.rd ox012_.out) (OwU.rd ox214_.out)).mono ?_
  rintro e w6 ⟨rfl, g⟩
  have sz_ := g.size
  try simp only [World.size_alloc] at sz_
  have zs6 := World.grownBy.size g
  try simp only [World.size_alloc] at zs6
  have ox015_ := Lib.hid (show OwU (w6) (w3.heap.size) (w4.heap.size) [] [own shI (.slice x00p x00n x00c) xs0] from OwU.grow ox012_.out g)
  clear ox012_
  have ox216_ := Lib.hid (show OwU (w6) (w4.heap.size) (w5.heap.size) [] [own shI (.slice x22p x22n x22c) xs2] from OwU.grow ox214_.out g)
  clear ox214_
  have G17_ := Lib.hid (show (W).grownBy (w6) none from gby_trans G13_.out g)
  clear g
  have szw6 := sz_
  clear sz_
  go_wp2_with fail
  go_at_call 16
  refine (toIntS_d _ (.slice p0 n0 c0) xs0 (HI0.out.grow G17_.out) hl0).mono ?_
  rintro e w7 ⟨t30, rfl, o, g⟩
  have sz_ := g.size
  try simp only [World.size_alloc] at sz_
  try simp only [World.size_alloc] at o
  have zs7 := World.grownBy.size g
  try simp only [World.size_alloc] at zs7
  have ox018_ := Lib.hid (show OwU (w7) (w3.heap.size) (w4.heap.size) [] [own shI (.slice x00p x00n x00c) xs0] from OwU.grow ox015_.out g)
  clear ox015_
  have ox219_ := Lib.hid (show OwU (w7) (w4.heap.size) (w5.heap.size) [] [own shI (.slice x22p x22n x22c) xs2] from OwU.grow ox216_.out g)
  clear ox216_
  have G20_ := Lib.hid (show (W).grownBy (w7) none from gby_trans G17_.out g)
  clear g
  have szw7 := sz_
  clear sz_
  obtain ⟨t30p, t30n, t30c, hv_⟩ := RdL.form (OwL.rd o)
  subst hv_
  have oT321_ := Lib.hid (show OwU (w7) (w6.heap.size) (w7.heap.size) [] [own shI (.slice t30p t30n t30c) xs0] from OwU.one o)
  clear o
  go_wp2_with fail
  go_at_call 18
  refine (eqIntS_d _ (.slice x00p x00n x00c) (.slice t30p t30n t30c) xs0 (OwU.rd ox018_.out) (OwU.rd oT321_.out) hl0).mono ?_
  rintro e w8 ⟨rfl, g⟩
  have zs8 := World.grownBy.size g
  try simp only [World.size_alloc] at zs8
  have ox022_ := Lib.hid (show OwU (w8) (w3.heap.size) (w4.heap.size) [] [own shI (.slice x00p x00n x00c) xs0] from OwU.grow ox018_.out g)
  clear ox018_
  have ox223_ := Lib.hid (show OwU (w8) (w4.heap.size) (w5.heap.size) [] [own shI (.slice x22p x22n x22c) xs2] from OwU.grow ox219_.out g)
  clear ox219_
  have oT324_ := Lib.hid (show OwU (w8) (w6.heap.size) (w7.heap.size) [] [own shI (.slice t30p t30n t30c) xs0] from OwU.grow oT321_.out g)
  clear oT321_
  have G25_ := Lib.hid (show (W).grownBy (w8) none from gby_trans G20_.out g)
  clear g
  clear oT324_
  go_wp2_with fail
  go_at_call 16
  refine (toIntS_d _ (.slice p2 n2 c2) xs2 (HI2.out.grow G25_.out) hl2).mono ?_
  rintro e w9 ⟨t42, rfl, o, g⟩
  have sz_ := g.size
  try simp only [World.size_alloc] at sz_
  try simp only [World.size_alloc] at o
  have zs9 := World.grownBy.size g
  try simp only [World.size_alloc] at zs9
  have ox026_ := Lib.hid (show OwU (w9) (w3.heap.size) (w4.heap.size) [] [own shI (.slice x00p x00n x00c) xs0] from OwU.grow ox022_.out g)
  clear ox022_
  have ox227_ := Lib.hid (show OwU (w9) (w4.heap.size) (w5.heap.size) [] [own shI (.slice x22p x22n x22c) xs2] from OwU.grow ox223_.out g)
  clear ox223_
  have G28_ := Lib.hid (show (W).grownBy (w9) none from gby_trans G25_.out g)
  clear g
  have szw9 := sz_
  clear sz_
  obtain ⟨t42p, t42n, t42c, hv_⟩ := RdL.form (OwL.rd o)
  subst hv_
  have oT429_ := Lib.hid (show OwU (w9) (w8.heap.size) (w9.heap.size) [] [own shI (.slice t42p t42n t42c) xs2] from OwU.one o)
  clear o
  go_wp2_with fail
  go_at_call 18
  refine (eqIntS_d _ (.slice x22p x22n x22c) (.slice t42p t42n t42c) xs2 (OwU.rd ox227_.out) (OwU.rd oT429_.out) hl2).mono ?_
  rintro e w10 ⟨rfl, g⟩
  have zs10 := World.grownBy.size g
  try simp only [World.size_alloc] at zs10
  have ox030_ := Lib.hid (show OwU (w10) (w3.heap.size) (w4.heap.size) [] [own shI (.slice x00p x00n x00c) xs0] from OwU.grow ox026_.out g)
  clear ox026_
  have ox231_ := Lib.hid (show OwU (w10) (w4.heap.size) (w5.heap.size) [] [own shI (.slice x22p x22n x22c) xs2] from OwU.grow ox227_.out g)
  clear ox227_
  have oT432_ := Lib.hid (show OwU (w10) (w8.heap.size) (w9.heap.size) [] [own shI (.slice t42p t42n t42c) xs2] from OwU.grow oT429_.out g)
  clear oT429_
  have G33_ := Lib.hid (show (W).grownBy (w10) none from gby_trans G28_.out g)
  clear g
  clear oT432_
  go_wp2
  go_ret
  exact ⟨rfl, gby_below G33_.out⟩

end Go.Proofs.Ytjkjodcgpdhldab
