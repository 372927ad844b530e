/-
  The walk of FnExactVirtualIds: at every argument the program answers as its model and writes nothing that was there, and its answer owns its memory.
-/
import Derived.Test.YtjkjodcgpdhldaaQVirtual
import Derived.Test.YtjkjodcgpdhldaaRVirtualIds
import Derived.Test.YtjkjodcgpdhldaaShpI
import Derived.WalkKit
import Derived.Deep.RegionHeld3
import Derived.Below
namespace Go.Proofs.Ytjkjodcgpdhldaa
open Go Go.RowKit

set_option maxRecDepth 8000 in
set_option maxHeartbeats 16000000 in
theorem walk_exactVirtualIds_of (both : ∀ (i0 : Int) (i1_0 : Int) (i1_1 : Int) (i1_2 : Int), ∃ (xsr0 : List Int) (br1 : Bool), szL shI xsr0 ≤ 1048576 ∧ (∀ (W : World), Calls Try.prog 20 #[.int .i64 i0, .agg #[.int .i64 i1_0, .int .i64 i1_1, .int .i64 i1_2]] W (ResSVirtualIds xsr0 br1 W)) ∧ ∀ (W : World), Calls Try.prog 21 #[.int .i64 i0, .agg #[.int .i64 i1_0, .int .i64 i1_1, .int .i64 i1_2]] W (ResIVirtualIds xsr0 br1 W))
    (W : World) (i0 : Int) (i1_0 : Int) (i1_1 : Int) (i1_2 : Int)  :
    Calls Try.prog 5 #[.int .i64 i0, .agg #[.int .i64 i1_0, .int .i64 i1_1, .int .i64 i1_2]] W fun e w' => e = .returned (.bool true) ∧ Below W.heap.size W w' := by
  obtain ⟨xsr0, br1, hLr0, hs_, hi_⟩ := both i0 i1_0 i1_1 i1_2 
  have HS := Lib.hid hs_
  have HM := Lib.hid hi_
  clear hs_ hi_
  try clear both
  have hb_br1 : (br1 != br1) = false := by simp
  have hqr0 : ecL shI xsr0 ≤ 104857600 := Nat.le_trans (ecL_le _ _) (Nat.le_trans (Nat.mul_le_mul_left _ hLr0) (Nat.mul_le_mul_right 1048576 (show shI.c ≤ 100 by decide)))
  go_enter Try.func5, Try.ntmps5
  have rA11_ := Lib.hid (show ((W.alloc (.cells #[.int .i64 i1_0, .int .i64 i1_1, .int .i64 i1_2] 23))).heap[W.heap.size]? = some (.cells #[.int .i64 i1_0, .int .i64 i1_1, .int .i64 i1_2] 23 (0, 0)) from by exact heap_alloc_new _ _)
  have G2_ := Lib.hid (show (W).grownBy ((W.alloc (.cells #[.int .i64 i1_0, .int .i64 i1_1, .int .i64 i1_2] 23))) none from (gby_alloc (gby_refl _ _) _))
  have A1_0_ : ((W.alloc (.cells #[.int .i64 i1_0, .int .i64 i1_1, .int .i64 i1_2] 23))).cell? ⟨W.heap.size, 0, none⟩ = some (.int .i64 i1_0) := cell_of_row _ _ 0 _ _ _ rA11_.out
  have A1_1_ : ((W.alloc (.cells #[.int .i64 i1_0, .int .i64 i1_1, .int .i64 i1_2] 23))).cell? ⟨W.heap.size, 1, none⟩ = some (.int .i64 i1_1) := cell_of_row _ _ 1 _ _ _ rA11_.out
  have A1_2_ : ((W.alloc (.cells #[.int .i64 i1_0, .int .i64 i1_1, .int .i64 i1_2] 23))).cell? ⟨W.heap.size, 2, none⟩ = some (.int .i64 i1_2) := cell_of_row _ _ 2 _ _ _ rA11_.out
  go_wp2_with fail
  go_at_call 16
  refine (toVirtual_d _ i1_0 i1_1 i1_2  ).mono ?_
  rintro e w1 ⟨rfl, g⟩
  have sz_ := g.size
  try simp only [World.size_alloc] at sz_
  have zs1 := World.grownBy.size g
  try simp only [World.size_alloc] at zs1
  clear A1_0_ A1_1_ A1_2_
  have rA13_ := Lib.hid (show (w1).heap[W.heap.size]? = some (.cells #[.int .i64 i1_0, .int .i64 i1_1, .int .i64 i1_2] 23 (0, 0)) from row_held g rA11_.out)
  clear rA11_
  have G4_ := Lib.hid (show (W).grownBy (w1) none from gby_trans G2_.out g)
  clear g
  have szw1 := sz_
  clear sz_
  try unfold vVirtual
  go_wp2_with fail
  go_at_call 20
  refine (HS.out _  ).mono ?_
  rintro e w2 ⟨wr0, rfl, or0, g⟩
  have sz_ := g.size
  try simp only [World.size_alloc] at sz_
  have zs2 := World.grownBy.size g
  try simp only [World.size_alloc] at zs2
  have rA15_ := Lib.hid (show (w2).heap[W.heap.size]? = some (.cells #[.int .i64 i1_0, .int .i64 i1_1, .int .i64 i1_2] 23 (0, 0)) from row_held g rA13_.out)
  clear rA13_
  have G6_ := Lib.hid (show (W).grownBy (w2) none from gby_trans G4_.out g)
  clear g
  have szw2 := sz_
  clear sz_
  obtain ⟨wr0p, wr0n, wr0c, hv_⟩ := RdL.form (or0)
  subst hv_
  have rd7_ := Lib.hid or0
  clear or0
  have qG8_ := Lib.hid (gby_refl w2 none)
  have A1_0_ : (w2).cell? ⟨W.heap.size, 0, none⟩ = some (.int .i64 i1_0) := cell_of_row _ _ 0 _ _ _ rA15_.out
  have A1_1_ : (w2).cell? ⟨W.heap.size, 1, none⟩ = some (.int .i64 i1_1) := cell_of_row _ _ 1 _ _ _ rA15_.out
  have A1_2_ : (w2).cell? ⟨W.heap.size, 2, none⟩ = some (.int .i64 i1_2) := cell_of_row _ _ 2 _ _ _ rA15_.out
  go_wp2_with fail
  go_at_call 16
  refine (toVirtual_d _ i1_0 i1_1 i1_2  ).mono ?_
  rintro e w3 ⟨rfl, g⟩
  have sz_ := g.size
  try simp only [World.size_alloc] at sz_
  have zs3 := World.grownBy.size g
  try simp only [World.size_alloc] at zs3
  clear A1_0_ A1_1_ A1_2_
  have rA19_ := Lib.hid (show (w3).heap[W.heap.size]? = some (.cells #[.int .i64 i1_0, .int .i64 i1_1, .int .i64 i1_2] 23 (0, 0)) from row_held g rA15_.out)
  clear rA15_
  have G10_ := Lib.hid (show (W).grownBy (w3) none from gby_trans G6_.out g)
  have qw11_ := Lib.hid (show (w2).grownBy (w3) none from gby_trans qG8_.out g)
  clear qG8_
  clear g
  have szw3 := sz_
  clear sz_
  try unfold vVirtual
  go_wp2_with fail
  go_at_call 21
  refine (HM.out _  ).mono ?_
  rintro e w4 ⟨gr0, rfl, o, g⟩
  have sz_ := g.size
  try simp only [World.size_alloc] at sz_
  try simp only [World.size_alloc] at o
  have zs4 := World.grownBy.size g
  try simp only [World.size_alloc] at zs4
  have rA112_ := Lib.hid (show (w4).heap[W.heap.size]? = some (.cells #[.int .i64 i1_0, .int .i64 i1_1, .int .i64 i1_2] 23 (0, 0)) from row_held g rA19_.out)
  clear rA19_
  have G13_ := Lib.hid (show (W).grownBy (w4) none from gby_trans G10_.out g)
  have qw14_ := Lib.hid (show (w2).grownBy (w4) none from gby_trans qw11_.out g)
  clear qw11_
  clear g
  have szw4 := sz_
  clear sz_
  obtain ⟨gr0p, gr0n, gr0c, hv_⟩ := RdL.form (OwU.rd o)
  subst hv_
  have og15_ := Lib.hid (show OwU (w4) (w3.heap.size) (w4.heap.size) [] [own shI (.slice gr0p gr0n gr0c) xsr0] from o)
  clear o
  go_wp2_with fail
  go_at_call 22
  refine (eqIntS_d _ (.slice gr0p gr0n gr0c) (.slice wr0p wr0n wr0c) xsr0 (OwU.rd og15_.out) (RdL.grow rd7_.out qw14_.out) hLr0).mono ?_
  rintro e w5 ⟨rfl, g⟩
  have zs5 := World.grownBy.size g
  try simp only [World.size_alloc] at zs5
  have rA116_ := Lib.hid (show (w5).heap[W.heap.size]? = some (.cells #[.int .i64 i1_0, .int .i64 i1_1, .int .i64 i1_2] 23 (0, 0)) from row_held g rA112_.out)
  clear rA112_
  have og17_ := Lib.hid (show OwU (w5) (w3.heap.size) (w4.heap.size) [] [own shI (.slice gr0p gr0n gr0c) xsr0] from OwU.grow og15_.out g)
  clear og15_
  have G18_ := Lib.hid (show (W).grownBy (w5) none from gby_trans G13_.out g)
  have qw19_ := Lib.hid (show (w2).grownBy (w5) none from gby_trans qw14_.out g)
  clear qw14_
  clear g
  obtain ⟨lo_, hi_, l_, u_, _, oo, ff⟩ := OwU.focus (pre := []) (p := own shI (.slice gr0p gr0n gr0c) xsr0) (post := []) og17_.out
  have FF := Lib.hid ff
  clear ff
  go_wp2_with fail
  go_at_call 23
  refine (markIntS_d _ lo_ hi_ (1) (.slice gr0p gr0n gr0c) xsr0 oo hLr0 (by omega)).mono ?_
  rintro e w6 ⟨rfl, o, c⟩
  have o_ := c
  have c' := chg_wide c (lo' := w3.heap.size) (hi' := w4.heap.size) l_ u_
  clear c
  have c := c'
  clear c'
  have szw6 := c.size
  try simp only [World.size_alloc] at szw6
  have rA120_ := Lib.hid (show (w6).heap[W.heap.size]? = some (.cells #[.int .i64 i1_0, .int .i64 i1_1, .int .i64 i1_2] 23 (0, 0)) from Chg.keep c rA116_.out (by omega))
  clear rA116_
  have G21_ := Lib.hid (show (W).grownBy (w6) none from gby_chg G18_.out c (by omega))
  have qw22_ := Lib.hid (show (w2).grownBy (w6) none from gby_chg qw19_.out c (by omega))
  clear qw19_
  have og23_ := Lib.hid (show OwU (w6) (w3.heap.size) (w4.heap.size) [] [own shI (.slice gr0p gr0n gr0c) (emL shI (1) xsr0)] from FF.out _ (own shI (.slice gr0p gr0n gr0c) (emL shI (1) xsr0)) o_ o)
  clear og17_ o c oo FF o_
  go_wp2_with fail
  go_at_call 24
  refine (heldIntS_d _ (1) (.slice gr0p gr0n gr0c) xsr0 (OwU.rd og23_.out) hLr0 (by omega)).mono ?_
  rintro e w7 ⟨rfl, g⟩
  have zs6 := World.grownBy.size g
  try simp only [World.size_alloc] at zs6
  have rA124_ := Lib.hid (show (w7).heap[W.heap.size]? = some (.cells #[.int .i64 i1_0, .int .i64 i1_1, .int .i64 i1_2] 23 (0, 0)) from row_held g rA120_.out)
  clear rA120_
  have og25_ := Lib.hid (show OwU (w7) (w3.heap.size) (w4.heap.size) [] [own shI (.slice gr0p gr0n gr0c) (emL shI (1) xsr0)] from OwU.grow og23_.out g)
  clear og23_
  have G26_ := Lib.hid (show (W).grownBy (w7) none from gby_trans G21_.out g)
  have qw27_ := Lib.hid (show (w2).grownBy (w7) none from gby_trans qw22_.out g)
  clear qw22_
  clear g
  have ng7 : ¬ (((1 + ecL shI xsr0 : Nat) : Int) < 0) := by omega
  have A1_0_ : (w7).cell? ⟨W.heap.size, 0, none⟩ = some (.int .i64 i1_0) := cell_of_row _ _ 0 _ _ _ rA124_.out
  have A1_1_ : (w7).cell? ⟨W.heap.size, 1, none⟩ = some (.int .i64 i1_1) := cell_of_row _ _ 1 _ _ _ rA124_.out
  have A1_2_ : (w7).cell? ⟨W.heap.size, 2, none⟩ = some (.int .i64 i1_2) := cell_of_row _ _ 2 _ _ _ rA124_.out
  go_wp2_with fail
  go_at_call 16
  refine (toVirtual_d _ i1_0 i1_1 i1_2  ).mono ?_
  rintro e w8 ⟨rfl, g⟩
  have sz_ := g.size
  try simp only [World.size_alloc] at sz_
  have zs7 := World.grownBy.size g
  try simp only [World.size_alloc] at zs7
  clear A1_0_ A1_1_ A1_2_
  have rA128_ := Lib.hid (show (w8).heap[W.heap.size]? = some (.cells #[.int .i64 i1_0, .int .i64 i1_1, .int .i64 i1_2] 23 (0, 0)) from row_held g rA124_.out)
  clear rA124_
  have og29_ := Lib.hid (show OwU (w8) (w3.heap.size) (w4.heap.size) [] [own shI (.slice gr0p gr0n gr0c) (emL shI (1) xsr0)] from OwU.grow og25_.out g)
  clear og25_
  have G30_ := Lib.hid (show (W).grownBy (w8) none from gby_trans G26_.out g)
  have qw31_ := Lib.hid (show (w2).grownBy (w8) none from gby_trans qw27_.out g)
  clear qw27_
  clear g
  have szw8 := sz_
  clear sz_
  try unfold vVirtual
  go_wp2_with fail
  go_at_call 21
  refine (HM.out _  ).mono ?_
  rintro e w9 ⟨hr0, rfl, o, g⟩
  have sz_ := g.size
  try simp only [World.size_alloc] at sz_
  try simp only [World.size_alloc] at o
  have zs8 := World.grownBy.size g
  try simp only [World.size_alloc] at zs8
  have rA132_ := Lib.hid (show (w9).heap[W.heap.size]? = some (.cells #[.int .i64 i1_0, .int .i64 i1_1, .int .i64 i1_2] 23 (0, 0)) from row_held g rA128_.out)
  clear rA128_
  have og33_ := Lib.hid (show OwU (w9) (w3.heap.size) (w4.heap.size) [] [own shI (.slice gr0p gr0n gr0c) (emL shI (1) xsr0)] from OwU.grow og29_.out g)
  clear og29_
  have G34_ := Lib.hid (show (W).grownBy (w9) none from gby_trans G30_.out g)
  have qw35_ := Lib.hid (show (w2).grownBy (w9) none from gby_trans qw31_.out g)
  clear qw31_
  clear g
  have szw9 := sz_
  clear sz_
  obtain ⟨hr0p, hr0n, hr0c, hv_⟩ := RdL.form (OwU.rd o)
  subst hv_
  have oh36_ := Lib.hid (show OwU (w9) (w8.heap.size) (w9.heap.size) [] [own shI (.slice hr0p hr0n hr0c) xsr0] from o)
  clear o
  go_wp2_with fail
  go_at_call 22
  refine (eqIntS_d _ (.slice hr0p hr0n hr0c) (.slice wr0p wr0n wr0c) xsr0 (OwU.rd oh36_.out) (RdL.grow rd7_.out qw35_.out) hLr0).mono ?_
  rintro e w10 ⟨rfl, g⟩
  have zs9 := World.grownBy.size g
  try simp only [World.size_alloc] at zs9
  have rA137_ := Lib.hid (show (w10).heap[W.heap.size]? = some (.cells #[.int .i64 i1_0, .int .i64 i1_1, .int .i64 i1_2] 23 (0, 0)) from row_held g rA132_.out)
  clear rA132_
  have og38_ := Lib.hid (show OwU (w10) (w3.heap.size) (w4.heap.size) [] [own shI (.slice gr0p gr0n gr0c) (emL shI (1) xsr0)] from OwU.grow og33_.out g)
  clear og33_
  have oh39_ := Lib.hid (show OwU (w10) (w8.heap.size) (w9.heap.size) [] [own shI (.slice hr0p hr0n hr0c) xsr0] from OwU.grow oh36_.out g)
  clear oh36_
  have G40_ := Lib.hid (show (W).grownBy (w10) none from gby_trans G34_.out g)
  have qw41_ := Lib.hid (show (w2).grownBy (w10) none from gby_trans qw35_.out g)
  clear qw35_
  clear g
  go_wp2_with fail
  go_at_call 24
  refine (heldIntS_d _ (1) (.slice gr0p gr0n gr0c) xsr0 (OwU.rd og38_.out) hLr0 (by omega)).mono ?_
  rintro e w11 ⟨rfl, g⟩
  have zs10 := World.grownBy.size g
  try simp only [World.size_alloc] at zs10
  have rA142_ := Lib.hid (show (w11).heap[W.heap.size]? = some (.cells #[.int .i64 i1_0, .int .i64 i1_1, .int .i64 i1_2] 23 (0, 0)) from row_held g rA137_.out)
  clear rA137_
  have og43_ := Lib.hid (show OwU (w11) (w3.heap.size) (w4.heap.size) [] [own shI (.slice gr0p gr0n gr0c) (emL shI (1) xsr0)] from OwU.grow og38_.out g)
  clear og38_
  have oh44_ := Lib.hid (show OwU (w11) (w8.heap.size) (w9.heap.size) [] [own shI (.slice hr0p hr0n hr0c) xsr0] from OwU.grow oh39_.out g)
  clear oh39_
  have G45_ := Lib.hid (show (W).grownBy (w11) none from gby_trans G40_.out g)
  have qw46_ := Lib.hid (show (w2).grownBy (w11) none from gby_trans qw41_.out g)
  clear qw41_
  clear g
  have ng11 : ¬ (((1 + ecL shI xsr0 : Nat) : Int) < 0) := by omega
  go_wp2
  go_ret
  exact ⟨rfl, gby_below G45_.out⟩

end Go.Proofs.Ytjkjodcgpdhldaa
