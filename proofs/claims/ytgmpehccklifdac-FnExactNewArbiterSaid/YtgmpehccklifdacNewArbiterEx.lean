/-
  The walk of FnExactNewArbiter: at every argument the program answers as its model and writes nothing that was there, and its answer owns its memory.
-/
import Derived.Test.YtgmpehccklifdacNewAb
import Derived.WalkKit
import Derived.Deep.RegionHeld3
import Derived.Below
namespace Go.Proofs.Ytgmpehccklifdac
open Go Go.RowKit

set_option maxRecDepth 8000 in
set_option maxHeartbeats 8000000 in
theorem walk_exactNewArbiter_of (both : ∀ (xs0 : List Int), xs0.length ≤ 1048576 → ∃ (L0 : List Int) (y1 : Int) (y2 : Int) (b : Bool), L0.length ≤ 1048576 ∧ (∀ (W : World) (u0 : Option Addr) (v0 : Nat), RdI W (.slice u0 xs0.length v0) xs0 → Calls Try.prog 20 #[.slice u0 xs0.length v0] W (MadeArbiterB L0 y1 y2 b W)) ∧ ∀ (W : World) (u0 : Option Addr) (v0 : Nat), RdI W (.slice u0 xs0.length v0) xs0 → Calls Try.prog 22 #[.slice u0 xs0.length v0] W (MadeArbiterB L0 y1 y2 b W))
    (W : World) (a0 : Option Addr) (n0 c0 : Nat) (xs0 : List Int) (H0 : ISl W a0 n0 xs0) (hc0 : n0 ≤ 9223372036854775807) :
    Calls Try.prog 4 #[.slice a0 n0 c0] W fun e w' => e = .returned (.bool true) ∧ Below W.heap.size W w' := by
  have HI0 := Lib.hid H0
  have hlx0 := H0.1
  clear H0
  by_cases hbig0 : (1048576 : Int) < (n0 : Int)
  · clear hlx0

    go_enter Try.func4, Try.ntmps4
    go_wp2
    go_ret
    exact ⟨rfl, by first | exact Below.refl _ _ | exact gby_below (by repeat (with_reducible refine gby_alloc ?_ _); exact gby_refl _ _)⟩
  have hl0 : n0 ≤ 1048576 := by omega
  have hx0 : xs0.length ≤ 1048576 := by omega
  clear hlx0
  obtain ⟨L0, y1, y2, b, hL_L0, hs_, hi_⟩ := both xs0 hx0
  have HS := Lib.hid hs_
  have HM := Lib.hid hi_
  clear hs_ hi_ both
  have hbb : (b != b) = false := by simp
  go_enter Try.func4, Try.ntmps4
  clear hc0
  go_wp2_with fail
  go_at_call 21
  refine (toI_any _ a0 n0 c0 xs0 (HI0.out.kept (gby_refl _ _)) hl0).mono ?_
  rintro e w1 ⟨zT0, rfl, o, g⟩
  try simp only [World.size_alloc] at o
  obtain ⟨dT0, eT0, rfl, oo⟩ := o
  have o : OwI w1 _ _ (.slice dT0 xs0.length eT0) xs0 := ⟨dT0, eT0, rfl, oo⟩
  clear oo
  have s1 := g.size
  try simp only [World.size_alloc] at s1
  have G1 := Lib.hid (gby_trans (gby_refl _ _) g)
  have T0_1 := Lib.hid o
  clear o g
  go_wp2_with fail
  go_at_call 20
  refine (HS.out _ _ _ T0_1.out.rd).mono ?_
  rintro e w2 ⟨dQ_0, eQ_0, rfl, o, g⟩
  try simp only [World.size_alloc] at o
  have s2 := g.size
  try simp only [World.size_alloc] at s2
  have T0_2 := Lib.hid (T0_1.out.grow g)
  clear T0_1
  have G2 := Lib.hid (gby_trans G1.out g)
  have Q_2 := Lib.hid o
  clear o
  clear g
  unfold abV
  have al : w2.grownBy (w2.alloc (.cells #[.slice dQ_0 L0.length eQ_0, .int .i64 y1, .int .i64 y2] 27)) none := gby_alloc (gby_refl _ _) _
  have T0_2b := Lib.hid (T0_2.out.grow al)
  clear T0_2
  have Q_2b := Lib.hid (OwS.grow al Q_2.out)
  clear Q_2
  have G2b := Lib.hid (gby_trans G2.out al)
  have BQ_n := Lib.hid (heap_alloc_new w2 (.cells #[.slice dQ_0 L0.length eQ_0, .int .i64 y1, .int .i64 y2] 27))
  clear al
  clear T0_2b
  go_wp2_with fail
  go_at_call 21
  refine (toI_any _ a0 n0 c0 xs0 (HI0.out.kept G2b.out) hl0).mono ?_
  rintro e w3 ⟨zX0, rfl, o, g⟩
  try simp only [World.size_alloc] at o
  obtain ⟨dX0, eX0, rfl, oo⟩ := o
  have o : OwI w3 _ _ (.slice dX0 xs0.length eX0) xs0 := ⟨dX0, eX0, rfl, oo⟩
  clear oo
  have s3 := g.size
  try simp only [World.size_alloc] at s3
  have Q_3 := Lib.hid (OwS.grow g Q_2b.out)
  clear Q_2b
  have BQ_3 := Lib.hid (row_held g BQ_n.out)
  clear BQ_n
  have G3 := Lib.hid (gby_trans G2b.out g)
  have X0_3 := Lib.hid o
  clear o g
  go_wp2_with fail
  go_at_call 22
  refine (HM.out _ _ _ X0_3.out.rd).mono ?_
  rintro e w4 ⟨dP_0, eP_0, rfl, o, g⟩
  try simp only [World.size_alloc] at o
  have s4 := g.size
  try simp only [World.size_alloc] at s4
  have Q_4 := Lib.hid (OwS.grow g Q_3.out)
  clear Q_3
  have X0_4 := Lib.hid (X0_3.out.grow g)
  clear X0_3
  have BQ_4 := Lib.hid (row_held g BQ_3.out)
  clear BQ_3
  have G4 := Lib.hid (gby_trans G3.out g)
  have P_4 := Lib.hid o
  clear o
  clear g
  unfold abV
  have al : w4.grownBy (w4.alloc (.cells #[.slice dP_0 L0.length eP_0, .int .i64 y1, .int .i64 y2] 27)) none := gby_alloc (gby_refl _ _) _
  have Q_4b := Lib.hid (OwS.grow al Q_4.out)
  clear Q_4
  have X0_4b := Lib.hid (X0_4.out.grow al)
  clear X0_4
  have P_4b := Lib.hid (OwS.grow al P_4.out)
  clear P_4
  have BQ_4b := Lib.hid (row_held al BQ_4.out)
  clear BQ_4
  have G4b := Lib.hid (gby_trans G4.out al)
  have BP_n := Lib.hid (heap_alloc_new w4 (.cells #[.slice dP_0 L0.length eP_0, .int .i64 y1, .int .i64 y2] 27))
  clear al
  obtain ⟨kBP_0, kBP_1, kBP_2⟩ := ab_row BP_n.out
  obtain ⟨kBQ_0, kBQ_1, kBQ_2⟩ := ab_row BQ_4b.out
  go_wp2_with fail
  go_at_call 19
  refine (eqArbiter_g _ _ _ _ y1 y2 _ _ L0 (OwS.rd1 P_4b.out).isl' (OwS.rd1 Q_4b.out).isl' (by omega)).mono ?_
  rintro e w5 ⟨rfl, g⟩
  clear kBP_0 kBP_1 kBP_2 kBQ_0 kBQ_1 kBQ_2
  have s5 := g.size
  try simp only [World.size_alloc] at s5
  have Q_5 := Lib.hid (OwS.grow g Q_4b.out)
  clear Q_4b
  have X0_5 := Lib.hid (X0_4b.out.grow g)
  clear X0_4b
  have P_5 := Lib.hid (OwS.grow g P_4b.out)
  clear P_4b
  have BQ_5 := Lib.hid (row_held g BQ_4b.out)
  clear BQ_4b
  have BP_5 := Lib.hid (row_held g BP_n.out)
  clear BP_n
  have G5 := Lib.hid (gby_trans G4b.out g)
  clear g
  go_wp2_with fail
  go_at_call 21
  refine (toI_any _ a0 n0 c0 xs0 (HI0.out.kept G5.out) hl0).mono ?_
  rintro e w6 ⟨zT0, rfl, o, g⟩
  try simp only [World.size_alloc] at o
  obtain ⟨dT0, eT0, rfl, oo⟩ := o
  have o : OwI w6 _ _ (.slice dT0 xs0.length eT0) xs0 := ⟨dT0, eT0, rfl, oo⟩
  clear oo
  have s6 := g.size
  try simp only [World.size_alloc] at s6
  have Q_6 := Lib.hid (OwS.grow g Q_5.out)
  clear Q_5
  have X0_6 := Lib.hid (X0_5.out.grow g)
  clear X0_5
  have P_6 := Lib.hid (OwS.grow g P_5.out)
  clear P_5
  have BQ_6 := Lib.hid (row_held g BQ_5.out)
  clear BQ_5
  have BP_6 := Lib.hid (row_held g BP_5.out)
  clear BP_5
  have G6 := Lib.hid (gby_trans G5.out g)
  have T0_6 := Lib.hid o
  clear o g
  go_wp2_with fail
  go_at_call 23
  refine (eqI_same _ _ _ xs0 (X0_6.out.rd) (T0_6.out.rd) (by omega)).mono ?_
  rintro e w7 ⟨rfl, d⟩
  have g := d.gby none
  have s7 := g.size
  try simp only [World.size_alloc] at s7
  have Q_7 := Lib.hid (OwS.grow g Q_6.out)
  clear Q_6
  have X0_7 := Lib.hid (X0_6.out.grow g)
  clear X0_6
  have P_7 := Lib.hid (OwS.grow g P_6.out)
  clear P_6
  have T0_7 := Lib.hid (T0_6.out.grow g)
  clear T0_6
  have BQ_7 := Lib.hid (row_held g BQ_6.out)
  clear BQ_6
  have BP_7 := Lib.hid (row_held g BP_6.out)
  clear BP_6
  have G7 := Lib.hid (gby_trans G6.out g)
  clear d g
  clear T0_7
  go_wp2_with fail
  go_at_call 24
  refine (mkI_any _ _ _ 1 _ xs0 (X0_7.out) (by omega) (by omega)).mono ?_
  rintro e w8 ⟨rfl, o, c⟩
  have s8 := c.size
  have Q_8 := Lib.hid (OwS.kept c Q_7.out (by omega))
  clear Q_7
  have P_8 := Lib.hid (OwS.kept c P_7.out (by omega))
  clear P_7
  have BQ_8 := Lib.hid (c.keep BQ_7.out (by omega))
  clear BQ_7
  have BP_8 := Lib.hid (c.keep BP_7.out (by omega))
  clear BP_7
  clear X0_7
  have G8 := Lib.hid (gby_chg G7.out c (by omega))
  clear o c
  obtain ⟨kBP_0, kBP_1, kBP_2⟩ := ab_row BP_8.out
  obtain ⟨kBQ_0, kBQ_1, kBQ_2⟩ := ab_row BQ_8.out
  go_wp2_with fail
  go_at_call 19
  refine (eqArbiter_g _ _ _ _ y1 y2 _ _ L0 (OwS.rd1 P_8.out).isl' (OwS.rd1 Q_8.out).isl' (by omega)).mono ?_
  rintro e w9 ⟨rfl, g⟩
  clear kBP_0 kBP_1 kBP_2 kBQ_0 kBQ_1 kBQ_2
  have s9 := g.size
  try simp only [World.size_alloc] at s9
  have Q_9 := Lib.hid (OwS.grow g Q_8.out)
  clear Q_8
  have P_9 := Lib.hid (OwS.grow g P_8.out)
  clear P_8
  have BQ_9 := Lib.hid (row_held g BQ_8.out)
  clear BQ_8
  have BP_9 := Lib.hid (row_held g BP_8.out)
  clear BP_8
  have G9 := Lib.hid (gby_trans G8.out g)
  clear g
  obtain ⟨kBP_0, kBP_1, kBP_2⟩ := ab_row BP_9.out
  go_wp2_with fail
  go_at_call 25
  refine (markArbiter_g _ _ _ 1 _ _ _ y1 y2 L0 P_9.out (by first | omega | (simp only [World.size_alloc]; omega)) (by omega) (by omega)).mono ?_
  rintro e w10 ⟨rfl, o, c⟩
  clear kBP_0 kBP_1 kBP_2
  have s10 := c.size
  have Q_10 := Lib.hid (OwS.kept c Q_9.out (by omega))
  clear Q_9
  have BQ_10 := Lib.hid (c.keep BQ_9.out (by omega))
  clear BQ_9
  have BP_10 := Lib.hid (c.keep BP_9.out (by omega))
  clear BP_9
  clear P_9
  have P_10 := Lib.hid o
  have G10 := Lib.hid (gby_chg G9.out c (by omega))
  clear o c
  obtain ⟨kBP_0, kBP_1, kBP_2⟩ := ab_row BP_10.out
  go_wp2_with fail
  go_at_call 26
  refine (heldArbiter_g _ 1 _ _ _ y1 y2 L0.length (OwS.rd1 P_10.out) (by omega) (by omega)).mono ?_
  rintro e w11 ⟨rfl, g⟩
  clear kBP_0 kBP_1 kBP_2
  have s11 := g.size
  try simp only [World.size_alloc] at s11
  have Q_11 := Lib.hid (OwS.grow g Q_10.out)
  clear Q_10
  have P_11 := Lib.hid (OwS.grow g P_10.out)
  clear P_10
  have BQ_11 := Lib.hid (row_held g BQ_10.out)
  clear BQ_10
  have BP_11 := Lib.hid (row_held g BP_10.out)
  clear BP_10
  have G11 := Lib.hid (gby_trans G10.out g)
  clear g
  go_wp2_with fail
  go_at_call 21
  refine (toI_any _ a0 n0 c0 xs0 (HI0.out.kept G11.out) hl0).mono ?_
  rintro e w12 ⟨zT0, rfl, o, g⟩
  try simp only [World.size_alloc] at o
  obtain ⟨dT0, eT0, rfl, oo⟩ := o
  have o : OwI w12 _ _ (.slice dT0 xs0.length eT0) xs0 := ⟨dT0, eT0, rfl, oo⟩
  clear oo
  have s12 := g.size
  try simp only [World.size_alloc] at s12
  have Q_12 := Lib.hid (OwS.grow g Q_11.out)
  clear Q_11
  have P_12 := Lib.hid (OwS.grow g P_11.out)
  clear P_11
  have BQ_12 := Lib.hid (row_held g BQ_11.out)
  clear BQ_11
  have BP_12 := Lib.hid (row_held g BP_11.out)
  clear BP_11
  have G12 := Lib.hid (gby_trans G11.out g)
  have T0_12 := Lib.hid o
  clear o g
  go_wp2_with fail
  go_at_call 22
  refine (HM.out _ _ _ T0_12.out.rd).mono ?_
  rintro e w13 ⟨dR_0, eR_0, rfl, o, g⟩
  try simp only [World.size_alloc] at o
  have s13 := g.size
  try simp only [World.size_alloc] at s13
  have Q_13 := Lib.hid (OwS.grow g Q_12.out)
  clear Q_12
  have P_13 := Lib.hid (OwS.grow g P_12.out)
  clear P_12
  have T0_13 := Lib.hid (T0_12.out.grow g)
  clear T0_12
  have BQ_13 := Lib.hid (row_held g BQ_12.out)
  clear BQ_12
  have BP_13 := Lib.hid (row_held g BP_12.out)
  clear BP_12
  have G13 := Lib.hid (gby_trans G12.out g)
  have R_13 := Lib.hid o
  clear o
  clear g
  unfold abV
  have al : w13.grownBy (w13.alloc (.cells #[.slice dR_0 L0.length eR_0, .int .i64 y1, .int .i64 y2] 27)) none := gby_alloc (gby_refl _ _) _
  have Q_13b := Lib.hid (OwS.grow al Q_13.out)
  clear Q_13
  have P_13b := Lib.hid (OwS.grow al P_13.out)
  clear P_13
  have T0_13b := Lib.hid (T0_13.out.grow al)
  clear T0_13
  have R_13b := Lib.hid (OwS.grow al R_13.out)
  clear R_13
  have BQ_13b := Lib.hid (row_held al BQ_13.out)
  clear BQ_13
  have BP_13b := Lib.hid (row_held al BP_13.out)
  clear BP_13
  have G13b := Lib.hid (gby_trans G13.out al)
  have BR_n := Lib.hid (heap_alloc_new w13 (.cells #[.slice dR_0 L0.length eR_0, .int .i64 y1, .int .i64 y2] 27))
  clear al
  clear T0_13b
  obtain ⟨kBR_0, kBR_1, kBR_2⟩ := ab_row BR_n.out
  obtain ⟨kBQ_0, kBQ_1, kBQ_2⟩ := ab_row BQ_13b.out
  go_wp2_with fail
  go_at_call 19
  refine (eqArbiter_g _ _ _ _ y1 y2 _ _ L0 (OwS.rd1 R_13b.out).isl' (OwS.rd1 Q_13b.out).isl' (by omega)).mono ?_
  rintro e w14 ⟨rfl, g⟩
  clear kBR_0 kBR_1 kBR_2 kBQ_0 kBQ_1 kBQ_2
  have s14 := g.size
  try simp only [World.size_alloc] at s14
  have Q_14 := Lib.hid (OwS.grow g Q_13b.out)
  clear Q_13b
  have P_14 := Lib.hid (OwS.grow g P_13b.out)
  clear P_13b
  have R_14 := Lib.hid (OwS.grow g R_13b.out)
  clear R_13b
  have BQ_14 := Lib.hid (row_held g BQ_13b.out)
  clear BQ_13b
  have BP_14 := Lib.hid (row_held g BP_13b.out)
  clear BP_13b
  have BR_14 := Lib.hid (row_held g BR_n.out)
  clear BR_n
  have G14 := Lib.hid (gby_trans G13b.out g)
  clear g
  clear R_14
  clear Q_14
  obtain ⟨kBP_0, kBP_1, kBP_2⟩ := ab_row BP_14.out
  go_wp2_with fail
  go_at_call 26
  refine (heldArbiter_g _ 1 _ _ _ y1 y2 L0.length (OwS.rd1 P_14.out) (by omega) (by omega)).mono ?_
  rintro e w15 ⟨rfl, g⟩
  clear kBP_0 kBP_1 kBP_2
  have s15 := g.size
  try simp only [World.size_alloc] at s15
  have P_15 := Lib.hid (OwS.grow g P_14.out)
  clear P_14
  have BQ_15 := Lib.hid (row_held g BQ_14.out)
  clear BQ_14
  have BP_15 := Lib.hid (row_held g BP_14.out)
  clear BP_14
  have BR_15 := Lib.hid (row_held g BR_14.out)
  clear BR_14
  have G15 := Lib.hid (gby_trans G14.out g)
  clear g
  go_wp2
  go_ret
  exact ⟨rfl, gby_below G15.out⟩
  
end Go.Proofs.Ytgmpehccklifdac
