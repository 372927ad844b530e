/-
  The walk of FnExactTakeCheck: at every argument the program answers as its model and writes nothing that was there, and its answer owns its memory.
-/
import Derived.Test.YtokpmbagidokkaaChg
namespace Go.Proofs.Ytokpmbagidokkaa
open Go Go.RowKit

set_option maxRecDepth 8000 in
set_option maxHeartbeats 4000000 in
theorem walk_exactTakeCheck_of (both : ∀ (xs0 : List Int), xs0.length ≤ 1048576 → ∃ (L : List Int) (b : Bool), L.length ≤ 1048576 ∧ (∀ (W : World) (v0 : Value), RdI W v0 xs0 → Calls Try.prog 46 #[v0] W (RowIB L b W)) ∧ ∀ (W : World) (v0 : Value), RdI W v0 xs0 → Calls Try.prog 39 #[v0] W (RowIB L b W))
    (W : World) (a0 : Option Addr) (l0 c0 : Nat) (xs0 : List Int) (H0 : ISl W a0 l0 xs0) (hc0 : l0 ≤ 9223372036854775807) :
    Calls Try.prog 12 #[.slice a0 l0 c0] W fun e w' => e = .returned (.bool true) ∧ Below W.heap.size W w' := by
  have HI0 := Lib.hid H0
  have hlx0 := H0.1
  clear H0
  by_cases hbig0 : (1048576 : Int) < (l0 : Int)
  · clear hlx0
    go_enter Try.func12, Try.ntmps12
    go_wp2
    go_ret
    exact ⟨rfl, Below.refl _ _⟩
  have hl0 : l0 ≤ 1048576 := by omega
  have hx0 : xs0.length ≤ 1048576 := by omega
  clear hc0
  obtain ⟨L, b, hL, hs, hi⟩ := both xs0 hx0
  have HS := Lib.hid hs
  have HM := Lib.hid hi
  clear hs hi both hlx0
  cases b
  all_goals
    go_enter Try.func12, Try.ntmps12
    go_wp2_with fail
    go_at_call 33
    refine (toI_any _ a0 l0 c0 xs0 (HI0.out.kept (gby_refl W none)) hl0).mono ?_
    rintro e w1 ⟨u1, rfl, o1, g1⟩
    have s1 := g1.size
    have G1 := Lib.hid (gby_trans (gby_refl W none) g1)
    have T0_1 := Lib.hid o1
    clear o1 g1
    go_wp2_with fail
    go_at_call 46
    refine (HS.out _ _ (T0_1.out.rd)).mono ?_
    rintro e w2 ⟨u2, rfl, o2, g2⟩
    have s2 := g2.size
    have T0_2 := Lib.hid (T0_1.out.grow g2)
    clear T0_1
    have G2 := Lib.hid (gby_trans G1.out g2)
    have Q_2 := Lib.hid o2
    clear o2
    clear g2
    clear T0_2
    go_wp2_with fail
    go_at_call 33
    refine (toI_any _ a0 l0 c0 xs0 (HI0.out.kept G2.out) hl0).mono ?_
    rintro e w3 ⟨u3, rfl, o3, g3⟩
    have s3 := g3.size
    have Q_3 := Lib.hid (Q_2.out.grow g3)
    clear Q_2
    have G3 := Lib.hid (gby_trans G2.out g3)
    have X0_3 := Lib.hid o3
    clear o3 g3
    go_wp2_with fail
    go_at_call 39
    refine (HM.out _ _ (X0_3.out.rd)).mono ?_
    rintro e w4 ⟨u4, rfl, o4, g4⟩
    have s4 := g4.size
    have Q_4 := Lib.hid (Q_3.out.grow g4)
    clear Q_3
    have X0_4 := Lib.hid (X0_3.out.grow g4)
    clear X0_3
    have G4 := Lib.hid (gby_trans G3.out g4)
    have P_4 := Lib.hid o4
    clear o4
    clear g4
    go_wp2_with fail
    go_at_call 27
    refine (eqI_same _ _ _ L (P_4.out.rd) (Q_4.out.rd) (by omega)).mono ?_
    rintro e w5 ⟨rfl, d5⟩
    have g5 := d5.gby none
    have s5 := g5.size
    have Q_5 := Lib.hid (Q_4.out.grow g5)
    clear Q_4
    have X0_5 := Lib.hid (X0_4.out.grow g5)
    clear X0_4
    have P_5 := Lib.hid (P_4.out.grow g5)
    clear P_4
    have G5 := Lib.hid (gby_trans G4.out g5)
    clear d5 g5
    go_wp2_with fail
    go_at_call 33
    refine (toI_any _ a0 l0 c0 xs0 (HI0.out.kept G5.out) hl0).mono ?_
    rintro e w6 ⟨u6, rfl, o6, g6⟩
    have s6 := g6.size
    have Q_6 := Lib.hid (Q_5.out.grow g6)
    clear Q_5
    have X0_6 := Lib.hid (X0_5.out.grow g6)
    clear X0_5
    have P_6 := Lib.hid (P_5.out.grow g6)
    clear P_5
    have G6 := Lib.hid (gby_trans G5.out g6)
    have T0_6 := Lib.hid o6
    clear o6 g6
    go_wp2_with fail
    go_at_call 27
    refine (eqI_same _ _ _ xs0 (X0_6.out.rd) (T0_6.out.rd) (by omega)).mono ?_
    rintro e w7 ⟨rfl, d7⟩
    have g7 := d7.gby none
    have s7 := g7.size
    have Q_7 := Lib.hid (Q_6.out.grow g7)
    clear Q_6
    have X0_7 := Lib.hid (X0_6.out.grow g7)
    clear X0_6
    have P_7 := Lib.hid (P_6.out.grow g7)
    clear P_6
    have T0_7 := Lib.hid (T0_6.out.grow g7)
    clear T0_6
    have G7 := Lib.hid (gby_trans G6.out g7)
    clear d7 g7
    clear T0_7
    go_wp2_with fail
    go_at_call 30
    refine (mkI_any _ _ _ 1 _ xs0 (X0_7.out) (by omega) (by omega)).mono ?_
    rintro e w8 ⟨rfl, o8, c8⟩
    have s8 := c8.size
    have Q_8 := Lib.hid (Q_7.out.kept c8 (by omega))
    clear Q_7
    have P_8 := Lib.hid (P_7.out.kept c8 (by omega))
    clear P_7
    clear X0_7
    have X0_8 := Lib.hid o8
    have G8 := Lib.hid (gby_chg G7.out c8 (by omega))
    clear o8 c8
    clear X0_8
    go_wp2_with fail
    go_at_call 27
    refine (eqI_same _ _ _ L (P_8.out.rd) (Q_8.out.rd) (by omega)).mono ?_
    rintro e w9 ⟨rfl, d9⟩
    have g9 := d9.gby none
    have s9 := g9.size
    have Q_9 := Lib.hid (Q_8.out.grow g9)
    clear Q_8
    have P_9 := Lib.hid (P_8.out.grow g9)
    clear P_8
    have G9 := Lib.hid (gby_trans G8.out g9)
    clear d9 g9
    go_wp2_with fail
    go_at_call 30
    refine (mkI_any _ _ _ 1 _ L (P_9.out) (by omega) (by omega)).mono ?_
    rintro e w10 ⟨rfl, o10, c10⟩
    have s10 := c10.size
    have Q_10 := Lib.hid (Q_9.out.kept c10 (by omega))
    clear Q_9
    clear P_9
    have P_10 := Lib.hid o10
    have G10 := Lib.hid (gby_chg G9.out c10 (by omega))
    clear o10 c10
    go_wp2_with fail
    go_at_call 31
    refine (hdI_any _ 1 L.length _ (P_10.out.rd) (by omega) (by omega)).mono ?_
    rintro e w11 ⟨rfl, d11⟩
    have g11 := d11.gby none
    have s11 := g11.size
    have Q_11 := Lib.hid (Q_10.out.grow g11)
    clear Q_10
    have P_11 := Lib.hid (P_10.out.grow g11)
    clear P_10
    have G11 := Lib.hid (gby_trans G10.out g11)
    clear d11 g11
    go_wp2_with fail
    go_at_call 33
    refine (toI_any _ a0 l0 c0 xs0 (HI0.out.kept G11.out) hl0).mono ?_
    rintro e w12 ⟨u12, rfl, o12, g12⟩
    have s12 := g12.size
    have Q_12 := Lib.hid (Q_11.out.grow g12)
    clear Q_11
    have P_12 := Lib.hid (P_11.out.grow g12)
    clear P_11
    have G12 := Lib.hid (gby_trans G11.out g12)
    have T0_12 := Lib.hid o12
    clear o12 g12
    go_wp2_with fail
    go_at_call 39
    refine (HM.out _ _ (T0_12.out.rd)).mono ?_
    rintro e w13 ⟨u13, rfl, o13, g13⟩
    have s13 := g13.size
    have Q_13 := Lib.hid (Q_12.out.grow g13)
    clear Q_12
    have P_13 := Lib.hid (P_12.out.grow g13)
    clear P_12
    have T0_13 := Lib.hid (T0_12.out.grow g13)
    clear T0_12
    have G13 := Lib.hid (gby_trans G12.out g13)
    have R_13 := Lib.hid o13
    clear o13
    clear g13
    clear T0_13
    go_wp2_with fail
    go_at_call 27
    refine (eqI_same _ _ _ L (R_13.out.rd) (Q_13.out.rd) (by omega)).mono ?_
    rintro e w14 ⟨rfl, d14⟩
    have g14 := d14.gby none
    have s14 := g14.size
    have Q_14 := Lib.hid (Q_13.out.grow g14)
    clear Q_13
    have P_14 := Lib.hid (P_13.out.grow g14)
    clear P_13
    have R_14 := Lib.hid (R_13.out.grow g14)
    clear R_13
    have G14 := Lib.hid (gby_trans G13.out g14)
    clear d14 g14
    clear R_14
    clear Q_14
    go_wp2_with fail
    go_at_call 31
    refine (hdI_any _ 1 L.length _ (P_14.out.rd) (by omega) (by omega)).mono ?_
    rintro e w15 ⟨rfl, d15⟩
    have g15 := d15.gby none
    have s15 := g15.size
    have P_15 := Lib.hid (P_14.out.grow g15)
    clear P_14
    have G15 := Lib.hid (gby_trans G14.out g15)
    clear d15 g15
    go_wp2
    go_ret
    exact ⟨rfl, gby_below G15.out⟩

end Go.Proofs.Ytokpmbagidokkaa
