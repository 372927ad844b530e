/-
  The walk of FnExactTakeWire: at every slice the program answers as its model, writes nothing that was there, and its answer owns its memory.
-/
import Derived.Test.YtokpmbagidokkacTakeWire
namespace Go.Proofs.Ytokpmbagidokkac
open Go Go.RowKit

/-- both answer the same -/
theorem takeWire_both (xs : List Int) (hl : xs.length ≤ 1048576) : ∃ (q : Int) (L : List Int) (b : Bool), L.length ≤ 1048576 ∧ (∀ (W : World) (v : Value), RdI W v xs → Calls Try.prog 20 #[v] W (FrB q L b W)) ∧ ∀ (W : World) (v : Value), RdI W v xs → Calls Try.prog 22 #[v] W (FrB q L b W) := by
  by_cases h : FrameOk xs
  · rcases hy : xs.take (xs.length - 2) with _ | ⟨y, ys⟩
    · exact ⟨0, [], false, by simp, fun W v H => specTW_none W v xs H h hy, fun W v H => implTW_none W v xs H h hy⟩
    · have hle : ys.length ≤ 1048576 := by
        have := congrArg List.length hy
        rw [List.length_take, List.length_cons] at this
        omega
      by_cases hq : IsQ y
      · exact ⟨y, ys, true, hle, fun W v H => specTW_yes W v xs y ys H h hy hq, fun W v H => implTW_yes W v xs y ys H h hy hq⟩
      · exact ⟨0, [], false, by simp, fun W v H => specTW_far W v xs y ys H h hy hq, fun W v H => implTW_far W v xs y ys H h hy hq⟩
  · exact ⟨0, [], false, by simp, fun W v H => specTW_bad W v xs H hl h, fun W v H => implTW_bad W v xs H hl h⟩

set_option maxRecDepth 8000 in
set_option maxHeartbeats 4000000 in
theorem walk_exactTakeWire (W : World) (a : Option Addr) (len cap : Nat) (xs : List Int) (H : ISl W a len xs) (hc : len ≤ 9223372036854775807) :
    Calls Try.prog 4 #[.slice a len cap] W fun e w' => e = .returned (.bool true) ∧ Below W.heap.size W w' := by
  have HI := Lib.hid H
  have hlx := H.1
  clear H
  by_cases hbig : (1048576 : Int) < (len : Int)
  · clear hlx
    go_enter Try.func4, Try.ntmps4
    go_wp2
    go_ret
    exact ⟨rfl, Below.refl _ _⟩
  · have hl : len ≤ 1048576 := by omega
    have hx : xs.length ≤ 1048576 := by omega
    clear hc
    obtain ⟨q, L, b, hL, hs, hi⟩ := takeWire_both xs hx
    have HS := Lib.hid hs
    have HM := Lib.hid hi
    clear hs hi hlx
    have hb : (b != b) = false := by simp
    go_enter Try.func4, Try.ntmps4
    go_wp2_with fail
    go_at_call 21
    refine (toI_any _ a len cap xs HI.out hl).mono ?_
    rintro e w1 ⟨v1, rfl, o1, g1⟩
    have s1 := g1.size
    have T1 := Lib.hid o1
    have G1 := Lib.hid g1
    clear o1 g1
    go_wp2_with fail
    go_at_call 20
    refine (HS.out _ _ T1.out.rd).mono ?_
    rintro e w2 ⟨d2, c2, rfl, o2, g2⟩
    have s2 := g2.size
    have Q2 := Lib.hid o2
    have G2 := Lib.hid (gby_trans G1.out g2)
    clear o2 g2 T1
    unfold frV
    have al2 : w2.grownBy (w2.alloc (.cells #[.int .i64 q, .slice d2 L.length c2] 27)) none := gby_alloc (gby_refl _ _) _
    have Q_2b := Lib.hid (Q2.out.grow al2)
    clear Q2
    have G2b := Lib.hid (gby_trans G2.out al2)
    have RQ0 := Lib.hid (heap_alloc_new w2 (.cells #[.int .i64 q, .slice d2 L.length c2] 27))
    clear al2
    go_wp2_with fail
    go_at_call 21
    refine (toI_any _ a len cap xs (HI.out.kept G2b.out) hl).mono ?_
    rintro e w3 ⟨v3, rfl, o3, g3⟩
    have s3 := g3.size
    try simp only [World.size_alloc] at s3
    have Q_3 := Lib.hid (Q_2b.out.grow g3)
    clear Q_2b
    have RQ_3 := Lib.hid (row_on g3 RQ0.out)
    clear RQ0
    have G3 := Lib.hid (gby_trans G2b.out g3)
    have X_3 := Lib.hid (o3.wide (lo' := w2.heap.size + 1) (by simp) (Nat.le_refl _))
    clear o3 g3
    go_wp2_with fail
    go_at_call 22
    refine (HM.out _ _ X_3.out.rd).mono ?_
    rintro e w4 ⟨d4, c4, rfl, o4, g4⟩
    have s4 := g4.size
    have Q_4 := Lib.hid (Q_3.out.grow g4)
    clear Q_3
    have X_4 := Lib.hid (X_3.out.grow g4)
    clear X_3
    have RQ_4 := Lib.hid (row_on g4 RQ_3.out)
    clear RQ_3
    have G4 := Lib.hid (gby_trans G3.out g4)
    have P_4 := Lib.hid o4
    clear o4 g4
    unfold frV
    have al4 : w4.grownBy (w4.alloc (.cells #[.int .i64 q, .slice d4 L.length c4] 27)) none := gby_alloc (gby_refl _ _) _
    have Q_4b := Lib.hid (Q_4.out.grow al4)
    clear Q_4
    have X_4b := Lib.hid (X_4.out.grow al4)
    clear X_4
    have P_4b := Lib.hid (P_4.out.grow al4)
    clear P_4
    have RQ_4b := Lib.hid (row_on al4 RQ_4.out)
    clear RQ_4
    have G4b := Lib.hid (gby_trans G4.out al4)
    have RP0 := Lib.hid (heap_alloc_new w4 (.cells #[.int .i64 q, .slice d4 L.length c4] 27))
    clear al4
    obtain ⟨RQc0, RQc1⟩ := fr_cells RQ_4b.out
    obtain ⟨RPc0, RPc1⟩ := fr_cells RP0.out
    go_wp2_with fail
    go_at_call 16
    refine (eqFr_same _ q _ _ L.length _ _ L P_4b.out.isl Q_4b.out.isl hL).mono ?_
    rintro e w5 ⟨rfl, g5⟩
    have s5 := g5.size
    have Q_5 := Lib.hid (Q_4b.out.grow g5)
    clear Q_4b
    have X_5 := Lib.hid (X_4b.out.grow g5)
    clear X_4b
    have P_5 := Lib.hid (P_4b.out.grow g5)
    clear P_4b
    have RQ_5 := Lib.hid (row_on g5 RQ_4b.out)
    clear RQ_4b
    have RP_5 := Lib.hid (row_on g5 RP0.out)
    clear RP0
    have G5 := Lib.hid (gby_trans G4b.out g5)
    clear g5
    clear RQc0 RQc1
    clear RPc0 RPc1
    go_wp2_with fail
    go_at_call 21
    refine (toI_any _ a len cap xs (HI.out.kept G5.out) hl).mono ?_
    rintro e w6 ⟨v6, rfl, o6, g6⟩
    have s6 := g6.size
    try simp only [World.size_alloc] at s6
    have Q_6 := Lib.hid (Q_5.out.grow g6)
    clear Q_5
    have X_6 := Lib.hid (X_5.out.grow g6)
    clear X_5
    have P_6 := Lib.hid (P_5.out.grow g6)
    clear P_5
    have RQ_6 := Lib.hid (row_on g6 RQ_5.out)
    clear RQ_5
    have RP_6 := Lib.hid (row_on g6 RP_5.out)
    clear RP_5
    have G6 := Lib.hid (gby_trans G5.out g6)
    have T_6 := Lib.hid o6
    clear o6 g6
    go_wp2_with fail
    go_at_call 15
    refine (eqI_same _ _ _ xs X_6.out.rd T_6.out.rd hx).mono ?_
    rintro e w7 ⟨rfl, d7⟩
    have g7 := d7.gby none
    have s7 := g7.size
    have Q_7 := Lib.hid (Q_6.out.grow g7)
    clear Q_6
    have X_7 := Lib.hid (X_6.out.grow g7)
    clear X_6
    have P_7 := Lib.hid (P_6.out.grow g7)
    clear P_6
    have T_7 := Lib.hid (T_6.out.grow g7)
    clear T_6
    have RQ_7 := Lib.hid (row_on g7 RQ_6.out)
    clear RQ_6
    have RP_7 := Lib.hid (row_on g7 RP_6.out)
    clear RP_6
    have G7 := Lib.hid (gby_trans G6.out g7)
    clear g7 d7
    clear T_7
    go_wp2_with fail
    go_at_call 18
    refine (mkI_any _ _ _ 1 _ xs X_7.out (by omega) (by omega)).mono ?_
    rintro e w8 ⟨rfl, o8, c8⟩
    have s8 := c8.size
    clear X_7
    have Q_8 := Lib.hid (Q_7.out.kept c8 (by omega))
    clear Q_7
    have P_8 := Lib.hid (P_7.out.kept c8 (by omega))
    clear P_7
    have RQ_8 := Lib.hid (c8.keep RQ_7.out (by omega))
    clear RQ_7
    have RP_8 := Lib.hid (c8.keep RP_7.out (by omega))
    clear RP_7
    have G8 := Lib.hid (gby_chg G7.out c8 (by omega))
    clear o8 c8
    obtain ⟨RQc0, RQc1⟩ := fr_cells RQ_8.out
    obtain ⟨RPc0, RPc1⟩ := fr_cells RP_8.out
    go_wp2_with fail
    go_at_call 16
    refine (eqFr_same _ q _ _ L.length _ _ L P_8.out.isl Q_8.out.isl hL).mono ?_
    rintro e w9 ⟨rfl, g9⟩
    have s9 := g9.size
    have Q_9 := Lib.hid (Q_8.out.grow g9)
    clear Q_8
    have P_9 := Lib.hid (P_8.out.grow g9)
    clear P_8
    have RQ_9 := Lib.hid (row_on g9 RQ_8.out)
    clear RQ_8
    have RP_9 := Lib.hid (row_on g9 RP_8.out)
    clear RP_8
    have G9 := Lib.hid (gby_trans G8.out g9)
    clear g9
    clear RQc0 RQc1
    clear RPc0 RPc1
    obtain ⟨RPc0, RPc1⟩ := fr_cells RP_9.out
    go_wp2_with fail
    go_at_call 17
    refine (markFr_any _ _ _ 1 q _ _ _ L P_9.out (by omega) (by omega)).mono ?_
    rintro e w10 ⟨rfl, o10, c10⟩
    have s10 := c10.size
    have Q_10 := Lib.hid (Q_9.out.kept c10 (by omega))
    clear Q_9
    have RQ_10 := Lib.hid (c10.keep RQ_9.out (by omega))
    clear RQ_9
    have RP_10 := Lib.hid (c10.keep RP_9.out (by omega))
    clear RP_9
    have G10 := Lib.hid (gby_chg G9.out c10 (by omega))
    clear P_9
    have P_10 := Lib.hid o10
    clear o10 c10
    clear RPc0 RPc1
    obtain ⟨RPc0, RPc1⟩ := fr_cells RP_10.out
    go_wp2_with fail
    go_at_call 23
    refine (heldFr_any _ 1 L.length q _ _ _ P_10.out.rd (by omega) (by omega)).mono ?_
    rintro e w11 ⟨rfl, g11⟩
    have s11 := g11.size
    have Q_11 := Lib.hid (Q_10.out.grow g11)
    clear Q_10
    have P_11 := Lib.hid (P_10.out.grow g11)
    clear P_10
    have RQ_11 := Lib.hid (row_on g11 RQ_10.out)
    clear RQ_10
    have RP_11 := Lib.hid (row_on g11 RP_10.out)
    clear RP_10
    have G11 := Lib.hid (gby_trans G10.out g11)
    clear g11
    clear RPc0 RPc1
    go_wp2_with fail
    go_at_call 21
    refine (toI_any _ a len cap xs (HI.out.kept G11.out) hl).mono ?_
    rintro e w12 ⟨v12, rfl, o12, g12⟩
    have s12 := g12.size
    try simp only [World.size_alloc] at s12
    have Q_12 := Lib.hid (Q_11.out.grow g12)
    clear Q_11
    have P_12 := Lib.hid (P_11.out.grow g12)
    clear P_11
    have RQ_12 := Lib.hid (row_on g12 RQ_11.out)
    clear RQ_11
    have RP_12 := Lib.hid (row_on g12 RP_11.out)
    clear RP_11
    have G12 := Lib.hid (gby_trans G11.out g12)
    have T_12 := Lib.hid o12
    clear o12 g12
    go_wp2_with fail
    go_at_call 22
    refine (HM.out _ _ T_12.out.rd).mono ?_
    rintro e w13 ⟨d13, c13, rfl, o13, g13⟩
    have s13 := g13.size
    have Q_13 := Lib.hid (Q_12.out.grow g13)
    clear Q_12
    have P_13 := Lib.hid (P_12.out.grow g13)
    clear P_12
    have T_13 := Lib.hid (T_12.out.grow g13)
    clear T_12
    have RQ_13 := Lib.hid (row_on g13 RQ_12.out)
    clear RQ_12
    have RP_13 := Lib.hid (row_on g13 RP_12.out)
    clear RP_12
    have G13 := Lib.hid (gby_trans G12.out g13)
    have R_13 := Lib.hid o13
    clear o13 g13
    clear T_13
    unfold frV
    have al13 : w13.grownBy (w13.alloc (.cells #[.int .i64 q, .slice d13 L.length c13] 27)) none := gby_alloc (gby_refl _ _) _
    have Q_13b := Lib.hid (Q_13.out.grow al13)
    clear Q_13
    have P_13b := Lib.hid (P_13.out.grow al13)
    clear P_13
    have R_13b := Lib.hid (R_13.out.grow al13)
    clear R_13
    have RQ_13b := Lib.hid (row_on al13 RQ_13.out)
    clear RQ_13
    have RP_13b := Lib.hid (row_on al13 RP_13.out)
    clear RP_13
    have G13b := Lib.hid (gby_trans G13.out al13)
    have RR0 := Lib.hid (heap_alloc_new w13 (.cells #[.int .i64 q, .slice d13 L.length c13] 27))
    clear al13
    obtain ⟨RQc0, RQc1⟩ := fr_cells RQ_13b.out
    obtain ⟨RPc0, RPc1⟩ := fr_cells RP_13b.out
    obtain ⟨RRc0, RRc1⟩ := fr_cells RR0.out
    go_wp2_with fail
    go_at_call 16
    refine (eqFr_same _ q _ _ L.length _ _ L R_13b.out.isl Q_13b.out.isl hL).mono ?_
    rintro e w14 ⟨rfl, g14⟩
    have s14 := g14.size
    have Q_14 := Lib.hid (Q_13b.out.grow g14)
    clear Q_13b
    have P_14 := Lib.hid (P_13b.out.grow g14)
    clear P_13b
    have R_14 := Lib.hid (R_13b.out.grow g14)
    clear R_13b
    have RQ_14 := Lib.hid (row_on g14 RQ_13b.out)
    clear RQ_13b
    have RP_14 := Lib.hid (row_on g14 RP_13b.out)
    clear RP_13b
    have RR_14 := Lib.hid (row_on g14 RR0.out)
    clear RR0
    have G14 := Lib.hid (gby_trans G13b.out g14)
    clear g14
    clear RQc0 RQc1
    clear RPc0 RPc1
    clear RRc0 RRc1
    clear R_14
    clear Q_14
    obtain ⟨RPc0, RPc1⟩ := fr_cells RP_14.out
    go_wp2_with fail
    go_at_call 23
    refine (heldFr_any _ 1 L.length q _ _ _ P_14.out.rd (by omega) (by omega)).mono ?_
    rintro e w15 ⟨rfl, g15⟩
    have s15 := g15.size
    have P_15 := Lib.hid (P_14.out.grow g15)
    clear P_14
    have RQ_15 := Lib.hid (row_on g15 RQ_14.out)
    clear RQ_14
    have RP_15 := Lib.hid (row_on g15 RP_14.out)
    clear RP_14
    have RR_15 := Lib.hid (row_on g15 RR_14.out)
    clear RR_14
    have G15 := Lib.hid (gby_trans G14.out g15)
    clear g15
    clear RPc0 RPc1
    go_wp2
    go_ret
    exact ⟨rfl, gby_below G15.out⟩

end Go.Proofs.Ytokpmbagidokkac
