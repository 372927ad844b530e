/-
  The walk of FnExactWireFrame: at every frame the program answers as its model, writes nothing that was there, and its answer owns its memory.
-/
import Derived.Test.YtokpmbagidokkacFrOwn
import Derived.Deep.RegionHeld3
namespace Go.Proofs.Ytokpmbagidokkac
open Go Go.RowKit

/-- both answer the same -/
theorem wire_both (q : Int) (xs : List Int) (hl : xs.length ≤ 1048576) : ∃ L : List Int, L.length ≤ 1048576 ∧
    (∀ (W : World) (d : Option Addr) (len cap : Nat), RdS W d len cap xs → Calls Try.prog 12 #[frV q d len cap] W (RowI L W)) ∧
    ∀ (W : World) (d : Option Addr) (len cap : Nat), RdS W d len cap xs → Calls Try.prog 14 #[frV q d len cap] W (RowI L W) := by
  by_cases hq : IsQ q
  · by_cases h : AreB (q :: xs) ∧ xs.length ≤ 37
    · refine ⟨addC (q :: xs), by rw [addC_length]; simp; omega, fun W d len cap H => ?_, fun W d len cap H => ?_⟩
      · exact (specWire_yes W q d len cap xs H (by have := H.1.1; omega) hq).mono (fun e w' k => k.1 ⟨h.1, by have := H.1.1; omega⟩)
      · exact (implWire_yes W q d len cap xs H (by have := H.1.1; omega) hq).mono (fun e w' k => k.1 ⟨h.1, by have := H.1.1; omega⟩)
    · refine ⟨[], by simp, fun W d len cap H => ?_, fun W d len cap H => ?_⟩
      · exact (specWire_yes W q d len cap xs H (by have := H.1.1; omega) hq).mono (fun e w' k => k.2 (fun z => h ⟨z.1, by have := H.1.1; omega⟩))
      · exact (implWire_yes W q d len cap xs H (by have := H.1.1; omega) hq).mono (fun e w' k => k.2 (fun z => h ⟨z.1, by have := H.1.1; omega⟩))
  · exact ⟨[], by simp, fun W d len cap H => specWire_no W q d len cap hq, fun W d len cap H => implWire_no W q d len cap hq⟩

set_option maxRecDepth 8000 in
set_option maxHeartbeats 4000000 in
theorem walk_exactWireFrame (W : World) (q : Int) (d : Option Addr) (len cap : Nat) (xs : List Int) (H : ISl W d len xs) (hc : len ≤ 9223372036854775807) :
    Calls Try.prog 3 #[frV q d len cap] W fun e w' => e = .returned (.bool true) ∧ Below W.heap.size W w' := by
  have HI := Lib.hid H
  have hlx := H.1
  clear H
  by_cases hbig : 1048576 < (len : Int)
  · have hneg : (-1 : Int) < 0 := by omega
    clear hlx
    unfold frV
    go_enter Try.func3, Try.ntmps3
    go_wp2_with fail
    go_at_call 11
    refine (szFr_big _ q _ d len cap hbig (by omega) (by omega) hc).mono ?_
    rintro e w1 ⟨rfl, g1⟩
    have G1 := Lib.hid (gby_trans (gby_alloc (gby_refl W none) _) g1)
    clear g1
    go_wp2
    go_ret
    exact ⟨rfl, gby_below G1.out⟩
  · have hl : len ≤ 1048576 := by omega
    have hx : xs.length ≤ 1048576 := by omega
    obtain ⟨L, hL, hs, hi⟩ := wire_both q xs (by omega)
    have HS := Lib.hid hs
    have HM := Lib.hid hi
    clear hs hi hlx
    unfold frV
    go_enter Try.func3, Try.ntmps3
    go_wp2_with fail
    go_at_call 11
    refine (szFr_any _ q _ d len cap (by omega) (by omega)).mono ?_
    rintro e w1 ⟨rfl, g1⟩
    have hr := row_on g1 (heap_alloc_new W _)
    obtain ⟨r0, r1⟩ := fr_cells hr
    have HR1 := Lib.hid hr
    have G1 := Lib.hid (gby_trans (gby_alloc (gby_refl W none) _) g1)
    have sb := block_in hr
    clear g1 hr
    go_wp2_with fail
    go_at_call 13
    refine (toFr_own _ q d len cap xs (HI.out.kept G1.out) hl).mono ?_
    rintro e w2 ⟨d2, cap2, rfl, o2, g2⟩
    have i2 := o2.rds
    have s2 := g2.size
    have hr := row_on g2 HR1.out
    clear r0 r1
    have HR2 := Lib.hid hr
    have G2 := Lib.hid (gby_trans G1.out g2)
    have I2 := Lib.hid i2
    clear g2 hr o2 i2
    go_wp2_with fail
    go_at_call 12
    refine (HS.out _ _ _ _ I2.out).mono ?_
    rintro e w3 ⟨v3, rfl, o3, g3⟩
    have s3 := g3.size
    have hr := row_on g3 HR2.out
    obtain ⟨r0, r1⟩ := fr_cells hr
    have HR3 := Lib.hid hr
    have Q3 := Lib.hid o3
    have G3 := Lib.hid (gby_trans G2.out g3)
    clear g3 hr o3
    go_wp2_with fail
    go_at_call 13
    refine (toFr_own _ q d len cap xs (HI.out.kept G3.out) hl).mono ?_
    rintro e w4 ⟨d4, cap4, rfl, o4, g4⟩
    have s4 := g4.size
    have hr := row_on g4 HR3.out
    clear r0 r1
    have HR4 := Lib.hid hr
    have Q4 := Lib.hid (Q3.out.grow g4)
    have X4 := Lib.hid o4
    have G4 := Lib.hid (gby_trans G3.out g4)
    clear g4 hr o4
    unfold frV
    go_wp2_with fail
    go_at_call 14
    have i4 := X4.out.rds
    refine (HM.out _ _ _ _ (i4.kept (gby_alloc (gby_refl _ _) _))).mono ?_
    rintro e w5 ⟨v5, rfl, o5, g5⟩
    have s5 := g5.size
    simp only [World.size_alloc] at s5
    have hx0 := row_on g5 (heap_alloc_new w4 _)
    have hr := row_on g5 (row_on (gby_alloc (gby_refl w4 none) _) HR4.out)
    have ga : w4.grownBy w5 none := gby_trans (gby_alloc (gby_refl _ _) _) g5
    have HR5 := Lib.hid hr
    have HX5 := Lib.hid hx0
    have Q5 := Lib.hid (Q4.out.grow ga)
    have X5 := Lib.hid (X4.out.grow ga)
    have P5 := Lib.hid (o5.wide (lo' := w4.heap.size + 1) (by simp) (Nat.le_refl _))
    have G5 := Lib.hid (gby_trans G4.out ga)
    clear g5 hr hx0 o5 i4 ga
    go_wp2_with fail
    go_at_call 15
    refine (eqI_same _ _ _ L (P5.out.rd) (Q5.out.rd) (by omega)).mono ?_
    rintro e w6 ⟨rfl, d6⟩
    have g6 := d6.gby none
    have s6 := g6.size
    have hr := row_on g6 HR5.out
    have hx0 := row_on g6 HX5.out
    obtain ⟨r0, r1⟩ := fr_cells hr
    obtain ⟨x0, x1⟩ := fr_cells hx0
    have HR6 := Lib.hid hr
    have HX6 := Lib.hid hx0
    have Q6 := Lib.hid (Q5.out.grow g6)
    have X6 := Lib.hid (X5.out.grow g6)
    have P6 := Lib.hid (P5.out.grow g6)
    have G6 := Lib.hid (gby_trans G5.out g6)
    clear g6 d6 hr hx0
    go_wp2_with fail
    go_region_held3 (fun w' => w'.cell? ⟨W.heap.size, 0, none⟩ = some (.int .i64 q) ∧ w'.cell? ⟨W.heap.size, 1, none⟩ = some (.slice d len cap) ∧ w'.cell? ⟨w4.heap.size, 0, none⟩ = some (.int .i64 q) ∧ w'.cell? ⟨w4.heap.size, 1, none⟩ = some (.slice d4 xs.length cap4))
      (first
        | exact ⟨r0, r1, x0, x1⟩
        | exact ⟨g7.cell r0 (by simp), g7.cell r1 (by simp), g7.cell x0 (by simp), g7.cell x1 (by simp)⟩
        | exact ⟨g8.cell (g7.cell r0 (by simp)) (by simp), g8.cell (g7.cell r1 (by simp)) (by simp), g8.cell (g7.cell x0 (by simp)) (by simp), g8.cell (g7.cell x1 (by simp)) (by simp)⟩)
      (first
        | (go_at_call 13; refine (toFr_own _ q d len cap xs (HI.out.kept (gby_drew G6.out)) hl).mono ?_; rintro e w7 ⟨d7, cap7, rfl, o7, g7⟩; have i7 := o7.isl)
        | (go_at_call 16; refine (eqFr_same _ q _ _ xs.length _ _ xs ((show ISl (World.drew w6) _ _ _ from X6.out.isl).kept g7) i7 (by omega)).mono ?_; rintro e w8 ⟨rfl, g8⟩))
    all_goals
      have g68 : w6.grownBy w8 none := gby_trans (gby_trans (gby_drew (gby_refl _ _)) g7) g8
      have s8 := g68.size
      have hr := row_on g68 HR6.out
      have hx0 := row_on g68 HX6.out
      clear r0 r1 x0 x1 g7 g8 i7 o7
      obtain ⟨x0, x1⟩ := fr_cells hx0
      have HR8 := Lib.hid hr
      have Q8 := Lib.hid (Q6.out.grow g68)
      have X8 := Lib.hid (X6.out.grow g68)
      have P8 := Lib.hid (P6.out.grow g68)
      have G8 := Lib.hid (gby_trans G6.out g68)
      clear g68 hr hx0
      go_wp2_with fail
      go_at_call 17
      refine (markFr_any _ w3.heap.size w4.heap.size 1 q _ _ _ xs X8.out (by omega) (by omega)).mono ?_
      rintro e w9 ⟨rfl, o9, c9⟩
      have s9 := c9.size
      have hr := c9.keep HR8.out (by omega)
      have HR9 := Lib.hid hr
      have Q9 := Lib.hid (Q8.out.kept c9 (by omega))
      have P9 := Lib.hid (P8.out.kept c9 (by omega))
      have G9 := Lib.hid (gby_chg G8.out c9 (by omega))
      clear o9 c9 hr x0 x1
      go_wp2_with fail
      go_at_call 15
      refine (eqI_same _ _ _ L (P9.out.rd) (Q9.out.rd) (by omega)).mono ?_
      rintro e w10 ⟨rfl, d10⟩
      have g10 := d10.gby none
      have s10 := g10.size
      have hr := row_on g10 HR9.out
      have HR10 := Lib.hid hr
      have Q10 := Lib.hid (Q9.out.grow g10)
      have P10 := Lib.hid (P9.out.grow g10)
      have G10 := Lib.hid (gby_trans G9.out g10)
      clear g10 d10 hr
      go_wp2_with fail
      go_at_call 18
      refine (mkI_any _ _ _ 1 _ L P10.out (by omega) (by omega)).mono ?_
      rintro e w11 ⟨rfl, o11, c11⟩
      have s11 := c11.size
      have hr := c11.keep HR10.out (by omega)
      have HR11 := Lib.hid hr
      have Q11 := Lib.hid (Q10.out.kept c11 (by omega))
      have P11 := Lib.hid o11
      have G11 := Lib.hid (gby_chg G10.out c11 (by omega))
      clear o11 c11 hr
      go_wp2_with fail
      go_at_call 19
      refine (hdI_any _ 1 L.length _ P11.out.rd (by omega) (by omega)).mono ?_
      rintro e w12 ⟨rfl, d12⟩
      have g12 := d12.gby none
      have s12 := g12.size
      have hr := row_on g12 HR11.out
      obtain ⟨r0, r1⟩ := fr_cells hr
      have Q12 := Lib.hid (Q11.out.grow g12)
      have P12 := Lib.hid (P11.out.grow g12)
      have G12 := Lib.hid (gby_trans G11.out g12)
      clear g12 d12 hr
      go_wp2_with fail
      go_at_call 13
      refine (toFr_own _ q d len cap xs (HI.out.kept G12.out) hl).mono ?_
      rintro e w13 ⟨d13, cap13, rfl, o13, g13⟩
      have i13 := o13.rds
      have s13 := g13.size
      have Q13 := Lib.hid (Q12.out.grow g13)
      have P13 := Lib.hid (P12.out.grow g13)
      have I13 := Lib.hid i13
      have G13 := Lib.hid (gby_trans G12.out g13)
      clear g13 o13 i13 r0 r1
      unfold frV
      go_wp2_with fail
      go_at_call 14
      refine (HM.out _ _ _ _ I13.out).mono ?_
      rintro e w14 ⟨v14, rfl, o14, g14⟩
      have s14 := g14.size
      have Q14 := Lib.hid (Q13.out.grow g14)
      have P14 := Lib.hid (P13.out.grow g14)
      have R14 := Lib.hid o14
      have G14 := Lib.hid (gby_trans G13.out g14)
      clear g14 o14
      go_wp2_with fail
      go_at_call 15
      refine (eqI_same _ _ _ L (R14.out.rd) (Q14.out.rd) (by omega)).mono ?_
      rintro e w15 ⟨rfl, d15⟩
      have g15 := d15.gby none
      have s15 := g15.size
      have P15 := Lib.hid (P14.out.grow g15)
      have G15 := Lib.hid (gby_trans G14.out g15)
      clear g15 d15
      go_wp2_with fail
      go_at_call 19
      refine (hdI_any _ 1 L.length _ P15.out.rd (by omega) (by omega)).mono ?_
      rintro e w16 ⟨rfl, d16⟩
      have G16 := Lib.hid (gby_trans G15.out (d16.gby none))
      clear d16
      go_wp2
      go_ret
      exact ⟨rfl, gby_below G16.out⟩

end Go.Proofs.Ytokpmbagidokkac
