/-
  The walk of FnExactEncodePacket: at every packet the program answers as its model, writes nothing that was there, and its answer owns its memory.
-/
import Derived.Test.YtokpmbagidokkaaPkOwn
import Derived.Test.YtokpmbagidokkaaPkEq
import Derived.Test.YtokpmbagidokkaaEncImpl
import Derived.Deep.RegionHeld3
namespace Go.Proofs.Ytokpmbagidokkaa
open Go Go.RowKit

/-- both answer the same -/
theorem enc_both (k f t a l g s : Int) (xs : List Int) (hl : xs.length ≤ 1048576) : ∃ L : List Int, L.length ≤ 24 ∧ (PkOk k f t a l g s xs → L = encL k f t a l g s xs) ∧ (¬ PkOk k f t a l g s xs → L = []) ∧
    (∀ (W : World) (d : Option Addr) (len cap : Nat), ISl W d len xs → Calls Try.prog 25 #[pkV k f t a l g s d len cap] W (RowI L W)) ∧
    ∀ (W : World) (d : Option Addr) (len cap : Nat), ISl W d len xs → Calls Try.prog 17 #[pkV k f t a l g s d len cap] W (RowI L W) := by
  obtain ⟨L, hL, hyes, hno, hs⟩ := specEnc_any k f t a l g s xs hl
  refine ⟨L, hL, hyes, hno, fun W d len cap H => (hs W d len cap H).mono (fun e w' h => ?_), fun W d len cap H => ?_⟩
  · obtain ⟨v, rfl, ho, hg⟩ := h
    exact ⟨v, rfl, owI_row ho, hg⟩
  · by_cases h : PkOk k f t a l g s xs
    · rw [hyes h]; exact implEnc_yes W k f t a l g s d len cap xs H (by have := H.1; omega) h
    · rw [hno h]; exact implEnc_no W k f t a l g s d len cap xs H (by have := H.1; omega) h

set_option maxRecDepth 8000 in
set_option maxHeartbeats 4000000 in
theorem walk_exactEncodePacket (W : World) (k f t a l g s : Int) (d : Option Addr) (len cap : Nat) (xs : List Int) (H : ISl W d len xs) (hc : len ≤ 9223372036854775807) :
    Calls Try.prog 4 #[pkV k f t a l g s d len cap] W fun e w' => e = .returned (.bool true) ∧ Below W.heap.size W w' := by
  have HI := Lib.hid H
  have hlx := H.1
  clear H
  by_cases hbig : 1048576 < (len : Int)
  · have hneg : (-1 : Int) < 0 := by omega
    clear hlx
    unfold pkV
    go_enter Try.func4, Try.ntmps4
    go_wp2_with fail
    go_at_call 24
    refine (szPk_big _ k f t a l g s _ d len cap hbig (by omega) (by omega) hc).mono ?_
    rintro e w1 ⟨rfl, g1⟩
    have G1 := Lib.hid (gby_trans (gby_alloc (gby_refl W none) _) g1)
    clear g1
    go_wp2
    go_ret
    exact ⟨rfl, gby_below G1.out⟩
  · have hl : len ≤ 1048576 := by omega
    have hx : xs.length ≤ 1048576 := by omega
    obtain ⟨L, hL, _, _, hs, hi⟩ := enc_both k f t a l g s xs (by omega)
    have HS := Lib.hid hs
    have HM := Lib.hid hi
    clear hs hi hlx
    unfold pkV
    go_enter Try.func4, Try.ntmps4
    go_wp2_with fail
    go_at_call 24
    refine (szPk_any _ k f t a l g s _ d len cap (by omega) (by omega)).mono ?_
    rintro e w1 ⟨rfl, g1⟩
    have hr := row_later g1 (heap_alloc_new W _)
    obtain ⟨r0, r1, r2, r3, r4, r5, r6, r7⟩ := pk_row hr
    have HR1 := Lib.hid hr
    have G1 := Lib.hid (gby_trans (gby_alloc (gby_refl W none) _) g1)
    have sb := block_in hr
    clear g1 hr
    go_wp2_with fail
    go_at_call 26
    refine (toPk_own _ k f t a l g s d len cap xs (HI.out.kept G1.out) hl).mono ?_
    rintro e w2 ⟨d2, cap2, rfl, o2, g2⟩
    have i2 := o2.isl
    have s2 := g2.size
    have hr := row_later g2 HR1.out
    clear r0 r1 r2 r3 r4 r5 r6 r7
    have HR2 := Lib.hid hr
    have G2 := Lib.hid (gby_trans G1.out g2)
    have I2 := Lib.hid i2
    clear g2 hr o2 i2
    go_wp2_with fail
    go_at_call 25
    refine (HS.out _ _ _ _ I2.out).mono ?_
    rintro e w3 ⟨v3, rfl, o3, g3⟩
    have s3 := g3.size
    have hr := row_later g3 HR2.out
    obtain ⟨r0, r1, r2, r3, r4, r5, r6, r7⟩ := pk_row hr
    have HR3 := Lib.hid hr
    have Q3 := Lib.hid o3
    have G3 := Lib.hid (gby_trans G2.out g3)
    clear g3 hr o3
    go_wp2_with fail
    go_at_call 26
    refine (toPk_own _ k f t a l g s d len cap xs (HI.out.kept G3.out) hl).mono ?_
    rintro e w4 ⟨d4, cap4, rfl, o4, g4⟩
    have s4 := g4.size
    have hr := row_later g4 HR3.out
    clear r0 r1 r2 r3 r4 r5 r6 r7
    have HR4 := Lib.hid hr
    have Q4 := Lib.hid (Q3.out.grow g4)
    have X4 := Lib.hid o4
    have G4 := Lib.hid (gby_trans G3.out g4)
    clear g4 hr o4
    unfold pkV
    go_wp2_with fail
    go_at_call 17
    have i4 := X4.out.isl
    refine (HM.out _ _ _ _ (i4.kept (gby_alloc (gby_refl _ _) _))).mono ?_
    rintro e w5 ⟨v5, rfl, o5, g5⟩
    have s5 := g5.size
    simp only [World.size_alloc] at s5
    have hx0 := row_later g5 (heap_alloc_new w4 _)
    have hr := row_later g5 (row_later (gby_alloc (gby_refl w4 none) _) HR4.out)
    have ga : w4.grownBy w5 none := gby_trans (gby_alloc (gby_refl _ _) _) g5
    have HR5 := Lib.hid hr
    have HX5 := Lib.hid hx0
    have Q5 := Lib.hid (Q4.out.grow ga)
    have X5 := Lib.hid (X4.out.grow ga)
    have P5 := Lib.hid (o5.wide (lo' := w4.heap.size + 1) (by simp) (Nat.le_refl _))
    have G5 := Lib.hid (gby_trans G4.out ga)
    clear g5 hr hx0 o5 i4 ga
    go_wp2_with fail
    go_at_call 27
    refine (eqI_same _ _ _ L (P5.out.rd) (Q5.out.rd) (by omega)).mono ?_
    rintro e w6 ⟨rfl, d6⟩
    have g6 := d6.gby none
    have s6 := g6.size
    have hr := row_later g6 HR5.out
    have hx0 := row_later g6 HX5.out
    obtain ⟨r0, r1, r2, r3, r4, r5, r6, r7⟩ := pk_row hr
    obtain ⟨x0, x1, x2, x3, x4, x5, x6, x7⟩ := pk_row hx0
    have HR6 := Lib.hid hr
    have HX6 := Lib.hid hx0
    have Q6 := Lib.hid (Q5.out.grow g6)
    have X6 := Lib.hid (X5.out.grow g6)
    have P6 := Lib.hid (P5.out.grow g6)
    have G6 := Lib.hid (gby_trans G5.out g6)
    clear g6 d6 hr hx0
    go_wp2_with fail
    go_region_held3 (fun w' => w'.cell? ⟨W.heap.size, 0, none⟩ = some (.int .i64 k) ∧ w'.cell? ⟨W.heap.size, 1, none⟩ = some (.int .i64 f) ∧ w'.cell? ⟨W.heap.size, 2, none⟩ = some (.int .i64 t) ∧ w'.cell? ⟨W.heap.size, 3, none⟩ = some (.int .i64 a) ∧ w'.cell? ⟨W.heap.size, 4, none⟩ = some (.int .i64 l) ∧ w'.cell? ⟨W.heap.size, 5, none⟩ = some (.int .i64 g) ∧ w'.cell? ⟨W.heap.size, 6, none⟩ = some (.int .i64 s) ∧ w'.cell? ⟨W.heap.size, 7, none⟩ = some (.slice d len cap) ∧ w'.cell? ⟨w4.heap.size, 0, none⟩ = some (.int .i64 k) ∧ w'.cell? ⟨w4.heap.size, 1, none⟩ = some (.int .i64 f) ∧ w'.cell? ⟨w4.heap.size, 2, none⟩ = some (.int .i64 t) ∧ w'.cell? ⟨w4.heap.size, 3, none⟩ = some (.int .i64 a) ∧ w'.cell? ⟨w4.heap.size, 4, none⟩ = some (.int .i64 l) ∧ w'.cell? ⟨w4.heap.size, 5, none⟩ = some (.int .i64 g) ∧ w'.cell? ⟨w4.heap.size, 6, none⟩ = some (.int .i64 s) ∧ w'.cell? ⟨w4.heap.size, 7, none⟩ = some (.slice d4 xs.length cap4))
      (first
        | exact ⟨r0, r1, r2, r3, r4, r5, r6, r7, x0, x1, x2, x3, x4, x5, x6, x7⟩
        | exact ⟨g7.cell r0 (by simp), g7.cell r1 (by simp), g7.cell r2 (by simp), g7.cell r3 (by simp), g7.cell r4 (by simp), g7.cell r5 (by simp), g7.cell r6 (by simp), g7.cell r7 (by simp), g7.cell x0 (by simp), g7.cell x1 (by simp), g7.cell x2 (by simp), g7.cell x3 (by simp), g7.cell x4 (by simp), g7.cell x5 (by simp), g7.cell x6 (by simp), g7.cell x7 (by simp)⟩
        | exact ⟨g8.cell (g7.cell r0 (by simp)) (by simp), g8.cell (g7.cell r1 (by simp)) (by simp), g8.cell (g7.cell r2 (by simp)) (by simp), g8.cell (g7.cell r3 (by simp)) (by simp), g8.cell (g7.cell r4 (by simp)) (by simp), g8.cell (g7.cell r5 (by simp)) (by simp), g8.cell (g7.cell r6 (by simp)) (by simp), g8.cell (g7.cell r7 (by simp)) (by simp), g8.cell (g7.cell x0 (by simp)) (by simp), g8.cell (g7.cell x1 (by simp)) (by simp), g8.cell (g7.cell x2 (by simp)) (by simp), g8.cell (g7.cell x3 (by simp)) (by simp), g8.cell (g7.cell x4 (by simp)) (by simp), g8.cell (g7.cell x5 (by simp)) (by simp), g8.cell (g7.cell x6 (by simp)) (by simp), g8.cell (g7.cell x7 (by simp)) (by simp)⟩)
      (first
        | (go_at_call 26; refine (toPk_own _ k f t a l g s d len cap xs (HI.out.kept (gby_drew G6.out)) hl).mono ?_; rintro e w7 ⟨d7, cap7, rfl, o7, g7⟩; have i7 := o7.isl)
        | (go_at_call 28; refine (eqPk_same _ k f t a l g s _ _ xs.length _ _ xs ((show ISl (World.drew w6) _ _ _ from X6.out.isl).kept g7) i7 (by omega)).mono ?_; rintro e w8 ⟨rfl, g8⟩))
    all_goals
      have g68 : w6.grownBy w8 none := gby_trans (gby_trans (gby_drew (gby_refl _ _)) g7) g8
      have s8 := g68.size
      have hr := row_later g68 HR6.out
      have hx0 := row_later g68 HX6.out
      clear r0 r1 r2 r3 r4 r5 r6 r7 x0 x1 x2 x3 x4 x5 x6 x7 g7 g8 i7 o7
      obtain ⟨x0, x1, x2, x3, x4, x5, x6, x7⟩ := pk_row hx0
      have HR8 := Lib.hid hr
      have Q8 := Lib.hid (Q6.out.grow g68)
      have X8 := Lib.hid (X6.out.grow g68)
      have P8 := Lib.hid (P6.out.grow g68)
      have G8 := Lib.hid (gby_trans G6.out g68)
      clear g68 hr hx0
      go_wp2_with fail
      go_at_call 29
      refine (markPk_any _ w3.heap.size w4.heap.size 1 k f t a l g s _ _ _ xs X8.out (by omega) (by omega)).mono ?_
      rintro e w9 ⟨rfl, o9, c9⟩
      have s9 := c9.size
      have hr := c9.keep HR8.out (by omega)
      have HR9 := Lib.hid hr
      have Q9 := Lib.hid (Q8.out.kept c9 (by omega))
      have P9 := Lib.hid (P8.out.kept c9 (by omega))
      have G9 := Lib.hid (gby_chg G8.out c9 (by omega))
      clear o9 c9 hr x0 x1 x2 x3 x4 x5 x6 x7
      go_wp2_with fail
      go_at_call 27
      refine (eqI_same _ _ _ L (P9.out.rd) (Q9.out.rd) (by omega)).mono ?_
      rintro e w10 ⟨rfl, d10⟩
      have g10 := d10.gby none
      have s10 := g10.size
      have hr := row_later g10 HR9.out
      have HR10 := Lib.hid hr
      have Q10 := Lib.hid (Q9.out.grow g10)
      have P10 := Lib.hid (P9.out.grow g10)
      have G10 := Lib.hid (gby_trans G9.out g10)
      clear g10 d10 hr
      go_wp2_with fail
      go_at_call 30
      refine (mkI_any _ _ _ 1 _ L P10.out (by omega) (by omega)).mono ?_
      rintro e w11 ⟨rfl, o11, c11⟩
      have s11 := c11.size
      have hr := c11.keep HR10.out (by omega)
      have HR11 := Lib.hid hr
      have Q11 := Lib.hid (Q10.out.kept c11 (by omega))
      have P11 := Lib.hid o11
      have G11 := Lib.hid (gby_chg G10.out c11 (by omega))
      clear o11 c11 hr
      go_wp2_with fail
      go_at_call 31
      refine (hdI_any _ 1 L.length _ P11.out.rd (by omega) (by omega)).mono ?_
      rintro e w12 ⟨rfl, d12⟩
      have g12 := d12.gby none
      have s12 := g12.size
      have hr := row_later g12 HR11.out
      obtain ⟨r0, r1, r2, r3, r4, r5, r6, r7⟩ := pk_row hr
      have Q12 := Lib.hid (Q11.out.grow g12)
      have P12 := Lib.hid (P11.out.grow g12)
      have G12 := Lib.hid (gby_trans G11.out g12)
      clear g12 d12 hr
      go_wp2_with fail
      go_at_call 26
      refine (toPk_own _ k f t a l g s d len cap xs (HI.out.kept G12.out) hl).mono ?_
      rintro e w13 ⟨d13, cap13, rfl, o13, g13⟩
      have i13 := o13.isl
      have s13 := g13.size
      have Q13 := Lib.hid (Q12.out.grow g13)
      have P13 := Lib.hid (P12.out.grow g13)
      have I13 := Lib.hid i13
      have G13 := Lib.hid (gby_trans G12.out g13)
      clear g13 o13 i13 r0 r1 r2 r3 r4 r5 r6 r7
      unfold pkV
      go_wp2_with fail
      go_at_call 17
      refine (HM.out _ _ _ _ I13.out).mono ?_
      rintro e w14 ⟨v14, rfl, o14, g14⟩
      have s14 := g14.size
      have Q14 := Lib.hid (Q13.out.grow g14)
      have P14 := Lib.hid (P13.out.grow g14)
      have R14 := Lib.hid o14
      have G14 := Lib.hid (gby_trans G13.out g14)
      clear g14 o14
      go_wp2_with fail
      go_at_call 27
      refine (eqI_same _ _ _ L (R14.out.rd) (Q14.out.rd) (by omega)).mono ?_
      rintro e w15 ⟨rfl, d15⟩
      have g15 := d15.gby none
      have s15 := g15.size
      have P15 := Lib.hid (P14.out.grow g15)
      have G15 := Lib.hid (gby_trans G14.out g15)
      clear g15 d15
      go_wp2_with fail
      go_at_call 31
      refine (hdI_any _ 1 L.length _ P15.out.rd (by omega) (by omega)).mono ?_
      rintro e w16 ⟨rfl, d16⟩
      have G16 := Lib.hid (gby_trans G15.out (d16.gby none))
      clear d16
      go_wp2
      go_ret
      exact ⟨rfl, gby_below G16.out⟩

end Go.Proofs.Ytokpmbagidokkaa
