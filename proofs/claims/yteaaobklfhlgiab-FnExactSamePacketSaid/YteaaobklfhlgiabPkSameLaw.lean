/-
  The walk of FnExactSamePacket.
-/
import Derived.Test.YteaaobklfhlgiabPkSame
import Derived.Test.YteaaobklfhlgiabPkLaw
import Derived.Deep.RegionHeld3
namespace Go.Proofs.Yteaaobklfhlgiab
open Go Go.RowKit

theorem same_both (k f t a l g s k' f' t' a' l' g' s' : Int) (xs ys : List Int) (h1 : xs.length ≤ 1048576) (h2 : ys.length ≤ 1048576) : ∃ b : Bool,
    (∀ (W : World) (d1 d2 : Option Addr) (n1 n2 c1 c2 : Nat), ISl W d1 n1 xs → ISl W d2 n2 ys → Calls Try.prog 22 #[pkV k f t a l g s d1 n1 c1, pkV k' f' t' a' l' g' s' d2 n2 c2] W (AnsG (.bool b) W)) ∧
    ∀ (W : World) (d1 d2 : Option Addr) (n1 n2 c1 c2 : Nat), ISl W d1 n1 xs → ISl W d2 n2 ys → Calls Try.prog 14 #[pkV k f t a l g s d1 n1 c1, pkV k' f' t' a' l' g' s' d2 n2 c2] W (AnsG (.bool b) W) :=
  ⟨_, fun W d1 d2 n1 n2 c1 c2 H1 H2 => specSame_any W k f t a l g s k' f' t' a' l' g' s' d1 d2 n1 n2 c1 c2 xs ys H1 H2 (by have := H1.1; omega) (by have := H2.1; omega),
    fun W d1 d2 n1 n2 c1 c2 H1 H2 => implSame_any W k f t a l g s k' f' t' a' l' g' s' d1 d2 n1 n2 c1 c2 xs ys H1 H2 (by have := H1.1; omega) (by have := H2.1; omega)⟩

theorem heap_two0 (W : World) (a b : Obj) : ((W.alloc a).alloc b).heap[W.heap.size]? = some a := by
  rw [heap_alloc_old _ _ (by simp)]; exact heap_alloc_new _ _

set_option maxRecDepth 8000 in
set_option maxHeartbeats 4000000 in
theorem walk_exactSamePacket (W : World) (k f t a l g s k' f' t' a' l' g' s' : Int) (d1 d2 : Option Addr) (n1 n2 c1 c2 : Nat) (xs ys : List Int) (H1 : ISl W d1 n1 xs) (H2 : ISl W d2 n2 ys) (hc1 : n1 ≤ 9223372036854775807) (hc2 : n2 ≤ 9223372036854775807) :
    Calls Try.prog 7 #[pkV k f t a l g s d1 n1 c1, pkV k' f' t' a' l' g' s' d2 n2 c2] W fun e w' => e = .returned (.bool true) ∧ Below W.heap.size W w' := by
  have HI1 := Lib.hid H1
  have HI2 := Lib.hid H2
  have hx1 := H1.1
  have hx2 := H2.1
  clear H1 H2
  have hneg : (-1 : Int) < 0 := by omega
  by_cases hbig : 1048576 < (n1 : Int)
  · clear hx1 hx2 hc2
    unfold pkV
    go_enter Try.func7, Try.ntmps7
    go_wp2_with fail
    go_at_call 16
    refine (szPk_big _ k f t a l g s _ d1 n1 c1 hbig (by omega) (by omega) hc1).mono ?_
    rintro e w1 ⟨rfl, g1⟩
    have G1 := Lib.hid (gby_trans (gby_alloc (gby_alloc (gby_refl W none) _) _) g1)
    clear g1
    go_wp2
    go_ret
    exact ⟨rfl, gby_below G1.out⟩
  by_cases hbig2 : 1048576 - (n1 : Int) < (n2 : Int)
  · clear hx1 hx2 hc1
    unfold pkV
    go_enter Try.func7, Try.ntmps7
    go_wp2_with fail
    go_at_call 16
    refine (szPk_any _ k f t a l g s _ d1 n1 c1 (by omega) (by omega)).mono ?_
    rintro e w1 ⟨rfl, g1⟩
    have hra := row_later g1 (heap_two0 W _ _)
    have hrb := row_later g1 (heap_two W _ _)
    obtain ⟨r0, r1, r2, r3, r4, r5, r6, r7⟩ := pk_cells hra
    obtain ⟨q0, q1, q2, q3, q4, q5, q6, q7⟩ := pk_cells hrb
    have HA1 := Lib.hid hra
    have HB1 := Lib.hid hrb
    have G1 := Lib.hid (gby_trans (gby_alloc (gby_alloc (gby_refl W none) _) _) g1)
    clear g1 hra hrb
    go_wp2_with fail
    go_at_call 16
    refine (szPk_big _ k' f' t' a' l' g' s' _ d2 n2 c2 hbig2 (by omega) (by omega) hc2).mono ?_
    rintro e w2 ⟨rfl, g2⟩
    have G2 := Lib.hid (gby_trans G1.out g2)
    clear g2 r0 r1 r2 r3 r4 r5 r6 r7 q0 q1 q2 q3 q4 q5 q6 q7
    go_wp2
    go_ret
    exact ⟨rfl, gby_below G2.out⟩
  · have hl1 : n1 ≤ 1048576 := by omega
    have hl2 : n2 ≤ 1048576 := by omega
    obtain ⟨b, hs, hi⟩ := same_both k f t a l g s k' f' t' a' l' g' s' xs ys (by omega) (by omega)
    have HS := Lib.hid hs
    have HM := Lib.hid hi
    clear hs hi hx1 hx2 hc1 hc2
    cases b
    all_goals
      unfold pkV
      go_enter Try.func7, Try.ntmps7
      go_wp2_with fail
      go_at_call 16
      refine (szPk_any _ k f t a l g s _ d1 n1 c1 (by omega) (by omega)).mono ?_
      rintro e w1 ⟨rfl, g1⟩
      have hra := row_later g1 (heap_two0 W _ _)
      have hrb := row_later g1 (heap_two W _ _)
      obtain ⟨r0, r1, r2, r3, r4, r5, r6, r7⟩ := pk_cells hra
      obtain ⟨q0, q1, q2, q3, q4, q5, q6, q7⟩ := pk_cells hrb
      have HA1 := Lib.hid hra
      have HB1 := Lib.hid hrb
      have G1 := Lib.hid (gby_trans (gby_alloc (gby_alloc (gby_refl W none) _) _) g1)
      clear g1 hra hrb
      go_wp2_with fail
      go_at_call 16
      refine (szPk_any _ k' f' t' a' l' g' s' _ d2 n2 c2 (by omega) (by omega)).mono ?_
      rintro e w2 ⟨rfl, g2⟩
      clear r0 r1 r2 r3 r4 r5 r6 r7 q0 q1 q2 q3 q4 q5 q6 q7
      have hra := row_later g2 HA1.out
      have hrb := row_later g2 HB1.out
      obtain ⟨r0, r1, r2, r3, r4, r5, r6, r7⟩ := pk_cells hra
      obtain ⟨q0, q1, q2, q3, q4, q5, q6, q7⟩ := pk_cells hrb
      have HA2 := Lib.hid hra
      have HB2 := Lib.hid hrb
      have G2 := Lib.hid (gby_trans G1.out g2)
      clear g2 hra hrb
      go_wp2_with fail
      go_region_held3 (fun w' => w'.cell? ⟨W.heap.size, 0, none⟩ = some (.int .i64 k) ∧ w'.cell? ⟨W.heap.size, 1, none⟩ = some (.int .i64 f) ∧ w'.cell? ⟨W.heap.size, 2, none⟩ = some (.int .i64 t) ∧ w'.cell? ⟨W.heap.size, 3, none⟩ = some (.int .i64 a) ∧ w'.cell? ⟨W.heap.size, 4, none⟩ = some (.int .i64 l) ∧ w'.cell? ⟨W.heap.size, 5, none⟩ = some (.int .i64 g) ∧ w'.cell? ⟨W.heap.size, 6, none⟩ = some (.int .i64 s) ∧ w'.cell? ⟨W.heap.size, 7, none⟩ = some (.slice d1 n1 c1) ∧ w'.cell? ⟨W.heap.size + 1, 0, none⟩ = some (.int .i64 k') ∧ w'.cell? ⟨W.heap.size + 1, 1, none⟩ = some (.int .i64 f') ∧ w'.cell? ⟨W.heap.size + 1, 2, none⟩ = some (.int .i64 t') ∧ w'.cell? ⟨W.heap.size + 1, 3, none⟩ = some (.int .i64 a') ∧ w'.cell? ⟨W.heap.size + 1, 4, none⟩ = some (.int .i64 l') ∧ w'.cell? ⟨W.heap.size + 1, 5, none⟩ = some (.int .i64 g') ∧ w'.cell? ⟨W.heap.size + 1, 6, none⟩ = some (.int .i64 s') ∧ w'.cell? ⟨W.heap.size + 1, 7, none⟩ = some (.slice d2 n2 c2))
        (first
          | exact ⟨r0, r1, r2, r3, r4, r5, r6, r7, q0, q1, q2, q3, q4, q5, q6, q7⟩
          | exact ⟨(gA.cell r0 (by simp)), (gA.cell r1 (by simp)), (gA.cell r2 (by simp)), (gA.cell r3 (by simp)), (gA.cell r4 (by simp)), (gA.cell r5 (by simp)), (gA.cell r6 (by simp)), (gA.cell r7 (by simp)), (gA.cell q0 (by simp)), (gA.cell q1 (by simp)), (gA.cell q2 (by simp)), (gA.cell q3 (by simp)), (gA.cell q4 (by simp)), (gA.cell q5 (by simp)), (gA.cell q6 (by simp)), (gA.cell q7 (by simp))⟩
          | exact ⟨(gB.cell (gA.cell r0 (by simp)) (by simp)), (gB.cell (gA.cell r1 (by simp)) (by simp)), (gB.cell (gA.cell r2 (by simp)) (by simp)), (gB.cell (gA.cell r3 (by simp)) (by simp)), (gB.cell (gA.cell r4 (by simp)) (by simp)), (gB.cell (gA.cell r5 (by simp)) (by simp)), (gB.cell (gA.cell r6 (by simp)) (by simp)), (gB.cell (gA.cell r7 (by simp)) (by simp)), (gB.cell (gA.cell q0 (by simp)) (by simp)), (gB.cell (gA.cell q1 (by simp)) (by simp)), (gB.cell (gA.cell q2 (by simp)) (by simp)), (gB.cell (gA.cell q3 (by simp)) (by simp)), (gB.cell (gA.cell q4 (by simp)) (by simp)), (gB.cell (gA.cell q5 (by simp)) (by simp)), (gB.cell (gA.cell q6 (by simp)) (by simp)), (gB.cell (gA.cell q7 (by simp)) (by simp))⟩
          | exact ⟨(gS.cell (gB.cell (gA.cell r0 (by simp)) (by simp)) (by simp)), (gS.cell (gB.cell (gA.cell r1 (by simp)) (by simp)) (by simp)), (gS.cell (gB.cell (gA.cell r2 (by simp)) (by simp)) (by simp)), (gS.cell (gB.cell (gA.cell r3 (by simp)) (by simp)) (by simp)), (gS.cell (gB.cell (gA.cell r4 (by simp)) (by simp)) (by simp)), (gS.cell (gB.cell (gA.cell r5 (by simp)) (by simp)) (by simp)), (gS.cell (gB.cell (gA.cell r6 (by simp)) (by simp)) (by simp)), (gS.cell (gB.cell (gA.cell r7 (by simp)) (by simp)) (by simp)), (gS.cell (gB.cell (gA.cell q0 (by simp)) (by simp)) (by simp)), (gS.cell (gB.cell (gA.cell q1 (by simp)) (by simp)) (by simp)), (gS.cell (gB.cell (gA.cell q2 (by simp)) (by simp)) (by simp)), (gS.cell (gB.cell (gA.cell q3 (by simp)) (by simp)) (by simp)), (gS.cell (gB.cell (gA.cell q4 (by simp)) (by simp)) (by simp)), (gS.cell (gB.cell (gA.cell q5 (by simp)) (by simp)) (by simp)), (gS.cell (gB.cell (gA.cell q6 (by simp)) (by simp)) (by simp)), (gS.cell (gB.cell (gA.cell q7 (by simp)) (by simp)) (by simp))⟩)
        (first
          | (go_at_call_of 18 (Value.agg #[.int .i64 k, .int .i64 f, .int .i64 t, .int .i64 a, .int .i64 l, .int .i64 g, .int .i64 s, .slice d1 n1 c1]); refine (toPk_any _ k f t a l g s d1 n1 c1 xs (HI1.out.kept (gby_drew G2.out)) hl1).mono ?_; rintro e w3 ⟨cA, rfl, hcA, hiA, gA⟩)
          | (go_at_call_of 18 (Value.agg #[.int .i64 k', .int .i64 f', .int .i64 t', .int .i64 a', .int .i64 l', .int .i64 g', .int .i64 s', .slice d2 n2 c2]); refine (toPk_any _ k' f' t' a' l' g' s' d2 n2 c2 ys (HI2.out.kept (gby_trans (gby_drew G2.out) gA)) hl2).mono ?_; rintro e w4 ⟨cB, rfl, hcB, hiB, gB⟩)
          | (go_at_call 22; refine (HS.out _ _ _ _ _ _ _ (hiA.kept gB) hiB).mono ?_; rintro e w5 ⟨rfl, gS⟩))
      all_goals
        have hra := row_later gS (row_later gB (row_later gA (show (World.drew w2).heap[W.heap.size]? = _ from HA2.out)))
        have hrb := row_later gS (row_later gB (row_later gA (show (World.drew w2).heap[W.heap.size + 1]? = _ from HB2.out)))
        have G5 := Lib.hid (gby_trans (gby_trans (gby_trans (gby_drew G2.out) gA) gB) gS)
        clear gA gB gS hiA hiB hcA hcB r0 r1 r2 r3 r4 r5 r6 r7 q0 q1 q2 q3 q4 q5 q6 q7
        obtain ⟨r0, r1, r2, r3, r4, r5, r6, r7⟩ := pk_cells hra
        have HA5 := Lib.hid hra
        have HB5 := Lib.hid hrb
        clear hra hrb
        go_wp2_with fail
        go_at_call 18
        refine (toPk_any _ k f t a l g s d1 n1 c1 xs (HI1.out.kept G5.out) hl1).mono ?_
        rintro e w6 ⟨c6, rfl, hc6, hi6, g6⟩
        have J6 := Lib.hid hi6
        have HA6 := Lib.hid (row_later g6 HA5.out)
        have hrb := row_later g6 HB5.out
        have hs6 : W.heap.size + 1 < w6.heap.size := by
          rcases Nat.lt_or_ge (W.heap.size + 1) w6.heap.size with q | q
          · exact q
          · rw [Array.getElem?_eq_none q] at hrb; cases hrb
        have hrb2 := row_later (gby_alloc (gby_refl w6 none) (Obj.cells #[.int .i64 k, .int .i64 f, .int .i64 t, .int .i64 a, .int .i64 l, .int .i64 g, .int .i64 s, .slice (some ⟨c6, 0, none⟩) n1 n1] 26)) hrb
        obtain ⟨q0, q1, q2, q3, q4, q5, q6, q7⟩ := pk_cells hrb2
        have HB6 := Lib.hid hrb
        have G6 := Lib.hid (gby_trans G5.out g6)
        clear g6 hrb hrb2 hi6 hc6 r0 r1 r2 r3 r4 r5 r6 r7
        unfold pkV
        go_wp2_with fail
        go_at_call 18
        refine (toPk_any _ k' f' t' a' l' g' s' d2 n2 c2 ys (HI2.out.kept (gby_alloc G6.out _)) hl2).mono ?_
        rintro e w7 ⟨c7, rfl, hc7, hi7, g7⟩
        have ga7 : w6.grownBy w7 none := gby_trans (gby_alloc (gby_refl _ _) _) g7
        have J67 := Lib.hid (J6.out.kept ga7)
        have J7 := Lib.hid hi7
        have HA7 := Lib.hid (row_later ga7 HA6.out)
        have HB7 := Lib.hid (row_later ga7 HB6.out)
        have hx0 := row_later g7 (heap_alloc_new w6 _)
        have hs7 : w6.heap.size < w7.heap.size := by have := g7.size; simp only [World.size_alloc] at this; omega
        have G7 := Lib.hid (gby_trans G6.out ga7)
        have hx02 := row_later (gby_alloc (gby_refl w7 none) (Obj.cells #[.int .i64 k', .int .i64 f', .int .i64 t', .int .i64 a', .int .i64 l', .int .i64 g', .int .i64 s', .slice (some ⟨c7, 0, none⟩) n2 n2] 26)) hx0
        obtain ⟨x0, x1, x2, x3, x4, x5, x6, x7⟩ := pk_cells hx02
        have HX07 := Lib.hid hx0
        clear q0 q1 q2 q3 q4 q5 q6 q7 hx0 hx02 hi7 hc7 g7 ga7
        unfold pkV
        go_wp2_with fail
        go_at_call 14
        refine (HM.out _ _ _ _ _ _ _ (J67.out.kept (gby_alloc (gby_refl _ _) _)) (J7.out.kept (gby_alloc (gby_refl _ _) _))).mono ?_
        rintro e w8 ⟨rfl, g8⟩
        have ga8 : w7.grownBy w8 none := gby_trans (gby_alloc (gby_refl _ _) _) g8
        have J8 := Lib.hid (J67.out.kept ga8)
        have K8 := Lib.hid (J7.out.kept ga8)
        have hra := row_later ga8 HA7.out
        have HB8 := Lib.hid (row_later ga8 HB7.out)
        have hx0 := row_later ga8 HX07.out
        have HX18 := Lib.hid (row_later g8 (heap_alloc_new w7 _))
        have G8 := Lib.hid (gby_trans G7.out ga8)
        clear x0 x1 x2 x3 x4 x5 x6 x7 g8 ga8
        obtain ⟨x0, x1, x2, x3, x4, x5, x6, x7⟩ := pk_cells hx0
        obtain ⟨r0, r1, r2, r3, r4, r5, r6, r7⟩ := pk_cells hra
        clear hx0 hra
        go_wp2_with fail
        go_region_held3 (fun w' => w'.cell? ⟨w6.heap.size, 0, none⟩ = some (.int .i64 k) ∧ w'.cell? ⟨w6.heap.size, 1, none⟩ = some (.int .i64 f) ∧ w'.cell? ⟨w6.heap.size, 2, none⟩ = some (.int .i64 t) ∧ w'.cell? ⟨w6.heap.size, 3, none⟩ = some (.int .i64 a) ∧ w'.cell? ⟨w6.heap.size, 4, none⟩ = some (.int .i64 l) ∧ w'.cell? ⟨w6.heap.size, 5, none⟩ = some (.int .i64 g) ∧ w'.cell? ⟨w6.heap.size, 6, none⟩ = some (.int .i64 s) ∧ w'.cell? ⟨w6.heap.size, 7, none⟩ = some (.slice (some ⟨c6, 0, none⟩) n1 n1) ∧ w'.cell? ⟨W.heap.size, 0, none⟩ = some (.int .i64 k) ∧ w'.cell? ⟨W.heap.size, 1, none⟩ = some (.int .i64 f) ∧ w'.cell? ⟨W.heap.size, 2, none⟩ = some (.int .i64 t) ∧ w'.cell? ⟨W.heap.size, 3, none⟩ = some (.int .i64 a) ∧ w'.cell? ⟨W.heap.size, 4, none⟩ = some (.int .i64 l) ∧ w'.cell? ⟨W.heap.size, 5, none⟩ = some (.int .i64 g) ∧ w'.cell? ⟨W.heap.size, 6, none⟩ = some (.int .i64 s) ∧ w'.cell? ⟨W.heap.size, 7, none⟩ = some (.slice d1 n1 c1))
          (first
          | exact ⟨x0, x1, x2, x3, x4, x5, x6, x7, r0, r1, r2, r3, r4, r5, r6, r7⟩
          | exact ⟨(gC.cell x0 (by simp)), (gC.cell x1 (by simp)), (gC.cell x2 (by simp)), (gC.cell x3 (by simp)), (gC.cell x4 (by simp)), (gC.cell x5 (by simp)), (gC.cell x6 (by simp)), (gC.cell x7 (by simp)), (gC.cell r0 (by simp)), (gC.cell r1 (by simp)), (gC.cell r2 (by simp)), (gC.cell r3 (by simp)), (gC.cell r4 (by simp)), (gC.cell r5 (by simp)), (gC.cell r6 (by simp)), (gC.cell r7 (by simp))⟩
          | exact ⟨(gD.cell (gC.cell x0 (by simp)) (by simp)), (gD.cell (gC.cell x1 (by simp)) (by simp)), (gD.cell (gC.cell x2 (by simp)) (by simp)), (gD.cell (gC.cell x3 (by simp)) (by simp)), (gD.cell (gC.cell x4 (by simp)) (by simp)), (gD.cell (gC.cell x5 (by simp)) (by simp)), (gD.cell (gC.cell x6 (by simp)) (by simp)), (gD.cell (gC.cell x7 (by simp)) (by simp)), (gD.cell (gC.cell r0 (by simp)) (by simp)), (gD.cell (gC.cell r1 (by simp)) (by simp)), (gD.cell (gC.cell r2 (by simp)) (by simp)), (gD.cell (gC.cell r3 (by simp)) (by simp)), (gD.cell (gC.cell r4 (by simp)) (by simp)), (gD.cell (gC.cell r5 (by simp)) (by simp)), (gD.cell (gC.cell r6 (by simp)) (by simp)), (gD.cell (gC.cell r7 (by simp)) (by simp))⟩)
          (first
            | (go_at_call 18; refine (toPk_any _ k f t a l g s d1 n1 c1 xs (HI1.out.kept (gby_drew G8.out)) hl1).mono ?_; rintro e w9 ⟨c9, rfl, hc9, hi9, gC⟩)
            | (go_at_call 19; refine (eqPk_same _ k f t a l g s _ _ n1 _ _ xs ((show ISl (World.drew w8) _ _ _ from J8.out).kept gC) hi9 hl1).mono ?_; rintro e w10 ⟨rfl, gD⟩))
        all_goals
          have gE := gby_trans (gby_trans (gby_drew (gby_refl w8 none)) gC) gD
          have hrb := row_later gE HB8.out
          have hx1 := row_later gE HX18.out
          have K10 := Lib.hid (K8.out.kept gE)
          have G10 := Lib.hid (gby_trans G8.out gE)
          clear gC gD gE hi9 hc9 x0 x1 x2 x3 x4 x5 x6 x7 r0 r1 r2 r3 r4 r5 r6 r7
          obtain ⟨y0, y1, y2, y3, y4, y5, y6, y7⟩ := pk_cells hx1
          obtain ⟨q0, q1, q2, q3, q4, q5, q6, q7⟩ := pk_cells hrb
          clear hx1 hrb
          go_wp2_with fail
          go_region_held3 (fun w' => w'.cell? ⟨w7.heap.size, 0, none⟩ = some (.int .i64 k') ∧ w'.cell? ⟨w7.heap.size, 1, none⟩ = some (.int .i64 f') ∧ w'.cell? ⟨w7.heap.size, 2, none⟩ = some (.int .i64 t') ∧ w'.cell? ⟨w7.heap.size, 3, none⟩ = some (.int .i64 a') ∧ w'.cell? ⟨w7.heap.size, 4, none⟩ = some (.int .i64 l') ∧ w'.cell? ⟨w7.heap.size, 5, none⟩ = some (.int .i64 g') ∧ w'.cell? ⟨w7.heap.size, 6, none⟩ = some (.int .i64 s') ∧ w'.cell? ⟨w7.heap.size, 7, none⟩ = some (.slice (some ⟨c7, 0, none⟩) n2 n2) ∧ w'.cell? ⟨W.heap.size + 1, 0, none⟩ = some (.int .i64 k') ∧ w'.cell? ⟨W.heap.size + 1, 1, none⟩ = some (.int .i64 f') ∧ w'.cell? ⟨W.heap.size + 1, 2, none⟩ = some (.int .i64 t') ∧ w'.cell? ⟨W.heap.size + 1, 3, none⟩ = some (.int .i64 a') ∧ w'.cell? ⟨W.heap.size + 1, 4, none⟩ = some (.int .i64 l') ∧ w'.cell? ⟨W.heap.size + 1, 5, none⟩ = some (.int .i64 g') ∧ w'.cell? ⟨W.heap.size + 1, 6, none⟩ = some (.int .i64 s') ∧ w'.cell? ⟨W.heap.size + 1, 7, none⟩ = some (.slice d2 n2 c2))
            (first
          | exact ⟨y0, y1, y2, y3, y4, y5, y6, y7, q0, q1, q2, q3, q4, q5, q6, q7⟩
          | exact ⟨(gC.cell y0 (by simp)), (gC.cell y1 (by simp)), (gC.cell y2 (by simp)), (gC.cell y3 (by simp)), (gC.cell y4 (by simp)), (gC.cell y5 (by simp)), (gC.cell y6 (by simp)), (gC.cell y7 (by simp)), (gC.cell q0 (by simp)), (gC.cell q1 (by simp)), (gC.cell q2 (by simp)), (gC.cell q3 (by simp)), (gC.cell q4 (by simp)), (gC.cell q5 (by simp)), (gC.cell q6 (by simp)), (gC.cell q7 (by simp))⟩
          | exact ⟨(gD.cell (gC.cell y0 (by simp)) (by simp)), (gD.cell (gC.cell y1 (by simp)) (by simp)), (gD.cell (gC.cell y2 (by simp)) (by simp)), (gD.cell (gC.cell y3 (by simp)) (by simp)), (gD.cell (gC.cell y4 (by simp)) (by simp)), (gD.cell (gC.cell y5 (by simp)) (by simp)), (gD.cell (gC.cell y6 (by simp)) (by simp)), (gD.cell (gC.cell y7 (by simp)) (by simp)), (gD.cell (gC.cell q0 (by simp)) (by simp)), (gD.cell (gC.cell q1 (by simp)) (by simp)), (gD.cell (gC.cell q2 (by simp)) (by simp)), (gD.cell (gC.cell q3 (by simp)) (by simp)), (gD.cell (gC.cell q4 (by simp)) (by simp)), (gD.cell (gC.cell q5 (by simp)) (by simp)), (gD.cell (gC.cell q6 (by simp)) (by simp)), (gD.cell (gC.cell q7 (by simp)) (by simp))⟩)
            (first
              | (go_at_call 18; refine (toPk_any _ k' f' t' a' l' g' s' d2 n2 c2 ys (HI2.out.kept (gby_drew G10.out)) hl2).mono ?_; rintro e w11 ⟨c11, rfl, hc11, hi11, gC⟩)
              | (go_at_call 19; refine (eqPk_same _ k' f' t' a' l' g' s' _ _ n2 _ _ ys ((show ISl (World.drew w10) _ _ _ from K10.out).kept gC) hi11 hl2).mono ?_; rintro e w12 ⟨rfl, gD⟩))
          all_goals
            have G12 := Lib.hid (gby_trans (gby_trans (gby_drew G10.out) gC) gD)
            clear gC gD hi11 hc11
            go_wp2
            go_ret
            exact ⟨rfl, gby_below G12.out⟩

end Go.Proofs.Yteaaobklfhlgiab
