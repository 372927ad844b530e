/-
  The walk of FnExactIsUnder: at every argument the program answers as its model and writes nothing that was there.
-/
import Derived.Test.YtgmpehccklifdacUnder
import Derived.WalkKit
import Derived.Deep.RegionHeld3
import Derived.Below
namespace Go.Proofs.Ytgmpehccklifdac
open Go Go.RowKit

set_option maxRecDepth 8000 in
set_option maxHeartbeats 8000000 in
theorem walk_exactIsUnder_of (both : ∀ (xs0_0 : List Int) (xs0_1 : List Int) (xs0_2 : List Int) (q1 : Int) (q2 : Int), xs0_0.length ≤ 1048576 → xs0_1.length ≤ 1048576 → xs0_2.length ≤ 1048576 → ∃ (b : Bool), (∀ (W : World) (u0_0 u0_1 u0_2 : Option Addr) (v0_0 v0_1 v0_2 : Nat), RdI W (.slice u0_0 xs0_0.length v0_0) xs0_0 → RdI W (.slice u0_1 xs0_1.length v0_1) xs0_1 → RdI W (.slice u0_2 xs0_2.length v0_2) xs0_2 → Calls Try.prog 41 #[nbV u0_0 xs0_0.length v0_0 u0_1 xs0_1.length v0_1 u0_2 xs0_2.length v0_2, .int .i64 q1, .int .i64 q2] W (AnsN (.bool b) W)) ∧ ∀ (W : World) (u0_0 u0_1 u0_2 : Option Addr) (v0_0 v0_1 v0_2 : Nat), RdI W (.slice u0_0 xs0_0.length v0_0) xs0_0 → RdI W (.slice u0_1 xs0_1.length v0_1) xs0_1 → RdI W (.slice u0_2 xs0_2.length v0_2) xs0_2 → Calls Try.prog 43 #[nbV u0_0 xs0_0.length v0_0 u0_1 xs0_1.length v0_1 u0_2 xs0_2.length v0_2, .int .i64 q1, .int .i64 q2] W (AnsN (.bool b) W))
    (W : World) (a0_0 : Option Addr) (n0_0 c0_0 : Nat) (xs0_0 : List Int) (a0_1 : Option Addr) (n0_1 c0_1 : Nat) (xs0_1 : List Int) (a0_2 : Option Addr) (n0_2 c0_2 : Nat) (xs0_2 : List Int) (q1 : Int) (q2 : Int) (H0_0 : ISl W a0_0 n0_0 xs0_0) (hc0_0 : n0_0 ≤ 9223372036854775807) (H0_1 : ISl W a0_1 n0_1 xs0_1) (hc0_1 : n0_1 ≤ 9223372036854775807) (H0_2 : ISl W a0_2 n0_2 xs0_2) (hc0_2 : n0_2 ≤ 9223372036854775807) :
    Calls Try.prog 10 #[nbV a0_0 n0_0 c0_0 a0_1 n0_1 c0_1 a0_2 n0_2 c0_2, .int .i64 q1, .int .i64 q2] W fun e w' => e = .returned (.bool true) ∧ Below W.heap.size W w' := by
  have HI0_0 := Lib.hid H0_0
  have hlx0_0 := H0_0.1
  clear H0_0
  have HI0_1 := Lib.hid H0_1
  have hlx0_1 := H0_1.1
  clear H0_1
  have HI0_2 := Lib.hid H0_2
  have hlx0_2 := H0_2.1
  clear H0_2
  by_cases hs0 : (1048576 : Int) < ((n0_0 + n0_1 + n0_2 : Nat) : Int)
  · have hneg : (-1 : Int) < 0 := by omega
    clear hlx0_0 hlx0_1 hlx0_2
    unfold nbV
    go_enter Try.func10, Try.ntmps10
    go_wp2_with fail
    go_at_call 40
    refine (szNumbers_g _ 1048576 a0_0 n0_0 c0_0 a0_1 n0_1 c0_1 a0_2 n0_2 c0_2 (by omega) (by omega) hc0_0 hc0_1 hc0_2).mono ?_
    rintro e w1 ⟨he, g⟩
    rw [show lessN 1048576 (n0_0 + n0_1 + n0_2) = -1 from if_pos hs0] at he
    subst he
    have A0_1 := Lib.hid (row_held g (show ((W.alloc (.cells #[.slice a0_0 n0_0 c0_0, .slice a0_1 n0_1 c0_1, .slice a0_2 n0_2 c0_2] 53))).heap[W.heap.size]? = some (.cells #[.slice a0_0 n0_0 c0_0, .slice a0_1 n0_1 c0_1, .slice a0_2 n0_2 c0_2] 53 (0, 0)) from heap_alloc_new W _))
    have G1 := Lib.hid (gby_trans (gby_alloc (gby_refl _ _) _) g)
    clear g
    go_wp2
    go_ret
    exact ⟨rfl, gby_below G1.out⟩
  obtain ⟨rr0, hr0⟩ : ∃ r, r = lessN 1048576 (n0_0 + n0_1 + n0_2) := ⟨_, rfl⟩
  have hrr0 : rr0 = (1048576 : Int) - ((n0_0 + n0_1 + n0_2 : Nat) : Int) := hr0.trans (if_neg hs0)
  have hn0 : ¬ rr0 < 0 := by omega
  have hu0 : rr0 ≤ 1048576 := by omega
  have hl0_0 : n0_0 ≤ 1048576 := by omega
  have hx0_0 : xs0_0.length ≤ 1048576 := by omega
  have hl0_1 : n0_1 ≤ 1048576 := by omega
  have hx0_1 : xs0_1.length ≤ 1048576 := by omega
  have hl0_2 : n0_2 ≤ 1048576 := by omega
  have hx0_2 : xs0_2.length ≤ 1048576 := by omega
  have HR0 := Lib.hid hr0
  clear hs0 hr0 hrr0
  clear hlx0_0 hlx0_1 hlx0_2
  obtain ⟨b, hs_, hi_⟩ := both xs0_0 xs0_1 xs0_2 q1 q2 hx0_0 hx0_1 hx0_2
  have HS := Lib.hid hs_
  have HM := Lib.hid hi_
  clear hs_ hi_ both
  have hbb : (b != b) = false := by simp
  unfold nbV
  go_enter Try.func10, Try.ntmps10
  go_wp2_with fail
  go_at_call 40
  refine (szNumbers_g _ 1048576 a0_0 n0_0 c0_0 a0_1 n0_1 c0_1 a0_2 n0_2 c0_2 (by omega) (by omega) hc0_0 hc0_1 hc0_2).mono ?_
  rintro e w1 ⟨he, g⟩
  rw [← HR0.out] at he
  subst he
  have s1 := g.size
  try simp only [World.size_alloc] at s1
  have A0_1 := Lib.hid (row_held g (show ((W.alloc (.cells #[.slice a0_0 n0_0 c0_0, .slice a0_1 n0_1 c0_1, .slice a0_2 n0_2 c0_2] 53))).heap[W.heap.size]? = some (.cells #[.slice a0_0 n0_0 c0_0, .slice a0_1 n0_1 c0_1, .slice a0_2 n0_2 c0_2] 53 (0, 0)) from heap_alloc_new W _))
  have G1 := Lib.hid (gby_trans (gby_alloc (gby_refl _ _) _) g)
  clear g
  clear hc0_0 hc0_1 hc0_2
  obtain ⟨kA0_0, kA0_1, kA0_2⟩ := nb_row A0_1.out
  go_wp2_with fail
  go_at_call 42
  refine (toNumbers_g _ a0_0 n0_0 c0_0 a0_1 n0_1 c0_1 a0_2 n0_2 c0_2 xs0_0 xs0_1 xs0_2 (HI0_0.out.kept G1.out) (HI0_1.out.kept G1.out) (HI0_2.out.kept G1.out) hl0_0 hl0_1 hl0_2).mono ?_
  rintro e w2 ⟨dT0_0, eT0_0, dT0_1, eT0_1, dT0_2, eT0_2, rfl, o, g⟩
  clear kA0_0 kA0_1 kA0_2
  try simp only [World.size_alloc] at o
  have s2 := g.size
  try simp only [World.size_alloc] at s2
  have A0_2 := Lib.hid (row_held g A0_1.out)
  clear A0_1
  have G2 := Lib.hid (gby_trans G1.out g)
  have T0_2 := Lib.hid o
  clear o g
  unfold nbV
  go_wp2_with fail
  go_at_call 41
  refine (HS.out _ _ _ _ _ _ _ (OwS.rd1 T0_2.out) (OwS.rd2 T0_2.out) (OwS.rd3 T0_2.out)).mono ?_
  rintro e w3 ⟨rfl, g⟩
  have s3 := g.size
  try simp only [World.size_alloc] at s3
  have T0_3 := Lib.hid (OwS.grow g T0_2.out)
  clear T0_2
  have A0_3 := Lib.hid (row_held g A0_2.out)
  clear A0_2
  have G3 := Lib.hid (gby_trans G2.out g)
  clear g
  clear T0_3
  obtain ⟨kA0_0, kA0_1, kA0_2⟩ := nb_row A0_3.out
  go_wp2_with fail
  go_at_call 42
  refine (toNumbers_g _ a0_0 n0_0 c0_0 a0_1 n0_1 c0_1 a0_2 n0_2 c0_2 xs0_0 xs0_1 xs0_2 (HI0_0.out.kept G3.out) (HI0_1.out.kept G3.out) (HI0_2.out.kept G3.out) hl0_0 hl0_1 hl0_2).mono ?_
  rintro e w4 ⟨dX0_0, eX0_0, dX0_1, eX0_1, dX0_2, eX0_2, rfl, o, g⟩
  clear kA0_0 kA0_1 kA0_2
  try simp only [World.size_alloc] at o
  have s4 := g.size
  try simp only [World.size_alloc] at s4
  have A0_4 := Lib.hid (row_held g A0_3.out)
  clear A0_3
  have G4 := Lib.hid (gby_trans G3.out g)
  have X0_4 := Lib.hid o
  clear o g
  unfold nbV
  have al : w4.grownBy (w4.alloc (.cells #[.slice dX0_0 xs0_0.length eX0_0, .slice dX0_1 xs0_1.length eX0_1, .slice dX0_2 xs0_2.length eX0_2] 56)) none := gby_alloc (gby_refl _ _) _
  have X0_4b := Lib.hid (OwS.grow al X0_4.out)
  clear X0_4
  have A0_4b := Lib.hid (row_held al A0_4.out)
  clear A0_4
  have G4b := Lib.hid (gby_trans G4.out al)
  have V0_n := Lib.hid (heap_alloc_new w4 (.cells #[.slice dX0_0 xs0_0.length eX0_0, .slice dX0_1 xs0_1.length eX0_1, .slice dX0_2 xs0_2.length eX0_2] 56))
  clear al
  obtain ⟨kV0_0, kV0_1, kV0_2⟩ := nb_row V0_n.out
  go_wp2_with fail
  go_at_call 43
  refine (HM.out _ _ _ _ _ _ _ (OwS.rd1 X0_4b.out) (OwS.rd2 X0_4b.out) (OwS.rd3 X0_4b.out)).mono ?_
  rintro e w5 ⟨rfl, g⟩
  clear kV0_0 kV0_1 kV0_2
  have s5 := g.size
  try simp only [World.size_alloc] at s5
  have X0_5 := Lib.hid (OwS.grow g X0_4b.out)
  clear X0_4b
  have A0_5 := Lib.hid (row_held g A0_4b.out)
  clear A0_4b
  have V0_5 := Lib.hid (row_held g V0_n.out)
  clear V0_n
  have G5 := Lib.hid (gby_trans G4b.out g)
  clear g
  obtain ⟨kA0_0, kA0_1, kA0_2⟩ := nb_row A0_5.out
  obtain ⟨kV0_0, kV0_1, kV0_2⟩ := nb_row V0_5.out
  go_wp2_with fail
  go_region_held3 (fun w' => w'.cell? ⟨W.heap.size, 0, none⟩ = some (.slice a0_0 n0_0 c0_0) ∧ w'.cell? ⟨W.heap.size, 1, none⟩ = some (.slice a0_1 n0_1 c0_1) ∧ w'.cell? ⟨W.heap.size, 2, none⟩ = some (.slice a0_2 n0_2 c0_2) ∧ w'.cell? ⟨w4.heap.size, 0, none⟩ = some (.slice dX0_0 xs0_0.length eX0_0) ∧ w'.cell? ⟨w4.heap.size, 1, none⟩ = some (.slice dX0_1 xs0_1.length eX0_1) ∧ w'.cell? ⟨w4.heap.size, 2, none⟩ = some (.slice dX0_2 xs0_2.length eX0_2))
    (first
      | exact ⟨kA0_0, kA0_1, kA0_2, kV0_0, kV0_1, kV0_2⟩
      | exact ⟨(gT.cell kA0_0 (by simp)), (gT.cell kA0_1 (by simp)), (gT.cell kA0_2 (by simp)), (gT.cell kV0_0 (by simp)), (gT.cell kV0_1 (by simp)), (gT.cell kV0_2 (by simp))⟩
      | exact ⟨(gE.cell (gT.cell kA0_0 (by simp)) (by simp)), (gE.cell (gT.cell kA0_1 (by simp)) (by simp)), (gE.cell (gT.cell kA0_2 (by simp)) (by simp)), (gE.cell (gT.cell kV0_0 (by simp)) (by simp)), (gE.cell (gT.cell kV0_1 (by simp)) (by simp)), (gE.cell (gT.cell kV0_2 (by simp)) (by simp))⟩)
    (first
      | (go_at_call 42; refine (toNumbers_g _ a0_0 n0_0 c0_0 a0_1 n0_1 c0_1 a0_2 n0_2 c0_2 xs0_0 xs0_1 xs0_2 (HI0_0.out.kept (gby_drew G5.out)) (HI0_1.out.kept (gby_drew G5.out)) (HI0_2.out.kept (gby_drew G5.out)) hl0_0 hl0_1 hl0_2).mono ?_; rintro e wT1 ⟨dT1_0, eT1_0, dT1_1, eT1_1, dT1_2, eT1_2, rfl, oT, gT⟩)
      | (go_at_call 44; refine (eqNumbers_g _ _ _ _ _ _ _ _ _ _ _ _ _ _ _ _ xs0_0 xs0_1 xs0_2 ((OwS.rd1 X0_5.out).kept (gby_trans (gby_drew (gby_refl _ _)) gT)).isl' (OwS.rd1 oT).isl' (by omega) ((OwS.rd2 X0_5.out).kept (gby_trans (gby_drew (gby_refl _ _)) gT)).isl' (OwS.rd2 oT).isl' (by omega) ((OwS.rd3 X0_5.out).kept (gby_trans (gby_drew (gby_refl _ _)) gT)).isl' (OwS.rd3 oT).isl' (by omega)).mono ?_; rintro e wE1 ⟨rfl, gE⟩))
  all_goals
    have g : w5.grownBy wE1 none := gby_trans (gby_trans (gby_drew (gby_refl _ _)) gT) gE
    clear gT gE oT
    clear kA0_0 kA0_1 kA0_2 kV0_0 kV0_1 kV0_2
    have s6 := g.size
    try simp only [World.size_alloc] at s6
    have X0_6 := Lib.hid (OwS.grow g X0_5.out)
    clear X0_5
    have A0_6 := Lib.hid (row_held g A0_5.out)
    clear A0_5
    have V0_6 := Lib.hid (row_held g V0_5.out)
    clear V0_5
    have G6 := Lib.hid (gby_trans G5.out g)
    clear g
    go_wp2
    go_ret
    exact ⟨rfl, gby_below G6.out⟩
    
end Go.Proofs.Ytgmpehccklifdac
