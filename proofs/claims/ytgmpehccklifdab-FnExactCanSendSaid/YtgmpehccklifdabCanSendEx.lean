/-
  The walk of FnExactCanSend: at every argument the program answers as its model and writes nothing that was there.
-/
import Derived.Test.YtgmpehccklifdabCan
import Derived.WalkKit
import Derived.Deep.RegionHeld3
import Derived.Below
namespace Go.Proofs.Ytgmpehccklifdab
open Go Go.RowKit

set_option maxRecDepth 8000 in
set_option maxHeartbeats 8000000 in
theorem walk_exactCanSend_of (both : ∀ (xs0_0 : List Int) (xs0_1 : List Int) (i1_0 : Int) (i1_1 : Int) (i1_2 : Int) (i1_3 : Int) (i1_4 : Int) (i1_5 : Int) (i1_6 : Int) (xs1_7 : List Int), xs0_0.length ≤ 1048576 → xs0_1.length ≤ 1048576 → xs1_7.length ≤ 1048576 → ∃ (b : Bool), (∀ (W : World) (u0_0 u0_1 u1_7 : Option Addr) (v0_0 v0_1 v1_7 : Nat), RdI W (.slice u0_0 xs0_0.length v0_0) xs0_0 → RdI W (.slice u0_1 xs0_1.length v0_1) xs0_1 → RdI W (.slice u1_7 xs1_7.length v1_7) xs1_7 → Calls Try.prog 32 #[crV u0_0 xs0_0.length v0_0 u0_1 xs0_1.length v0_1, pgV i1_0 i1_1 i1_2 i1_3 i1_4 i1_5 i1_6 u1_7 xs1_7.length v1_7] W (AnsN (.bool b) W)) ∧ ∀ (W : World) (u0_0 u0_1 u1_7 : Option Addr) (v0_0 v0_1 v1_7 : Nat), RdI W (.slice u0_0 xs0_0.length v0_0) xs0_0 → RdI W (.slice u0_1 xs0_1.length v0_1) xs0_1 → RdI W (.slice u1_7 xs1_7.length v1_7) xs1_7 → Calls Try.prog 33 #[crV u0_0 xs0_0.length v0_0 u0_1 xs0_1.length v0_1, pgV i1_0 i1_1 i1_2 i1_3 i1_4 i1_5 i1_6 u1_7 xs1_7.length v1_7] W (AnsN (.bool b) W))
    (W : World) (a0_0 : Option Addr) (n0_0 c0_0 : Nat) (xs0_0 : List Int) (a0_1 : Option Addr) (n0_1 c0_1 : Nat) (xs0_1 : List Int) (i1_0 : Int) (i1_1 : Int) (i1_2 : Int) (i1_3 : Int) (i1_4 : Int) (i1_5 : Int) (i1_6 : Int) (a1_7 : Option Addr) (n1_7 c1_7 : Nat) (xs1_7 : List Int) (H0_0 : ISl W a0_0 n0_0 xs0_0) (hc0_0 : n0_0 ≤ 9223372036854775807) (H0_1 : ISl W a0_1 n0_1 xs0_1) (hc0_1 : n0_1 ≤ 9223372036854775807) (H1_7 : ISl W a1_7 n1_7 xs1_7) (hc1_7 : n1_7 ≤ 9223372036854775807) :
    Calls Try.prog 7 #[crV a0_0 n0_0 c0_0 a0_1 n0_1 c0_1, pgV i1_0 i1_1 i1_2 i1_3 i1_4 i1_5 i1_6 a1_7 n1_7 c1_7] W fun e w' => e = .returned (.bool true) ∧ Below W.heap.size W w' := by
  have HI0_0 := Lib.hid H0_0
  have hlx0_0 := H0_0.1
  clear H0_0
  have HI0_1 := Lib.hid H0_1
  have hlx0_1 := H0_1.1
  clear H0_1
  have HI1_7 := Lib.hid H1_7
  have hlx1_7 := H1_7.1
  clear H1_7
  by_cases hs0 : (1048576 : Int) < ((n0_0 + n0_1 : Nat) : Int)
  · have hneg : (-1 : Int) < 0 := by omega
    clear hlx0_0 hlx0_1 hlx1_7
    unfold crV
    unfold pgV
    go_enter Try.func7, Try.ntmps7
    go_wp2_with fail
    go_at_call 27
    refine (szCredits_g _ 1048576 a0_0 n0_0 c0_0 a0_1 n0_1 c0_1 (by omega) (by omega) hc0_0 hc0_1).mono ?_
    rintro e w1 ⟨he, g⟩
    rw [show lessN 1048576 (n0_0 + n0_1) = -1 from if_pos hs0] at he
    subst he
    have A0_1 := Lib.hid (row_held g (show (((W.alloc (.cells #[.slice a0_0 n0_0 c0_0, .slice a0_1 n0_1 c0_1] 39)).alloc (.cells #[.int .i64 i1_0, .int .i64 i1_1, .int .i64 i1_2, .int .i64 i1_3, .int .i64 i1_4, .int .i64 i1_5, .int .i64 i1_6, .slice a1_7 n1_7 c1_7] 24))).heap[W.heap.size]? = some (.cells #[.slice a0_0 n0_0 c0_0, .slice a0_1 n0_1 c0_1] 39 (0, 0)) from by rw [heap_alloc_old _ _ (by simp)]; exact heap_alloc_new W _))
    have A1_1 := Lib.hid (row_held g (show (((W.alloc (.cells #[.slice a0_0 n0_0 c0_0, .slice a0_1 n0_1 c0_1] 39)).alloc (.cells #[.int .i64 i1_0, .int .i64 i1_1, .int .i64 i1_2, .int .i64 i1_3, .int .i64 i1_4, .int .i64 i1_5, .int .i64 i1_6, .slice a1_7 n1_7 c1_7] 24))).heap[W.heap.size + 1]? = some (.cells #[.int .i64 i1_0, .int .i64 i1_1, .int .i64 i1_2, .int .i64 i1_3, .int .i64 i1_4, .int .i64 i1_5, .int .i64 i1_6, .slice a1_7 n1_7 c1_7] 24 (0, 0)) from heap_pair W _ _))
    have G1 := Lib.hid (gby_trans (gby_alloc (gby_alloc (gby_refl _ _) _) _) g)
    clear g
    go_wp2
    go_ret
    exact ⟨rfl, gby_below G1.out⟩
  obtain ⟨rr0, hr0⟩ : ∃ r, r = lessN 1048576 (n0_0 + n0_1) := ⟨_, rfl⟩
  have hrr0 : rr0 = (1048576 : Int) - ((n0_0 + n0_1 : Nat) : Int) := hr0.trans (if_neg hs0)
  have hn0 : ¬ rr0 < 0 := by omega
  have hu0 : rr0 ≤ 1048576 := by omega
  by_cases hs1 : rr0 < ((n1_7 : Nat) : Int)
  · have hneg : (-1 : Int) < 0 := by omega
    clear hlx0_0 hlx0_1 hlx1_7
    have HR0 := Lib.hid hr0
    clear hr0 hrr0
    unfold crV
    unfold pgV
    go_enter Try.func7, Try.ntmps7
    go_wp2_with fail
    go_at_call 27
    refine (szCredits_g _ 1048576 a0_0 n0_0 c0_0 a0_1 n0_1 c0_1 (by omega) (by omega) hc0_0 hc0_1).mono ?_
    rintro e w1 ⟨he, g⟩
    rw [← HR0.out] at he
    subst he
    have A0_1 := Lib.hid (row_held g (show (((W.alloc (.cells #[.slice a0_0 n0_0 c0_0, .slice a0_1 n0_1 c0_1] 39)).alloc (.cells #[.int .i64 i1_0, .int .i64 i1_1, .int .i64 i1_2, .int .i64 i1_3, .int .i64 i1_4, .int .i64 i1_5, .int .i64 i1_6, .slice a1_7 n1_7 c1_7] 24))).heap[W.heap.size]? = some (.cells #[.slice a0_0 n0_0 c0_0, .slice a0_1 n0_1 c0_1] 39 (0, 0)) from by rw [heap_alloc_old _ _ (by simp)]; exact heap_alloc_new W _))
    have A1_1 := Lib.hid (row_held g (show (((W.alloc (.cells #[.slice a0_0 n0_0 c0_0, .slice a0_1 n0_1 c0_1] 39)).alloc (.cells #[.int .i64 i1_0, .int .i64 i1_1, .int .i64 i1_2, .int .i64 i1_3, .int .i64 i1_4, .int .i64 i1_5, .int .i64 i1_6, .slice a1_7 n1_7 c1_7] 24))).heap[W.heap.size + 1]? = some (.cells #[.int .i64 i1_0, .int .i64 i1_1, .int .i64 i1_2, .int .i64 i1_3, .int .i64 i1_4, .int .i64 i1_5, .int .i64 i1_6, .slice a1_7 n1_7 c1_7] 24 (0, 0)) from heap_pair W _ _))
    have G1 := Lib.hid (gby_trans (gby_alloc (gby_alloc (gby_refl _ _) _) _) g)
    clear g
    obtain ⟨kA1_0, kA1_1, kA1_2, kA1_3, kA1_4, kA1_5, kA1_6, kA1_7⟩ := pg_row A1_1.out
    go_wp2_with fail
    go_at_call 15
    refine (szPacket_g _ rr0 i1_0 i1_1 i1_2 i1_3 i1_4 i1_5 i1_6 a1_7 n1_7 c1_7 (by omega) (by omega) hc1_7).mono ?_
    rintro e w2 ⟨he, g⟩
    rw [show lessN rr0 (n1_7) = -1 from if_pos hs1] at he
    subst he
    clear kA1_0 kA1_1 kA1_2 kA1_3 kA1_4 kA1_5 kA1_6 kA1_7
    have s2 := g.size
    try simp only [World.size_alloc] at s2
    have A0_2 := Lib.hid (row_held g A0_1.out)
    clear A0_1
    have A1_2 := Lib.hid (row_held g A1_1.out)
    clear A1_1
    have G2 := Lib.hid (gby_trans G1.out g)
    clear g
    go_wp2
    go_ret
    exact ⟨rfl, gby_below G2.out⟩
  obtain ⟨rr1, hr1⟩ : ∃ r, r = lessN rr0 (n1_7) := ⟨_, rfl⟩
  have hrr1 : rr1 = rr0 - ((n1_7 : Nat) : Int) := hr1.trans (if_neg hs1)
  have hn1 : ¬ rr1 < 0 := by omega
  have hu1 : rr1 ≤ 1048576 := by omega
  have hl0_0 : n0_0 ≤ 1048576 := by omega
  have hx0_0 : xs0_0.length ≤ 1048576 := by omega
  have hl0_1 : n0_1 ≤ 1048576 := by omega
  have hx0_1 : xs0_1.length ≤ 1048576 := by omega
  have hl1_7 : n1_7 ≤ 1048576 := by omega
  have hx1_7 : xs1_7.length ≤ 1048576 := by omega
  have HR0 := Lib.hid hr0
  clear hs0 hr0 hrr0
  have HR1 := Lib.hid hr1
  clear hs1 hr1 hrr1
  clear hlx0_0 hlx0_1 hlx1_7
  obtain ⟨b, hs_, hi_⟩ := both xs0_0 xs0_1 i1_0 i1_1 i1_2 i1_3 i1_4 i1_5 i1_6 xs1_7 hx0_0 hx0_1 hx1_7
  have HS := Lib.hid hs_
  have HM := Lib.hid hi_
  clear hs_ hi_ both
  have hbb : (b != b) = false := by simp
  unfold crV
  unfold pgV
  go_enter Try.func7, Try.ntmps7
  go_wp2_with fail
  go_at_call 27
  refine (szCredits_g _ 1048576 a0_0 n0_0 c0_0 a0_1 n0_1 c0_1 (by omega) (by omega) hc0_0 hc0_1).mono ?_
  rintro e w1 ⟨he, g⟩
  rw [← HR0.out] at he
  subst he
  have s1 := g.size
  try simp only [World.size_alloc] at s1
  have A0_1 := Lib.hid (row_held g (show (((W.alloc (.cells #[.slice a0_0 n0_0 c0_0, .slice a0_1 n0_1 c0_1] 39)).alloc (.cells #[.int .i64 i1_0, .int .i64 i1_1, .int .i64 i1_2, .int .i64 i1_3, .int .i64 i1_4, .int .i64 i1_5, .int .i64 i1_6, .slice a1_7 n1_7 c1_7] 24))).heap[W.heap.size]? = some (.cells #[.slice a0_0 n0_0 c0_0, .slice a0_1 n0_1 c0_1] 39 (0, 0)) from by rw [heap_alloc_old _ _ (by simp)]; exact heap_alloc_new W _))
  have A1_1 := Lib.hid (row_held g (show (((W.alloc (.cells #[.slice a0_0 n0_0 c0_0, .slice a0_1 n0_1 c0_1] 39)).alloc (.cells #[.int .i64 i1_0, .int .i64 i1_1, .int .i64 i1_2, .int .i64 i1_3, .int .i64 i1_4, .int .i64 i1_5, .int .i64 i1_6, .slice a1_7 n1_7 c1_7] 24))).heap[W.heap.size + 1]? = some (.cells #[.int .i64 i1_0, .int .i64 i1_1, .int .i64 i1_2, .int .i64 i1_3, .int .i64 i1_4, .int .i64 i1_5, .int .i64 i1_6, .slice a1_7 n1_7 c1_7] 24 (0, 0)) from heap_pair W _ _))
  have G1 := Lib.hid (gby_trans (gby_alloc (gby_alloc (gby_refl _ _) _) _) g)
  clear g
  obtain ⟨kA1_0, kA1_1, kA1_2, kA1_3, kA1_4, kA1_5, kA1_6, kA1_7⟩ := pg_row A1_1.out
  go_wp2_with fail
  go_at_call 15
  refine (szPacket_g _ rr0 i1_0 i1_1 i1_2 i1_3 i1_4 i1_5 i1_6 a1_7 n1_7 c1_7 (by omega) (by omega) hc1_7).mono ?_
  rintro e w2 ⟨he, g⟩
  rw [← HR1.out] at he
  subst he
  clear kA1_0 kA1_1 kA1_2 kA1_3 kA1_4 kA1_5 kA1_6 kA1_7
  have s2 := g.size
  try simp only [World.size_alloc] at s2
  have A0_2 := Lib.hid (row_held g A0_1.out)
  clear A0_1
  have A1_2 := Lib.hid (row_held g A1_1.out)
  clear A1_1
  have G2 := Lib.hid (gby_trans G1.out g)
  clear g
  clear hc0_0 hc0_1 hc1_7
  obtain ⟨kA0_0, kA0_1⟩ := cr_row A0_2.out
  obtain ⟨kA1_0, kA1_1, kA1_2, kA1_3, kA1_4, kA1_5, kA1_6, kA1_7⟩ := pg_row A1_2.out
  go_wp2_with fail
  go_region_held3 (fun w' => w'.cell? ⟨W.heap.size, 0, none⟩ = some (.slice a0_0 n0_0 c0_0) ∧ w'.cell? ⟨W.heap.size, 1, none⟩ = some (.slice a0_1 n0_1 c0_1) ∧ w'.cell? ⟨W.heap.size + 1, 0, none⟩ = some (.int .i64 i1_0) ∧ w'.cell? ⟨W.heap.size + 1, 1, none⟩ = some (.int .i64 i1_1) ∧ w'.cell? ⟨W.heap.size + 1, 2, none⟩ = some (.int .i64 i1_2) ∧ w'.cell? ⟨W.heap.size + 1, 3, none⟩ = some (.int .i64 i1_3) ∧ w'.cell? ⟨W.heap.size + 1, 4, none⟩ = some (.int .i64 i1_4) ∧ w'.cell? ⟨W.heap.size + 1, 5, none⟩ = some (.int .i64 i1_5) ∧ w'.cell? ⟨W.heap.size + 1, 6, none⟩ = some (.int .i64 i1_6) ∧ w'.cell? ⟨W.heap.size + 1, 7, none⟩ = some (.slice a1_7 n1_7 c1_7))
    (first
      | exact ⟨kA0_0, kA0_1, kA1_0, kA1_1, kA1_2, kA1_3, kA1_4, kA1_5, kA1_6, kA1_7⟩
      | exact ⟨(gA0.cell kA0_0 (by simp)), (gA0.cell kA0_1 (by simp)), (gA0.cell kA1_0 (by simp)), (gA0.cell kA1_1 (by simp)), (gA0.cell kA1_2 (by simp)), (gA0.cell kA1_3 (by simp)), (gA0.cell kA1_4 (by simp)), (gA0.cell kA1_5 (by simp)), (gA0.cell kA1_6 (by simp)), (gA0.cell kA1_7 (by simp))⟩
      | exact ⟨(gA1.cell (gA0.cell kA0_0 (by simp)) (by simp)), (gA1.cell (gA0.cell kA0_1 (by simp)) (by simp)), (gA1.cell (gA0.cell kA1_0 (by simp)) (by simp)), (gA1.cell (gA0.cell kA1_1 (by simp)) (by simp)), (gA1.cell (gA0.cell kA1_2 (by simp)) (by simp)), (gA1.cell (gA0.cell kA1_3 (by simp)) (by simp)), (gA1.cell (gA0.cell kA1_4 (by simp)) (by simp)), (gA1.cell (gA0.cell kA1_5 (by simp)) (by simp)), (gA1.cell (gA0.cell kA1_6 (by simp)) (by simp)), (gA1.cell (gA0.cell kA1_7 (by simp)) (by simp))⟩
      | exact ⟨(gS.cell (gA1.cell (gA0.cell kA0_0 (by simp)) (by simp)) (by simp)), (gS.cell (gA1.cell (gA0.cell kA0_1 (by simp)) (by simp)) (by simp)), (gS.cell (gA1.cell (gA0.cell kA1_0 (by simp)) (by simp)) (by simp)), (gS.cell (gA1.cell (gA0.cell kA1_1 (by simp)) (by simp)) (by simp)), (gS.cell (gA1.cell (gA0.cell kA1_2 (by simp)) (by simp)) (by simp)), (gS.cell (gA1.cell (gA0.cell kA1_3 (by simp)) (by simp)) (by simp)), (gS.cell (gA1.cell (gA0.cell kA1_4 (by simp)) (by simp)) (by simp)), (gS.cell (gA1.cell (gA0.cell kA1_5 (by simp)) (by simp)) (by simp)), (gS.cell (gA1.cell (gA0.cell kA1_6 (by simp)) (by simp)) (by simp)), (gS.cell (gA1.cell (gA0.cell kA1_7 (by simp)) (by simp)) (by simp))⟩)
    (first
      | (go_at_call_of 29 (Value.agg #[.slice a0_0 n0_0 c0_0, .slice a0_1 n0_1 c0_1]); refine (toCredits_g _ a0_0 n0_0 c0_0 a0_1 n0_1 c0_1 xs0_0 xs0_1 (HI0_0.out.kept (gby_drew G2.out)) (HI0_1.out.kept (gby_drew G2.out)) hl0_0 hl0_1).mono ?_; rintro e wA0 ⟨dR0_0, eR0_0, dR0_1, eR0_1, rfl, oR0, gA0⟩)
      | (go_at_call_of 17 (Value.agg #[.int .i64 i1_0, .int .i64 i1_1, .int .i64 i1_2, .int .i64 i1_3, .int .i64 i1_4, .int .i64 i1_5, .int .i64 i1_6, .slice a1_7 n1_7 c1_7]); refine (toPacket_g _ i1_0 i1_1 i1_2 i1_3 i1_4 i1_5 i1_6 a1_7 n1_7 c1_7 xs1_7 (HI1_7.out.kept (gby_trans (gby_drew G2.out) gA0)) hl1_7).mono ?_; rintro e wA1 ⟨dR1_7, eR1_7, rfl, oR1, gA1⟩)
      | (go_at_call 32; refine (HS.out _ _ _ _ _ _ _ (RdI.kept (OwS.rd1 oR0) gA1) (RdI.kept (OwS.rd2 oR0) gA1) (OwS.rd1 oR1)).mono ?_; rintro e wS ⟨rfl, gS⟩))
  all_goals
    have g : w2.grownBy wS none := (gby_trans (gby_trans (gby_trans (gby_drew (gby_refl _ _)) gA0) gA1) gS)
    have sl : w2.heap.size ≤ wA1.heap.size := ((gby_trans (gby_trans (gby_drew (gby_refl _ _)) gA0) gA1)).size
    have sr : wA1.heap.size ≤ wS.heap.size := gS.size
    try simp only [World.size_alloc] at sl
    clear gA0 gA1 gS oR0 oR1
    clear kA0_0 kA0_1 kA1_0 kA1_1 kA1_2 kA1_3 kA1_4 kA1_5 kA1_6 kA1_7
    have s3 := g.size
    try simp only [World.size_alloc] at s3
    have A0_3 := Lib.hid (row_held g A0_2.out)
    clear A0_2
    have A1_3 := Lib.hid (row_held g A1_2.out)
    clear A1_2
    have G3 := Lib.hid (gby_trans G2.out g)
    clear g
    obtain ⟨kA0_0, kA0_1⟩ := cr_row A0_3.out
    go_wp2_with fail
    go_at_call 29
    refine (toCredits_g _ a0_0 n0_0 c0_0 a0_1 n0_1 c0_1 xs0_0 xs0_1 (HI0_0.out.kept G3.out) (HI0_1.out.kept G3.out) hl0_0 hl0_1).mono ?_
    rintro e w4 ⟨dX0_0, eX0_0, dX0_1, eX0_1, rfl, o, g⟩
    clear kA0_0 kA0_1
    try simp only [World.size_alloc] at o
    have s4 := g.size
    try simp only [World.size_alloc] at s4
    have A0_4 := Lib.hid (row_held g A0_3.out)
    clear A0_3
    have A1_4 := Lib.hid (row_held g A1_3.out)
    clear A1_3
    have G4 := Lib.hid (gby_trans G3.out g)
    have X0_4 := Lib.hid o
    clear o g
    unfold crV
    have al : w4.grownBy (w4.alloc (.cells #[.slice dX0_0 xs0_0.length eX0_0, .slice dX0_1 xs0_1.length eX0_1] 42)) none := gby_alloc (gby_refl _ _) _
    have X0_4b := Lib.hid (OwS.grow al X0_4.out)
    clear X0_4
    have A0_4b := Lib.hid (row_held al A0_4.out)
    clear A0_4
    have A1_4b := Lib.hid (row_held al A1_4.out)
    clear A1_4
    have G4b := Lib.hid (gby_trans G4.out al)
    have V0_n := Lib.hid (heap_alloc_new w4 (.cells #[.slice dX0_0 xs0_0.length eX0_0, .slice dX0_1 xs0_1.length eX0_1] 42))
    clear al
    obtain ⟨kA1_0, kA1_1, kA1_2, kA1_3, kA1_4, kA1_5, kA1_6, kA1_7⟩ := pg_row A1_4b.out
    go_wp2_with fail
    go_at_call 17
    refine (toPacket_g _ i1_0 i1_1 i1_2 i1_3 i1_4 i1_5 i1_6 a1_7 n1_7 c1_7 xs1_7 (HI1_7.out.kept G4b.out) hl1_7).mono ?_
    rintro e w5 ⟨dX1_7, eX1_7, rfl, o, g⟩
    clear kA1_0 kA1_1 kA1_2 kA1_3 kA1_4 kA1_5 kA1_6 kA1_7
    try simp only [World.size_alloc] at o
    have s5 := g.size
    try simp only [World.size_alloc] at s5
    have X0_5 := Lib.hid (OwS.grow g X0_4b.out)
    clear X0_4b
    have A0_5 := Lib.hid (row_held g A0_4b.out)
    clear A0_4b
    have A1_5 := Lib.hid (row_held g A1_4b.out)
    clear A1_4b
    have V0_5 := Lib.hid (row_held g V0_n.out)
    clear V0_n
    have G5 := Lib.hid (gby_trans G4b.out g)
    have X1_5 := Lib.hid o
    clear o g
    unfold pgV
    have al : w5.grownBy (w5.alloc (.cells #[.int .i64 i1_0, .int .i64 i1_1, .int .i64 i1_2, .int .i64 i1_3, .int .i64 i1_4, .int .i64 i1_5, .int .i64 i1_6, .slice dX1_7 xs1_7.length eX1_7] 27)) none := gby_alloc (gby_refl _ _) _
    have X0_5b := Lib.hid (OwS.grow al X0_5.out)
    clear X0_5
    have X1_5b := Lib.hid (OwS.grow al X1_5.out)
    clear X1_5
    have A0_5b := Lib.hid (row_held al A0_5.out)
    clear A0_5
    have A1_5b := Lib.hid (row_held al A1_5.out)
    clear A1_5
    have V0_5b := Lib.hid (row_held al V0_5.out)
    clear V0_5
    have G5b := Lib.hid (gby_trans G5.out al)
    have V1_n := Lib.hid (heap_alloc_new w5 (.cells #[.int .i64 i1_0, .int .i64 i1_1, .int .i64 i1_2, .int .i64 i1_3, .int .i64 i1_4, .int .i64 i1_5, .int .i64 i1_6, .slice dX1_7 xs1_7.length eX1_7] 27))
    clear al
    obtain ⟨kV0_0, kV0_1⟩ := cr_row V0_5b.out
    obtain ⟨kV1_0, kV1_1, kV1_2, kV1_3, kV1_4, kV1_5, kV1_6, kV1_7⟩ := pg_row V1_n.out
    go_wp2_with fail
    go_at_call 33
    refine (HM.out _ _ _ _ _ _ _ (OwS.rd1 X0_5b.out) (OwS.rd2 X0_5b.out) (OwS.rd1 X1_5b.out)).mono ?_
    rintro e w6 ⟨rfl, g⟩
    clear kV0_0 kV0_1 kV1_0 kV1_1 kV1_2 kV1_3 kV1_4 kV1_5 kV1_6 kV1_7
    have s6 := g.size
    try simp only [World.size_alloc] at s6
    have X0_6 := Lib.hid (OwS.grow g X0_5b.out)
    clear X0_5b
    have X1_6 := Lib.hid (OwS.grow g X1_5b.out)
    clear X1_5b
    have A0_6 := Lib.hid (row_held g A0_5b.out)
    clear A0_5b
    have A1_6 := Lib.hid (row_held g A1_5b.out)
    clear A1_5b
    have V0_6 := Lib.hid (row_held g V0_5b.out)
    clear V0_5b
    have V1_6 := Lib.hid (row_held g V1_n.out)
    clear V1_n
    have G6 := Lib.hid (gby_trans G5b.out g)
    clear g
    obtain ⟨kA0_0, kA0_1⟩ := cr_row A0_6.out
    obtain ⟨kV0_0, kV0_1⟩ := cr_row V0_6.out
    go_wp2_with fail
    go_region_held3 (fun w' => w'.cell? ⟨W.heap.size, 0, none⟩ = some (.slice a0_0 n0_0 c0_0) ∧ w'.cell? ⟨W.heap.size, 1, none⟩ = some (.slice a0_1 n0_1 c0_1) ∧ w'.cell? ⟨w4.heap.size, 0, none⟩ = some (.slice dX0_0 xs0_0.length eX0_0) ∧ w'.cell? ⟨w4.heap.size, 1, none⟩ = some (.slice dX0_1 xs0_1.length eX0_1))
      (first
        | exact ⟨kA0_0, kA0_1, kV0_0, kV0_1⟩
        | exact ⟨(gT.cell kA0_0 (by simp)), (gT.cell kA0_1 (by simp)), (gT.cell kV0_0 (by simp)), (gT.cell kV0_1 (by simp))⟩
        | exact ⟨(gE.cell (gT.cell kA0_0 (by simp)) (by simp)), (gE.cell (gT.cell kA0_1 (by simp)) (by simp)), (gE.cell (gT.cell kV0_0 (by simp)) (by simp)), (gE.cell (gT.cell kV0_1 (by simp)) (by simp))⟩)
      (first
        | (go_at_call 29; refine (toCredits_g _ a0_0 n0_0 c0_0 a0_1 n0_1 c0_1 xs0_0 xs0_1 (HI0_0.out.kept (gby_drew G6.out)) (HI0_1.out.kept (gby_drew G6.out)) hl0_0 hl0_1).mono ?_; rintro e wT1 ⟨dT1_0, eT1_0, dT1_1, eT1_1, rfl, oT, gT⟩)
        | (go_at_call 31; refine (eqCredits_g _ _ _ _ _ _ _ _ _ _ _ xs0_0 xs0_1 ((OwS.rd1 X0_6.out).kept (gby_trans (gby_drew (gby_refl _ _)) gT)).isl' (OwS.rd1 oT).isl' (by omega) ((OwS.rd2 X0_6.out).kept (gby_trans (gby_drew (gby_refl _ _)) gT)).isl' (OwS.rd2 oT).isl' (by omega)).mono ?_; rintro e wE1 ⟨rfl, gE⟩))
    all_goals
      have g : w6.grownBy wE1 none := gby_trans (gby_trans (gby_drew (gby_refl _ _)) gT) gE
      clear gT gE oT
      clear kA0_0 kA0_1 kV0_0 kV0_1
      have s7 := g.size
      try simp only [World.size_alloc] at s7
      have X0_7 := Lib.hid (OwS.grow g X0_6.out)
      clear X0_6
      have X1_7 := Lib.hid (OwS.grow g X1_6.out)
      clear X1_6
      have A0_7 := Lib.hid (row_held g A0_6.out)
      clear A0_6
      have A1_7 := Lib.hid (row_held g A1_6.out)
      clear A1_6
      have V0_7 := Lib.hid (row_held g V0_6.out)
      clear V0_6
      have V1_7 := Lib.hid (row_held g V1_6.out)
      clear V1_6
      have G7 := Lib.hid (gby_trans G6.out g)
      clear g
      obtain ⟨kA1_0, kA1_1, kA1_2, kA1_3, kA1_4, kA1_5, kA1_6, kA1_7⟩ := pg_row A1_7.out
      obtain ⟨kV1_0, kV1_1, kV1_2, kV1_3, kV1_4, kV1_5, kV1_6, kV1_7⟩ := pg_row V1_7.out
      go_wp2_with fail
      go_region_held3 (fun w' => w'.cell? ⟨W.heap.size + 1, 0, none⟩ = some (.int .i64 i1_0) ∧ w'.cell? ⟨W.heap.size + 1, 1, none⟩ = some (.int .i64 i1_1) ∧ w'.cell? ⟨W.heap.size + 1, 2, none⟩ = some (.int .i64 i1_2) ∧ w'.cell? ⟨W.heap.size + 1, 3, none⟩ = some (.int .i64 i1_3) ∧ w'.cell? ⟨W.heap.size + 1, 4, none⟩ = some (.int .i64 i1_4) ∧ w'.cell? ⟨W.heap.size + 1, 5, none⟩ = some (.int .i64 i1_5) ∧ w'.cell? ⟨W.heap.size + 1, 6, none⟩ = some (.int .i64 i1_6) ∧ w'.cell? ⟨W.heap.size + 1, 7, none⟩ = some (.slice a1_7 n1_7 c1_7) ∧ w'.cell? ⟨w5.heap.size, 0, none⟩ = some (.int .i64 i1_0) ∧ w'.cell? ⟨w5.heap.size, 1, none⟩ = some (.int .i64 i1_1) ∧ w'.cell? ⟨w5.heap.size, 2, none⟩ = some (.int .i64 i1_2) ∧ w'.cell? ⟨w5.heap.size, 3, none⟩ = some (.int .i64 i1_3) ∧ w'.cell? ⟨w5.heap.size, 4, none⟩ = some (.int .i64 i1_4) ∧ w'.cell? ⟨w5.heap.size, 5, none⟩ = some (.int .i64 i1_5) ∧ w'.cell? ⟨w5.heap.size, 6, none⟩ = some (.int .i64 i1_6) ∧ w'.cell? ⟨w5.heap.size, 7, none⟩ = some (.slice dX1_7 xs1_7.length eX1_7))
        (first
          | exact ⟨kA1_0, kA1_1, kA1_2, kA1_3, kA1_4, kA1_5, kA1_6, kA1_7, kV1_0, kV1_1, kV1_2, kV1_3, kV1_4, kV1_5, kV1_6, kV1_7⟩
          | exact ⟨(gT.cell kA1_0 (by simp)), (gT.cell kA1_1 (by simp)), (gT.cell kA1_2 (by simp)), (gT.cell kA1_3 (by simp)), (gT.cell kA1_4 (by simp)), (gT.cell kA1_5 (by simp)), (gT.cell kA1_6 (by simp)), (gT.cell kA1_7 (by simp)), (gT.cell kV1_0 (by simp)), (gT.cell kV1_1 (by simp)), (gT.cell kV1_2 (by simp)), (gT.cell kV1_3 (by simp)), (gT.cell kV1_4 (by simp)), (gT.cell kV1_5 (by simp)), (gT.cell kV1_6 (by simp)), (gT.cell kV1_7 (by simp))⟩
          | exact ⟨(gE.cell (gT.cell kA1_0 (by simp)) (by simp)), (gE.cell (gT.cell kA1_1 (by simp)) (by simp)), (gE.cell (gT.cell kA1_2 (by simp)) (by simp)), (gE.cell (gT.cell kA1_3 (by simp)) (by simp)), (gE.cell (gT.cell kA1_4 (by simp)) (by simp)), (gE.cell (gT.cell kA1_5 (by simp)) (by simp)), (gE.cell (gT.cell kA1_6 (by simp)) (by simp)), (gE.cell (gT.cell kA1_7 (by simp)) (by simp)), (gE.cell (gT.cell kV1_0 (by simp)) (by simp)), (gE.cell (gT.cell kV1_1 (by simp)) (by simp)), (gE.cell (gT.cell kV1_2 (by simp)) (by simp)), (gE.cell (gT.cell kV1_3 (by simp)) (by simp)), (gE.cell (gT.cell kV1_4 (by simp)) (by simp)), (gE.cell (gT.cell kV1_5 (by simp)) (by simp)), (gE.cell (gT.cell kV1_6 (by simp)) (by simp)), (gE.cell (gT.cell kV1_7 (by simp)) (by simp))⟩)
        (first
          | (go_at_call 17; refine (toPacket_g _ i1_0 i1_1 i1_2 i1_3 i1_4 i1_5 i1_6 a1_7 n1_7 c1_7 xs1_7 (HI1_7.out.kept (gby_drew G7.out)) hl1_7).mono ?_; rintro e wT2 ⟨dT2_7, eT2_7, rfl, oT, gT⟩)
          | (go_at_call 19; refine (eqPacket_g _ i1_0 i1_1 i1_2 i1_3 i1_4 i1_5 i1_6 _ _ _ _ _ xs1_7 ((OwS.rd1 X1_7.out).kept (gby_trans (gby_drew (gby_refl _ _)) gT)).isl' (OwS.rd1 oT).isl' (by omega)).mono ?_; rintro e wE2 ⟨rfl, gE⟩))
      all_goals
        have g : wE1.grownBy wE2 none := gby_trans (gby_trans (gby_drew (gby_refl _ _)) gT) gE
        clear gT gE oT
        clear kA1_0 kA1_1 kA1_2 kA1_3 kA1_4 kA1_5 kA1_6 kA1_7 kV1_0 kV1_1 kV1_2 kV1_3 kV1_4 kV1_5 kV1_6 kV1_7
        have s8 := g.size
        try simp only [World.size_alloc] at s8
        have X0_8 := Lib.hid (OwS.grow g X0_7.out)
        clear X0_7
        have X1_8 := Lib.hid (OwS.grow g X1_7.out)
        clear X1_7
        have A0_8 := Lib.hid (row_held g A0_7.out)
        clear A0_7
        have A1_8 := Lib.hid (row_held g A1_7.out)
        clear A1_7
        have V0_8 := Lib.hid (row_held g V0_7.out)
        clear V0_7
        have V1_8 := Lib.hid (row_held g V1_7.out)
        clear V1_7
        have G8 := Lib.hid (gby_trans G7.out g)
        clear g
        go_wp2
        go_ret
        exact ⟨rfl, gby_below G8.out⟩
        
end Go.Proofs.Ytgmpehccklifdab
