/-
  The walks of FnExactClassOf and FnExactPacketUnits.
-/
import Derived.Test.YtnighnkkeiegnaaPkLaw
namespace Go.Proofs.Ytnighnkkeiegnaa
open Go Go.RowKit

set_option maxRecDepth 8000 in
set_option maxHeartbeats 1000000 in
theorem implClassOf1_in (W : World) (f t a l g s : Int) (d : Option Addr) (len cap : Nat) (xs : List Int) (H : ISl W d len xs) (hl : len ≤ 1048576) (h : PkOk 1 f t a l g s xs) :
    Calls Try.prog 113 #[pkV 1 f t a l g s d len cap] W (AnsG (.int .i64 (ruleClass 1)) W) := by
  have HI := Lib.hid H
  have HP := Lib.hid h
  clear H h
  unfold pkV
  go_enter Try.func113, Try.ntmps113
  go_wp2_with fail
  go_at_call 107
  refine (implPk_true _ 1 f t a l g s d len cap xs (HI.out.kept (gby_alloc (gby_refl _ _) _)) hl HP.out).mono ?_
  rintro e w1 ⟨rfl, g1⟩
  have hr := row_later g1 (heap_alloc_new W _)
  obtain ⟨r0, r1, r2, r3, r4, r5, r6, r7⟩ := pk_cells hr
  have hs1 : W.heap.size < w1.heap.size := by have := g1.size; simp only [World.size_alloc] at this; omega
  have G1 := Lib.hid (gby_trans (gby_alloc (gby_refl W none) _) g1)
  clear g1 hr
  go_wp2_with fail
  go_at_call 128
  refine (rule1 _).mono ?_
  rintro e w2 ⟨rfl, g2⟩
  have G2 := Lib.hid (gby_trans G1.out g2)
  clear g2
  go_wp2
  go_ret
  exact ⟨rfl, gby_alloc G2.out _⟩

set_option maxRecDepth 8000 in
set_option maxHeartbeats 1000000 in
theorem specClassOf1_in (W : World) (f t a l g s : Int) (d : Option Addr) (len cap : Nat) (xs : List Int) (H : ISl W d len xs) (hl : len ≤ 1048576) (h : PkOk 1 f t a l g s xs) :
    Calls Try.prog 75 #[pkV 1 f t a l g s d len cap] W (AnsG (.int .i64 (ruleClass 1)) W) := by
  have HI := Lib.hid H
  have HP := Lib.hid h
  clear H h
  unfold pkV
  go_enter Try.func75, Try.ntmps75
  go_wp2_with fail
  go_at_call 98
  refine (specPk_true _ 1 f t a l g s d len cap xs (HI.out.kept (gby_alloc (gby_refl _ _) _)) hl HP.out).mono ?_
  rintro e w1 ⟨rfl, g1⟩
  have hr := row_later g1 (heap_alloc_new W _)
  obtain ⟨r0, r1, r2, r3, r4, r5, r6, r7⟩ := pk_cells hr
  have hs1 : W.heap.size < w1.heap.size := by have := g1.size; simp only [World.size_alloc] at this; omega
  have G1 := Lib.hid (gby_trans (gby_alloc (gby_refl W none) _) g1)
  clear g1 hr
  go_wp2
  go_ret
  exact ⟨rfl, G1.out⟩

set_option maxRecDepth 8000 in
set_option maxHeartbeats 1000000 in
theorem implClassOf2_in (W : World) (f t a l g s : Int) (d : Option Addr) (len cap : Nat) (xs : List Int) (H : ISl W d len xs) (hl : len ≤ 1048576) (h : PkOk 2 f t a l g s xs) :
    Calls Try.prog 113 #[pkV 2 f t a l g s d len cap] W (AnsG (.int .i64 (ruleClass 2)) W) := by
  have HI := Lib.hid H
  have HP := Lib.hid h
  clear H h
  unfold pkV
  go_enter Try.func113, Try.ntmps113
  go_wp2_with fail
  go_at_call 107
  refine (implPk_true _ 2 f t a l g s d len cap xs (HI.out.kept (gby_alloc (gby_refl _ _) _)) hl HP.out).mono ?_
  rintro e w1 ⟨rfl, g1⟩
  have hr := row_later g1 (heap_alloc_new W _)
  obtain ⟨r0, r1, r2, r3, r4, r5, r6, r7⟩ := pk_cells hr
  have hs1 : W.heap.size < w1.heap.size := by have := g1.size; simp only [World.size_alloc] at this; omega
  have G1 := Lib.hid (gby_trans (gby_alloc (gby_refl W none) _) g1)
  clear g1 hr
  go_wp2_with fail
  go_at_call 128
  refine (rule2 _).mono ?_
  rintro e w2 ⟨rfl, g2⟩
  have G2 := Lib.hid (gby_trans G1.out g2)
  clear g2
  go_wp2
  go_ret
  exact ⟨rfl, gby_alloc G2.out _⟩

set_option maxRecDepth 8000 in
set_option maxHeartbeats 1000000 in
theorem specClassOf2_in (W : World) (f t a l g s : Int) (d : Option Addr) (len cap : Nat) (xs : List Int) (H : ISl W d len xs) (hl : len ≤ 1048576) (h : PkOk 2 f t a l g s xs) :
    Calls Try.prog 75 #[pkV 2 f t a l g s d len cap] W (AnsG (.int .i64 (ruleClass 2)) W) := by
  have HI := Lib.hid H
  have HP := Lib.hid h
  clear H h
  unfold pkV
  go_enter Try.func75, Try.ntmps75
  go_wp2_with fail
  go_at_call 98
  refine (specPk_true _ 2 f t a l g s d len cap xs (HI.out.kept (gby_alloc (gby_refl _ _) _)) hl HP.out).mono ?_
  rintro e w1 ⟨rfl, g1⟩
  have hr := row_later g1 (heap_alloc_new W _)
  obtain ⟨r0, r1, r2, r3, r4, r5, r6, r7⟩ := pk_cells hr
  have hs1 : W.heap.size < w1.heap.size := by have := g1.size; simp only [World.size_alloc] at this; omega
  have G1 := Lib.hid (gby_trans (gby_alloc (gby_refl W none) _) g1)
  clear g1 hr
  go_wp2
  go_ret
  exact ⟨rfl, G1.out⟩

set_option maxRecDepth 8000 in
set_option maxHeartbeats 1000000 in
theorem implClassOf3_in (W : World) (f t a l g s : Int) (d : Option Addr) (len cap : Nat) (xs : List Int) (H : ISl W d len xs) (hl : len ≤ 1048576) (h : PkOk 3 f t a l g s xs) :
    Calls Try.prog 113 #[pkV 3 f t a l g s d len cap] W (AnsG (.int .i64 (ruleClass 3)) W) := by
  have HI := Lib.hid H
  have HP := Lib.hid h
  clear H h
  unfold pkV
  go_enter Try.func113, Try.ntmps113
  go_wp2_with fail
  go_at_call 107
  refine (implPk_true _ 3 f t a l g s d len cap xs (HI.out.kept (gby_alloc (gby_refl _ _) _)) hl HP.out).mono ?_
  rintro e w1 ⟨rfl, g1⟩
  have hr := row_later g1 (heap_alloc_new W _)
  obtain ⟨r0, r1, r2, r3, r4, r5, r6, r7⟩ := pk_cells hr
  have hs1 : W.heap.size < w1.heap.size := by have := g1.size; simp only [World.size_alloc] at this; omega
  have G1 := Lib.hid (gby_trans (gby_alloc (gby_refl W none) _) g1)
  clear g1 hr
  go_wp2_with fail
  go_at_call 128
  refine (rule3 _).mono ?_
  rintro e w2 ⟨rfl, g2⟩
  have G2 := Lib.hid (gby_trans G1.out g2)
  clear g2
  go_wp2
  go_ret
  exact ⟨rfl, gby_alloc G2.out _⟩

set_option maxRecDepth 8000 in
set_option maxHeartbeats 1000000 in
theorem specClassOf3_in (W : World) (f t a l g s : Int) (d : Option Addr) (len cap : Nat) (xs : List Int) (H : ISl W d len xs) (hl : len ≤ 1048576) (h : PkOk 3 f t a l g s xs) :
    Calls Try.prog 75 #[pkV 3 f t a l g s d len cap] W (AnsG (.int .i64 (ruleClass 3)) W) := by
  have HI := Lib.hid H
  have HP := Lib.hid h
  clear H h
  unfold pkV
  go_enter Try.func75, Try.ntmps75
  go_wp2_with fail
  go_at_call 98
  refine (specPk_true _ 3 f t a l g s d len cap xs (HI.out.kept (gby_alloc (gby_refl _ _) _)) hl HP.out).mono ?_
  rintro e w1 ⟨rfl, g1⟩
  have hr := row_later g1 (heap_alloc_new W _)
  obtain ⟨r0, r1, r2, r3, r4, r5, r6, r7⟩ := pk_cells hr
  have hs1 : W.heap.size < w1.heap.size := by have := g1.size; simp only [World.size_alloc] at this; omega
  have G1 := Lib.hid (gby_trans (gby_alloc (gby_refl W none) _) g1)
  clear g1 hr
  go_wp2
  go_ret
  exact ⟨rfl, G1.out⟩

set_option maxRecDepth 8000 in
set_option maxHeartbeats 1000000 in
theorem implClassOf4_in (W : World) (f t a l g s : Int) (d : Option Addr) (len cap : Nat) (xs : List Int) (H : ISl W d len xs) (hl : len ≤ 1048576) (h : PkOk 4 f t a l g s xs) :
    Calls Try.prog 113 #[pkV 4 f t a l g s d len cap] W (AnsG (.int .i64 (ruleClass 4)) W) := by
  have HI := Lib.hid H
  have HP := Lib.hid h
  clear H h
  unfold pkV
  go_enter Try.func113, Try.ntmps113
  go_wp2_with fail
  go_at_call 107
  refine (implPk_true _ 4 f t a l g s d len cap xs (HI.out.kept (gby_alloc (gby_refl _ _) _)) hl HP.out).mono ?_
  rintro e w1 ⟨rfl, g1⟩
  have hr := row_later g1 (heap_alloc_new W _)
  obtain ⟨r0, r1, r2, r3, r4, r5, r6, r7⟩ := pk_cells hr
  have hs1 : W.heap.size < w1.heap.size := by have := g1.size; simp only [World.size_alloc] at this; omega
  have G1 := Lib.hid (gby_trans (gby_alloc (gby_refl W none) _) g1)
  clear g1 hr
  go_wp2_with fail
  go_at_call 128
  refine (rule4 _).mono ?_
  rintro e w2 ⟨rfl, g2⟩
  have G2 := Lib.hid (gby_trans G1.out g2)
  clear g2
  go_wp2
  go_ret
  exact ⟨rfl, gby_alloc G2.out _⟩

set_option maxRecDepth 8000 in
set_option maxHeartbeats 1000000 in
theorem specClassOf4_in (W : World) (f t a l g s : Int) (d : Option Addr) (len cap : Nat) (xs : List Int) (H : ISl W d len xs) (hl : len ≤ 1048576) (h : PkOk 4 f t a l g s xs) :
    Calls Try.prog 75 #[pkV 4 f t a l g s d len cap] W (AnsG (.int .i64 (ruleClass 4)) W) := by
  have HI := Lib.hid H
  have HP := Lib.hid h
  clear H h
  unfold pkV
  go_enter Try.func75, Try.ntmps75
  go_wp2_with fail
  go_at_call 98
  refine (specPk_true _ 4 f t a l g s d len cap xs (HI.out.kept (gby_alloc (gby_refl _ _) _)) hl HP.out).mono ?_
  rintro e w1 ⟨rfl, g1⟩
  have hr := row_later g1 (heap_alloc_new W _)
  obtain ⟨r0, r1, r2, r3, r4, r5, r6, r7⟩ := pk_cells hr
  have hs1 : W.heap.size < w1.heap.size := by have := g1.size; simp only [World.size_alloc] at this; omega
  have G1 := Lib.hid (gby_trans (gby_alloc (gby_refl W none) _) g1)
  clear g1 hr
  go_wp2
  go_ret
  exact ⟨rfl, G1.out⟩

set_option maxRecDepth 8000 in
set_option maxHeartbeats 1000000 in
theorem implClassOf5_in (W : World) (f t a l g s : Int) (d : Option Addr) (len cap : Nat) (xs : List Int) (H : ISl W d len xs) (hl : len ≤ 1048576) (h : PkOk 5 f t a l g s xs) :
    Calls Try.prog 113 #[pkV 5 f t a l g s d len cap] W (AnsG (.int .i64 (ruleClass 5)) W) := by
  have HI := Lib.hid H
  have HP := Lib.hid h
  clear H h
  unfold pkV
  go_enter Try.func113, Try.ntmps113
  go_wp2_with fail
  go_at_call 107
  refine (implPk_true _ 5 f t a l g s d len cap xs (HI.out.kept (gby_alloc (gby_refl _ _) _)) hl HP.out).mono ?_
  rintro e w1 ⟨rfl, g1⟩
  have hr := row_later g1 (heap_alloc_new W _)
  obtain ⟨r0, r1, r2, r3, r4, r5, r6, r7⟩ := pk_cells hr
  have hs1 : W.heap.size < w1.heap.size := by have := g1.size; simp only [World.size_alloc] at this; omega
  have G1 := Lib.hid (gby_trans (gby_alloc (gby_refl W none) _) g1)
  clear g1 hr
  go_wp2_with fail
  go_at_call 128
  refine (rule5 _).mono ?_
  rintro e w2 ⟨rfl, g2⟩
  have G2 := Lib.hid (gby_trans G1.out g2)
  clear g2
  go_wp2
  go_ret
  exact ⟨rfl, gby_alloc G2.out _⟩

set_option maxRecDepth 8000 in
set_option maxHeartbeats 1000000 in
theorem specClassOf5_in (W : World) (f t a l g s : Int) (d : Option Addr) (len cap : Nat) (xs : List Int) (H : ISl W d len xs) (hl : len ≤ 1048576) (h : PkOk 5 f t a l g s xs) :
    Calls Try.prog 75 #[pkV 5 f t a l g s d len cap] W (AnsG (.int .i64 (ruleClass 5)) W) := by
  have HI := Lib.hid H
  have HP := Lib.hid h
  clear H h
  unfold pkV
  go_enter Try.func75, Try.ntmps75
  go_wp2_with fail
  go_at_call 98
  refine (specPk_true _ 5 f t a l g s d len cap xs (HI.out.kept (gby_alloc (gby_refl _ _) _)) hl HP.out).mono ?_
  rintro e w1 ⟨rfl, g1⟩
  have hr := row_later g1 (heap_alloc_new W _)
  obtain ⟨r0, r1, r2, r3, r4, r5, r6, r7⟩ := pk_cells hr
  have hs1 : W.heap.size < w1.heap.size := by have := g1.size; simp only [World.size_alloc] at this; omega
  have G1 := Lib.hid (gby_trans (gby_alloc (gby_refl W none) _) g1)
  clear g1 hr
  go_wp2
  go_ret
  exact ⟨rfl, G1.out⟩

set_option maxRecDepth 8000 in
set_option maxHeartbeats 1000000 in
theorem implClassOf6_in (W : World) (f t a l g s : Int) (d : Option Addr) (len cap : Nat) (xs : List Int) (H : ISl W d len xs) (hl : len ≤ 1048576) (h : PkOk 6 f t a l g s xs) :
    Calls Try.prog 113 #[pkV 6 f t a l g s d len cap] W (AnsG (.int .i64 (ruleClass 6)) W) := by
  have HI := Lib.hid H
  have HP := Lib.hid h
  clear H h
  unfold pkV
  go_enter Try.func113, Try.ntmps113
  go_wp2_with fail
  go_at_call 107
  refine (implPk_true _ 6 f t a l g s d len cap xs (HI.out.kept (gby_alloc (gby_refl _ _) _)) hl HP.out).mono ?_
  rintro e w1 ⟨rfl, g1⟩
  have hr := row_later g1 (heap_alloc_new W _)
  obtain ⟨r0, r1, r2, r3, r4, r5, r6, r7⟩ := pk_cells hr
  have hs1 : W.heap.size < w1.heap.size := by have := g1.size; simp only [World.size_alloc] at this; omega
  have G1 := Lib.hid (gby_trans (gby_alloc (gby_refl W none) _) g1)
  clear g1 hr
  go_wp2_with fail
  go_at_call 128
  refine (rule6 _).mono ?_
  rintro e w2 ⟨rfl, g2⟩
  have G2 := Lib.hid (gby_trans G1.out g2)
  clear g2
  go_wp2
  go_ret
  exact ⟨rfl, gby_alloc G2.out _⟩

set_option maxRecDepth 8000 in
set_option maxHeartbeats 1000000 in
theorem specClassOf6_in (W : World) (f t a l g s : Int) (d : Option Addr) (len cap : Nat) (xs : List Int) (H : ISl W d len xs) (hl : len ≤ 1048576) (h : PkOk 6 f t a l g s xs) :
    Calls Try.prog 75 #[pkV 6 f t a l g s d len cap] W (AnsG (.int .i64 (ruleClass 6)) W) := by
  have HI := Lib.hid H
  have HP := Lib.hid h
  clear H h
  unfold pkV
  go_enter Try.func75, Try.ntmps75
  go_wp2_with fail
  go_at_call 98
  refine (specPk_true _ 6 f t a l g s d len cap xs (HI.out.kept (gby_alloc (gby_refl _ _) _)) hl HP.out).mono ?_
  rintro e w1 ⟨rfl, g1⟩
  have hr := row_later g1 (heap_alloc_new W _)
  obtain ⟨r0, r1, r2, r3, r4, r5, r6, r7⟩ := pk_cells hr
  have hs1 : W.heap.size < w1.heap.size := by have := g1.size; simp only [World.size_alloc] at this; omega
  have G1 := Lib.hid (gby_trans (gby_alloc (gby_refl W none) _) g1)
  clear g1 hr
  go_wp2
  go_ret
  exact ⟨rfl, G1.out⟩

set_option maxRecDepth 8000 in
set_option maxHeartbeats 1000000 in
theorem implClassOf_out (k : Int) (W : World) (f t a l g s : Int) (d : Option Addr) (len cap : Nat) (xs : List Int) (H : ISl W d len xs) (hl : len ≤ 1048576) (h : ¬ PkOk k f t a l g s xs) :
    Calls Try.prog 113 #[pkV k f t a l g s d len cap] W (AnsG (.int .i64 (-1)) W) := by
  have HI := Lib.hid H
  have HP := Lib.hid h
  clear H h
  unfold pkV
  go_enter Try.func113, Try.ntmps113
  go_wp2_with fail
  go_at_call 107
  refine (implPk_false _ k f t a l g s d len cap xs (HI.out.kept (gby_alloc (gby_refl _ _) _)) hl HP.out).mono ?_
  rintro e w1 ⟨rfl, g1⟩
  have hr := row_later g1 (heap_alloc_new W _)
  obtain ⟨r0, r1, r2, r3, r4, r5, r6, r7⟩ := pk_cells hr
  have hs1 : W.heap.size < w1.heap.size := by have := g1.size; simp only [World.size_alloc] at this; omega
  have G1 := Lib.hid (gby_trans (gby_alloc (gby_refl W none) _) g1)
  clear g1 hr
  go_wp2
  go_ret
  exact ⟨rfl, G1.out⟩

set_option maxRecDepth 8000 in
set_option maxHeartbeats 1000000 in
theorem specClassOf_out (k : Int) (W : World) (f t a l g s : Int) (d : Option Addr) (len cap : Nat) (xs : List Int) (H : ISl W d len xs) (hl : len ≤ 1048576) (h : ¬ PkOk k f t a l g s xs) :
    Calls Try.prog 75 #[pkV k f t a l g s d len cap] W (AnsG (.int .i64 (-1)) W) := by
  have HI := Lib.hid H
  have HP := Lib.hid h
  clear H h
  unfold pkV
  go_enter Try.func75, Try.ntmps75
  go_wp2_with fail
  go_at_call 98
  refine (specPk_false _ k f t a l g s d len cap xs (HI.out.kept (gby_alloc (gby_refl _ _) _)) hl HP.out).mono ?_
  rintro e w1 ⟨rfl, g1⟩
  have hr := row_later g1 (heap_alloc_new W _)
  obtain ⟨r0, r1, r2, r3, r4, r5, r6, r7⟩ := pk_cells hr
  have hs1 : W.heap.size < w1.heap.size := by have := g1.size; simp only [World.size_alloc] at this; omega
  have G1 := Lib.hid (gby_trans (gby_alloc (gby_refl W none) _) g1)
  clear g1 hr
  go_wp2
  go_ret
  exact ⟨rfl, G1.out⟩

set_option maxRecDepth 8000 in
set_option maxHeartbeats 1000000 in
theorem implPacketUnits_in (k : Int) (W : World) (f t a l g s : Int) (d : Option Addr) (len cap : Nat) (xs : List Int) (H : ISl W d len xs) (hl : len ≤ 1048576) (h : PkOk k f t a l g s xs) :
    Calls Try.prog 117 #[pkV k f t a l g s d len cap] W (AnsG (.int .i64 (((len + 3) / 4 : Nat) : Int)) W) := by
  have HI := Lib.hid H
  have HP := Lib.hid h
  clear H h
  unfold pkV
  go_enter Try.func117, Try.ntmps117
  go_wp2_with fail
  go_at_call 107
  refine (implPk_true _ k f t a l g s d len cap xs (HI.out.kept (gby_alloc (gby_refl _ _) _)) hl HP.out).mono ?_
  rintro e w1 ⟨rfl, g1⟩
  have hr := row_later g1 (heap_alloc_new W _)
  obtain ⟨r0, r1, r2, r3, r4, r5, r6, r7⟩ := pk_cells hr
  have hs1 : W.heap.size < w1.heap.size := by have := g1.size; simp only [World.size_alloc] at this; omega
  have G1 := Lib.hid (gby_trans (gby_alloc (gby_refl W none) _) g1)
  clear g1 hr
  go_wp2
  go_ret
  exact ⟨ret_i64 (by omega), G1.out⟩

set_option maxRecDepth 8000 in
set_option maxHeartbeats 1000000 in
theorem specPacketUnits_in (k : Int) (W : World) (f t a l g s : Int) (d : Option Addr) (len cap : Nat) (xs : List Int) (H : ISl W d len xs) (hl : len ≤ 1048576) (h : PkOk k f t a l g s xs) :
    Calls Try.prog 76 #[pkV k f t a l g s d len cap] W (AnsG (.int .i64 (((len + 3) / 4 : Nat) : Int)) W) := by
  have HI := Lib.hid H
  have HP := Lib.hid h
  clear H h
  unfold pkV
  go_enter Try.func76, Try.ntmps76
  go_wp2_with fail
  go_at_call 98
  refine (specPk_true _ k f t a l g s d len cap xs (HI.out.kept (gby_alloc (gby_refl _ _) _)) hl HP.out).mono ?_
  rintro e w1 ⟨rfl, g1⟩
  have hr := row_later g1 (heap_alloc_new W _)
  obtain ⟨r0, r1, r2, r3, r4, r5, r6, r7⟩ := pk_cells hr
  have hs1 : W.heap.size < w1.heap.size := by have := g1.size; simp only [World.size_alloc] at this; omega
  have G1 := Lib.hid (gby_trans (gby_alloc (gby_refl W none) _) g1)
  clear g1 hr
  go_wp2
  go_ret
  exact ⟨ret_i64 (by omega), G1.out⟩

set_option maxRecDepth 8000 in
set_option maxHeartbeats 1000000 in
theorem implPacketUnits_out (k : Int) (W : World) (f t a l g s : Int) (d : Option Addr) (len cap : Nat) (xs : List Int) (H : ISl W d len xs) (hl : len ≤ 1048576) (h : ¬ PkOk k f t a l g s xs) :
    Calls Try.prog 117 #[pkV k f t a l g s d len cap] W (AnsG (.int .i64 (-1)) W) := by
  have HI := Lib.hid H
  have HP := Lib.hid h
  clear H h
  unfold pkV
  go_enter Try.func117, Try.ntmps117
  go_wp2_with fail
  go_at_call 107
  refine (implPk_false _ k f t a l g s d len cap xs (HI.out.kept (gby_alloc (gby_refl _ _) _)) hl HP.out).mono ?_
  rintro e w1 ⟨rfl, g1⟩
  have hr := row_later g1 (heap_alloc_new W _)
  obtain ⟨r0, r1, r2, r3, r4, r5, r6, r7⟩ := pk_cells hr
  have hs1 : W.heap.size < w1.heap.size := by have := g1.size; simp only [World.size_alloc] at this; omega
  have G1 := Lib.hid (gby_trans (gby_alloc (gby_refl W none) _) g1)
  clear g1 hr
  go_wp2
  go_ret
  exact ⟨rfl, G1.out⟩

set_option maxRecDepth 8000 in
set_option maxHeartbeats 1000000 in
theorem specPacketUnits_out (k : Int) (W : World) (f t a l g s : Int) (d : Option Addr) (len cap : Nat) (xs : List Int) (H : ISl W d len xs) (hl : len ≤ 1048576) (h : ¬ PkOk k f t a l g s xs) :
    Calls Try.prog 76 #[pkV k f t a l g s d len cap] W (AnsG (.int .i64 (-1)) W) := by
  have HI := Lib.hid H
  have HP := Lib.hid h
  clear H h
  unfold pkV
  go_enter Try.func76, Try.ntmps76
  go_wp2_with fail
  go_at_call 98
  refine (specPk_false _ k f t a l g s d len cap xs (HI.out.kept (gby_alloc (gby_refl _ _) _)) hl HP.out).mono ?_
  rintro e w1 ⟨rfl, g1⟩
  have hr := row_later g1 (heap_alloc_new W _)
  obtain ⟨r0, r1, r2, r3, r4, r5, r6, r7⟩ := pk_cells hr
  have hs1 : W.heap.size < w1.heap.size := by have := g1.size; simp only [World.size_alloc] at this; omega
  have G1 := Lib.hid (gby_trans (gby_alloc (gby_refl W none) _) g1)
  clear g1 hr
  go_wp2
  go_ret
  exact ⟨rfl, G1.out⟩

theorem classOf_same (k f t a l g s : Int) (xs : List Int) (hl : xs.length ≤ 1048576) : ∃ b : Int, (∀ (W : World) (d : Option Addr) (len cap : Nat), ISl W d len xs → Calls Try.prog 75 #[pkV k f t a l g s d len cap] W (AnsG (.int .i64 b) W)) ∧
    ∀ (W : World) (d : Option Addr) (len cap : Nat), ISl W d len xs → Calls Try.prog 113 #[pkV k f t a l g s d len cap] W (AnsG (.int .i64 b) W) := by
  by_cases h : PkOk k f t a l g s xs
  · rcases h.2.2 with ⟨rfl, _⟩ | ⟨rfl, _⟩ | ⟨rfl, _⟩ | ⟨rfl, _⟩ | ⟨rfl, _⟩ | ⟨rfl, _⟩
    · exact ⟨_, fun W d len cap H => specClassOf1_in W f t a l g s d len cap xs H (by have := H.1; omega) h, fun W d len cap H => implClassOf1_in W f t a l g s d len cap xs H (by have := H.1; omega) h⟩
    · exact ⟨_, fun W d len cap H => specClassOf2_in W f t a l g s d len cap xs H (by have := H.1; omega) h, fun W d len cap H => implClassOf2_in W f t a l g s d len cap xs H (by have := H.1; omega) h⟩
    · exact ⟨_, fun W d len cap H => specClassOf3_in W f t a l g s d len cap xs H (by have := H.1; omega) h, fun W d len cap H => implClassOf3_in W f t a l g s d len cap xs H (by have := H.1; omega) h⟩
    · exact ⟨_, fun W d len cap H => specClassOf4_in W f t a l g s d len cap xs H (by have := H.1; omega) h, fun W d len cap H => implClassOf4_in W f t a l g s d len cap xs H (by have := H.1; omega) h⟩
    · exact ⟨_, fun W d len cap H => specClassOf5_in W f t a l g s d len cap xs H (by have := H.1; omega) h, fun W d len cap H => implClassOf5_in W f t a l g s d len cap xs H (by have := H.1; omega) h⟩
    · exact ⟨_, fun W d len cap H => specClassOf6_in W f t a l g s d len cap xs H (by have := H.1; omega) h, fun W d len cap H => implClassOf6_in W f t a l g s d len cap xs H (by have := H.1; omega) h⟩
  · exact ⟨_, fun W d len cap H => specClassOf_out k W f t a l g s d len cap xs H (by have := H.1; omega) h, fun W d len cap H => implClassOf_out k W f t a l g s d len cap xs H (by have := H.1; omega) h⟩

theorem packetUnits_same (k f t a l g s : Int) (xs : List Int) (hl : xs.length ≤ 1048576) : ∃ b : Int, (∀ (W : World) (d : Option Addr) (len cap : Nat), ISl W d len xs → Calls Try.prog 76 #[pkV k f t a l g s d len cap] W (AnsG (.int .i64 b) W)) ∧
    ∀ (W : World) (d : Option Addr) (len cap : Nat), ISl W d len xs → Calls Try.prog 117 #[pkV k f t a l g s d len cap] W (AnsG (.int .i64 b) W) := by
  by_cases h : PkOk k f t a l g s xs
  · refine ⟨(((xs.length + 3) / 4 : Nat) : Int), fun W d len cap H => ?_, fun W d len cap H => ?_⟩
    · have e := H.1
      rw [← e]
      exact specPacketUnits_in k W f t a l g s d len cap xs H (by omega) h
    · have e := H.1
      rw [← e]
      exact implPacketUnits_in k W f t a l g s d len cap xs H (by omega) h
  · exact ⟨_, fun W d len cap H => specPacketUnits_out k W f t a l g s d len cap xs H (by have := H.1; omega) h, fun W d len cap H => implPacketUnits_out k W f t a l g s d len cap xs H (by have := H.1; omega) h⟩

end Go.Proofs.Ytnighnkkeiegnaa
