/-
  The walks of FnExactClassOf and FnExactPacketUnits.
-/
import Derived.Test.YteaaobklfhlgiabPkLaw
namespace Go.Proofs.Yteaaobklfhlgiab
open Go Go.RowKit

set_option maxRecDepth 8000 in
set_option maxHeartbeats 1000000 in
theorem implClassOf1_in (W : World) (f t a l g s : Int) (d : Option Addr) (len cap : Nat) (xs : List Int) (H : ISl W d len xs) (hl : len ≤ 1048576) (h : PkOk 1 f t a l g s xs) :
    Calls Try.prog 11 #[pkV 1 f t a l g s d len cap] W (AnsG (.int .i64 (ruleClass 1)) W) := by
  have HI := Lib.hid H
  have HP := Lib.hid h
  clear H h
  unfold pkV
  go_enter Try.func11, Try.ntmps11
  go_wp2_with fail
  go_at_call 13
  refine (implPk_true _ 1 f t a l g s d len cap xs (HI.out.kept (gby_alloc (gby_refl _ _) _)) hl HP.out).mono ?_
  rintro e w1 ⟨rfl, g1⟩
  have hr := row_later g1 (heap_alloc_new W _)
  obtain ⟨r0, r1, r2, r3, r4, r5, r6, r7⟩ := pk_cells hr
  have hs1 : W.heap.size < w1.heap.size := by have := g1.size; simp only [World.size_alloc] at this; omega
  have G1 := Lib.hid (gby_trans (gby_alloc (gby_refl W none) _) g1)
  clear g1 hr
  go_wp2_with fail
  go_at_call 26
  refine (rule1 _).mono ?_
  rintro e w2 ⟨rfl, g2⟩
  have G2 := Lib.hid (gby_trans G1.out g2)
  clear g2
  go_wp2
  go_ret
  exact ⟨rfl, gby_alloc G2.out _⟩

set_option maxRecDepth 8000 in
set_option maxHeartbeats 1000000 in
theorem specClassOf1_in (W : World) (f t a l g s : Int) (d : Option Addr) (len cap : Nat) (xs : List Int) (H : ISl W d len xs) (hl : len ≤ 1048576) (h : PkOk 1 f t a l g s xs) :
    Calls Try.prog 20 #[pkV 1 f t a l g s d len cap] W (AnsG (.int .i64 (ruleClass 1)) W) := by
  have HI := Lib.hid H
  have HP := Lib.hid h
  clear H h
  unfold pkV
  go_enter Try.func20, Try.ntmps20
  go_wp2_with fail
  go_at_call 17
  refine (specPk_true _ 1 f t a l g s d len cap xs (HI.out.kept (gby_alloc (gby_refl _ _) _)) hl HP.out).mono ?_
  rintro e w1 ⟨rfl, g1⟩
  have hr := row_later g1 (heap_alloc_new W _)
  obtain ⟨r0, r1, r2, r3, r4, r5, r6, r7⟩ := pk_cells hr
  have hs1 : W.heap.size < w1.heap.size := by have := g1.size; simp only [World.size_alloc] at this; omega
  have G1 := Lib.hid (gby_trans (gby_alloc (gby_refl W none) _) g1)
  clear g1 hr
  go_wp2
  go_ret
  exact ⟨rfl, G1.out⟩

set_option maxRecDepth 8000 in
set_option maxHeartbeats 1000000 in
theorem implClassOf2_in (W : World) (f t a l g s : Int) (d : Option Addr) (len cap : Nat) (xs : List Int) (H : ISl W d len xs) (hl : len ≤ 1048576) (h : PkOk 2 f t a l g s xs) :
    Calls Try.prog 11 #[pkV 2 f t a l g s d len cap] W (AnsG (.int .i64 (ruleClass 2)) W) := by
  have HI := Lib.hid H
  have HP := Lib.hid h
  clear H h
  unfold pkV
  go_enter Try.func11, Try.ntmps11
  go_wp2_with fail
  go_at_call 13
  refine (implPk_true _ 2 f t a l g s d len cap xs (HI.out.kept (gby_alloc (gby_refl _ _) _)) hl HP.out).mono ?_
  rintro e w1 ⟨rfl, g1⟩
  have hr := row_later g1 (heap_alloc_new W _)
  obtain ⟨r0, r1, r2, r3, r4, r5, r6, r7⟩ := pk_cells hr
  have hs1 : W.heap.size < w1.heap.size := by have := g1.size; simp only [World.size_alloc] at this; omega
  have G1 := Lib.hid (gby_trans (gby_alloc (gby_refl W none) _) g1)
  clear g1 hr
  go_wp2_with fail
  go_at_call 26
  refine (rule2 _).mono ?_
  rintro e w2 ⟨rfl, g2⟩
  have G2 := Lib.hid (gby_trans G1.out g2)
  clear g2
  go_wp2
  go_ret
  exact ⟨rfl, gby_alloc G2.out _⟩

set_option maxRecDepth 8000 in
set_option maxHeartbeats 1000000 in
theorem specClassOf2_in (W : World) (f t a l g s : Int) (d : Option Addr) (len cap : Nat) (xs : List Int) (H : ISl W d len xs) (hl : len ≤ 1048576) (h : PkOk 2 f t a l g s xs) :
    Calls Try.prog 20 #[pkV 2 f t a l g s d len cap] W (AnsG (.int .i64 (ruleClass 2)) W) := by
  have HI := Lib.hid H
  have HP := Lib.hid h
  clear H h
  unfold pkV
  go_enter Try.func20, Try.ntmps20
  go_wp2_with fail
  go_at_call 17
  refine (specPk_true _ 2 f t a l g s d len cap xs (HI.out.kept (gby_alloc (gby_refl _ _) _)) hl HP.out).mono ?_
  rintro e w1 ⟨rfl, g1⟩
  have hr := row_later g1 (heap_alloc_new W _)
  obtain ⟨r0, r1, r2, r3, r4, r5, r6, r7⟩ := pk_cells hr
  have hs1 : W.heap.size < w1.heap.size := by have := g1.size; simp only [World.size_alloc] at this; omega
  have G1 := Lib.hid (gby_trans (gby_alloc (gby_refl W none) _) g1)
  clear g1 hr
  go_wp2
  go_ret
  exact ⟨rfl, G1.out⟩

set_option maxRecDepth 8000 in
set_option maxHeartbeats 1000000 in
theorem implClassOf3_in (W : World) (f t a l g s : Int) (d : Option Addr) (len cap : Nat) (xs : List Int) (H : ISl W d len xs) (hl : len ≤ 1048576) (h : PkOk 3 f t a l g s xs) :
    Calls Try.prog 11 #[pkV 3 f t a l g s d len cap] W (AnsG (.int .i64 (ruleClass 3)) W) := by
  have HI := Lib.hid H
  have HP := Lib.hid h
  clear H h
  unfold pkV
  go_enter Try.func11, Try.ntmps11
  go_wp2_with fail
  go_at_call 13
  refine (implPk_true _ 3 f t a l g s d len cap xs (HI.out.kept (gby_alloc (gby_refl _ _) _)) hl HP.out).mono ?_
  rintro e w1 ⟨rfl, g1⟩
  have hr := row_later g1 (heap_alloc_new W _)
  obtain ⟨r0, r1, r2, r3, r4, r5, r6, r7⟩ := pk_cells hr
  have hs1 : W.heap.size < w1.heap.size := by have := g1.size; simp only [World.size_alloc] at this; omega
  have G1 := Lib.hid (gby_trans (gby_alloc (gby_refl W none) _) g1)
  clear g1 hr
  go_wp2_with fail
  go_at_call 26
  refine (rule3 _).mono ?_
  rintro e w2 ⟨rfl, g2⟩
  have G2 := Lib.hid (gby_trans G1.out g2)
  clear g2
  go_wp2
  go_ret
  exact ⟨rfl, gby_alloc G2.out _⟩

set_option maxRecDepth 8000 in
set_option maxHeartbeats 1000000 in
theorem specClassOf3_in (W : World) (f t a l g s : Int) (d : Option Addr) (len cap : Nat) (xs : List Int) (H : ISl W d len xs) (hl : len ≤ 1048576) (h : PkOk 3 f t a l g s xs) :
    Calls Try.prog 20 #[pkV 3 f t a l g s d len cap] W (AnsG (.int .i64 (ruleClass 3)) W) := by
  have HI := Lib.hid H
  have HP := Lib.hid h
  clear H h
  unfold pkV
  go_enter Try.func20, Try.ntmps20
  go_wp2_with fail
  go_at_call 17
  refine (specPk_true _ 3 f t a l g s d len cap xs (HI.out.kept (gby_alloc (gby_refl _ _) _)) hl HP.out).mono ?_
  rintro e w1 ⟨rfl, g1⟩
  have hr := row_later g1 (heap_alloc_new W _)
  obtain ⟨r0, r1, r2, r3, r4, r5, r6, r7⟩ := pk_cells hr
  have hs1 : W.heap.size < w1.heap.size := by have := g1.size; simp only [World.size_alloc] at this; omega
  have G1 := Lib.hid (gby_trans (gby_alloc (gby_refl W none) _) g1)
  clear g1 hr
  go_wp2
  go_ret
  exact ⟨rfl, G1.out⟩

set_option maxRecDepth 8000 in
set_option maxHeartbeats 1000000 in
theorem implClassOf4_in (W : World) (f t a l g s : Int) (d : Option Addr) (len cap : Nat) (xs : List Int) (H : ISl W d len xs) (hl : len ≤ 1048576) (h : PkOk 4 f t a l g s xs) :
    Calls Try.prog 11 #[pkV 4 f t a l g s d len cap] W (AnsG (.int .i64 (ruleClass 4)) W) := by
  have HI := Lib.hid H
  have HP := Lib.hid h
  clear H h
  unfold pkV
  go_enter Try.func11, Try.ntmps11
  go_wp2_with fail
  go_at_call 13
  refine (implPk_true _ 4 f t a l g s d len cap xs (HI.out.kept (gby_alloc (gby_refl _ _) _)) hl HP.out).mono ?_
  rintro e w1 ⟨rfl, g1⟩
  have hr := row_later g1 (heap_alloc_new W _)
  obtain ⟨r0, r1, r2, r3, r4, r5, r6, r7⟩ := pk_cells hr
  have hs1 : W.heap.size < w1.heap.size := by have := g1.size; simp only [World.size_alloc] at this; omega
  have G1 := Lib.hid (gby_trans (gby_alloc (gby_refl W none) _) g1)
  clear g1 hr
  go_wp2_with fail
  go_at_call 26
  refine (rule4 _).mono ?_
  rintro e w2 ⟨rfl, g2⟩
  have G2 := Lib.hid (gby_trans G1.out g2)
  clear g2
  go_wp2
  go_ret
  exact ⟨rfl, gby_alloc G2.out _⟩

set_option maxRecDepth 8000 in
set_option maxHeartbeats 1000000 in
theorem specClassOf4_in (W : World) (f t a l g s : Int) (d : Option Addr) (len cap : Nat) (xs : List Int) (H : ISl W d len xs) (hl : len ≤ 1048576) (h : PkOk 4 f t a l g s xs) :
    Calls Try.prog 20 #[pkV 4 f t a l g s d len cap] W (AnsG (.int .i64 (ruleClass 4)) W) := by
  have HI := Lib.hid H
  have HP := Lib.hid h
  clear H h
  unfold pkV
  go_enter Try.func20, Try.ntmps20
  go_wp2_with fail
  go_at_call 17
  refine (specPk_true _ 4 f t a l g s d len cap xs (HI.out.kept (gby_alloc (gby_refl _ _) _)) hl HP.out).mono ?_
  rintro e w1 ⟨rfl, g1⟩
  have hr := row_later g1 (heap_alloc_new W _)
  obtain ⟨r0, r1, r2, r3, r4, r5, r6, r7⟩ := pk_cells hr
  have hs1 : W.heap.size < w1.heap.size := by have := g1.size; simp only [World.size_alloc] at this; omega
  have G1 := Lib.hid (gby_trans (gby_alloc (gby_refl W none) _) g1)
  clear g1 hr
  go_wp2
  go_ret
  exact ⟨rfl, G1.out⟩

set_option maxRecDepth 8000 in
set_option maxHeartbeats 1000000 in
theorem implClassOf5_in (W : World) (f t a l g s : Int) (d : Option Addr) (len cap : Nat) (xs : List Int) (H : ISl W d len xs) (hl : len ≤ 1048576) (h : PkOk 5 f t a l g s xs) :
    Calls Try.prog 11 #[pkV 5 f t a l g s d len cap] W (AnsG (.int .i64 (ruleClass 5)) W) := by
  have HI := Lib.hid H
  have HP := Lib.hid h
  clear H h
  unfold pkV
  go_enter Try.func11, Try.ntmps11
  go_wp2_with fail
  go_at_call 13
  refine (implPk_true _ 5 f t a l g s d len cap xs (HI.out.kept (gby_alloc (gby_refl _ _) _)) hl HP.out).mono ?_
  rintro e w1 ⟨rfl, g1⟩
  have hr := row_later g1 (heap_alloc_new W _)
  obtain ⟨r0, r1, r2, r3, r4, r5, r6, r7⟩ := pk_cells hr
  have hs1 : W.heap.size < w1.heap.size := by have := g1.size; simp only [World.size_alloc] at this; omega
  have G1 := Lib.hid (gby_trans (gby_alloc (gby_refl W none) _) g1)
  clear g1 hr
  go_wp2_with fail
  go_at_call 26
  refine (rule5 _).mono ?_
  rintro e w2 ⟨rfl, g2⟩
  have G2 := Lib.hid (gby_trans G1.out g2)
  clear g2
  go_wp2
  go_ret
  exact ⟨rfl, gby_alloc G2.out _⟩

set_option maxRecDepth 8000 in
set_option maxHeartbeats 1000000 in
theorem specClassOf5_in (W : World) (f t a l g s : Int) (d : Option Addr) (len cap : Nat) (xs : List Int) (H : ISl W d len xs) (hl : len ≤ 1048576) (h : PkOk 5 f t a l g s xs) :
    Calls Try.prog 20 #[pkV 5 f t a l g s d len cap] W (AnsG (.int .i64 (ruleClass 5)) W) := by
  have HI := Lib.hid H
  have HP := Lib.hid h
  clear H h
  unfold pkV
  go_enter Try.func20, Try.ntmps20
  go_wp2_with fail
  go_at_call 17
  refine (specPk_true _ 5 f t a l g s d len cap xs (HI.out.kept (gby_alloc (gby_refl _ _) _)) hl HP.out).mono ?_
  rintro e w1 ⟨rfl, g1⟩
  have hr := row_later g1 (heap_alloc_new W _)
  obtain ⟨r0, r1, r2, r3, r4, r5, r6, r7⟩ := pk_cells hr
  have hs1 : W.heap.size < w1.heap.size := by have := g1.size; simp only [World.size_alloc] at this; omega
  have G1 := Lib.hid (gby_trans (gby_alloc (gby_refl W none) _) g1)
  clear g1 hr
  go_wp2
  go_ret
  exact ⟨rfl, G1.out⟩

set_option maxRecDepth 8000 in
set_option maxHeartbeats 1000000 in
theorem implClassOf6_in (W : World) (f t a l g s : Int) (d : Option Addr) (len cap : Nat) (xs : List Int) (H : ISl W d len xs) (hl : len ≤ 1048576) (h : PkOk 6 f t a l g s xs) :
    Calls Try.prog 11 #[pkV 6 f t a l g s d len cap] W (AnsG (.int .i64 (ruleClass 6)) W) := by
  have HI := Lib.hid H
  have HP := Lib.hid h
  clear H h
  unfold pkV
  go_enter Try.func11, Try.ntmps11
  go_wp2_with fail
  go_at_call 13
  refine (implPk_true _ 6 f t a l g s d len cap xs (HI.out.kept (gby_alloc (gby_refl _ _) _)) hl HP.out).mono ?_
  rintro e w1 ⟨rfl, g1⟩
  have hr := row_later g1 (heap_alloc_new W _)
  obtain ⟨r0, r1, r2, r3, r4, r5, r6, r7⟩ := pk_cells hr
  have hs1 : W.heap.size < w1.heap.size := by have := g1.size; simp only [World.size_alloc] at this; omega
  have G1 := Lib.hid (gby_trans (gby_alloc (gby_refl W none) _) g1)
  clear g1 hr
  go_wp2_with fail
  go_at_call 26
  refine (rule6 _).mono ?_
  rintro e w2 ⟨rfl, g2⟩
  have G2 := Lib.hid (gby_trans G1.out g2)
  clear g2
  go_wp2
  go_ret
  exact ⟨rfl, gby_alloc G2.out _⟩

set_option maxRecDepth 8000 in
set_option maxHeartbeats 1000000 in
theorem specClassOf6_in (W : World) (f t a l g s : Int) (d : Option Addr) (len cap : Nat) (xs : List Int) (H : ISl W d len xs) (hl : len ≤ 1048576) (h : PkOk 6 f t a l g s xs) :
    Calls Try.prog 20 #[pkV 6 f t a l g s d len cap] W (AnsG (.int .i64 (ruleClass 6)) W) := by
  have HI := Lib.hid H
  have HP := Lib.hid h
  clear H h
  unfold pkV
  go_enter Try.func20, Try.ntmps20
  go_wp2_with fail
  go_at_call 17
  refine (specPk_true _ 6 f t a l g s d len cap xs (HI.out.kept (gby_alloc (gby_refl _ _) _)) hl HP.out).mono ?_
  rintro e w1 ⟨rfl, g1⟩
  have hr := row_later g1 (heap_alloc_new W _)
  obtain ⟨r0, r1, r2, r3, r4, r5, r6, r7⟩ := pk_cells hr
  have hs1 : W.heap.size < w1.heap.size := by have := g1.size; simp only [World.size_alloc] at this; omega
  have G1 := Lib.hid (gby_trans (gby_alloc (gby_refl W none) _) g1)
  clear g1 hr
  go_wp2
  go_ret
  exact ⟨rfl, G1.out⟩

set_option maxRecDepth 8000 in
set_option maxHeartbeats 1000000 in
theorem implClassOf_out (k : Int) (W : World) (f t a l g s : Int) (d : Option Addr) (len cap : Nat) (xs : List Int) (H : ISl W d len xs) (hl : len ≤ 1048576) (h : ¬ PkOk k f t a l g s xs) :
    Calls Try.prog 11 #[pkV k f t a l g s d len cap] W (AnsG (.int .i64 (-1)) W) := by
  have HI := Lib.hid H
  have HP := Lib.hid h
  clear H h
  unfold pkV
  go_enter Try.func11, Try.ntmps11
  go_wp2_with fail
  go_at_call 13
  refine (implPk_false _ k f t a l g s d len cap xs (HI.out.kept (gby_alloc (gby_refl _ _) _)) hl HP.out).mono ?_
  rintro e w1 ⟨rfl, g1⟩
  have hr := row_later g1 (heap_alloc_new W _)
  obtain ⟨r0, r1, r2, r3, r4, r5, r6, r7⟩ := pk_cells hr
  have hs1 : W.heap.size < w1.heap.size := by have := g1.size; simp only [World.size_alloc] at this; omega
  have G1 := Lib.hid (gby_trans (gby_alloc (gby_refl W none) _) g1)
  clear g1 hr
  go_wp2
  go_ret
  exact ⟨rfl, G1.out⟩

set_option maxRecDepth 8000 in
set_option maxHeartbeats 1000000 in
theorem specClassOf_out (k : Int) (W : World) (f t a l g s : Int) (d : Option Addr) (len cap : Nat) (xs : List Int) (H : ISl W d len xs) (hl : len ≤ 1048576) (h : ¬ PkOk k f t a l g s xs) :
    Calls Try.prog 20 #[pkV k f t a l g s d len cap] W (AnsG (.int .i64 (-1)) W) := by
  have HI := Lib.hid H
  have HP := Lib.hid h
  clear H h
  unfold pkV
  go_enter Try.func20, Try.ntmps20
  go_wp2_with fail
  go_at_call 17
  refine (specPk_false _ k f t a l g s d len cap xs (HI.out.kept (gby_alloc (gby_refl _ _) _)) hl HP.out).mono ?_
  rintro e w1 ⟨rfl, g1⟩
  have hr := row_later g1 (heap_alloc_new W _)
  obtain ⟨r0, r1, r2, r3, r4, r5, r6, r7⟩ := pk_cells hr
  have hs1 : W.heap.size < w1.heap.size := by have := g1.size; simp only [World.size_alloc] at this; omega
  have G1 := Lib.hid (gby_trans (gby_alloc (gby_refl W none) _) g1)
  clear g1 hr
  go_wp2
  go_ret
  exact ⟨rfl, G1.out⟩

set_option maxRecDepth 8000 in
set_option maxHeartbeats 1000000 in
theorem implPacketUnits_in (k : Int) (W : World) (f t a l g s : Int) (d : Option Addr) (len cap : Nat) (xs : List Int) (H : ISl W d len xs) (hl : len ≤ 1048576) (h : PkOk k f t a l g s xs) :
    Calls Try.prog 12 #[pkV k f t a l g s d len cap] W (AnsG (.int .i64 (((len + 3) / 4 : Nat) : Int)) W) := by
  have HI := Lib.hid H
  have HP := Lib.hid h
  clear H h
  unfold pkV
  go_enter Try.func12, Try.ntmps12
  go_wp2_with fail
  go_at_call 13
  refine (implPk_true _ k f t a l g s d len cap xs (HI.out.kept (gby_alloc (gby_refl _ _) _)) hl HP.out).mono ?_
  rintro e w1 ⟨rfl, g1⟩
  have hr := row_later g1 (heap_alloc_new W _)
  obtain ⟨r0, r1, r2, r3, r4, r5, r6, r7⟩ := pk_cells hr
  have hs1 : W.heap.size < w1.heap.size := by have := g1.size; simp only [World.size_alloc] at this; omega
  have G1 := Lib.hid (gby_trans (gby_alloc (gby_refl W none) _) g1)
  clear g1 hr
  go_wp2
  go_ret
  exact ⟨ret_i64 (by omega), G1.out⟩

set_option maxRecDepth 8000 in
set_option maxHeartbeats 1000000 in
theorem specPacketUnits_in (k : Int) (W : World) (f t a l g s : Int) (d : Option Addr) (len cap : Nat) (xs : List Int) (H : ISl W d len xs) (hl : len ≤ 1048576) (h : PkOk k f t a l g s xs) :
    Calls Try.prog 21 #[pkV k f t a l g s d len cap] W (AnsG (.int .i64 (((len + 3) / 4 : Nat) : Int)) W) := by
  have HI := Lib.hid H
  have HP := Lib.hid h
  clear H h
  unfold pkV
  go_enter Try.func21, Try.ntmps21
  go_wp2_with fail
  go_at_call 17
  refine (specPk_true _ k f t a l g s d len cap xs (HI.out.kept (gby_alloc (gby_refl _ _) _)) hl HP.out).mono ?_
  rintro e w1 ⟨rfl, g1⟩
  have hr := row_later g1 (heap_alloc_new W _)
  obtain ⟨r0, r1, r2, r3, r4, r5, r6, r7⟩ := pk_cells hr
  have hs1 : W.heap.size < w1.heap.size := by have := g1.size; simp only [World.size_alloc] at this; omega
  have G1 := Lib.hid (gby_trans (gby_alloc (gby_refl W none) _) g1)
  clear g1 hr
  go_wp2
  go_ret
  exact ⟨ret_i64 (by omega), G1.out⟩

set_option maxRecDepth 8000 in
set_option maxHeartbeats 1000000 in
theorem implPacketUnits_out (k : Int) (W : World) (f t a l g s : Int) (d : Option Addr) (len cap : Nat) (xs : List Int) (H : ISl W d len xs) (hl : len ≤ 1048576) (h : ¬ PkOk k f t a l g s xs) :
    Calls Try.prog 12 #[pkV k f t a l g s d len cap] W (AnsG (.int .i64 (-1)) W) := by
  have HI := Lib.hid H
  have HP := Lib.hid h
  clear H h
  unfold pkV
  go_enter Try.func12, Try.ntmps12
  go_wp2_with fail
  go_at_call 13
  refine (implPk_false _ k f t a l g s d len cap xs (HI.out.kept (gby_alloc (gby_refl _ _) _)) hl HP.out).mono ?_
  rintro e w1 ⟨rfl, g1⟩
  have hr := row_later g1 (heap_alloc_new W _)
  obtain ⟨r0, r1, r2, r3, r4, r5, r6, r7⟩ := pk_cells hr
  have hs1 : W.heap.size < w1.heap.size := by have := g1.size; simp only [World.size_alloc] at this; omega
  have G1 := Lib.hid (gby_trans (gby_alloc (gby_refl W none) _) g1)
  clear g1 hr
  go_wp2
  go_ret
  exact ⟨rfl, G1.out⟩

set_option maxRecDepth 8000 in
set_option maxHeartbeats 1000000 in
theorem specPacketUnits_out (k : Int) (W : World) (f t a l g s : Int) (d : Option Addr) (len cap : Nat) (xs : List Int) (H : ISl W d len xs) (hl : len ≤ 1048576) (h : ¬ PkOk k f t a l g s xs) :
    Calls Try.prog 21 #[pkV k f t a l g s d len cap] W (AnsG (.int .i64 (-1)) W) := by
  have HI := Lib.hid H
  have HP := Lib.hid h
  clear H h
  unfold pkV
  go_enter Try.func21, Try.ntmps21
  go_wp2_with fail
  go_at_call 17
  refine (specPk_false _ k f t a l g s d len cap xs (HI.out.kept (gby_alloc (gby_refl _ _) _)) hl HP.out).mono ?_
  rintro e w1 ⟨rfl, g1⟩
  have hr := row_later g1 (heap_alloc_new W _)
  obtain ⟨r0, r1, r2, r3, r4, r5, r6, r7⟩ := pk_cells hr
  have hs1 : W.heap.size < w1.heap.size := by have := g1.size; simp only [World.size_alloc] at this; omega
  have G1 := Lib.hid (gby_trans (gby_alloc (gby_refl W none) _) g1)
  clear g1 hr
  go_wp2
  go_ret
  exact ⟨rfl, G1.out⟩

theorem classOf_same (k f t a l g s : Int) (xs : List Int) (hl : xs.length ≤ 1048576) : ∃ b : Int, (∀ (W : World) (d : Option Addr) (len cap : Nat), ISl W d len xs → Calls Try.prog 20 #[pkV k f t a l g s d len cap] W (AnsG (.int .i64 b) W)) ∧
    ∀ (W : World) (d : Option Addr) (len cap : Nat), ISl W d len xs → Calls Try.prog 11 #[pkV k f t a l g s d len cap] W (AnsG (.int .i64 b) W) := by
  by_cases h : PkOk k f t a l g s xs
  · rcases h.2.2 with ⟨rfl, _⟩ | ⟨rfl, _⟩ | ⟨rfl, _⟩ | ⟨rfl, _⟩ | ⟨rfl, _⟩ | ⟨rfl, _⟩
    · exact ⟨_, fun W d len cap H => specClassOf1_in W f t a l g s d len cap xs H (by have := H.1; omega) h, fun W d len cap H => implClassOf1_in W f t a l g s d len cap xs H (by have := H.1; omega) h⟩
    · exact ⟨_, fun W d len cap H => specClassOf2_in W f t a l g s d len cap xs H (by have := H.1; omega) h, fun W d len cap H => implClassOf2_in W f t a l g s d len cap xs H (by have := H.1; omega) h⟩
    · exact ⟨_, fun W d len cap H => specClassOf3_in W f t a l g s d len cap xs H (by have := H.1; omega) h, fun W d len cap H => implClassOf3_in W f t a l g s d len cap xs H (by have := H.1; omega) h⟩
    · exact ⟨_, fun W d len cap H => specClassOf4_in W f t a l g s d len cap xs H (by have := H.1; omega) h, fun W d len cap H => implClassOf4_in W f t a l g s d len cap xs H (by have := H.1; omega) h⟩
    · exact ⟨_, fun W d len cap H => specClassOf5_in W f t a l g s d len cap xs H (by have := H.1; omega) h, fun W d len cap H => implClassOf5_in W f t a l g s d len cap xs H (by have := H.1; omega) h⟩
    · exact ⟨_, fun W d len cap H => specClassOf6_in W f t a l g s d len cap xs H (by have := H.1; omega) h, fun W d len cap H => implClassOf6_in W f t a l g s d len cap xs H (by have := H.1; omega) h⟩
  · exact ⟨_, fun W d len cap H => specClassOf_out k W f t a l g s d len cap xs H (by have := H.1; omega) h, fun W d len cap H => implClassOf_out k W f t a l g s d len cap xs H (by have := H.1; omega) h⟩

set_option maxRecDepth 8000 in
set_option maxHeartbeats 4000000 in
theorem walk_exactClassOf (W : World) (k f t a l g s : Int) (d : Option Addr) (len cap : Nat) (xs : List Int) (H : ISl W d len xs) (hc : len ≤ 9223372036854775807) :
    Calls Try.prog 5 #[pkV k f t a l g s d len cap] W fun e w' => e = .returned (.bool true) ∧ Below W.heap.size W w' := by
  have HI := Lib.hid H
  have hlx := H.1
  clear H
  by_cases hbig : 1048576 < (len : Int)
  · have hneg : (-1 : Int) < 0 := by omega
    clear hlx
    unfold pkV
    go_enter Try.func5, Try.ntmps5
    go_wp2_with fail
    go_at_call 16
    refine (szPk_big _ k f t a l g s _ d len cap hbig (by omega) (by omega) hc).mono ?_
    rintro e w1 ⟨rfl, g1⟩
    have G1 := Lib.hid (gby_trans (gby_alloc (gby_refl W none) _) g1)
    clear g1
    go_wp2
    go_ret
    exact ⟨rfl, gby_below G1.out⟩
  · have hl : len ≤ 1048576 := by omega
    obtain ⟨b, hs, hi⟩ := classOf_same k f t a l g s xs (by omega)
    have HS := Lib.hid hs
    have HM := Lib.hid hi
    clear hs hi hlx
    unfold pkV
    go_enter Try.func5, Try.ntmps5
    go_wp2_with fail
    go_at_call 16
    refine (szPk_any _ k f t a l g s _ d len cap (by omega) (by omega)).mono ?_
    rintro e w1 ⟨rfl, g1⟩
    have hr := row_later g1 (heap_alloc_new W _)
    obtain ⟨r0, r1, r2, r3, r4, r5, r6, r7⟩ := pk_cells hr
    have HR1 := Lib.hid hr
    have G1 := Lib.hid (gby_trans (gby_alloc (gby_refl W none) _) g1)
    clear g1 hr
    go_wp2_with fail
    go_at_call 18
    refine (toPk_any _ k f t a l g s d len cap xs (HI.out.kept G1.out) hl).mono ?_
    rintro e w2 ⟨c2, rfl, hc2, hi2, g2⟩
    have J2 := Lib.hid hi2
    have hr := row_later g2 HR1.out
    clear r0 r1 r2 r3 r4 r5 r6 r7
    obtain ⟨r0, r1, r2, r3, r4, r5, r6, r7⟩ := pk_cells hr
    have HR2 := Lib.hid hr
    have G2 := Lib.hid (gby_trans G1.out g2)
    clear g2 hr hi2 hc2
    go_wp2_with fail
    go_at_call 20
    refine (HS.out _ _ _ _ J2.out).mono ?_
    rintro e w3 ⟨rfl, g3⟩
    have hr := row_later g3 HR2.out
    clear r0 r1 r2 r3 r4 r5 r6 r7
    obtain ⟨r0, r1, r2, r3, r4, r5, r6, r7⟩ := pk_cells hr
    have HR3 := Lib.hid hr
    have G3 := Lib.hid (gby_trans G2.out g3)
    clear g3 hr
    go_wp2_with fail
    go_at_call 18
    refine (toPk_any _ k f t a l g s d len cap xs (HI.out.kept G3.out) hl).mono ?_
    rintro e w4 ⟨c4, rfl, hc4, hi4, g4⟩
    have J4 := Lib.hid hi4
    have hr := row_later g4 HR3.out
    clear r0 r1 r2 r3 r4 r5 r6 r7
    have HR4 := Lib.hid hr
    have G4 := Lib.hid (gby_trans G3.out g4)
    clear g4 hr hi4 hc4
    unfold pkV
    go_wp2_with fail
    go_at_call 11
    refine (HM.out _ _ _ _ (J4.out.kept (gby_alloc (gby_refl _ _) _))).mono ?_
    rintro e w5 ⟨rfl, g5⟩
    have hx := row_later g5 (heap_alloc_new w4 _)
    obtain ⟨x0, x1, x2, x3, x4, x5, x6, x7⟩ := pk_cells hx
    have hr := row_later g5 (row_later (gby_alloc (gby_refl w4 none) _) HR4.out)
    obtain ⟨r0, r1, r2, r3, r4, r5, r6, r7⟩ := pk_cells hr
    have J5 := Lib.hid (J4.out.kept (gby_trans (gby_alloc (gby_refl _ _) _) g5))
    have G5 := Lib.hid (gby_trans (gby_alloc G4.out _) g5)
    clear g5 hr hx
    go_wp2_with fail
    go_region_held3 (fun w' => w'.cell? ⟨W.heap.size, 0, none⟩ = some (.int .i64 k) ∧ w'.cell? ⟨W.heap.size, 1, none⟩ = some (.int .i64 f) ∧ w'.cell? ⟨W.heap.size, 2, none⟩ = some (.int .i64 t) ∧ w'.cell? ⟨W.heap.size, 3, none⟩ = some (.int .i64 a) ∧ w'.cell? ⟨W.heap.size, 4, none⟩ = some (.int .i64 l) ∧ w'.cell? ⟨W.heap.size, 5, none⟩ = some (.int .i64 g) ∧ w'.cell? ⟨W.heap.size, 6, none⟩ = some (.int .i64 s) ∧ w'.cell? ⟨W.heap.size, 7, none⟩ = some (.slice d len cap) ∧ w'.cell? ⟨w4.heap.size, 0, none⟩ = some (.int .i64 k) ∧ w'.cell? ⟨w4.heap.size, 1, none⟩ = some (.int .i64 f) ∧ w'.cell? ⟨w4.heap.size, 2, none⟩ = some (.int .i64 t) ∧ w'.cell? ⟨w4.heap.size, 3, none⟩ = some (.int .i64 a) ∧ w'.cell? ⟨w4.heap.size, 4, none⟩ = some (.int .i64 l) ∧ w'.cell? ⟨w4.heap.size, 5, none⟩ = some (.int .i64 g) ∧ w'.cell? ⟨w4.heap.size, 6, none⟩ = some (.int .i64 s) ∧ w'.cell? ⟨w4.heap.size, 7, none⟩ = some (.slice (some ⟨c4, 0, none⟩) len len))
      (first
        | exact ⟨r0, r1, r2, r3, r4, r5, r6, r7, x0, x1, x2, x3, x4, x5, x6, x7⟩
        | exact ⟨g6.cell r0 (by simp), g6.cell r1 (by simp), g6.cell r2 (by simp), g6.cell r3 (by simp), g6.cell r4 (by simp), g6.cell r5 (by simp), g6.cell r6 (by simp), g6.cell r7 (by simp), g6.cell x0 (by simp), g6.cell x1 (by simp), g6.cell x2 (by simp), g6.cell x3 (by simp), g6.cell x4 (by simp), g6.cell x5 (by simp), g6.cell x6 (by simp), g6.cell x7 (by simp)⟩
        | exact ⟨g7.cell (g6.cell r0 (by simp)) (by simp), g7.cell (g6.cell r1 (by simp)) (by simp), g7.cell (g6.cell r2 (by simp)) (by simp), g7.cell (g6.cell r3 (by simp)) (by simp), g7.cell (g6.cell r4 (by simp)) (by simp), g7.cell (g6.cell r5 (by simp)) (by simp), g7.cell (g6.cell r6 (by simp)) (by simp), g7.cell (g6.cell r7 (by simp)) (by simp), g7.cell (g6.cell x0 (by simp)) (by simp), g7.cell (g6.cell x1 (by simp)) (by simp), g7.cell (g6.cell x2 (by simp)) (by simp), g7.cell (g6.cell x3 (by simp)) (by simp), g7.cell (g6.cell x4 (by simp)) (by simp), g7.cell (g6.cell x5 (by simp)) (by simp), g7.cell (g6.cell x6 (by simp)) (by simp), g7.cell (g6.cell x7 (by simp)) (by simp)⟩)
      (first
        | (go_at_call 18; refine (toPk_any _ k f t a l g s d len cap xs (HI.out.kept (gby_drew G5.out)) hl).mono ?_; rintro e w6 ⟨c6, rfl, hc6, hi6, g6⟩)
        | (go_at_call 19; refine (eqPk_same _ k f t a l g s _ _ len _ _ xs ((show ISl (World.drew w5) _ _ _ from J5.out).kept g6) hi6 hl).mono ?_; rintro e w7 ⟨rfl, g7⟩))
    all_goals
      have G7 := Lib.hid (gby_trans (gby_trans (gby_drew G5.out) g6) g7)
      clear g6 g7 hi6 hc6
      go_wp2
      go_ret
      exact ⟨rfl, gby_below G7.out⟩

theorem packetUnits_same (k f t a l g s : Int) (xs : List Int) (hl : xs.length ≤ 1048576) : ∃ b : Int, (∀ (W : World) (d : Option Addr) (len cap : Nat), ISl W d len xs → Calls Try.prog 21 #[pkV k f t a l g s d len cap] W (AnsG (.int .i64 b) W)) ∧
    ∀ (W : World) (d : Option Addr) (len cap : Nat), ISl W d len xs → Calls Try.prog 12 #[pkV k f t a l g s d len cap] W (AnsG (.int .i64 b) W) := by
  by_cases h : PkOk k f t a l g s xs
  · refine ⟨(((xs.length + 3) / 4 : Nat) : Int), fun W d len cap H => ?_, fun W d len cap H => ?_⟩
    · have e := H.1
      rw [← e]
      exact specPacketUnits_in k W f t a l g s d len cap xs H (by omega) h
    · have e := H.1
      rw [← e]
      exact implPacketUnits_in k W f t a l g s d len cap xs H (by omega) h
  · exact ⟨_, fun W d len cap H => specPacketUnits_out k W f t a l g s d len cap xs H (by have := H.1; omega) h, fun W d len cap H => implPacketUnits_out k W f t a l g s d len cap xs H (by have := H.1; omega) h⟩

set_option maxRecDepth 8000 in
set_option maxHeartbeats 4000000 in
theorem walk_exactPacketUnits (W : World) (k f t a l g s : Int) (d : Option Addr) (len cap : Nat) (xs : List Int) (H : ISl W d len xs) (hc : len ≤ 9223372036854775807) :
    Calls Try.prog 6 #[pkV k f t a l g s d len cap] W fun e w' => e = .returned (.bool true) ∧ Below W.heap.size W w' := by
  have HI := Lib.hid H
  have hlx := H.1
  clear H
  by_cases hbig : 1048576 < (len : Int)
  · have hneg : (-1 : Int) < 0 := by omega
    clear hlx
    unfold pkV
    go_enter Try.func6, Try.ntmps6
    go_wp2_with fail
    go_at_call 16
    refine (szPk_big _ k f t a l g s _ d len cap hbig (by omega) (by omega) hc).mono ?_
    rintro e w1 ⟨rfl, g1⟩
    have G1 := Lib.hid (gby_trans (gby_alloc (gby_refl W none) _) g1)
    clear g1
    go_wp2
    go_ret
    exact ⟨rfl, gby_below G1.out⟩
  · have hl : len ≤ 1048576 := by omega
    obtain ⟨b, hs, hi⟩ := packetUnits_same k f t a l g s xs (by omega)
    have HS := Lib.hid hs
    have HM := Lib.hid hi
    clear hs hi hlx
    unfold pkV
    go_enter Try.func6, Try.ntmps6
    go_wp2_with fail
    go_at_call 16
    refine (szPk_any _ k f t a l g s _ d len cap (by omega) (by omega)).mono ?_
    rintro e w1 ⟨rfl, g1⟩
    have hr := row_later g1 (heap_alloc_new W _)
    obtain ⟨r0, r1, r2, r3, r4, r5, r6, r7⟩ := pk_cells hr
    have HR1 := Lib.hid hr
    have G1 := Lib.hid (gby_trans (gby_alloc (gby_refl W none) _) g1)
    clear g1 hr
    go_wp2_with fail
    go_at_call 18
    refine (toPk_any _ k f t a l g s d len cap xs (HI.out.kept G1.out) hl).mono ?_
    rintro e w2 ⟨c2, rfl, hc2, hi2, g2⟩
    have J2 := Lib.hid hi2
    have hr := row_later g2 HR1.out
    clear r0 r1 r2 r3 r4 r5 r6 r7
    obtain ⟨r0, r1, r2, r3, r4, r5, r6, r7⟩ := pk_cells hr
    have HR2 := Lib.hid hr
    have G2 := Lib.hid (gby_trans G1.out g2)
    clear g2 hr hi2 hc2
    go_wp2_with fail
    go_at_call 21
    refine (HS.out _ _ _ _ J2.out).mono ?_
    rintro e w3 ⟨rfl, g3⟩
    have hr := row_later g3 HR2.out
    clear r0 r1 r2 r3 r4 r5 r6 r7
    obtain ⟨r0, r1, r2, r3, r4, r5, r6, r7⟩ := pk_cells hr
    have HR3 := Lib.hid hr
    have G3 := Lib.hid (gby_trans G2.out g3)
    clear g3 hr
    go_wp2_with fail
    go_at_call 18
    refine (toPk_any _ k f t a l g s d len cap xs (HI.out.kept G3.out) hl).mono ?_
    rintro e w4 ⟨c4, rfl, hc4, hi4, g4⟩
    have J4 := Lib.hid hi4
    have hr := row_later g4 HR3.out
    clear r0 r1 r2 r3 r4 r5 r6 r7
    have HR4 := Lib.hid hr
    have G4 := Lib.hid (gby_trans G3.out g4)
    clear g4 hr hi4 hc4
    unfold pkV
    go_wp2_with fail
    go_at_call 12
    refine (HM.out _ _ _ _ (J4.out.kept (gby_alloc (gby_refl _ _) _))).mono ?_
    rintro e w5 ⟨rfl, g5⟩
    have hx := row_later g5 (heap_alloc_new w4 _)
    obtain ⟨x0, x1, x2, x3, x4, x5, x6, x7⟩ := pk_cells hx
    have hr := row_later g5 (row_later (gby_alloc (gby_refl w4 none) _) HR4.out)
    obtain ⟨r0, r1, r2, r3, r4, r5, r6, r7⟩ := pk_cells hr
    have J5 := Lib.hid (J4.out.kept (gby_trans (gby_alloc (gby_refl _ _) _) g5))
    have G5 := Lib.hid (gby_trans (gby_alloc G4.out _) g5)
    clear g5 hr hx
    go_wp2_with fail
    go_region_held3 (fun w' => w'.cell? ⟨W.heap.size, 0, none⟩ = some (.int .i64 k) ∧ w'.cell? ⟨W.heap.size, 1, none⟩ = some (.int .i64 f) ∧ w'.cell? ⟨W.heap.size, 2, none⟩ = some (.int .i64 t) ∧ w'.cell? ⟨W.heap.size, 3, none⟩ = some (.int .i64 a) ∧ w'.cell? ⟨W.heap.size, 4, none⟩ = some (.int .i64 l) ∧ w'.cell? ⟨W.heap.size, 5, none⟩ = some (.int .i64 g) ∧ w'.cell? ⟨W.heap.size, 6, none⟩ = some (.int .i64 s) ∧ w'.cell? ⟨W.heap.size, 7, none⟩ = some (.slice d len cap) ∧ w'.cell? ⟨w4.heap.size, 0, none⟩ = some (.int .i64 k) ∧ w'.cell? ⟨w4.heap.size, 1, none⟩ = some (.int .i64 f) ∧ w'.cell? ⟨w4.heap.size, 2, none⟩ = some (.int .i64 t) ∧ w'.cell? ⟨w4.heap.size, 3, none⟩ = some (.int .i64 a) ∧ w'.cell? ⟨w4.heap.size, 4, none⟩ = some (.int .i64 l) ∧ w'.cell? ⟨w4.heap.size, 5, none⟩ = some (.int .i64 g) ∧ w'.cell? ⟨w4.heap.size, 6, none⟩ = some (.int .i64 s) ∧ w'.cell? ⟨w4.heap.size, 7, none⟩ = some (.slice (some ⟨c4, 0, none⟩) len len))
      (first
        | exact ⟨r0, r1, r2, r3, r4, r5, r6, r7, x0, x1, x2, x3, x4, x5, x6, x7⟩
        | exact ⟨g6.cell r0 (by simp), g6.cell r1 (by simp), g6.cell r2 (by simp), g6.cell r3 (by simp), g6.cell r4 (by simp), g6.cell r5 (by simp), g6.cell r6 (by simp), g6.cell r7 (by simp), g6.cell x0 (by simp), g6.cell x1 (by simp), g6.cell x2 (by simp), g6.cell x3 (by simp), g6.cell x4 (by simp), g6.cell x5 (by simp), g6.cell x6 (by simp), g6.cell x7 (by simp)⟩
        | exact ⟨g7.cell (g6.cell r0 (by simp)) (by simp), g7.cell (g6.cell r1 (by simp)) (by simp), g7.cell (g6.cell r2 (by simp)) (by simp), g7.cell (g6.cell r3 (by simp)) (by simp), g7.cell (g6.cell r4 (by simp)) (by simp), g7.cell (g6.cell r5 (by simp)) (by simp), g7.cell (g6.cell r6 (by simp)) (by simp), g7.cell (g6.cell r7 (by simp)) (by simp), g7.cell (g6.cell x0 (by simp)) (by simp), g7.cell (g6.cell x1 (by simp)) (by simp), g7.cell (g6.cell x2 (by simp)) (by simp), g7.cell (g6.cell x3 (by simp)) (by simp), g7.cell (g6.cell x4 (by simp)) (by simp), g7.cell (g6.cell x5 (by simp)) (by simp), g7.cell (g6.cell x6 (by simp)) (by simp), g7.cell (g6.cell x7 (by simp)) (by simp)⟩)
      (first
        | (go_at_call 18; refine (toPk_any _ k f t a l g s d len cap xs (HI.out.kept (gby_drew G5.out)) hl).mono ?_; rintro e w6 ⟨c6, rfl, hc6, hi6, g6⟩)
        | (go_at_call 19; refine (eqPk_same _ k f t a l g s _ _ len _ _ xs ((show ISl (World.drew w5) _ _ _ from J5.out).kept g6) hi6 hl).mono ?_; rintro e w7 ⟨rfl, g7⟩))
    all_goals
      have G7 := Lib.hid (gby_trans (gby_trans (gby_drew G5.out) g6) g7)
      clear g6 g7 hi6 hc6
      go_wp2
      go_ret
      exact ⟨rfl, gby_below G7.out⟩

end Go.Proofs.Yteaaobklfhlgiab
