/-
  Contracts of the program's IsPacket.
-/
import Derived.Test.YtnighnkkeiegnaaPkChk2
import Derived.Test.YtnighnkkeiegnaaKind
namespace Go.Proofs.Ytnighnkkeiegnaa
open Go Go.RowKit


set_option maxHeartbeats 1000000 in
theorem implPk1_yes (W : World) (f t a l g s : Int) (d : Option Addr) (len cap : Nat) (xs : List Int) (H : ISl W d len xs) (hl : len ≤ 1048576) (hf : 0 ≤ f ∧ f ≤ 255) (hx : AreW xs) (hw : W1 t a l g s len) :
    Calls Try.prog 107 #[pkV 1 f t a l g s d len cap] W (AnsG (.bool true) W) := by
  have HI := Lib.hid H
  have HW := Lib.hid hw
  obtain ⟨f0, f1⟩ := hf
  clear H hw
  unfold pkV
  go_enter Try.func107, Try.ntmps107
  go_wp2_with fail
  go_at_call 128
  refine (rule1 _).mono ?_
  rintro e w1 ⟨rfl, g1⟩
  have hr := row_later g1 (heap_alloc_new _ _)
  have r0 := cell_of_row w1 _ 0 _ _ _ hr
  have r1 := cell_of_row w1 _ 1 _ _ _ hr
  have r2 := cell_of_row w1 _ 2 _ _ _ hr
  have r3 := cell_of_row w1 _ 3 _ _ _ hr
  have r4 := cell_of_row w1 _ 4 _ _ _ hr
  have r5 := cell_of_row w1 _ 5 _ _ _ hr
  have r6 := cell_of_row w1 _ 6 _ _ _ hr
  have r7 := cell_of_row w1 _ 7 _ _ _ hr
  have hs1 : W.heap.size < w1.heap.size := by have := g1.size; simp only [World.size_alloc] at this; omega
  have G1 := Lib.hid (gby_trans (gby_alloc (gby_refl W none) _) g1)
  clear hr g1
  go_wp2_with (go_at_call 129; refine (pid_yes _ _ (by omega) (by omega)).mono ?_; rintro e w' ⟨rfl, rfl⟩)
  go_at_call 130
  refine (areWords_any _ _ _ _ _ (HI.out.kept (gby_alloc G1.out _)) hl).mono ?_
  rintro e w' ⟨rfl, rfl⟩
  have hd : decide (AreW xs) = true := decide_eq_true hx
  rw [hd]
  go_wp2_with fail
  go_at_call 131
  refine (checkWrite_yes _ f t a l g s d len cap HW.out).mono ?_
  rintro e w2 ⟨rfl, g2⟩
  have G2 := Lib.hid (gby_trans (gby_alloc G1.out _) g2)
  clear g2
  go_wp2
  go_ret
  exact ⟨rfl, G2.out⟩

set_option maxHeartbeats 1000000 in
theorem implPk1_noF (W : World) (f t a l g s : Int) (d : Option Addr) (len cap : Nat) (xs : List Int) (H : ISl W d len xs) (_hl : len ≤ 1048576) (hf : f < 0 ∨ 255 < f) :
    Calls Try.prog 107 #[pkV 1 f t a l g s d len cap] W (AnsG (.bool false) W) := by
  have HI := Lib.hid H
  have HF := Lib.hid hf
  clear H hf
  unfold pkV
  go_enter Try.func107, Try.ntmps107
  go_wp2_with fail
  go_at_call 128
  refine (rule1 _).mono ?_
  rintro e w1 ⟨rfl, g1⟩
  have hr := row_later g1 (heap_alloc_new _ _)
  have r0 := cell_of_row w1 _ 0 _ _ _ hr
  have r1 := cell_of_row w1 _ 1 _ _ _ hr
  have r2 := cell_of_row w1 _ 2 _ _ _ hr
  have r3 := cell_of_row w1 _ 3 _ _ _ hr
  have r4 := cell_of_row w1 _ 4 _ _ _ hr
  have r5 := cell_of_row w1 _ 5 _ _ _ hr
  have r6 := cell_of_row w1 _ 6 _ _ _ hr
  have r7 := cell_of_row w1 _ 7 _ _ _ hr
  have hs1 : W.heap.size < w1.heap.size := by have := g1.size; simp only [World.size_alloc] at this; omega
  have G1 := Lib.hid (gby_trans (gby_alloc (gby_refl W none) _) g1)
  clear hr g1
  go_wp2_with (go_at_call 129; refine (pid_no _ _ HF.out).mono ?_; rintro e w' ⟨rfl, rfl⟩)
  go_ret
  exact ⟨rfl, gby_alloc G1.out _⟩

set_option maxHeartbeats 1000000 in
theorem implPk1_noX (W : World) (f t a l g s : Int) (d : Option Addr) (len cap : Nat) (xs : List Int) (H : ISl W d len xs) (hl : len ≤ 1048576) (hf : 0 ≤ f ∧ f ≤ 255) (hx : ¬ AreW xs) :
    Calls Try.prog 107 #[pkV 1 f t a l g s d len cap] W (AnsG (.bool false) W) := by
  have HI := Lib.hid H
  obtain ⟨f0, f1⟩ := hf
  clear H
  unfold pkV
  go_enter Try.func107, Try.ntmps107
  go_wp2_with fail
  go_at_call 128
  refine (rule1 _).mono ?_
  rintro e w1 ⟨rfl, g1⟩
  have hr := row_later g1 (heap_alloc_new _ _)
  have r0 := cell_of_row w1 _ 0 _ _ _ hr
  have r1 := cell_of_row w1 _ 1 _ _ _ hr
  have r2 := cell_of_row w1 _ 2 _ _ _ hr
  have r3 := cell_of_row w1 _ 3 _ _ _ hr
  have r4 := cell_of_row w1 _ 4 _ _ _ hr
  have r5 := cell_of_row w1 _ 5 _ _ _ hr
  have r6 := cell_of_row w1 _ 6 _ _ _ hr
  have r7 := cell_of_row w1 _ 7 _ _ _ hr
  have hs1 : W.heap.size < w1.heap.size := by have := g1.size; simp only [World.size_alloc] at this; omega
  have G1 := Lib.hid (gby_trans (gby_alloc (gby_refl W none) _) g1)
  clear hr g1
  go_wp2_with (go_at_call 129; refine (pid_yes _ _ (by omega) (by omega)).mono ?_; rintro e w' ⟨rfl, rfl⟩)
  go_at_call 130
  refine (areWords_any _ _ _ _ _ (HI.out.kept (gby_alloc G1.out _)) hl).mono ?_
  rintro e w' ⟨rfl, rfl⟩
  have hd : decide (AreW xs) = false := decide_eq_false hx
  rw [hd]
  go_wp2
  go_ret
  exact ⟨rfl, gby_alloc G1.out _⟩

set_option maxHeartbeats 1000000 in
theorem implPk1_noW (W : World) (f t a l g s : Int) (d : Option Addr) (len cap : Nat) (xs : List Int) (H : ISl W d len xs) (hl : len ≤ 1048576) (hf : 0 ≤ f ∧ f ≤ 255) (hx : AreW xs) (hw : ¬ W1 t a l g s len) :
    Calls Try.prog 107 #[pkV 1 f t a l g s d len cap] W (AnsG (.bool false) W) := by
  have HI := Lib.hid H
  have HW := Lib.hid hw
  obtain ⟨f0, f1⟩ := hf
  clear H hw
  unfold pkV
  go_enter Try.func107, Try.ntmps107
  go_wp2_with fail
  go_at_call 128
  refine (rule1 _).mono ?_
  rintro e w1 ⟨rfl, g1⟩
  have hr := row_later g1 (heap_alloc_new _ _)
  have r0 := cell_of_row w1 _ 0 _ _ _ hr
  have r1 := cell_of_row w1 _ 1 _ _ _ hr
  have r2 := cell_of_row w1 _ 2 _ _ _ hr
  have r3 := cell_of_row w1 _ 3 _ _ _ hr
  have r4 := cell_of_row w1 _ 4 _ _ _ hr
  have r5 := cell_of_row w1 _ 5 _ _ _ hr
  have r6 := cell_of_row w1 _ 6 _ _ _ hr
  have r7 := cell_of_row w1 _ 7 _ _ _ hr
  have hs1 : W.heap.size < w1.heap.size := by have := g1.size; simp only [World.size_alloc] at this; omega
  have G1 := Lib.hid (gby_trans (gby_alloc (gby_refl W none) _) g1)
  clear hr g1
  go_wp2_with (go_at_call 129; refine (pid_yes _ _ (by omega) (by omega)).mono ?_; rintro e w' ⟨rfl, rfl⟩)
  go_at_call 130
  refine (areWords_any _ _ _ _ _ (HI.out.kept (gby_alloc G1.out _)) hl).mono ?_
  rintro e w' ⟨rfl, rfl⟩
  have hd : decide (AreW xs) = true := decide_eq_true hx
  rw [hd]
  go_wp2_with fail
  go_at_call 131
  refine (checkWrite_no _ f t a l g s d len cap hl HW.out).mono ?_
  rintro e w2 ⟨rfl, g2⟩
  have G2 := Lib.hid (gby_trans (gby_alloc G1.out _) g2)
  clear g2
  go_wp2
  go_ret
  exact ⟨rfl, G2.out⟩

set_option maxHeartbeats 1000000 in
theorem implPk2_yes (W : World) (f t a l g s : Int) (d : Option Addr) (len cap : Nat) (xs : List Int) (H : ISl W d len xs) (hl : len ≤ 1048576) (hf : 0 ≤ f ∧ f ≤ 255) (hx : AreW xs) (hw : W2 t a l g s len) :
    Calls Try.prog 107 #[pkV 2 f t a l g s d len cap] W (AnsG (.bool true) W) := by
  have HI := Lib.hid H
  have HW := Lib.hid hw
  obtain ⟨f0, f1⟩ := hf
  clear H hw
  unfold pkV
  go_enter Try.func107, Try.ntmps107
  go_wp2_with fail
  go_at_call 128
  refine (rule2 _).mono ?_
  rintro e w1 ⟨rfl, g1⟩
  have hr := row_later g1 (heap_alloc_new _ _)
  have r0 := cell_of_row w1 _ 0 _ _ _ hr
  have r1 := cell_of_row w1 _ 1 _ _ _ hr
  have r2 := cell_of_row w1 _ 2 _ _ _ hr
  have r3 := cell_of_row w1 _ 3 _ _ _ hr
  have r4 := cell_of_row w1 _ 4 _ _ _ hr
  have r5 := cell_of_row w1 _ 5 _ _ _ hr
  have r6 := cell_of_row w1 _ 6 _ _ _ hr
  have r7 := cell_of_row w1 _ 7 _ _ _ hr
  have hs1 : W.heap.size < w1.heap.size := by have := g1.size; simp only [World.size_alloc] at this; omega
  have G1 := Lib.hid (gby_trans (gby_alloc (gby_refl W none) _) g1)
  clear hr g1
  go_wp2_with (go_at_call 129; refine (pid_yes _ _ (by omega) (by omega)).mono ?_; rintro e w' ⟨rfl, rfl⟩)
  go_at_call 130
  refine (areWords_any _ _ _ _ _ (HI.out.kept (gby_alloc G1.out _)) hl).mono ?_
  rintro e w' ⟨rfl, rfl⟩
  have hd : decide (AreW xs) = true := decide_eq_true hx
  rw [hd]
  go_wp2_with fail
  go_at_call 132
  refine (checkMessage_yes _ f t a l g s d len cap HW.out).mono ?_
  rintro e w2 ⟨rfl, g2⟩
  have G2 := Lib.hid (gby_trans (gby_alloc G1.out _) g2)
  clear g2
  go_wp2
  go_ret
  exact ⟨rfl, G2.out⟩

set_option maxHeartbeats 1000000 in
theorem implPk2_noF (W : World) (f t a l g s : Int) (d : Option Addr) (len cap : Nat) (xs : List Int) (H : ISl W d len xs) (_hl : len ≤ 1048576) (hf : f < 0 ∨ 255 < f) :
    Calls Try.prog 107 #[pkV 2 f t a l g s d len cap] W (AnsG (.bool false) W) := by
  have HI := Lib.hid H
  have HF := Lib.hid hf
  clear H hf
  unfold pkV
  go_enter Try.func107, Try.ntmps107
  go_wp2_with fail
  go_at_call 128
  refine (rule2 _).mono ?_
  rintro e w1 ⟨rfl, g1⟩
  have hr := row_later g1 (heap_alloc_new _ _)
  have r0 := cell_of_row w1 _ 0 _ _ _ hr
  have r1 := cell_of_row w1 _ 1 _ _ _ hr
  have r2 := cell_of_row w1 _ 2 _ _ _ hr
  have r3 := cell_of_row w1 _ 3 _ _ _ hr
  have r4 := cell_of_row w1 _ 4 _ _ _ hr
  have r5 := cell_of_row w1 _ 5 _ _ _ hr
  have r6 := cell_of_row w1 _ 6 _ _ _ hr
  have r7 := cell_of_row w1 _ 7 _ _ _ hr
  have hs1 : W.heap.size < w1.heap.size := by have := g1.size; simp only [World.size_alloc] at this; omega
  have G1 := Lib.hid (gby_trans (gby_alloc (gby_refl W none) _) g1)
  clear hr g1
  go_wp2_with (go_at_call 129; refine (pid_no _ _ HF.out).mono ?_; rintro e w' ⟨rfl, rfl⟩)
  go_ret
  exact ⟨rfl, gby_alloc G1.out _⟩

set_option maxHeartbeats 1000000 in
theorem implPk2_noX (W : World) (f t a l g s : Int) (d : Option Addr) (len cap : Nat) (xs : List Int) (H : ISl W d len xs) (hl : len ≤ 1048576) (hf : 0 ≤ f ∧ f ≤ 255) (hx : ¬ AreW xs) :
    Calls Try.prog 107 #[pkV 2 f t a l g s d len cap] W (AnsG (.bool false) W) := by
  have HI := Lib.hid H
  obtain ⟨f0, f1⟩ := hf
  clear H
  unfold pkV
  go_enter Try.func107, Try.ntmps107
  go_wp2_with fail
  go_at_call 128
  refine (rule2 _).mono ?_
  rintro e w1 ⟨rfl, g1⟩
  have hr := row_later g1 (heap_alloc_new _ _)
  have r0 := cell_of_row w1 _ 0 _ _ _ hr
  have r1 := cell_of_row w1 _ 1 _ _ _ hr
  have r2 := cell_of_row w1 _ 2 _ _ _ hr
  have r3 := cell_of_row w1 _ 3 _ _ _ hr
  have r4 := cell_of_row w1 _ 4 _ _ _ hr
  have r5 := cell_of_row w1 _ 5 _ _ _ hr
  have r6 := cell_of_row w1 _ 6 _ _ _ hr
  have r7 := cell_of_row w1 _ 7 _ _ _ hr
  have hs1 : W.heap.size < w1.heap.size := by have := g1.size; simp only [World.size_alloc] at this; omega
  have G1 := Lib.hid (gby_trans (gby_alloc (gby_refl W none) _) g1)
  clear hr g1
  go_wp2_with (go_at_call 129; refine (pid_yes _ _ (by omega) (by omega)).mono ?_; rintro e w' ⟨rfl, rfl⟩)
  go_at_call 130
  refine (areWords_any _ _ _ _ _ (HI.out.kept (gby_alloc G1.out _)) hl).mono ?_
  rintro e w' ⟨rfl, rfl⟩
  have hd : decide (AreW xs) = false := decide_eq_false hx
  rw [hd]
  go_wp2
  go_ret
  exact ⟨rfl, gby_alloc G1.out _⟩

set_option maxHeartbeats 1000000 in
theorem implPk2_noW (W : World) (f t a l g s : Int) (d : Option Addr) (len cap : Nat) (xs : List Int) (H : ISl W d len xs) (hl : len ≤ 1048576) (hf : 0 ≤ f ∧ f ≤ 255) (hx : AreW xs) (hw : ¬ W2 t a l g s len) :
    Calls Try.prog 107 #[pkV 2 f t a l g s d len cap] W (AnsG (.bool false) W) := by
  have HI := Lib.hid H
  have HW := Lib.hid hw
  obtain ⟨f0, f1⟩ := hf
  clear H hw
  unfold pkV
  go_enter Try.func107, Try.ntmps107
  go_wp2_with fail
  go_at_call 128
  refine (rule2 _).mono ?_
  rintro e w1 ⟨rfl, g1⟩
  have hr := row_later g1 (heap_alloc_new _ _)
  have r0 := cell_of_row w1 _ 0 _ _ _ hr
  have r1 := cell_of_row w1 _ 1 _ _ _ hr
  have r2 := cell_of_row w1 _ 2 _ _ _ hr
  have r3 := cell_of_row w1 _ 3 _ _ _ hr
  have r4 := cell_of_row w1 _ 4 _ _ _ hr
  have r5 := cell_of_row w1 _ 5 _ _ _ hr
  have r6 := cell_of_row w1 _ 6 _ _ _ hr
  have r7 := cell_of_row w1 _ 7 _ _ _ hr
  have hs1 : W.heap.size < w1.heap.size := by have := g1.size; simp only [World.size_alloc] at this; omega
  have G1 := Lib.hid (gby_trans (gby_alloc (gby_refl W none) _) g1)
  clear hr g1
  go_wp2_with (go_at_call 129; refine (pid_yes _ _ (by omega) (by omega)).mono ?_; rintro e w' ⟨rfl, rfl⟩)
  go_at_call 130
  refine (areWords_any _ _ _ _ _ (HI.out.kept (gby_alloc G1.out _)) hl).mono ?_
  rintro e w' ⟨rfl, rfl⟩
  have hd : decide (AreW xs) = true := decide_eq_true hx
  rw [hd]
  go_wp2_with fail
  go_at_call 132
  refine (checkMessage_no _ f t a l g s d len cap hl HW.out).mono ?_
  rintro e w2 ⟨rfl, g2⟩
  have G2 := Lib.hid (gby_trans (gby_alloc G1.out _) g2)
  clear g2
  go_wp2
  go_ret
  exact ⟨rfl, G2.out⟩

set_option maxHeartbeats 1000000 in
theorem implPk3_yes (W : World) (f t a l g s : Int) (d : Option Addr) (len cap : Nat) (xs : List Int) (H : ISl W d len xs) (hl : len ≤ 1048576) (hf : 0 ≤ f ∧ f ≤ 255) (hx : AreW xs) (hw : W3 t a l g s len) :
    Calls Try.prog 107 #[pkV 3 f t a l g s d len cap] W (AnsG (.bool true) W) := by
  have HI := Lib.hid H
  have HW := Lib.hid hw
  obtain ⟨f0, f1⟩ := hf
  clear H hw
  unfold pkV
  go_enter Try.func107, Try.ntmps107
  go_wp2_with fail
  go_at_call 128
  refine (rule3 _).mono ?_
  rintro e w1 ⟨rfl, g1⟩
  have hr := row_later g1 (heap_alloc_new _ _)
  have r0 := cell_of_row w1 _ 0 _ _ _ hr
  have r1 := cell_of_row w1 _ 1 _ _ _ hr
  have r2 := cell_of_row w1 _ 2 _ _ _ hr
  have r3 := cell_of_row w1 _ 3 _ _ _ hr
  have r4 := cell_of_row w1 _ 4 _ _ _ hr
  have r5 := cell_of_row w1 _ 5 _ _ _ hr
  have r6 := cell_of_row w1 _ 6 _ _ _ hr
  have r7 := cell_of_row w1 _ 7 _ _ _ hr
  have hs1 : W.heap.size < w1.heap.size := by have := g1.size; simp only [World.size_alloc] at this; omega
  have G1 := Lib.hid (gby_trans (gby_alloc (gby_refl W none) _) g1)
  clear hr g1
  go_wp2_with (go_at_call 129; refine (pid_yes _ _ (by omega) (by omega)).mono ?_; rintro e w' ⟨rfl, rfl⟩)
  go_at_call 130
  refine (areWords_any _ _ _ _ _ (HI.out.kept (gby_alloc G1.out _)) hl).mono ?_
  rintro e w' ⟨rfl, rfl⟩
  have hd : decide (AreW xs) = true := decide_eq_true hx
  rw [hd]
  go_wp2_with fail
  go_at_call 133
  refine (checkRead_yes _ f t a l g s d len cap HW.out).mono ?_
  rintro e w2 ⟨rfl, g2⟩
  have G2 := Lib.hid (gby_trans (gby_alloc G1.out _) g2)
  clear g2
  go_wp2
  go_ret
  exact ⟨rfl, G2.out⟩

set_option maxHeartbeats 1000000 in
theorem implPk3_noF (W : World) (f t a l g s : Int) (d : Option Addr) (len cap : Nat) (xs : List Int) (H : ISl W d len xs) (_hl : len ≤ 1048576) (hf : f < 0 ∨ 255 < f) :
    Calls Try.prog 107 #[pkV 3 f t a l g s d len cap] W (AnsG (.bool false) W) := by
  have HI := Lib.hid H
  have HF := Lib.hid hf
  clear H hf
  unfold pkV
  go_enter Try.func107, Try.ntmps107
  go_wp2_with fail
  go_at_call 128
  refine (rule3 _).mono ?_
  rintro e w1 ⟨rfl, g1⟩
  have hr := row_later g1 (heap_alloc_new _ _)
  have r0 := cell_of_row w1 _ 0 _ _ _ hr
  have r1 := cell_of_row w1 _ 1 _ _ _ hr
  have r2 := cell_of_row w1 _ 2 _ _ _ hr
  have r3 := cell_of_row w1 _ 3 _ _ _ hr
  have r4 := cell_of_row w1 _ 4 _ _ _ hr
  have r5 := cell_of_row w1 _ 5 _ _ _ hr
  have r6 := cell_of_row w1 _ 6 _ _ _ hr
  have r7 := cell_of_row w1 _ 7 _ _ _ hr
  have hs1 : W.heap.size < w1.heap.size := by have := g1.size; simp only [World.size_alloc] at this; omega
  have G1 := Lib.hid (gby_trans (gby_alloc (gby_refl W none) _) g1)
  clear hr g1
  go_wp2_with (go_at_call 129; refine (pid_no _ _ HF.out).mono ?_; rintro e w' ⟨rfl, rfl⟩)
  go_ret
  exact ⟨rfl, gby_alloc G1.out _⟩

set_option maxHeartbeats 1000000 in
theorem implPk3_noX (W : World) (f t a l g s : Int) (d : Option Addr) (len cap : Nat) (xs : List Int) (H : ISl W d len xs) (hl : len ≤ 1048576) (hf : 0 ≤ f ∧ f ≤ 255) (hx : ¬ AreW xs) :
    Calls Try.prog 107 #[pkV 3 f t a l g s d len cap] W (AnsG (.bool false) W) := by
  have HI := Lib.hid H
  obtain ⟨f0, f1⟩ := hf
  clear H
  unfold pkV
  go_enter Try.func107, Try.ntmps107
  go_wp2_with fail
  go_at_call 128
  refine (rule3 _).mono ?_
  rintro e w1 ⟨rfl, g1⟩
  have hr := row_later g1 (heap_alloc_new _ _)
  have r0 := cell_of_row w1 _ 0 _ _ _ hr
  have r1 := cell_of_row w1 _ 1 _ _ _ hr
  have r2 := cell_of_row w1 _ 2 _ _ _ hr
  have r3 := cell_of_row w1 _ 3 _ _ _ hr
  have r4 := cell_of_row w1 _ 4 _ _ _ hr
  have r5 := cell_of_row w1 _ 5 _ _ _ hr
  have r6 := cell_of_row w1 _ 6 _ _ _ hr
  have r7 := cell_of_row w1 _ 7 _ _ _ hr
  have hs1 : W.heap.size < w1.heap.size := by have := g1.size; simp only [World.size_alloc] at this; omega
  have G1 := Lib.hid (gby_trans (gby_alloc (gby_refl W none) _) g1)
  clear hr g1
  go_wp2_with (go_at_call 129; refine (pid_yes _ _ (by omega) (by omega)).mono ?_; rintro e w' ⟨rfl, rfl⟩)
  go_at_call 130
  refine (areWords_any _ _ _ _ _ (HI.out.kept (gby_alloc G1.out _)) hl).mono ?_
  rintro e w' ⟨rfl, rfl⟩
  have hd : decide (AreW xs) = false := decide_eq_false hx
  rw [hd]
  go_wp2
  go_ret
  exact ⟨rfl, gby_alloc G1.out _⟩

set_option maxHeartbeats 1000000 in
theorem implPk3_noW (W : World) (f t a l g s : Int) (d : Option Addr) (len cap : Nat) (xs : List Int) (H : ISl W d len xs) (hl : len ≤ 1048576) (hf : 0 ≤ f ∧ f ≤ 255) (hx : AreW xs) (hw : ¬ W3 t a l g s len) :
    Calls Try.prog 107 #[pkV 3 f t a l g s d len cap] W (AnsG (.bool false) W) := by
  have HI := Lib.hid H
  have HW := Lib.hid hw
  obtain ⟨f0, f1⟩ := hf
  clear H hw
  unfold pkV
  go_enter Try.func107, Try.ntmps107
  go_wp2_with fail
  go_at_call 128
  refine (rule3 _).mono ?_
  rintro e w1 ⟨rfl, g1⟩
  have hr := row_later g1 (heap_alloc_new _ _)
  have r0 := cell_of_row w1 _ 0 _ _ _ hr
  have r1 := cell_of_row w1 _ 1 _ _ _ hr
  have r2 := cell_of_row w1 _ 2 _ _ _ hr
  have r3 := cell_of_row w1 _ 3 _ _ _ hr
  have r4 := cell_of_row w1 _ 4 _ _ _ hr
  have r5 := cell_of_row w1 _ 5 _ _ _ hr
  have r6 := cell_of_row w1 _ 6 _ _ _ hr
  have r7 := cell_of_row w1 _ 7 _ _ _ hr
  have hs1 : W.heap.size < w1.heap.size := by have := g1.size; simp only [World.size_alloc] at this; omega
  have G1 := Lib.hid (gby_trans (gby_alloc (gby_refl W none) _) g1)
  clear hr g1
  go_wp2_with (go_at_call 129; refine (pid_yes _ _ (by omega) (by omega)).mono ?_; rintro e w' ⟨rfl, rfl⟩)
  go_at_call 130
  refine (areWords_any _ _ _ _ _ (HI.out.kept (gby_alloc G1.out _)) hl).mono ?_
  rintro e w' ⟨rfl, rfl⟩
  have hd : decide (AreW xs) = true := decide_eq_true hx
  rw [hd]
  go_wp2_with fail
  go_at_call 133
  refine (checkRead_no _ f t a l g s d len cap hl HW.out).mono ?_
  rintro e w2 ⟨rfl, g2⟩
  have G2 := Lib.hid (gby_trans (gby_alloc G1.out _) g2)
  clear g2
  go_wp2
  go_ret
  exact ⟨rfl, G2.out⟩

set_option maxHeartbeats 1000000 in
theorem implPk4_yes (W : World) (f t a l g s : Int) (d : Option Addr) (len cap : Nat) (xs : List Int) (H : ISl W d len xs) (hl : len ≤ 1048576) (hf : 0 ≤ f ∧ f ≤ 255) (hx : AreW xs) (hw : W4 t a l g s len) :
    Calls Try.prog 107 #[pkV 4 f t a l g s d len cap] W (AnsG (.bool true) W) := by
  have HI := Lib.hid H
  have HW := Lib.hid hw
  obtain ⟨f0, f1⟩ := hf
  clear H hw
  unfold pkV
  go_enter Try.func107, Try.ntmps107
  go_wp2_with fail
  go_at_call 128
  refine (rule4 _).mono ?_
  rintro e w1 ⟨rfl, g1⟩
  have hr := row_later g1 (heap_alloc_new _ _)
  have r0 := cell_of_row w1 _ 0 _ _ _ hr
  have r1 := cell_of_row w1 _ 1 _ _ _ hr
  have r2 := cell_of_row w1 _ 2 _ _ _ hr
  have r3 := cell_of_row w1 _ 3 _ _ _ hr
  have r4 := cell_of_row w1 _ 4 _ _ _ hr
  have r5 := cell_of_row w1 _ 5 _ _ _ hr
  have r6 := cell_of_row w1 _ 6 _ _ _ hr
  have r7 := cell_of_row w1 _ 7 _ _ _ hr
  have hs1 : W.heap.size < w1.heap.size := by have := g1.size; simp only [World.size_alloc] at this; omega
  have G1 := Lib.hid (gby_trans (gby_alloc (gby_refl W none) _) g1)
  clear hr g1
  go_wp2_with (go_at_call 129; refine (pid_yes _ _ (by omega) (by omega)).mono ?_; rintro e w' ⟨rfl, rfl⟩)
  go_at_call 130
  refine (areWords_any _ _ _ _ _ (HI.out.kept (gby_alloc G1.out _)) hl).mono ?_
  rintro e w' ⟨rfl, rfl⟩
  have hd : decide (AreW xs) = true := decide_eq_true hx
  rw [hd]
  go_wp2_with fail
  go_at_call 134
  refine (checkConfigRead_yes _ f t a l g s d len cap HW.out).mono ?_
  rintro e w2 ⟨rfl, g2⟩
  have G2 := Lib.hid (gby_trans (gby_alloc G1.out _) g2)
  clear g2
  go_wp2
  go_ret
  exact ⟨rfl, G2.out⟩

set_option maxHeartbeats 1000000 in
theorem implPk4_noF (W : World) (f t a l g s : Int) (d : Option Addr) (len cap : Nat) (xs : List Int) (H : ISl W d len xs) (_hl : len ≤ 1048576) (hf : f < 0 ∨ 255 < f) :
    Calls Try.prog 107 #[pkV 4 f t a l g s d len cap] W (AnsG (.bool false) W) := by
  have HI := Lib.hid H
  have HF := Lib.hid hf
  clear H hf
  unfold pkV
  go_enter Try.func107, Try.ntmps107
  go_wp2_with fail
  go_at_call 128
  refine (rule4 _).mono ?_
  rintro e w1 ⟨rfl, g1⟩
  have hr := row_later g1 (heap_alloc_new _ _)
  have r0 := cell_of_row w1 _ 0 _ _ _ hr
  have r1 := cell_of_row w1 _ 1 _ _ _ hr
  have r2 := cell_of_row w1 _ 2 _ _ _ hr
  have r3 := cell_of_row w1 _ 3 _ _ _ hr
  have r4 := cell_of_row w1 _ 4 _ _ _ hr
  have r5 := cell_of_row w1 _ 5 _ _ _ hr
  have r6 := cell_of_row w1 _ 6 _ _ _ hr
  have r7 := cell_of_row w1 _ 7 _ _ _ hr
  have hs1 : W.heap.size < w1.heap.size := by have := g1.size; simp only [World.size_alloc] at this; omega
  have G1 := Lib.hid (gby_trans (gby_alloc (gby_refl W none) _) g1)
  clear hr g1
  go_wp2_with (go_at_call 129; refine (pid_no _ _ HF.out).mono ?_; rintro e w' ⟨rfl, rfl⟩)
  go_ret
  exact ⟨rfl, gby_alloc G1.out _⟩

set_option maxHeartbeats 1000000 in
theorem implPk4_noX (W : World) (f t a l g s : Int) (d : Option Addr) (len cap : Nat) (xs : List Int) (H : ISl W d len xs) (hl : len ≤ 1048576) (hf : 0 ≤ f ∧ f ≤ 255) (hx : ¬ AreW xs) :
    Calls Try.prog 107 #[pkV 4 f t a l g s d len cap] W (AnsG (.bool false) W) := by
  have HI := Lib.hid H
  obtain ⟨f0, f1⟩ := hf
  clear H
  unfold pkV
  go_enter Try.func107, Try.ntmps107
  go_wp2_with fail
  go_at_call 128
  refine (rule4 _).mono ?_
  rintro e w1 ⟨rfl, g1⟩
  have hr := row_later g1 (heap_alloc_new _ _)
  have r0 := cell_of_row w1 _ 0 _ _ _ hr
  have r1 := cell_of_row w1 _ 1 _ _ _ hr
  have r2 := cell_of_row w1 _ 2 _ _ _ hr
  have r3 := cell_of_row w1 _ 3 _ _ _ hr
  have r4 := cell_of_row w1 _ 4 _ _ _ hr
  have r5 := cell_of_row w1 _ 5 _ _ _ hr
  have r6 := cell_of_row w1 _ 6 _ _ _ hr
  have r7 := cell_of_row w1 _ 7 _ _ _ hr
  have hs1 : W.heap.size < w1.heap.size := by have := g1.size; simp only [World.size_alloc] at this; omega
  have G1 := Lib.hid (gby_trans (gby_alloc (gby_refl W none) _) g1)
  clear hr g1
  go_wp2_with (go_at_call 129; refine (pid_yes _ _ (by omega) (by omega)).mono ?_; rintro e w' ⟨rfl, rfl⟩)
  go_at_call 130
  refine (areWords_any _ _ _ _ _ (HI.out.kept (gby_alloc G1.out _)) hl).mono ?_
  rintro e w' ⟨rfl, rfl⟩
  have hd : decide (AreW xs) = false := decide_eq_false hx
  rw [hd]
  go_wp2
  go_ret
  exact ⟨rfl, gby_alloc G1.out _⟩

set_option maxHeartbeats 1000000 in
theorem implPk4_noW (W : World) (f t a l g s : Int) (d : Option Addr) (len cap : Nat) (xs : List Int) (H : ISl W d len xs) (hl : len ≤ 1048576) (hf : 0 ≤ f ∧ f ≤ 255) (hx : AreW xs) (hw : ¬ W4 t a l g s len) :
    Calls Try.prog 107 #[pkV 4 f t a l g s d len cap] W (AnsG (.bool false) W) := by
  have HI := Lib.hid H
  have HW := Lib.hid hw
  obtain ⟨f0, f1⟩ := hf
  clear H hw
  unfold pkV
  go_enter Try.func107, Try.ntmps107
  go_wp2_with fail
  go_at_call 128
  refine (rule4 _).mono ?_
  rintro e w1 ⟨rfl, g1⟩
  have hr := row_later g1 (heap_alloc_new _ _)
  have r0 := cell_of_row w1 _ 0 _ _ _ hr
  have r1 := cell_of_row w1 _ 1 _ _ _ hr
  have r2 := cell_of_row w1 _ 2 _ _ _ hr
  have r3 := cell_of_row w1 _ 3 _ _ _ hr
  have r4 := cell_of_row w1 _ 4 _ _ _ hr
  have r5 := cell_of_row w1 _ 5 _ _ _ hr
  have r6 := cell_of_row w1 _ 6 _ _ _ hr
  have r7 := cell_of_row w1 _ 7 _ _ _ hr
  have hs1 : W.heap.size < w1.heap.size := by have := g1.size; simp only [World.size_alloc] at this; omega
  have G1 := Lib.hid (gby_trans (gby_alloc (gby_refl W none) _) g1)
  clear hr g1
  go_wp2_with (go_at_call 129; refine (pid_yes _ _ (by omega) (by omega)).mono ?_; rintro e w' ⟨rfl, rfl⟩)
  go_at_call 130
  refine (areWords_any _ _ _ _ _ (HI.out.kept (gby_alloc G1.out _)) hl).mono ?_
  rintro e w' ⟨rfl, rfl⟩
  have hd : decide (AreW xs) = true := decide_eq_true hx
  rw [hd]
  go_wp2_with fail
  go_at_call 134
  refine (checkConfigRead_no _ f t a l g s d len cap hl HW.out).mono ?_
  rintro e w2 ⟨rfl, g2⟩
  have G2 := Lib.hid (gby_trans (gby_alloc G1.out _) g2)
  clear g2
  go_wp2
  go_ret
  exact ⟨rfl, G2.out⟩

set_option maxHeartbeats 1000000 in
theorem implPk5_yes (W : World) (f t a l g s : Int) (d : Option Addr) (len cap : Nat) (xs : List Int) (H : ISl W d len xs) (hl : len ≤ 1048576) (hf : 0 ≤ f ∧ f ≤ 255) (hx : AreW xs) (hw : W5 t a l g s len) :
    Calls Try.prog 107 #[pkV 5 f t a l g s d len cap] W (AnsG (.bool true) W) := by
  have HI := Lib.hid H
  have HW := Lib.hid hw
  obtain ⟨f0, f1⟩ := hf
  clear H hw
  unfold pkV
  go_enter Try.func107, Try.ntmps107
  go_wp2_with fail
  go_at_call 128
  refine (rule5 _).mono ?_
  rintro e w1 ⟨rfl, g1⟩
  have hr := row_later g1 (heap_alloc_new _ _)
  have r0 := cell_of_row w1 _ 0 _ _ _ hr
  have r1 := cell_of_row w1 _ 1 _ _ _ hr
  have r2 := cell_of_row w1 _ 2 _ _ _ hr
  have r3 := cell_of_row w1 _ 3 _ _ _ hr
  have r4 := cell_of_row w1 _ 4 _ _ _ hr
  have r5 := cell_of_row w1 _ 5 _ _ _ hr
  have r6 := cell_of_row w1 _ 6 _ _ _ hr
  have r7 := cell_of_row w1 _ 7 _ _ _ hr
  have hs1 : W.heap.size < w1.heap.size := by have := g1.size; simp only [World.size_alloc] at this; omega
  have G1 := Lib.hid (gby_trans (gby_alloc (gby_refl W none) _) g1)
  clear hr g1
  go_wp2_with (go_at_call 129; refine (pid_yes _ _ (by omega) (by omega)).mono ?_; rintro e w' ⟨rfl, rfl⟩)
  go_at_call 130
  refine (areWords_any _ _ _ _ _ (HI.out.kept (gby_alloc G1.out _)) hl).mono ?_
  rintro e w' ⟨rfl, rfl⟩
  have hd : decide (AreW xs) = true := decide_eq_true hx
  rw [hd]
  go_wp2_with fail
  go_at_call 135
  refine (checkConfigWrite_yes _ f t a l g s d len cap HW.out).mono ?_
  rintro e w2 ⟨rfl, g2⟩
  have G2 := Lib.hid (gby_trans (gby_alloc G1.out _) g2)
  clear g2
  go_wp2
  go_ret
  exact ⟨rfl, G2.out⟩

set_option maxHeartbeats 1000000 in
theorem implPk5_noF (W : World) (f t a l g s : Int) (d : Option Addr) (len cap : Nat) (xs : List Int) (H : ISl W d len xs) (_hl : len ≤ 1048576) (hf : f < 0 ∨ 255 < f) :
    Calls Try.prog 107 #[pkV 5 f t a l g s d len cap] W (AnsG (.bool false) W) := by
  have HI := Lib.hid H
  have HF := Lib.hid hf
  clear H hf
  unfold pkV
  go_enter Try.func107, Try.ntmps107
  go_wp2_with fail
  go_at_call 128
  refine (rule5 _).mono ?_
  rintro e w1 ⟨rfl, g1⟩
  have hr := row_later g1 (heap_alloc_new _ _)
  have r0 := cell_of_row w1 _ 0 _ _ _ hr
  have r1 := cell_of_row w1 _ 1 _ _ _ hr
  have r2 := cell_of_row w1 _ 2 _ _ _ hr
  have r3 := cell_of_row w1 _ 3 _ _ _ hr
  have r4 := cell_of_row w1 _ 4 _ _ _ hr
  have r5 := cell_of_row w1 _ 5 _ _ _ hr
  have r6 := cell_of_row w1 _ 6 _ _ _ hr
  have r7 := cell_of_row w1 _ 7 _ _ _ hr
  have hs1 : W.heap.size < w1.heap.size := by have := g1.size; simp only [World.size_alloc] at this; omega
  have G1 := Lib.hid (gby_trans (gby_alloc (gby_refl W none) _) g1)
  clear hr g1
  go_wp2_with (go_at_call 129; refine (pid_no _ _ HF.out).mono ?_; rintro e w' ⟨rfl, rfl⟩)
  go_ret
  exact ⟨rfl, gby_alloc G1.out _⟩

set_option maxHeartbeats 1000000 in
theorem implPk5_noX (W : World) (f t a l g s : Int) (d : Option Addr) (len cap : Nat) (xs : List Int) (H : ISl W d len xs) (hl : len ≤ 1048576) (hf : 0 ≤ f ∧ f ≤ 255) (hx : ¬ AreW xs) :
    Calls Try.prog 107 #[pkV 5 f t a l g s d len cap] W (AnsG (.bool false) W) := by
  have HI := Lib.hid H
  obtain ⟨f0, f1⟩ := hf
  clear H
  unfold pkV
  go_enter Try.func107, Try.ntmps107
  go_wp2_with fail
  go_at_call 128
  refine (rule5 _).mono ?_
  rintro e w1 ⟨rfl, g1⟩
  have hr := row_later g1 (heap_alloc_new _ _)
  have r0 := cell_of_row w1 _ 0 _ _ _ hr
  have r1 := cell_of_row w1 _ 1 _ _ _ hr
  have r2 := cell_of_row w1 _ 2 _ _ _ hr
  have r3 := cell_of_row w1 _ 3 _ _ _ hr
  have r4 := cell_of_row w1 _ 4 _ _ _ hr
  have r5 := cell_of_row w1 _ 5 _ _ _ hr
  have r6 := cell_of_row w1 _ 6 _ _ _ hr
  have r7 := cell_of_row w1 _ 7 _ _ _ hr
  have hs1 : W.heap.size < w1.heap.size := by have := g1.size; simp only [World.size_alloc] at this; omega
  have G1 := Lib.hid (gby_trans (gby_alloc (gby_refl W none) _) g1)
  clear hr g1
  go_wp2_with (go_at_call 129; refine (pid_yes _ _ (by omega) (by omega)).mono ?_; rintro e w' ⟨rfl, rfl⟩)
  go_at_call 130
  refine (areWords_any _ _ _ _ _ (HI.out.kept (gby_alloc G1.out _)) hl).mono ?_
  rintro e w' ⟨rfl, rfl⟩
  have hd : decide (AreW xs) = false := decide_eq_false hx
  rw [hd]
  go_wp2
  go_ret
  exact ⟨rfl, gby_alloc G1.out _⟩

set_option maxHeartbeats 1000000 in
theorem implPk5_noW (W : World) (f t a l g s : Int) (d : Option Addr) (len cap : Nat) (xs : List Int) (H : ISl W d len xs) (hl : len ≤ 1048576) (hf : 0 ≤ f ∧ f ≤ 255) (hx : AreW xs) (hw : ¬ W5 t a l g s len) :
    Calls Try.prog 107 #[pkV 5 f t a l g s d len cap] W (AnsG (.bool false) W) := by
  have HI := Lib.hid H
  have HW := Lib.hid hw
  obtain ⟨f0, f1⟩ := hf
  clear H hw
  unfold pkV
  go_enter Try.func107, Try.ntmps107
  go_wp2_with fail
  go_at_call 128
  refine (rule5 _).mono ?_
  rintro e w1 ⟨rfl, g1⟩
  have hr := row_later g1 (heap_alloc_new _ _)
  have r0 := cell_of_row w1 _ 0 _ _ _ hr
  have r1 := cell_of_row w1 _ 1 _ _ _ hr
  have r2 := cell_of_row w1 _ 2 _ _ _ hr
  have r3 := cell_of_row w1 _ 3 _ _ _ hr
  have r4 := cell_of_row w1 _ 4 _ _ _ hr
  have r5 := cell_of_row w1 _ 5 _ _ _ hr
  have r6 := cell_of_row w1 _ 6 _ _ _ hr
  have r7 := cell_of_row w1 _ 7 _ _ _ hr
  have hs1 : W.heap.size < w1.heap.size := by have := g1.size; simp only [World.size_alloc] at this; omega
  have G1 := Lib.hid (gby_trans (gby_alloc (gby_refl W none) _) g1)
  clear hr g1
  go_wp2_with (go_at_call 129; refine (pid_yes _ _ (by omega) (by omega)).mono ?_; rintro e w' ⟨rfl, rfl⟩)
  go_at_call 130
  refine (areWords_any _ _ _ _ _ (HI.out.kept (gby_alloc G1.out _)) hl).mono ?_
  rintro e w' ⟨rfl, rfl⟩
  have hd : decide (AreW xs) = true := decide_eq_true hx
  rw [hd]
  go_wp2_with fail
  go_at_call 135
  refine (checkConfigWrite_no _ f t a l g s d len cap hl HW.out).mono ?_
  rintro e w2 ⟨rfl, g2⟩
  have G2 := Lib.hid (gby_trans (gby_alloc G1.out _) g2)
  clear g2
  go_wp2
  go_ret
  exact ⟨rfl, G2.out⟩

set_option maxHeartbeats 1000000 in
theorem implPk6_yes (W : World) (f t a l g s : Int) (d : Option Addr) (len cap : Nat) (xs : List Int) (H : ISl W d len xs) (hl : len ≤ 1048576) (hf : 0 ≤ f ∧ f ≤ 255) (hx : AreW xs) (hw : W6 t a l g s len) :
    Calls Try.prog 107 #[pkV 6 f t a l g s d len cap] W (AnsG (.bool true) W) := by
  have HI := Lib.hid H
  have HW := Lib.hid hw
  obtain ⟨f0, f1⟩ := hf
  clear H hw
  unfold pkV
  go_enter Try.func107, Try.ntmps107
  go_wp2_with fail
  go_at_call 128
  refine (rule6 _).mono ?_
  rintro e w1 ⟨rfl, g1⟩
  have hr := row_later g1 (heap_alloc_new _ _)
  have r0 := cell_of_row w1 _ 0 _ _ _ hr
  have r1 := cell_of_row w1 _ 1 _ _ _ hr
  have r2 := cell_of_row w1 _ 2 _ _ _ hr
  have r3 := cell_of_row w1 _ 3 _ _ _ hr
  have r4 := cell_of_row w1 _ 4 _ _ _ hr
  have r5 := cell_of_row w1 _ 5 _ _ _ hr
  have r6 := cell_of_row w1 _ 6 _ _ _ hr
  have r7 := cell_of_row w1 _ 7 _ _ _ hr
  have hs1 : W.heap.size < w1.heap.size := by have := g1.size; simp only [World.size_alloc] at this; omega
  have G1 := Lib.hid (gby_trans (gby_alloc (gby_refl W none) _) g1)
  clear hr g1
  go_wp2_with (go_at_call 129; refine (pid_yes _ _ (by omega) (by omega)).mono ?_; rintro e w' ⟨rfl, rfl⟩)
  go_at_call 130
  refine (areWords_any _ _ _ _ _ (HI.out.kept (gby_alloc G1.out _)) hl).mono ?_
  rintro e w' ⟨rfl, rfl⟩
  have hd : decide (AreW xs) = true := decide_eq_true hx
  rw [hd]
  go_wp2_with fail
  go_at_call 136
  refine (checkCompletion_yes _ f t a l g s d len cap HW.out).mono ?_
  rintro e w2 ⟨rfl, g2⟩
  have G2 := Lib.hid (gby_trans (gby_alloc G1.out _) g2)
  clear g2
  go_wp2
  go_ret
  exact ⟨rfl, G2.out⟩

set_option maxHeartbeats 1000000 in
theorem implPk6_noF (W : World) (f t a l g s : Int) (d : Option Addr) (len cap : Nat) (xs : List Int) (H : ISl W d len xs) (_hl : len ≤ 1048576) (hf : f < 0 ∨ 255 < f) :
    Calls Try.prog 107 #[pkV 6 f t a l g s d len cap] W (AnsG (.bool false) W) := by
  have HI := Lib.hid H
  have HF := Lib.hid hf
  clear H hf
  unfold pkV
  go_enter Try.func107, Try.ntmps107
  go_wp2_with fail
  go_at_call 128
  refine (rule6 _).mono ?_
  rintro e w1 ⟨rfl, g1⟩
  have hr := row_later g1 (heap_alloc_new _ _)
  have r0 := cell_of_row w1 _ 0 _ _ _ hr
  have r1 := cell_of_row w1 _ 1 _ _ _ hr
  have r2 := cell_of_row w1 _ 2 _ _ _ hr
  have r3 := cell_of_row w1 _ 3 _ _ _ hr
  have r4 := cell_of_row w1 _ 4 _ _ _ hr
  have r5 := cell_of_row w1 _ 5 _ _ _ hr
  have r6 := cell_of_row w1 _ 6 _ _ _ hr
  have r7 := cell_of_row w1 _ 7 _ _ _ hr
  have hs1 : W.heap.size < w1.heap.size := by have := g1.size; simp only [World.size_alloc] at this; omega
  have G1 := Lib.hid (gby_trans (gby_alloc (gby_refl W none) _) g1)
  clear hr g1
  go_wp2_with (go_at_call 129; refine (pid_no _ _ HF.out).mono ?_; rintro e w' ⟨rfl, rfl⟩)
  go_ret
  exact ⟨rfl, gby_alloc G1.out _⟩

set_option maxHeartbeats 1000000 in
theorem implPk6_noX (W : World) (f t a l g s : Int) (d : Option Addr) (len cap : Nat) (xs : List Int) (H : ISl W d len xs) (hl : len ≤ 1048576) (hf : 0 ≤ f ∧ f ≤ 255) (hx : ¬ AreW xs) :
    Calls Try.prog 107 #[pkV 6 f t a l g s d len cap] W (AnsG (.bool false) W) := by
  have HI := Lib.hid H
  obtain ⟨f0, f1⟩ := hf
  clear H
  unfold pkV
  go_enter Try.func107, Try.ntmps107
  go_wp2_with fail
  go_at_call 128
  refine (rule6 _).mono ?_
  rintro e w1 ⟨rfl, g1⟩
  have hr := row_later g1 (heap_alloc_new _ _)
  have r0 := cell_of_row w1 _ 0 _ _ _ hr
  have r1 := cell_of_row w1 _ 1 _ _ _ hr
  have r2 := cell_of_row w1 _ 2 _ _ _ hr
  have r3 := cell_of_row w1 _ 3 _ _ _ hr
  have r4 := cell_of_row w1 _ 4 _ _ _ hr
  have r5 := cell_of_row w1 _ 5 _ _ _ hr
  have r6 := cell_of_row w1 _ 6 _ _ _ hr
  have r7 := cell_of_row w1 _ 7 _ _ _ hr
  have hs1 : W.heap.size < w1.heap.size := by have := g1.size; simp only [World.size_alloc] at this; omega
  have G1 := Lib.hid (gby_trans (gby_alloc (gby_refl W none) _) g1)
  clear hr g1
  go_wp2_with (go_at_call 129; refine (pid_yes _ _ (by omega) (by omega)).mono ?_; rintro e w' ⟨rfl, rfl⟩)
  go_at_call 130
  refine (areWords_any _ _ _ _ _ (HI.out.kept (gby_alloc G1.out _)) hl).mono ?_
  rintro e w' ⟨rfl, rfl⟩
  have hd : decide (AreW xs) = false := decide_eq_false hx
  rw [hd]
  go_wp2
  go_ret
  exact ⟨rfl, gby_alloc G1.out _⟩

set_option maxHeartbeats 1000000 in
theorem implPk6_noW (W : World) (f t a l g s : Int) (d : Option Addr) (len cap : Nat) (xs : List Int) (H : ISl W d len xs) (hl : len ≤ 1048576) (hf : 0 ≤ f ∧ f ≤ 255) (hx : AreW xs) (hw : ¬ W6 t a l g s len) :
    Calls Try.prog 107 #[pkV 6 f t a l g s d len cap] W (AnsG (.bool false) W) := by
  have HI := Lib.hid H
  have HW := Lib.hid hw
  obtain ⟨f0, f1⟩ := hf
  clear H hw
  unfold pkV
  go_enter Try.func107, Try.ntmps107
  go_wp2_with fail
  go_at_call 128
  refine (rule6 _).mono ?_
  rintro e w1 ⟨rfl, g1⟩
  have hr := row_later g1 (heap_alloc_new _ _)
  have r0 := cell_of_row w1 _ 0 _ _ _ hr
  have r1 := cell_of_row w1 _ 1 _ _ _ hr
  have r2 := cell_of_row w1 _ 2 _ _ _ hr
  have r3 := cell_of_row w1 _ 3 _ _ _ hr
  have r4 := cell_of_row w1 _ 4 _ _ _ hr
  have r5 := cell_of_row w1 _ 5 _ _ _ hr
  have r6 := cell_of_row w1 _ 6 _ _ _ hr
  have r7 := cell_of_row w1 _ 7 _ _ _ hr
  have hs1 : W.heap.size < w1.heap.size := by have := g1.size; simp only [World.size_alloc] at this; omega
  have G1 := Lib.hid (gby_trans (gby_alloc (gby_refl W none) _) g1)
  clear hr g1
  go_wp2_with (go_at_call 129; refine (pid_yes _ _ (by omega) (by omega)).mono ?_; rintro e w' ⟨rfl, rfl⟩)
  go_at_call 130
  refine (areWords_any _ _ _ _ _ (HI.out.kept (gby_alloc G1.out _)) hl).mono ?_
  rintro e w' ⟨rfl, rfl⟩
  have hd : decide (AreW xs) = true := decide_eq_true hx
  rw [hd]
  go_wp2_with fail
  go_at_call 136
  refine (checkCompletion_no _ f t a l g s d len cap hl HW.out).mono ?_
  rintro e w2 ⟨rfl, g2⟩
  have G2 := Lib.hid (gby_trans (gby_alloc G1.out _) g2)
  clear g2
  go_wp2
  go_ret
  exact ⟨rfl, G2.out⟩

set_option maxHeartbeats 1000000 in
theorem implPk_noK (k : Int) (W : World) (f t a l g s : Int) (d : Option Addr) (len cap : Nat) (hk : k < 1 ∨ 6 < k) :
    Calls Try.prog 107 #[pkV k f t a l g s d len cap] W (AnsG (.bool false) W) := by
  have HK := Lib.hid hk
  clear hk
  unfold pkV
  go_enter Try.func107, Try.ntmps107
  go_wp2_with fail
  go_at_call 128
  refine (rule_none _ _ HK.out).mono ?_
  rintro e w1 ⟨rfl, g1⟩
  have G1 := Lib.hid (gby_trans (gby_alloc (gby_refl W none) _) g1)
  clear g1
  go_wp2
  go_ret
  exact ⟨rfl, gby_alloc G1.out _⟩

theorem implPk_true (W : World) (k f t a l g s : Int) (d : Option Addr) (len cap : Nat) (xs : List Int) (H : ISl W d len xs) (hl : len ≤ 1048576) (h : PkOk k f t a l g s xs) :
    Calls Try.prog 107 #[pkV k f t a l g s d len cap] W (AnsG (.bool true) W) := by
  have e := H.1
  obtain ⟨hf, hx, hk⟩ := h
  rw [← e] at hk
  rcases hk with ⟨rfl, hw⟩ | ⟨rfl, hw⟩ | ⟨rfl, hw⟩ | ⟨rfl, hw⟩ | ⟨rfl, hw⟩ | ⟨rfl, hw⟩
  · exact implPk1_yes W f t a l g s d len cap xs H hl hf hx hw
  · exact implPk2_yes W f t a l g s d len cap xs H hl hf hx hw
  · exact implPk3_yes W f t a l g s d len cap xs H hl hf hx hw
  · exact implPk4_yes W f t a l g s d len cap xs H hl hf hx hw
  · exact implPk5_yes W f t a l g s d len cap xs H hl hf hx hw
  · exact implPk6_yes W f t a l g s d len cap xs H hl hf hx hw

theorem implPk_false (W : World) (k f t a l g s : Int) (d : Option Addr) (len cap : Nat) (xs : List Int) (H : ISl W d len xs) (hl : len ≤ 1048576) (h : ¬ PkOk k f t a l g s xs) :
    Calls Try.prog 107 #[pkV k f t a l g s d len cap] W (AnsG (.bool false) W) := by
  have e := H.1
  by_cases hk : k < 1 ∨ 6 < k
  · exact implPk_noK k W f t a l g s d len cap hk
  · rcases (show k = 1 ∨ k = 2 ∨ k = 3 ∨ k = 4 ∨ k = 5 ∨ k = 6 by omega) with rfl | rfl | rfl | rfl | rfl | rfl
    · by_cases hf : 0 ≤ f ∧ f ≤ 255
      · by_cases hx : AreW xs
        · refine implPk1_noW W f t a l g s d len cap xs H hl hf hx (fun hw => h ⟨hf, hx, ?_⟩)
          rw [← e]
          exact .inl ⟨rfl, hw⟩
        · exact implPk1_noX W f t a l g s d len cap xs H hl hf hx
      · exact implPk1_noF W f t a l g s d len cap xs H hl (by omega)
    · by_cases hf : 0 ≤ f ∧ f ≤ 255
      · by_cases hx : AreW xs
        · refine implPk2_noW W f t a l g s d len cap xs H hl hf hx (fun hw => h ⟨hf, hx, ?_⟩)
          rw [← e]
          exact .inr (.inl ⟨rfl, hw⟩)
        · exact implPk2_noX W f t a l g s d len cap xs H hl hf hx
      · exact implPk2_noF W f t a l g s d len cap xs H hl (by omega)
    · by_cases hf : 0 ≤ f ∧ f ≤ 255
      · by_cases hx : AreW xs
        · refine implPk3_noW W f t a l g s d len cap xs H hl hf hx (fun hw => h ⟨hf, hx, ?_⟩)
          rw [← e]
          exact .inr (.inr (.inl ⟨rfl, hw⟩))
        · exact implPk3_noX W f t a l g s d len cap xs H hl hf hx
      · exact implPk3_noF W f t a l g s d len cap xs H hl (by omega)
    · by_cases hf : 0 ≤ f ∧ f ≤ 255
      · by_cases hx : AreW xs
        · refine implPk4_noW W f t a l g s d len cap xs H hl hf hx (fun hw => h ⟨hf, hx, ?_⟩)
          rw [← e]
          exact .inr (.inr (.inr (.inl ⟨rfl, hw⟩)))
        · exact implPk4_noX W f t a l g s d len cap xs H hl hf hx
      · exact implPk4_noF W f t a l g s d len cap xs H hl (by omega)
    · by_cases hf : 0 ≤ f ∧ f ≤ 255
      · by_cases hx : AreW xs
        · refine implPk5_noW W f t a l g s d len cap xs H hl hf hx (fun hw => h ⟨hf, hx, ?_⟩)
          rw [← e]
          exact .inr (.inr (.inr (.inr (.inl ⟨rfl, hw⟩))))
        · exact implPk5_noX W f t a l g s d len cap xs H hl hf hx
      · exact implPk5_noF W f t a l g s d len cap xs H hl (by omega)
    · by_cases hf : 0 ≤ f ∧ f ≤ 255
      · by_cases hx : AreW xs
        · refine implPk6_noW W f t a l g s d len cap xs H hl hf hx (fun hw => h ⟨hf, hx, ?_⟩)
          rw [← e]
          exact .inr (.inr (.inr (.inr (.inr (⟨rfl, hw⟩)))))
        · exact implPk6_noX W f t a l g s d len cap xs H hl hf hx
      · exact implPk6_noF W f t a l g s d len cap xs H hl (by omega)

end Go.Proofs.Ytnighnkkeiegnaa
