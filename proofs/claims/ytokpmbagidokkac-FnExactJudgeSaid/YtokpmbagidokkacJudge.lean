/-
  Judge on both sides.
-/
import Derived.Test.YtokpmbagidokkacVerdict
namespace Go.Proofs.Ytokpmbagidokkac
open Go Go.RowKit

/-- what is made of a wire that holds a frame with the number y -/
def judgeV (y e : Int) : Int := if y = e then 0 else if OldQ y e then 1 else 2

set_option maxHeartbeats 1000000 in
theorem implJ_no (W : World) (q : Int) (a : Option Addr) (len cap : Nat) (L : List (List Int)) (v : Value) (H : RLL W a len L) (hl : len ≤ 1048576) (hb : ∀ x ∈ L, x.length ≤ 1048576) (h : ¬ ROk q L) :
    Calls Try.prog 27 #[rcV q a len cap, v] W (AnsN (.int .i64 3) W) := by
  have hd : decide (ROk q L) = false := decide_eq_false h
  have HR := Lib.hid H
  have HB := Lib.hid hb
  clear H hb h
  unfold rcV
  go_enter Try.func27, Try.ntmps27
  go_wp2_with fail
  go_at_call 59
  refine (implROk_any _ q a len cap L (HR.out.kept (gby_alloc (gby_refl _ _) _)) hl HB.out).mono ?_
  rw [hd]
  rintro e w1 ⟨rfl, g1⟩
  have G1 := Lib.hid (gby_trans (gby_alloc (gby_refl W none) _) g1)
  clear g1
  go_wp2
  go_ret
  exact ⟨rfl, G1.out⟩

set_option maxHeartbeats 1000000 in
theorem implJ_bad (W : World) (q : Int) (a : Option Addr) (len cap : Nat) (L : List (List Int)) (v : Value) (xs : List Int) (y : Int) (ys : List Int) (H : RLL W a len L) (hl : len ≤ 1048576) (hb : ∀ x ∈ L, x.length ≤ 1048576) (HV : RdI W v xs) (ht : ∀ (W : World) (v : Value), RdI W v xs → Calls Try.prog 22 #[v] W (FrB y ys false W)) (h : ROk q L)  :
    Calls Try.prog 27 #[rcV q a len cap, v] W (AnsN (.int .i64 3) W) := by
  have hd : decide (ROk q L) = true := decide_eq_true h
  have HR := Lib.hid H
  have HB := Lib.hid hb
  have HX := Lib.hid HV
  have HZ := Lib.hid (fun (W : World) (HV : RdI W v xs) => verd_bad W q a len cap v xs y ys HV ht)
  clear H hb h HV ht
  unfold rcV
  go_enter Try.func27, Try.ntmps27
  go_wp2_with fail
  go_at_call 59
  refine (implROk_any _ q a len cap L (HR.out.kept (gby_alloc (gby_refl _ _) _)) hl HB.out).mono ?_
  rw [hd]
  rintro e w1 ⟨rfl, g1⟩
  have hr0 := row_held g1 (heap_alloc_new W _)
  obtain ⟨r0, r1⟩ := rc_cell2 hr0
  have G1 := Lib.hid (gby_trans (gby_alloc (gby_refl W none) _) g1)
  clear g1 hr0
  go_wp2_with fail
  go_at_call 60
  refine (HZ.out _ (HX.out.kept G1.out)).mono ?_
  rintro e w2 ⟨-, rfl, g2⟩
  have G2 := Lib.hid (gby_trans G1.out g2)
  clear g2
  go_wp2
  go_ret
  exact ⟨rfl, gby_alloc G2.out _⟩

set_option maxHeartbeats 1000000 in
theorem implJ_same (W : World) (q : Int) (a : Option Addr) (len cap : Nat) (L : List (List Int)) (v : Value) (xs : List Int) (y : Int) (ys : List Int) (H : RLL W a len L) (hl : len ≤ 1048576) (hb : ∀ x ∈ L, x.length ≤ 1048576) (HV : RdI W v xs) (ht : ∀ (W : World) (v : Value), RdI W v xs → Calls Try.prog 22 #[v] W (FrB y ys true W)) (h : ROk q L) (hy : y = q) :
    Calls Try.prog 27 #[rcV q a len cap, v] W (AnsN (.int .i64 0) W) := by
  have hd : decide (ROk q L) = true := decide_eq_true h
  have HR := Lib.hid H
  have HB := Lib.hid hb
  have HX := Lib.hid HV
  have HZ := Lib.hid (fun (W : World) (HV : RdI W v xs) => verd_same W q a len cap v xs y ys HV ht hy)
  clear H hb h HV ht
  unfold rcV
  go_enter Try.func27, Try.ntmps27
  go_wp2_with fail
  go_at_call 59
  refine (implROk_any _ q a len cap L (HR.out.kept (gby_alloc (gby_refl _ _) _)) hl HB.out).mono ?_
  rw [hd]
  rintro e w1 ⟨rfl, g1⟩
  have hr0 := row_held g1 (heap_alloc_new W _)
  obtain ⟨r0, r1⟩ := rc_cell2 hr0
  have G1 := Lib.hid (gby_trans (gby_alloc (gby_refl W none) _) g1)
  clear g1 hr0
  go_wp2_with fail
  go_at_call 60
  refine (HZ.out _ (HX.out.kept G1.out)).mono ?_
  rintro e w2 ⟨-, d1, c1, rfl, o2, g2⟩
  have G2 := Lib.hid (gby_trans G1.out g2)
  clear g2
  go_wp2
  go_ret
  exact ⟨rfl, gby_alloc G2.out _⟩

set_option maxHeartbeats 1000000 in
theorem implJ_old (W : World) (q : Int) (a : Option Addr) (len cap : Nat) (L : List (List Int)) (v : Value) (xs : List Int) (y : Int) (ys : List Int) (H : RLL W a len L) (hl : len ≤ 1048576) (hb : ∀ x ∈ L, x.length ≤ 1048576) (HV : RdI W v xs) (ht : ∀ (W : World) (v : Value), RdI W v xs → Calls Try.prog 22 #[v] W (FrB y ys true W)) (h : ROk q L) (hn : ¬ y = q) (ho : OldQ y q) :
    Calls Try.prog 27 #[rcV q a len cap, v] W (AnsN (.int .i64 1) W) := by
  have hd : decide (ROk q L) = true := decide_eq_true h
  have HR := Lib.hid H
  have HB := Lib.hid hb
  have HX := Lib.hid HV
  have HZ := Lib.hid (fun (W : World) (HV : RdI W v xs) => verd_old W q a len cap v xs y ys HV ht hn ho)
  clear H hb h HV ht
  unfold rcV
  go_enter Try.func27, Try.ntmps27
  go_wp2_with fail
  go_at_call 59
  refine (implROk_any _ q a len cap L (HR.out.kept (gby_alloc (gby_refl _ _) _)) hl HB.out).mono ?_
  rw [hd]
  rintro e w1 ⟨rfl, g1⟩
  have hr0 := row_held g1 (heap_alloc_new W _)
  obtain ⟨r0, r1⟩ := rc_cell2 hr0
  have G1 := Lib.hid (gby_trans (gby_alloc (gby_refl W none) _) g1)
  clear g1 hr0
  go_wp2_with fail
  go_at_call 60
  refine (HZ.out _ (HX.out.kept G1.out)).mono ?_
  rintro e w2 ⟨-, rfl, g2⟩
  have G2 := Lib.hid (gby_trans G1.out g2)
  clear g2
  go_wp2
  go_ret
  exact ⟨rfl, gby_alloc G2.out _⟩

set_option maxHeartbeats 1000000 in
theorem implJ_gap (W : World) (q : Int) (a : Option Addr) (len cap : Nat) (L : List (List Int)) (v : Value) (xs : List Int) (y : Int) (ys : List Int) (H : RLL W a len L) (hl : len ≤ 1048576) (hb : ∀ x ∈ L, x.length ≤ 1048576) (HV : RdI W v xs) (ht : ∀ (W : World) (v : Value), RdI W v xs → Calls Try.prog 22 #[v] W (FrB y ys true W)) (h : ROk q L) (hn : ¬ y = q) (ho : ¬ OldQ y q) :
    Calls Try.prog 27 #[rcV q a len cap, v] W (AnsN (.int .i64 2) W) := by
  have hd : decide (ROk q L) = true := decide_eq_true h
  have HR := Lib.hid H
  have HB := Lib.hid hb
  have HX := Lib.hid HV
  have HZ := Lib.hid (fun (W : World) (HV : RdI W v xs) => verd_gap W q a len cap v xs y ys HV ht hn ho)
  clear H hb h HV ht
  unfold rcV
  go_enter Try.func27, Try.ntmps27
  go_wp2_with fail
  go_at_call 59
  refine (implROk_any _ q a len cap L (HR.out.kept (gby_alloc (gby_refl _ _) _)) hl HB.out).mono ?_
  rw [hd]
  rintro e w1 ⟨rfl, g1⟩
  have hr0 := row_held g1 (heap_alloc_new W _)
  obtain ⟨r0, r1⟩ := rc_cell2 hr0
  have G1 := Lib.hid (gby_trans (gby_alloc (gby_refl W none) _) g1)
  clear g1 hr0
  go_wp2_with fail
  go_at_call 60
  refine (HZ.out _ (HX.out.kept G1.out)).mono ?_
  rintro e w2 ⟨-, rfl, g2⟩
  have G2 := Lib.hid (gby_trans G1.out g2)
  clear g2
  go_wp2
  go_ret
  exact ⟨rfl, gby_alloc G2.out _⟩

set_option maxRecDepth 4000 in
set_option maxHeartbeats 1000000 in
theorem specJ_bad (W : World) (q : Int) (a : Option Addr) (len cap : Nat) (L : List (List Int)) (v : Value) (xs : List Int) (y : Int) (ys : List Int) (H : RLL W a len L) (hl : len ≤ 1048576) (hb : ∀ x ∈ L, x.length ≤ 1048576) (HV : RdI W v xs) (ht : ∀ (W : World) (v : Value), RdI W v xs → Calls Try.prog 20 #[v] W (FrB y ys false W))   :
    Calls Try.prog 25 #[rcV q a len cap, v] W (AnsN (.int .i64 3) W) := by
  have HR := Lib.hid H
  have HB := Lib.hid hb
  have HX := Lib.hid HV
  have HT := Lib.hid ht
  clear H hb HV ht
  unfold rcV
  go_enter Try.func25, Try.ntmps25
  go_wp2_with fail
  go_at_call 20
  refine (HT.out _ _ (HX.out.kept (gby_alloc (gby_refl _ _) _))).mono ?_
  rintro e w1 ⟨d1, c1, rfl, o1, g1⟩
  have hr0 := row_held g1 (heap_alloc_new W _)
  have hr1 := row_held (gby_alloc (gby_refl w1 none) (.cells #[.int .i64 y, .slice d1 ys.length c1] 27)) hr0
  obtain ⟨r0, r1⟩ := rc_cell2 hr1
  have G1 := Lib.hid (gby_trans (gby_alloc (gby_refl W none) _) g1)
  have HR1 := Lib.hid hr1
  clear g1 hr0 o1 hr1
  unfold frV
  have _ := hl
  go_wp2
  go_ret
  exact ⟨rfl, gby_alloc G1.out _⟩

set_option maxRecDepth 4000 in
set_option maxHeartbeats 1000000 in
theorem specJ_same (W : World) (q : Int) (a : Option Addr) (len cap : Nat) (L : List (List Int)) (v : Value) (xs : List Int) (y : Int) (ys : List Int) (H : RLL W a len L) (hl : len ≤ 1048576) (hb : ∀ x ∈ L, x.length ≤ 1048576) (HV : RdI W v xs) (ht : ∀ (W : World) (v : Value), RdI W v xs → Calls Try.prog 20 #[v] W (FrB y ys true W)) (h : ROk q L) (hy : y = q) :
    Calls Try.prog 25 #[rcV q a len cap, v] W (AnsN (.int .i64 0) W) := by
  have hd : decide (ROk q L) = true := decide_eq_true h
  clear h
  subst hy
  have hqq : (y == y) = true := by simp
  have HR := Lib.hid H
  have HB := Lib.hid hb
  have HX := Lib.hid HV
  have HT := Lib.hid ht
  clear H hb HV ht
  unfold rcV
  go_enter Try.func25, Try.ntmps25
  go_wp2_with fail
  go_at_call 20
  refine (HT.out _ _ (HX.out.kept (gby_alloc (gby_refl _ _) _))).mono ?_
  rintro e w1 ⟨d1, c1, rfl, o1, g1⟩
  have hr0 := row_held g1 (heap_alloc_new W _)
  have hr1 := row_held (gby_alloc (gby_refl w1 none) (.cells #[.int .i64 y, .slice d1 ys.length c1] 27)) hr0
  obtain ⟨r0, r1⟩ := rc_cell2 hr1
  have G1 := Lib.hid (gby_trans (gby_alloc (gby_refl W none) _) g1)
  have HR1 := Lib.hid hr1
  clear g1 hr0 o1 hr1
  unfold frV
  go_wp2_with fail
  go_at_call 56
  refine (specROk_any _ y a len cap L (HR.out.kept (gby_alloc G1.out _)) hl HB.out).mono ?_
  rw [hd]
  rintro e w2 ⟨rfl, g2⟩
  obtain ⟨s0, s1⟩ := rc_cell2 (row_held g2 HR1.out)
  obtain ⟨x0, x1⟩ := rc_cell2 (row_held g2 (heap_alloc_new w1 _))
  have G2 := Lib.hid (gby_trans (gby_alloc G1.out _) g2)
  clear g2 r0 r1
  go_wp2
  go_ret
  exact ⟨rfl, G2.out⟩

set_option maxRecDepth 4000 in
set_option maxHeartbeats 1000000 in
theorem specJ_old (W : World) (q : Int) (a : Option Addr) (len cap : Nat) (L : List (List Int)) (v : Value) (xs : List Int) (y : Int) (ys : List Int) (H : RLL W a len L) (hl : len ≤ 1048576) (hb : ∀ x ∈ L, x.length ≤ 1048576) (HV : RdI W v xs) (ht : ∀ (W : World) (v : Value), RdI W v xs → Calls Try.prog 20 #[v] W (FrB y ys true W)) (h : ROk q L) (hn : ¬ y = q) (ho : OldQ y q) :
    Calls Try.prog 25 #[rcV q a len cap, v] W (AnsN (.int .i64 1) W) := by
  have hd : decide (ROk q L) = true := decide_eq_true h
  clear h
  have hqq : (y == q) = false := by simpa using hn
  have hd2 : decide (OldQ y q) = true := decide_eq_true ho
  clear hn ho
  have HR := Lib.hid H
  have HB := Lib.hid hb
  have HX := Lib.hid HV
  have HT := Lib.hid ht
  clear H hb HV ht
  unfold rcV
  go_enter Try.func25, Try.ntmps25
  go_wp2_with fail
  go_at_call 20
  refine (HT.out _ _ (HX.out.kept (gby_alloc (gby_refl _ _) _))).mono ?_
  rintro e w1 ⟨d1, c1, rfl, o1, g1⟩
  have hr0 := row_held g1 (heap_alloc_new W _)
  have hr1 := row_held (gby_alloc (gby_refl w1 none) (.cells #[.int .i64 y, .slice d1 ys.length c1] 27)) hr0
  obtain ⟨r0, r1⟩ := rc_cell2 hr1
  have G1 := Lib.hid (gby_trans (gby_alloc (gby_refl W none) _) g1)
  have HR1 := Lib.hid hr1
  clear g1 hr0 o1 hr1
  unfold frV
  go_wp2_with fail
  go_at_call 56
  refine (specROk_any _ q a len cap L (HR.out.kept (gby_alloc G1.out _)) hl HB.out).mono ?_
  rw [hd]
  rintro e w2 ⟨rfl, g2⟩
  obtain ⟨s0, s1⟩ := rc_cell2 (row_held g2 HR1.out)
  obtain ⟨x0, x1⟩ := rc_cell2 (row_held g2 (heap_alloc_new w1 _))
  have G2 := Lib.hid (gby_trans (gby_alloc G1.out _) g2)
  clear g2 r0 r1
  go_wp2_with fail
  go_at_call 57
  refine (specOld_any y q _).mono ?_
  rw [hd2]
  rintro e w3 ⟨rfl, d3⟩
  have G3 := Lib.hid (gby_trans G2.out (d3.gby none))
  clear d3
  go_wp2
  go_ret
  exact ⟨rfl, G3.out⟩

set_option maxRecDepth 4000 in
set_option maxHeartbeats 1000000 in
theorem specJ_gap (W : World) (q : Int) (a : Option Addr) (len cap : Nat) (L : List (List Int)) (v : Value) (xs : List Int) (y : Int) (ys : List Int) (H : RLL W a len L) (hl : len ≤ 1048576) (hb : ∀ x ∈ L, x.length ≤ 1048576) (HV : RdI W v xs) (ht : ∀ (W : World) (v : Value), RdI W v xs → Calls Try.prog 20 #[v] W (FrB y ys true W)) (h : ROk q L) (hn : ¬ y = q) (ho : ¬ OldQ y q) :
    Calls Try.prog 25 #[rcV q a len cap, v] W (AnsN (.int .i64 2) W) := by
  have hd : decide (ROk q L) = true := decide_eq_true h
  clear h
  have hqq : (y == q) = false := by simpa using hn
  have hd2 : decide (OldQ y q) = false := decide_eq_false ho
  clear hn ho
  have HR := Lib.hid H
  have HB := Lib.hid hb
  have HX := Lib.hid HV
  have HT := Lib.hid ht
  clear H hb HV ht
  unfold rcV
  go_enter Try.func25, Try.ntmps25
  go_wp2_with fail
  go_at_call 20
  refine (HT.out _ _ (HX.out.kept (gby_alloc (gby_refl _ _) _))).mono ?_
  rintro e w1 ⟨d1, c1, rfl, o1, g1⟩
  have hr0 := row_held g1 (heap_alloc_new W _)
  have hr1 := row_held (gby_alloc (gby_refl w1 none) (.cells #[.int .i64 y, .slice d1 ys.length c1] 27)) hr0
  obtain ⟨r0, r1⟩ := rc_cell2 hr1
  have G1 := Lib.hid (gby_trans (gby_alloc (gby_refl W none) _) g1)
  have HR1 := Lib.hid hr1
  clear g1 hr0 o1 hr1
  unfold frV
  go_wp2_with fail
  go_at_call 56
  refine (specROk_any _ q a len cap L (HR.out.kept (gby_alloc G1.out _)) hl HB.out).mono ?_
  rw [hd]
  rintro e w2 ⟨rfl, g2⟩
  obtain ⟨s0, s1⟩ := rc_cell2 (row_held g2 HR1.out)
  obtain ⟨x0, x1⟩ := rc_cell2 (row_held g2 (heap_alloc_new w1 _))
  have G2 := Lib.hid (gby_trans (gby_alloc G1.out _) g2)
  clear g2 r0 r1
  go_wp2_with fail
  go_at_call 57
  refine (specOld_any y q _).mono ?_
  rw [hd2]
  rintro e w3 ⟨rfl, d3⟩
  have G3 := Lib.hid (gby_trans G2.out (d3.gby none))
  clear d3
  go_wp2
  go_ret
  exact ⟨rfl, G3.out⟩

set_option maxRecDepth 4000 in
set_option maxHeartbeats 1000000 in
theorem specJ_no (W : World) (q : Int) (a : Option Addr) (len cap : Nat) (L : List (List Int)) (v : Value) (xs : List Int) (y : Int) (ys : List Int) (H : RLL W a len L) (hl : len ≤ 1048576) (hb : ∀ x ∈ L, x.length ≤ 1048576) (HV : RdI W v xs) (ht : ∀ (W : World) (v : Value), RdI W v xs → Calls Try.prog 20 #[v] W (FrB y ys true W)) (h : ¬ ROk q L)  :
    Calls Try.prog 25 #[rcV q a len cap, v] W (AnsN (.int .i64 3) W) := by
  have hd : decide (ROk q L) = false := decide_eq_false h
  clear h
  have HR := Lib.hid H
  have HB := Lib.hid hb
  have HX := Lib.hid HV
  have HT := Lib.hid ht
  clear H hb HV ht
  unfold rcV
  go_enter Try.func25, Try.ntmps25
  go_wp2_with fail
  go_at_call 20
  refine (HT.out _ _ (HX.out.kept (gby_alloc (gby_refl _ _) _))).mono ?_
  rintro e w1 ⟨d1, c1, rfl, o1, g1⟩
  have hr0 := row_held g1 (heap_alloc_new W _)
  have hr1 := row_held (gby_alloc (gby_refl w1 none) (.cells #[.int .i64 y, .slice d1 ys.length c1] 27)) hr0
  obtain ⟨r0, r1⟩ := rc_cell2 hr1
  have G1 := Lib.hid (gby_trans (gby_alloc (gby_refl W none) _) g1)
  have HR1 := Lib.hid hr1
  clear g1 hr0 o1 hr1
  unfold frV
  go_wp2_with fail
  go_at_call 56
  refine (specROk_any _ q a len cap L (HR.out.kept (gby_alloc G1.out _)) hl HB.out).mono ?_
  rw [hd]
  rintro e w2 ⟨rfl, g2⟩
  obtain ⟨s0, s1⟩ := rc_cell2 (row_held g2 HR1.out)
  obtain ⟨x0, x1⟩ := rc_cell2 (row_held g2 (heap_alloc_new w1 _))
  have G2 := Lib.hid (gby_trans (gby_alloc G1.out _) g2)
  clear g2 r0 r1
  go_wp2
  go_ret
  exact ⟨rfl, G2.out⟩

end Go.Proofs.Ytokpmbagidokkac
