/-
  MustPass on both sides.
-/
import Derived.Test.YtgmpehccklifdabPass
namespace Go.Proofs.Ytgmpehccklifdab
open Go Go.RowKit
set_option linter.unusedVariables false

set_option maxRecDepth 8000 in
set_option maxHeartbeats 4000000 in
theorem specMust_any (W : World) (k f t a l g s : Int) (d : Option Addr) (n c : Nat) (xs : List Int) (k' f' t' a' l' g' s' : Int) (d' : Option Addr) (n' c' : Nat) (ys : List Int) (ca cb : Int) (qa : ClsOf k f t a l g s xs ca) (qb : ClsOf k' f' t' a' l' g' s' ys cb) (H : ISl W d n xs) (H' : ISl W d' n' ys) (hl : n ≤ 1048576) (hm : n' ≤ 1048576) :
    Calls Try.prog 20 #[pgV k f t a l g s d n c, pgV k' f' t' a' l' g' s' d' n' c'] W (AnsG (.bool (mustC ca cb)) W) := by
  have HA := Lib.hid H
  have HB := Lib.hid H'
  have QA := Lib.hid qa
  have QB := Lib.hid qb
  obtain ⟨ra, ra'⟩ := qa.rng
  obtain ⟨rb, rb'⟩ := qb.rng
  clear H H' qa qb
  unfold pgV
  by_cases h1 : ca = 0
  · have b1 : (ca == 0) = true := by simp [h1]
    by_cases h2 : 0 < cb
    · have why : mustC ca cb = true := decide_eq_true (by omega)
      clear h1
      go_enter Try.func20, Try.ntmps20
      go_wp2_with fail
      go_at_call 62
      refine (specCls_any _ _ _ _ QA.out (HA.out.kept (gby_alloc (gby_alloc (gby_refl _ _) _) _)) hl).mono ?_
      rintro e w1 ⟨rfl, g⟩
      have hp := row_held g (W := (W.alloc _).alloc _) (b := W.heap.size) (by rw [heap_alloc_old _ _ (by simp)]; exact heap_alloc_new W _)
      have hq := row_held g (W := (W.alloc _).alloc _) (b := W.heap.size + 1) (heap_pair W _ _)
      have G1 := Lib.hid (gby_trans (gby_alloc (gby_alloc (gby_refl W none) _) _) g)
      clear g
      obtain ⟨p0, p1, p2, p3, p4, p5, p6, p7⟩ := pg_row hp
      obtain ⟨q0, q1, q2, q3, q4, q5, q6, q7⟩ := pg_row hq
      have HP := Lib.hid hp
      have HQ := Lib.hid hq
      clear hp hq
      go_wp2_with fail
      go_at_call 62
      refine (specCls_any _ _ _ _ QB.out (HB.out.kept G1.out) hm).mono ?_
      rintro e w2 ⟨rfl, g⟩
      have hp := row_held g HP.out
      have hq := row_held g HQ.out
      have G2 := Lib.hid (gby_trans G1.out g)
      clear g p0 p1 p2 p3 p4 p5 p6 p7 q0 q1 q2 q3 q4 q5 q6 q7 HP HQ
      obtain ⟨p0, p1, p2, p3, p4, p5, p6, p7⟩ := pg_row hp
      obtain ⟨q0, q1, q2, q3, q4, q5, q6, q7⟩ := pg_row hq
      have HP := Lib.hid hp
      have HQ := Lib.hid hq
      clear hp hq
      go_wp2
      go_ret
      exact ⟨ret_bool (by rw [why]; first | done | rfl | (simp; omega) | simp), G2.out⟩
    · have why : mustC ca cb = false := decide_eq_false (by omega)
      clear h1
      go_enter Try.func20, Try.ntmps20
      go_wp2_with fail
      go_at_call 62
      refine (specCls_any _ _ _ _ QA.out (HA.out.kept (gby_alloc (gby_alloc (gby_refl _ _) _) _)) hl).mono ?_
      rintro e w1 ⟨rfl, g⟩
      have hp := row_held g (W := (W.alloc _).alloc _) (b := W.heap.size) (by rw [heap_alloc_old _ _ (by simp)]; exact heap_alloc_new W _)
      have hq := row_held g (W := (W.alloc _).alloc _) (b := W.heap.size + 1) (heap_pair W _ _)
      have G1 := Lib.hid (gby_trans (gby_alloc (gby_alloc (gby_refl W none) _) _) g)
      clear g
      obtain ⟨p0, p1, p2, p3, p4, p5, p6, p7⟩ := pg_row hp
      obtain ⟨q0, q1, q2, q3, q4, q5, q6, q7⟩ := pg_row hq
      have HP := Lib.hid hp
      have HQ := Lib.hid hq
      clear hp hq
      go_wp2_with fail
      go_at_call 62
      refine (specCls_any _ _ _ _ QB.out (HB.out.kept G1.out) hm).mono ?_
      rintro e w2 ⟨rfl, g⟩
      have hp := row_held g HP.out
      have hq := row_held g HQ.out
      have G2 := Lib.hid (gby_trans G1.out g)
      clear g p0 p1 p2 p3 p4 p5 p6 p7 q0 q1 q2 q3 q4 q5 q6 q7 HP HQ
      obtain ⟨p0, p1, p2, p3, p4, p5, p6, p7⟩ := pg_row hp
      obtain ⟨q0, q1, q2, q3, q4, q5, q6, q7⟩ := pg_row hq
      have HP := Lib.hid hp
      have HQ := Lib.hid hq
      clear hp hq
      go_wp2
      go_ret
      exact ⟨ret_bool (by rw [why]; first | done | rfl | (simp; omega) | simp), G2.out⟩
  · have b1 : (ca == 0) = false := by simp [h1]
    have why : mustC ca cb = false := decide_eq_false (by omega)
    clear h1
    go_enter Try.func20, Try.ntmps20
    go_wp2_with fail
    go_at_call 62
    refine (specCls_any _ _ _ _ QA.out (HA.out.kept (gby_alloc (gby_alloc (gby_refl _ _) _) _)) hl).mono ?_
    rintro e w1 ⟨rfl, g⟩
    have hp := row_held g (W := (W.alloc _).alloc _) (b := W.heap.size) (by rw [heap_alloc_old _ _ (by simp)]; exact heap_alloc_new W _)
    have hq := row_held g (W := (W.alloc _).alloc _) (b := W.heap.size + 1) (heap_pair W _ _)
    have G1 := Lib.hid (gby_trans (gby_alloc (gby_alloc (gby_refl W none) _) _) g)
    clear g
    obtain ⟨p0, p1, p2, p3, p4, p5, p6, p7⟩ := pg_row hp
    obtain ⟨q0, q1, q2, q3, q4, q5, q6, q7⟩ := pg_row hq
    have HP := Lib.hid hp
    have HQ := Lib.hid hq
    clear hp hq
    go_wp2
    go_ret
    exact ⟨ret_bool (by rw [why]; first | done | rfl | (simp; omega) | simp), G1.out⟩

set_option maxRecDepth 8000 in
set_option maxHeartbeats 4000000 in
theorem implMust_any (W : World) (k f t a l g s : Int) (d : Option Addr) (n c : Nat) (xs : List Int) (k' f' t' a' l' g' s' : Int) (d' : Option Addr) (n' c' : Nat) (ys : List Int) (ca cb : Int) (qa : ClsOf k f t a l g s xs ca) (qb : ClsOf k' f' t' a' l' g' s' ys cb) (H : ISl W d n xs) (H' : ISl W d' n' ys) (hl : n ≤ 1048576) (hm : n' ≤ 1048576) :
    Calls Try.prog 21 #[pgV k f t a l g s d n c, pgV k' f' t' a' l' g' s' d' n' c'] W (AnsG (.bool (mustC ca cb)) W) := by
  have HA := Lib.hid H
  have HB := Lib.hid H'
  have QA := Lib.hid qa
  have QB := Lib.hid qb
  obtain ⟨ra, ra'⟩ := qa.rng
  obtain ⟨rb, rb'⟩ := qb.rng
  clear H H' qa qb
  unfold pgV
  by_cases h1 : ca = 0
  · have b1 : (ca == 0) = true := by simp [h1]
    by_cases h2 : cb = 1
    · have c1 : (cb == 1) = true := by simp [h2]
      have why : mustC ca cb = true := decide_eq_true (by omega)
      clear h1 h2
      go_enter Try.func21, Try.ntmps21
      go_wp2_with fail
      go_at_call 25
      refine (implCls_any _ _ _ _ QB.out (HB.out.kept (gby_alloc (gby_alloc (gby_refl _ _) _) _)) hm).mono ?_
      rintro e w1 ⟨rfl, g⟩
      have hp := row_held g (W := (W.alloc _).alloc _) (b := W.heap.size) (by rw [heap_alloc_old _ _ (by simp)]; exact heap_alloc_new W _)
      have hq := row_held g (W := (W.alloc _).alloc _) (b := W.heap.size + 1) (heap_pair W _ _)
      have G1 := Lib.hid (gby_trans (gby_alloc (gby_alloc (gby_refl W none) _) _) g)
      clear g
      obtain ⟨p0, p1, p2, p3, p4, p5, p6, p7⟩ := pg_row hp
      obtain ⟨q0, q1, q2, q3, q4, q5, q6, q7⟩ := pg_row hq
      have HP := Lib.hid hp
      have HQ := Lib.hid hq
      clear hp hq
      go_wp2_with fail
      go_at_call 25
      refine (implCls_any _ _ _ _ QA.out (HA.out.kept G1.out) hl).mono ?_
      rintro e w2 ⟨rfl, g⟩
      have hp := row_held g HP.out
      have hq := row_held g HQ.out
      have G2 := Lib.hid (gby_trans G1.out g)
      clear g p0 p1 p2 p3 p4 p5 p6 p7 q0 q1 q2 q3 q4 q5 q6 q7 HP HQ
      obtain ⟨p0, p1, p2, p3, p4, p5, p6, p7⟩ := pg_row hp
      obtain ⟨q0, q1, q2, q3, q4, q5, q6, q7⟩ := pg_row hq
      have HP := Lib.hid hp
      have HQ := Lib.hid hq
      clear hp hq
      go_wp2
      go_ret
      exact ⟨ret_bool (by rw [why]; first | done | rfl | (simp; omega) | simp), G2.out⟩
    · have c1 : (cb == 1) = false := by simp [h2]
      by_cases h3 : cb = 2
      · have c2 : (cb == 2) = true := by simp [h3]
        have why : mustC ca cb = true := decide_eq_true (by omega)
        clear h1 h2 h3
        go_enter Try.func21, Try.ntmps21
        go_wp2_with fail
        go_at_call 25
        refine (implCls_any _ _ _ _ QB.out (HB.out.kept (gby_alloc (gby_alloc (gby_refl _ _) _) _)) hm).mono ?_
        rintro e w1 ⟨rfl, g⟩
        have hp := row_held g (W := (W.alloc _).alloc _) (b := W.heap.size) (by rw [heap_alloc_old _ _ (by simp)]; exact heap_alloc_new W _)
        have hq := row_held g (W := (W.alloc _).alloc _) (b := W.heap.size + 1) (heap_pair W _ _)
        have G1 := Lib.hid (gby_trans (gby_alloc (gby_alloc (gby_refl W none) _) _) g)
        clear g
        obtain ⟨p0, p1, p2, p3, p4, p5, p6, p7⟩ := pg_row hp
        obtain ⟨q0, q1, q2, q3, q4, q5, q6, q7⟩ := pg_row hq
        have HP := Lib.hid hp
        have HQ := Lib.hid hq
        clear hp hq
        go_wp2_with fail
        go_at_call 25
        refine (implCls_any _ _ _ _ QA.out (HA.out.kept G1.out) hl).mono ?_
        rintro e w2 ⟨rfl, g⟩
        have hp := row_held g HP.out
        have hq := row_held g HQ.out
        have G2 := Lib.hid (gby_trans G1.out g)
        clear g p0 p1 p2 p3 p4 p5 p6 p7 q0 q1 q2 q3 q4 q5 q6 q7 HP HQ
        obtain ⟨p0, p1, p2, p3, p4, p5, p6, p7⟩ := pg_row hp
        obtain ⟨q0, q1, q2, q3, q4, q5, q6, q7⟩ := pg_row hq
        have HP := Lib.hid hp
        have HQ := Lib.hid hq
        clear hp hq
        go_wp2
        go_ret
        exact ⟨ret_bool (by rw [why]; first | done | rfl | (simp; omega) | simp), G2.out⟩
      · have c2 : (cb == 2) = false := by simp [h3]
        have why : mustC ca cb = false := decide_eq_false (by omega)
        clear h1 h2 h3
        go_enter Try.func21, Try.ntmps21
        go_wp2_with fail
        go_at_call 25
        refine (implCls_any _ _ _ _ QB.out (HB.out.kept (gby_alloc (gby_alloc (gby_refl _ _) _) _)) hm).mono ?_
        rintro e w1 ⟨rfl, g⟩
        have hp := row_held g (W := (W.alloc _).alloc _) (b := W.heap.size) (by rw [heap_alloc_old _ _ (by simp)]; exact heap_alloc_new W _)
        have hq := row_held g (W := (W.alloc _).alloc _) (b := W.heap.size + 1) (heap_pair W _ _)
        have G1 := Lib.hid (gby_trans (gby_alloc (gby_alloc (gby_refl W none) _) _) g)
        clear g
        obtain ⟨p0, p1, p2, p3, p4, p5, p6, p7⟩ := pg_row hp
        obtain ⟨q0, q1, q2, q3, q4, q5, q6, q7⟩ := pg_row hq
        have HP := Lib.hid hp
        have HQ := Lib.hid hq
        clear hp hq
        go_wp2_with fail
        go_at_call 25
        refine (implCls_any _ _ _ _ QA.out (HA.out.kept G1.out) hl).mono ?_
        rintro e w2 ⟨rfl, g⟩
        have hp := row_held g HP.out
        have hq := row_held g HQ.out
        have G2 := Lib.hid (gby_trans G1.out g)
        clear g p0 p1 p2 p3 p4 p5 p6 p7 q0 q1 q2 q3 q4 q5 q6 q7 HP HQ
        obtain ⟨p0, p1, p2, p3, p4, p5, p6, p7⟩ := pg_row hp
        obtain ⟨q0, q1, q2, q3, q4, q5, q6, q7⟩ := pg_row hq
        have HP := Lib.hid hp
        have HQ := Lib.hid hq
        clear hp hq
        go_wp2
        go_ret
        exact ⟨ret_bool (by rw [why]; first | done | rfl | (simp; omega) | simp), G2.out⟩
  · have b1 : (ca == 0) = false := by simp [h1]
    have why : mustC ca cb = false := decide_eq_false (by omega)
    clear h1
    go_enter Try.func21, Try.ntmps21
    go_wp2_with fail
    go_at_call 25
    refine (implCls_any _ _ _ _ QB.out (HB.out.kept (gby_alloc (gby_alloc (gby_refl _ _) _) _)) hm).mono ?_
    rintro e w1 ⟨rfl, g⟩
    have hp := row_held g (W := (W.alloc _).alloc _) (b := W.heap.size) (by rw [heap_alloc_old _ _ (by simp)]; exact heap_alloc_new W _)
    have hq := row_held g (W := (W.alloc _).alloc _) (b := W.heap.size + 1) (heap_pair W _ _)
    have G1 := Lib.hid (gby_trans (gby_alloc (gby_alloc (gby_refl W none) _) _) g)
    clear g
    obtain ⟨p0, p1, p2, p3, p4, p5, p6, p7⟩ := pg_row hp
    obtain ⟨q0, q1, q2, q3, q4, q5, q6, q7⟩ := pg_row hq
    have HP := Lib.hid hp
    have HQ := Lib.hid hq
    clear hp hq
    go_wp2_with fail
    go_at_call 25
    refine (implCls_any _ _ _ _ QA.out (HA.out.kept G1.out) hl).mono ?_
    rintro e w2 ⟨rfl, g⟩
    have hp := row_held g HP.out
    have hq := row_held g HQ.out
    have G2 := Lib.hid (gby_trans G1.out g)
    clear g p0 p1 p2 p3 p4 p5 p6 p7 q0 q1 q2 q3 q4 q5 q6 q7 HP HQ
    obtain ⟨p0, p1, p2, p3, p4, p5, p6, p7⟩ := pg_row hp
    obtain ⟨q0, q1, q2, q3, q4, q5, q6, q7⟩ := pg_row hq
    have HP := Lib.hid hp
    have HQ := Lib.hid hq
    clear hp hq
    go_wp2
    go_ret
    exact ⟨ret_bool (by rw [why]; first | done | rfl | (simp; omega) | simp), G2.out⟩

theorem must_both (k f t a l g s : Int) (xs : List Int) (k' f' t' a' l' g' s' : Int) (ys : List Int) (hl : xs.length ≤ 1048576) (hm : ys.length ≤ 1048576) : ∃ b : Bool,
    (∀ (W : World) (u u' : Option Addr) (v v' : Nat), RdI W (.slice u xs.length v) xs → RdI W (.slice u' ys.length v') ys → Calls Try.prog 20 #[pgV k f t a l g s u xs.length v, pgV k' f' t' a' l' g' s' u' ys.length v'] W (AnsN (.bool b) W)) ∧
    ∀ (W : World) (u u' : Option Addr) (v v' : Nat), RdI W (.slice u xs.length v) xs → RdI W (.slice u' ys.length v') ys → Calls Try.prog 21 #[pgV k f t a l g s u xs.length v, pgV k' f' t' a' l' g' s' u' ys.length v'] W (AnsN (.bool b) W) := by
  obtain ⟨ca, qa⟩ := clsOf_ex k f t a l g s xs
  obtain ⟨cb, qb⟩ := clsOf_ex k' f' t' a' l' g' s' ys
  exact ⟨_, fun W u u' v v' H H' => specMust_any W k f t a l g s u _ v xs k' f' t' a' l' g' s' u' _ v' ys ca cb qa qb H.isl' H'.isl' hl hm,
    fun W u u' v v' H H' => implMust_any W k f t a l g s u _ v xs k' f' t' a' l' g' s' u' _ v' ys ca cb qa qb H.isl' H'.isl' hl hm⟩

end Go.Proofs.Ytgmpehccklifdab
