/-
  MayPass, MustPass on both sides.
-/
import Derived.Test.YtnighnkkeiegnaaPkClass
import Derived.Test.YtnighnkkeiegnaaKPacket
namespace Go.Proofs.Ytnighnkkeiegnaa
open Go Go.RowKit
set_option linter.unusedVariables false

/-- the class of a valid packet of the kind k -/
def clsI (k : Int) : Int := if k ≤ 2 then 0 else if k ≤ 5 then 1 else 2
theorem clsI_in (k : Int) : 0 ≤ clsI k ∧ clsI k ≤ 2 := by
  unfold clsI
  split
  · omega
  · split <;> omega

theorem specCls_in (W : World) (k f t a l g s : Int) (d : Option Addr) (n c : Nat) (xs : List Int) (H : ISl W d n xs) (hl : n ≤ 1048576) (h : PkOk k f t a l g s xs) :
    Calls Try.prog 75 #[pkV k f t a l g s d n c] W (AnsG (.int .i64 (clsI k)) W) := by
  rcases h.2.2 with ⟨rfl, _⟩ | ⟨rfl, _⟩ | ⟨rfl, _⟩ | ⟨rfl, _⟩ | ⟨rfl, _⟩ | ⟨rfl, _⟩
  · exact specClassOf1_in W f t a l g s d n c xs H hl h
  · exact specClassOf2_in W f t a l g s d n c xs H hl h
  · exact specClassOf3_in W f t a l g s d n c xs H hl h
  · exact specClassOf4_in W f t a l g s d n c xs H hl h
  · exact specClassOf5_in W f t a l g s d n c xs H hl h
  · exact specClassOf6_in W f t a l g s d n c xs H hl h

theorem implCls_in (W : World) (k f t a l g s : Int) (d : Option Addr) (n c : Nat) (xs : List Int) (H : ISl W d n xs) (hl : n ≤ 1048576) (h : PkOk k f t a l g s xs) :
    Calls Try.prog 113 #[pkV k f t a l g s d n c] W (AnsG (.int .i64 (clsI k)) W) := by
  rcases h.2.2 with ⟨rfl, _⟩ | ⟨rfl, _⟩ | ⟨rfl, _⟩ | ⟨rfl, _⟩ | ⟨rfl, _⟩ | ⟨rfl, _⟩
  · exact implClassOf1_in W f t a l g s d n c xs H hl h
  · exact implClassOf2_in W f t a l g s d n c xs H hl h
  · exact implClassOf3_in W f t a l g s d n c xs H hl h
  · exact implClassOf4_in W f t a l g s d n c xs H hl h
  · exact implClassOf5_in W f t a l g s d n c xs H hl h
  · exact implClassOf6_in W f t a l g s d n c xs H hl h

/-- a class or -1: what ClassOf answers at a packet -/
def ClsOf (k f t a l g s : Int) (xs : List Int) (ca : Int) : Prop := (PkOk k f t a l g s xs ∧ ca = clsI k) ∨ (¬ PkOk k f t a l g s xs ∧ ca = -1)
theorem clsOf_ex (k f t a l g s : Int) (xs : List Int) : ∃ ca, ClsOf k f t a l g s xs ca := by
  by_cases h : PkOk k f t a l g s xs
  · exact ⟨_, .inl ⟨h, rfl⟩⟩
  · exact ⟨_, .inr ⟨h, rfl⟩⟩
theorem ClsOf.rng {k f t a l g s : Int} {xs : List Int} {ca : Int} (h : ClsOf k f t a l g s xs ca) : -1 ≤ ca ∧ ca ≤ 2 := by
  rcases h with ⟨_, rfl⟩ | ⟨_, rfl⟩
  · have := clsI_in k; omega
  · omega

theorem specCls_any (W : World) {k f t a l g s : Int} (d : Option Addr) (n c : Nat) {xs : List Int} {ca : Int} (q : ClsOf k f t a l g s xs ca) (H : ISl W d n xs) (hl : n ≤ 1048576) :
    Calls Try.prog 75 #[pkV k f t a l g s d n c] W (AnsG (.int .i64 ca) W) := by
  rcases q with ⟨h, rfl⟩ | ⟨h, rfl⟩
  · exact specCls_in W k f t a l g s d n c xs H hl h
  · exact specClassOf_out k W f t a l g s d n c xs H hl h

theorem specPk_cls (W : World) {k f t a l g s : Int} (d : Option Addr) (n c : Nat) {xs : List Int} {ca : Int} (q : ClsOf k f t a l g s xs ca) (H : ISl W d n xs) (hl : n ≤ 1048576) :
    Calls Try.prog 98 #[pkV k f t a l g s d n c] W (AnsG (.bool (decide (0 ≤ ca))) W) := by
  rcases q with ⟨h, rfl⟩ | ⟨h, rfl⟩
  · have := specPk_true W k f t a l g s d n c xs H hl h
    rwa [show decide (0 ≤ clsI k) = true from decide_eq_true (clsI_in k).1]
  · exact specPk_false W k f t a l g s d n c xs H hl h

theorem implCls_any (W : World) {k f t a l g s : Int} (d : Option Addr) (n c : Nat) {xs : List Int} {ca : Int} (q : ClsOf k f t a l g s xs ca) (H : ISl W d n xs) (hl : n ≤ 1048576) :
    Calls Try.prog 113 #[pkV k f t a l g s d n c] W (AnsG (.int .i64 ca) W) := by
  rcases q with ⟨h, rfl⟩ | ⟨h, rfl⟩
  · exact implCls_in W k f t a l g s d n c xs H hl h
  · exact implClassOf_out k W f t a l g s d n c xs H hl h

theorem implPk_cls (W : World) {k f t a l g s : Int} (d : Option Addr) (n c : Nat) {xs : List Int} {ca : Int} (q : ClsOf k f t a l g s xs ca) (H : ISl W d n xs) (hl : n ≤ 1048576) :
    Calls Try.prog 107 #[pkV k f t a l g s d n c] W (AnsG (.bool (decide (0 ≤ ca))) W) := by
  rcases q with ⟨h, rfl⟩ | ⟨h, rfl⟩
  · have := implPk_true W k f t a l g s d n c xs H hl h
    rwa [show decide (0 ≤ clsI k) = true from decide_eq_true (clsI_in k).1]
  · exact implPk_false W k f t a l g s d n c xs H hl h

/-- may a packet pass another one -/
def mayC (ca cb t g t' g' : Int) : Bool := decide (0 ≤ ca ∧ 1 ≤ cb ∧ (ca ≠ 2 ∨ cb ≠ 2 ∨ t ≠ t' ∨ g ≠ g'))
def mustC (ca cb : Int) : Bool := decide (ca = 0 ∧ 1 ≤ cb)

set_option maxRecDepth 8000 in
set_option maxHeartbeats 4000000 in
theorem specMay_any (W : World) (k f t a l g s : Int) (d : Option Addr) (n c : Nat) (xs : List Int) (k' f' t' a' l' g' s' : Int) (d' : Option Addr) (n' c' : Nat) (ys : List Int) (ca cb : Int) (qa : ClsOf k f t a l g s xs ca) (qb : ClsOf k' f' t' a' l' g' s' ys cb) (H : ISl W d n xs) (H' : ISl W d' n' ys) (hl : n ≤ 1048576) (hm : n' ≤ 1048576) :
    Calls Try.prog 70 #[pgV k f t a l g s d n c, pgV k' f' t' a' l' g' s' d' n' c'] W (AnsG (.bool (mayC ca cb t g t' g')) W) := by
  have HA := Lib.hid H
  have HB := Lib.hid H'
  have QA := Lib.hid qa
  have QB := Lib.hid qb
  obtain ⟨ra, ra'⟩ := qa.rng
  obtain ⟨rb, rb'⟩ := qb.rng
  clear H H' qa qb
  unfold pgV
  by_cases h1 : ca < 0
  · have why : mayC ca cb t g t' g' = false := decide_eq_false (by omega)
    go_enter Try.func70, Try.ntmps70
    go_wp2_with fail
    go_at_call 75
    refine (specCls_any _ _ _ _ QA.out (HA.out.kept (gby_alloc (gby_alloc (gby_refl _ _) _) _)) hl).mono ?_
    rintro e w1 ⟨rfl, g⟩
    have hp := row_held g (W := (W.alloc _).alloc _) (b := W.heap.size) (by rw [heap_alloc_old _ _ (by simp)]; exact heap_alloc_new W _)
    have hq := row_held g (W := (W.alloc _).alloc _) (b := W.heap.size + 1) (heap_pair W _ _)
    have G1 := Lib.hid (gby_trans (gby_alloc (gby_alloc (gby_refl W none) _) _) g)
    clear g
    obtain ⟨p0, p1, p2, p3, p4, p5, p6, p7⟩ := pg_row hp
    obtain ⟨q0, q1, q2, q3, q4, q5, q6, q7⟩ := pg_row hq
    have HP := Lib.hid hp
    have HQ := Lib.hid hq
    clear hp hq
    go_wp2_with fail
    go_at_call 75
    refine (specCls_any _ _ _ _ QB.out (HB.out.kept G1.out) hm).mono ?_
    rintro e w2 ⟨rfl, g⟩
    have hp := row_held g HP.out
    have hq := row_held g HQ.out
    have G2 := Lib.hid (gby_trans G1.out g)
    clear g p0 p1 p2 p3 p4 p5 p6 p7 q0 q1 q2 q3 q4 q5 q6 q7 HP HQ
    obtain ⟨p0, p1, p2, p3, p4, p5, p6, p7⟩ := pg_row hp
    obtain ⟨q0, q1, q2, q3, q4, q5, q6, q7⟩ := pg_row hq
    have HP := Lib.hid hp
    have HQ := Lib.hid hq
    clear hp hq
    go_wp2
    go_ret
    exact ⟨ret_bool (by rw [why]), G2.out⟩
  have hn1 : ¬ ca < 0 := h1
  by_cases h2 : cb ≤ 0
  · have why : mayC ca cb t g t' g' = false := decide_eq_false (by omega)
    go_enter Try.func70, Try.ntmps70
    go_wp2_with fail
    go_at_call 75
    refine (specCls_any _ _ _ _ QA.out (HA.out.kept (gby_alloc (gby_alloc (gby_refl _ _) _) _)) hl).mono ?_
    rintro e w1 ⟨rfl, g⟩
    have hp := row_held g (W := (W.alloc _).alloc _) (b := W.heap.size) (by rw [heap_alloc_old _ _ (by simp)]; exact heap_alloc_new W _)
    have hq := row_held g (W := (W.alloc _).alloc _) (b := W.heap.size + 1) (heap_pair W _ _)
    have G1 := Lib.hid (gby_trans (gby_alloc (gby_alloc (gby_refl W none) _) _) g)
    clear g
    obtain ⟨p0, p1, p2, p3, p4, p5, p6, p7⟩ := pg_row hp
    obtain ⟨q0, q1, q2, q3, q4, q5, q6, q7⟩ := pg_row hq
    have HP := Lib.hid hp
    have HQ := Lib.hid hq
    clear hp hq
    go_wp2_with fail
    go_at_call 75
    refine (specCls_any _ _ _ _ QB.out (HB.out.kept G1.out) hm).mono ?_
    rintro e w2 ⟨rfl, g⟩
    have hp := row_held g HP.out
    have hq := row_held g HQ.out
    have G2 := Lib.hid (gby_trans G1.out g)
    clear g p0 p1 p2 p3 p4 p5 p6 p7 q0 q1 q2 q3 q4 q5 q6 q7 HP HQ
    obtain ⟨p0, p1, p2, p3, p4, p5, p6, p7⟩ := pg_row hp
    obtain ⟨q0, q1, q2, q3, q4, q5, q6, q7⟩ := pg_row hq
    have HP := Lib.hid hp
    have HQ := Lib.hid hq
    clear hp hq
    go_wp2
    go_ret
    exact ⟨ret_bool (by rw [why]), G2.out⟩
  have hn2 : ¬ cb ≤ 0 := h2
  by_cases h3 : ca = 2
  · subst h3
    by_cases h4 : cb = 2
    · subst h4
      by_cases h5 : t = t'
      · subst h5
        have b5 : (t != t) = false := by simp
        by_cases h6 : g = g'
        · subst h6
          have b6 : (g != g) = false := by simp
          have why : mayC 2 2 t g t g = false := decide_eq_false (by omega)
          go_enter Try.func70, Try.ntmps70
          go_wp2_with fail
          go_at_call 75
          refine (specCls_any _ _ _ _ QA.out (HA.out.kept (gby_alloc (gby_alloc (gby_refl _ _) _) _)) hl).mono ?_
          rintro e w1 ⟨rfl, g⟩
          have hp := row_held g (W := (W.alloc _).alloc _) (b := W.heap.size) (by rw [heap_alloc_old _ _ (by simp)]; exact heap_alloc_new W _)
          have hq := row_held g (W := (W.alloc _).alloc _) (b := W.heap.size + 1) (heap_pair W _ _)
          have G1 := Lib.hid (gby_trans (gby_alloc (gby_alloc (gby_refl W none) _) _) g)
          clear g
          obtain ⟨p0, p1, p2, p3, p4, p5, p6, p7⟩ := pg_row hp
          obtain ⟨q0, q1, q2, q3, q4, q5, q6, q7⟩ := pg_row hq
          have HP := Lib.hid hp
          have HQ := Lib.hid hq
          clear hp hq
          go_wp2_with fail
          go_at_call 75
          refine (specCls_any _ _ _ _ QB.out (HB.out.kept G1.out) hm).mono ?_
          rintro e w2 ⟨rfl, g⟩
          have hp := row_held g HP.out
          have hq := row_held g HQ.out
          have G2 := Lib.hid (gby_trans G1.out g)
          clear g p0 p1 p2 p3 p4 p5 p6 p7 q0 q1 q2 q3 q4 q5 q6 q7 HP HQ
          obtain ⟨p0, p1, p2, p3, p4, p5, p6, p7⟩ := pg_row hp
          obtain ⟨q0, q1, q2, q3, q4, q5, q6, q7⟩ := pg_row hq
          have HP := Lib.hid hp
          have HQ := Lib.hid hq
          clear hp hq
          go_wp2
          go_ret
          exact ⟨ret_bool (by rw [why]), G2.out⟩
        · have b6 : (g != g') = true := by simp [h6]
          have why : mayC 2 2 t g t g' = true := decide_eq_true (by omega)
          clear h6
          go_enter Try.func70, Try.ntmps70
          go_wp2_with fail
          go_at_call 75
          refine (specCls_any _ _ _ _ QA.out (HA.out.kept (gby_alloc (gby_alloc (gby_refl _ _) _) _)) hl).mono ?_
          rintro e w1 ⟨rfl, g⟩
          have hp := row_held g (W := (W.alloc _).alloc _) (b := W.heap.size) (by rw [heap_alloc_old _ _ (by simp)]; exact heap_alloc_new W _)
          have hq := row_held g (W := (W.alloc _).alloc _) (b := W.heap.size + 1) (heap_pair W _ _)
          have G1 := Lib.hid (gby_trans (gby_alloc (gby_alloc (gby_refl W none) _) _) g)
          clear g
          obtain ⟨p0, p1, p2, p3, p4, p5, p6, p7⟩ := pg_row hp
          obtain ⟨q0, q1, q2, q3, q4, q5, q6, q7⟩ := pg_row hq
          have HP := Lib.hid hp
          have HQ := Lib.hid hq
          clear hp hq
          go_wp2_with fail
          go_at_call 75
          refine (specCls_any _ _ _ _ QB.out (HB.out.kept G1.out) hm).mono ?_
          rintro e w2 ⟨rfl, g⟩
          have hp := row_held g HP.out
          have hq := row_held g HQ.out
          have G2 := Lib.hid (gby_trans G1.out g)
          clear g p0 p1 p2 p3 p4 p5 p6 p7 q0 q1 q2 q3 q4 q5 q6 q7 HP HQ
          obtain ⟨p0, p1, p2, p3, p4, p5, p6, p7⟩ := pg_row hp
          obtain ⟨q0, q1, q2, q3, q4, q5, q6, q7⟩ := pg_row hq
          have HP := Lib.hid hp
          have HQ := Lib.hid hq
          clear hp hq
          go_wp2
          go_ret
          exact ⟨ret_bool (by rw [why]), G2.out⟩
      · have b5 : (t != t') = true := by simp [h5]
        have why : mayC 2 2 t g t' g' = true := decide_eq_true (by omega)
        clear h5
        go_enter Try.func70, Try.ntmps70
        go_wp2_with fail
        go_at_call 75
        refine (specCls_any _ _ _ _ QA.out (HA.out.kept (gby_alloc (gby_alloc (gby_refl _ _) _) _)) hl).mono ?_
        rintro e w1 ⟨rfl, g⟩
        have hp := row_held g (W := (W.alloc _).alloc _) (b := W.heap.size) (by rw [heap_alloc_old _ _ (by simp)]; exact heap_alloc_new W _)
        have hq := row_held g (W := (W.alloc _).alloc _) (b := W.heap.size + 1) (heap_pair W _ _)
        have G1 := Lib.hid (gby_trans (gby_alloc (gby_alloc (gby_refl W none) _) _) g)
        clear g
        obtain ⟨p0, p1, p2, p3, p4, p5, p6, p7⟩ := pg_row hp
        obtain ⟨q0, q1, q2, q3, q4, q5, q6, q7⟩ := pg_row hq
        have HP := Lib.hid hp
        have HQ := Lib.hid hq
        clear hp hq
        go_wp2_with fail
        go_at_call 75
        refine (specCls_any _ _ _ _ QB.out (HB.out.kept G1.out) hm).mono ?_
        rintro e w2 ⟨rfl, g⟩
        have hp := row_held g HP.out
        have hq := row_held g HQ.out
        have G2 := Lib.hid (gby_trans G1.out g)
        clear g p0 p1 p2 p3 p4 p5 p6 p7 q0 q1 q2 q3 q4 q5 q6 q7 HP HQ
        obtain ⟨p0, p1, p2, p3, p4, p5, p6, p7⟩ := pg_row hp
        obtain ⟨q0, q1, q2, q3, q4, q5, q6, q7⟩ := pg_row hq
        have HP := Lib.hid hp
        have HQ := Lib.hid hq
        clear hp hq
        go_wp2
        go_ret
        exact ⟨ret_bool (by rw [why]), G2.out⟩
    · have b4 : (cb != 2) = true := by simp [h4]
      have why : mayC 2 cb t g t' g' = true := decide_eq_true (by omega)
      go_enter Try.func70, Try.ntmps70
      go_wp2_with fail
      go_at_call 75
      refine (specCls_any _ _ _ _ QA.out (HA.out.kept (gby_alloc (gby_alloc (gby_refl _ _) _) _)) hl).mono ?_
      rintro e w1 ⟨rfl, g⟩
      have hp := row_held g (W := (W.alloc _).alloc _) (b := W.heap.size) (by rw [heap_alloc_old _ _ (by simp)]; exact heap_alloc_new W _)
      have hq := row_held g (W := (W.alloc _).alloc _) (b := W.heap.size + 1) (heap_pair W _ _)
      have G1 := Lib.hid (gby_trans (gby_alloc (gby_alloc (gby_refl W none) _) _) g)
      clear g
      obtain ⟨p0, p1, p2, p3, p4, p5, p6, p7⟩ := pg_row hp
      obtain ⟨q0, q1, q2, q3, q4, q5, q6, q7⟩ := pg_row hq
      have HP := Lib.hid hp
      have HQ := Lib.hid hq
      clear hp hq
      go_wp2_with fail
      go_at_call 75
      refine (specCls_any _ _ _ _ QB.out (HB.out.kept G1.out) hm).mono ?_
      rintro e w2 ⟨rfl, g⟩
      have hp := row_held g HP.out
      have hq := row_held g HQ.out
      have G2 := Lib.hid (gby_trans G1.out g)
      clear g p0 p1 p2 p3 p4 p5 p6 p7 q0 q1 q2 q3 q4 q5 q6 q7 HP HQ
      obtain ⟨p0, p1, p2, p3, p4, p5, p6, p7⟩ := pg_row hp
      obtain ⟨q0, q1, q2, q3, q4, q5, q6, q7⟩ := pg_row hq
      have HP := Lib.hid hp
      have HQ := Lib.hid hq
      clear hp hq
      go_wp2
      go_ret
      exact ⟨ret_bool (by rw [why]), G2.out⟩
  · have b3 : (ca != 2) = true := by simp [h3]
    have why : mayC ca cb t g t' g' = true := decide_eq_true (by omega)
    go_enter Try.func70, Try.ntmps70
    go_wp2_with fail
    go_at_call 75
    refine (specCls_any _ _ _ _ QA.out (HA.out.kept (gby_alloc (gby_alloc (gby_refl _ _) _) _)) hl).mono ?_
    rintro e w1 ⟨rfl, g⟩
    have hp := row_held g (W := (W.alloc _).alloc _) (b := W.heap.size) (by rw [heap_alloc_old _ _ (by simp)]; exact heap_alloc_new W _)
    have hq := row_held g (W := (W.alloc _).alloc _) (b := W.heap.size + 1) (heap_pair W _ _)
    have G1 := Lib.hid (gby_trans (gby_alloc (gby_alloc (gby_refl W none) _) _) g)
    clear g
    obtain ⟨p0, p1, p2, p3, p4, p5, p6, p7⟩ := pg_row hp
    obtain ⟨q0, q1, q2, q3, q4, q5, q6, q7⟩ := pg_row hq
    have HP := Lib.hid hp
    have HQ := Lib.hid hq
    clear hp hq
    go_wp2_with fail
    go_at_call 75
    refine (specCls_any _ _ _ _ QB.out (HB.out.kept G1.out) hm).mono ?_
    rintro e w2 ⟨rfl, g⟩
    have hp := row_held g HP.out
    have hq := row_held g HQ.out
    have G2 := Lib.hid (gby_trans G1.out g)
    clear g p0 p1 p2 p3 p4 p5 p6 p7 q0 q1 q2 q3 q4 q5 q6 q7 HP HQ
    obtain ⟨p0, p1, p2, p3, p4, p5, p6, p7⟩ := pg_row hp
    obtain ⟨q0, q1, q2, q3, q4, q5, q6, q7⟩ := pg_row hq
    have HP := Lib.hid hp
    have HQ := Lib.hid hq
    clear hp hq
    go_wp2
    go_ret
    exact ⟨ret_bool (by rw [why]), G2.out⟩

/-- the rule of two classes -/
def prC (ca cb : Int) : Int := if cb = 0 then 0 else if ca = 2 ∧ cb = 2 then 2 else 1

set_option maxRecDepth 8000 in
set_option maxHeartbeats 4000000 in
theorem passRule_any (W : World) (ca cb : Int) (h1 : 0 ≤ ca) (h2 : ca ≤ 2) (h3 : 0 ≤ cb) (h4 : cb ≤ 2) :
    Calls Try.prog 112 #[.int .i64 ca, .int .i64 cb] W (AnsG (.int .i64 (prC ca cb)) W) := by
  rcases (show ca = 0 ∨ ca = 1 ∨ ca = 2 by omega) with rfl | rfl | rfl <;> rcases (show cb = 0 ∨ cb = 1 ∨ cb = 2 by omega) with rfl | rfl | rfl
  all_goals
    go_enter Try.func112, Try.ntmps112
    go_wp2
    go_ret
    exact ⟨rfl, by first | exact gby_alloc (gby_refl _ _) _ | exact gby_drewN (gby_alloc (gby_refl _ _) _) _⟩

end Go.Proofs.Ytnighnkkeiegnaa
