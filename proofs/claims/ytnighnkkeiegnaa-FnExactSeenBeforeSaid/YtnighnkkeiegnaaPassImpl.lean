/-
  MayPass of the program.
-/
import Derived.Test.YtnighnkkeiegnaaPass
import Derived.Deep.RegionHeld3
namespace Go.Proofs.Ytnighnkkeiegnaa
open Go Go.RowKit
set_option linter.unusedVariables false

theorem implPk_yes (W : World) {k f t a l g s : Int} (d : Option Addr) (n c : Nat) {xs : List Int} {ca : Int} (q : ClsOf k f t a l g s xs ca) (h : 0 ≤ ca) (H : ISl W d n xs) (hl : n ≤ 1048576) :
    Calls Try.prog 107 #[pkV k f t a l g s d n c] W (AnsG (.bool true) W) := by
  have := implPk_cls W d n c q H hl
  rwa [show decide (0 ≤ ca) = true from decide_eq_true h] at this

theorem implPk_no (W : World) {k f t a l g s : Int} (d : Option Addr) (n c : Nat) {xs : List Int} {ca : Int} (q : ClsOf k f t a l g s xs ca) (h : ca < 0) (H : ISl W d n xs) (hl : n ≤ 1048576) :
    Calls Try.prog 107 #[pkV k f t a l g s d n c] W (AnsG (.bool false) W) := by
  have := implPk_cls W d n c q H hl
  rwa [show decide (0 ≤ ca) = false from decide_eq_false (by omega)] at this

set_option maxRecDepth 8000 in
set_option maxHeartbeats 4000000 in
theorem implMay_any (W : World) (k f t a l g s : Int) (d : Option Addr) (n c : Nat) (xs : List Int) (k' f' t' a' l' g' s' : Int) (d' : Option Addr) (n' c' : Nat) (ys : List Int) (ca cb : Int) (qa : ClsOf k f t a l g s xs ca) (qb : ClsOf k' f' t' a' l' g' s' ys cb) (H : ISl W d n xs) (H' : ISl W d' n' ys) (hl : n ≤ 1048576) (hm : n' ≤ 1048576) :
    Calls Try.prog 72 #[pgV k f t a l g s d n c, pgV k' f' t' a' l' g' s' d' n' c'] W (AnsG (.bool (mayC ca cb t g t' g')) W) := by
  have HA := Lib.hid H
  have HB := Lib.hid H'
  have QA := Lib.hid qa
  have QB := Lib.hid qb
  obtain ⟨ra, ra'⟩ := qa.rng
  obtain ⟨rb, rb'⟩ := qb.rng
  clear H H' qa qb
  unfold pgV
  by_cases h1 : ca < 0
  · have why : mayC ca cb t g t' g' = false := decide_eq_false (by omega)
    go_enter Try.func72, Try.ntmps72
    go_wp2_with fail
    go_at_call 107
    refine (implPk_no _ _ _ _ QA.out (by omega) (HA.out.kept (gby_alloc (gby_alloc (gby_refl _ _) _) _)) hl).mono ?_
    rintro e w1 ⟨rfl, g⟩
    have hp := row_held g (W := (W.alloc _).alloc _) (b := W.heap.size) (by rw [heap_alloc_old _ _ (by simp)]; exact heap_alloc_new W _)
    have hq := row_held g (W := (W.alloc _).alloc _) (b := W.heap.size + 1) (heap_pair W _ _)
    have G1 := Lib.hid (gby_trans (gby_alloc (gby_alloc (gby_refl W none) _) _) g)
    clear g
    obtain ⟨p0, p1, p2, p3, p4, p5, p6, p7⟩ := pg_row hp
    obtain ⟨q0, q1, q2, q3, q4, q5, q6, q7⟩ := pg_row hq
    have HP := Lib.hid hp
    have HQ := Lib.hid hq
    clear hp hq
    go_wp2
    go_ret
    exact ⟨ret_bool (by rw [why]), G1.out⟩
  by_cases h2 : cb < 0
  · have why : mayC ca cb t g t' g' = false := decide_eq_false (by omega)
    go_enter Try.func72, Try.ntmps72
    go_wp2_with fail
    go_at_call 107
    refine (implPk_yes _ _ _ _ QA.out (by omega) (HA.out.kept (gby_alloc (gby_alloc (gby_refl _ _) _) _)) hl).mono ?_
    rintro e w1 ⟨rfl, g⟩
    have hp := row_held g (W := (W.alloc _).alloc _) (b := W.heap.size) (by rw [heap_alloc_old _ _ (by simp)]; exact heap_alloc_new W _)
    have hq := row_held g (W := (W.alloc _).alloc _) (b := W.heap.size + 1) (heap_pair W _ _)
    have G1 := Lib.hid (gby_trans (gby_alloc (gby_alloc (gby_refl W none) _) _) g)
    clear g
    obtain ⟨p0, p1, p2, p3, p4, p5, p6, p7⟩ := pg_row hp
    obtain ⟨q0, q1, q2, q3, q4, q5, q6, q7⟩ := pg_row hq
    have HP := Lib.hid hp
    have HQ := Lib.hid hq
    clear hp hq
    go_wp2_with fail
    go_at_call 107
    refine (implPk_no _ _ _ _ QB.out (by omega) (HB.out.kept G1.out) hm).mono ?_
    rintro e w2 ⟨rfl, g⟩
    have hp := row_held g HP.out
    have hq := row_held g HQ.out
    have G2 := Lib.hid (gby_trans G1.out g)
    clear g p0 p1 p2 p3 p4 p5 p6 p7 q0 q1 q2 q3 q4 q5 q6 q7 HP HQ
    obtain ⟨p0, p1, p2, p3, p4, p5, p6, p7⟩ := pg_row hp
    obtain ⟨q0, q1, q2, q3, q4, q5, q6, q7⟩ := pg_row hq
    have HP := Lib.hid hp
    have HQ := Lib.hid hq
    clear hp hq
    go_wp2
    go_ret
    exact ⟨ret_bool (by rw [why]), G2.out⟩
  obtain ⟨pv, hpv⟩ : ∃ pv, pv = prC ca cb := ⟨_, rfl⟩
  have HPR := Lib.hid (show ∀ W : World, Calls Try.prog 112 #[.int .i64 ca, .int .i64 cb] W (AnsG (.int .i64 pv) W) from fun W => by rw [hpv]; exact passRule_any W ca cb (by omega) (by omega) (by omega) (by omega))
  have HV := Lib.hid hpv
  clear hpv
  go_enter Try.func72, Try.ntmps72
  go_wp2_with fail
  go_at_call 107
  refine (implPk_yes _ _ _ _ QA.out (by omega) (HA.out.kept (gby_alloc (gby_alloc (gby_refl _ _) _) _)) hl).mono ?_
  rintro e w1 ⟨rfl, g⟩
  have hp := row_held g (W := (W.alloc _).alloc _) (b := W.heap.size) (by rw [heap_alloc_old _ _ (by simp)]; exact heap_alloc_new W _)
  have hq := row_held g (W := (W.alloc _).alloc _) (b := W.heap.size + 1) (heap_pair W _ _)
  have G1 := Lib.hid (gby_trans (gby_alloc (gby_alloc (gby_refl W none) _) _) g)
  clear g
  obtain ⟨p0, p1, p2, p3, p4, p5, p6, p7⟩ := pg_row hp
  obtain ⟨q0, q1, q2, q3, q4, q5, q6, q7⟩ := pg_row hq
  have HP := Lib.hid hp
  have HQ := Lib.hid hq
  clear hp hq
  go_wp2_with fail
  go_at_call 107
  refine (implPk_yes _ _ _ _ QB.out (by omega) (HB.out.kept G1.out) hm).mono ?_
  rintro e w2 ⟨rfl, g⟩
  have hp := row_held g HP.out
  have hq := row_held g HQ.out
  have G2 := Lib.hid (gby_trans G1.out g)
  clear g p0 p1 p2 p3 p4 p5 p6 p7 q0 q1 q2 q3 q4 q5 q6 q7 HP HQ
  obtain ⟨p0, p1, p2, p3, p4, p5, p6, p7⟩ := pg_row hp
  obtain ⟨q0, q1, q2, q3, q4, q5, q6, q7⟩ := pg_row hq
  have HP := Lib.hid hp
  have HQ := Lib.hid hq
  clear hp hq
  go_wp2_with fail
  go_region_held3 (fun w' => w'.cell? ⟨W.heap.size, 0, none⟩ = some (.int .i64 k) ∧ w'.cell? ⟨W.heap.size, 1, none⟩ = some (.int .i64 f) ∧ w'.cell? ⟨W.heap.size, 2, none⟩ = some (.int .i64 t) ∧ w'.cell? ⟨W.heap.size, 3, none⟩ = some (.int .i64 a) ∧ w'.cell? ⟨W.heap.size, 4, none⟩ = some (.int .i64 l) ∧ w'.cell? ⟨W.heap.size, 5, none⟩ = some (.int .i64 g) ∧ w'.cell? ⟨W.heap.size, 6, none⟩ = some (.int .i64 s) ∧ w'.cell? ⟨W.heap.size, 7, none⟩ = some (.slice d n c) ∧ w'.cell? ⟨W.heap.size + 1, 0, none⟩ = some (.int .i64 k') ∧ w'.cell? ⟨W.heap.size + 1, 1, none⟩ = some (.int .i64 f') ∧ w'.cell? ⟨W.heap.size + 1, 2, none⟩ = some (.int .i64 t') ∧ w'.cell? ⟨W.heap.size + 1, 3, none⟩ = some (.int .i64 a') ∧ w'.cell? ⟨W.heap.size + 1, 4, none⟩ = some (.int .i64 l') ∧ w'.cell? ⟨W.heap.size + 1, 5, none⟩ = some (.int .i64 g') ∧ w'.cell? ⟨W.heap.size + 1, 6, none⟩ = some (.int .i64 s') ∧ w'.cell? ⟨W.heap.size + 1, 7, none⟩ = some (.slice d' n' c'))
    (first
      | exact ⟨p0, p1, p2, p3, p4, p5, p6, p7, q0, q1, q2, q3, q4, q5, q6, q7⟩
      | exact ⟨(gr0.cell p0 (by simp)), (gr0.cell p1 (by simp)), (gr0.cell p2 (by simp)), (gr0.cell p3 (by simp)), (gr0.cell p4 (by simp)), (gr0.cell p5 (by simp)), (gr0.cell p6 (by simp)), (gr0.cell p7 (by simp)), (gr0.cell q0 (by simp)), (gr0.cell q1 (by simp)), (gr0.cell q2 (by simp)), (gr0.cell q3 (by simp)), (gr0.cell q4 (by simp)), (gr0.cell q5 (by simp)), (gr0.cell q6 (by simp)), (gr0.cell q7 (by simp))⟩
      | exact ⟨(gr1.cell (gr0.cell p0 (by simp)) (by simp)), (gr1.cell (gr0.cell p1 (by simp)) (by simp)), (gr1.cell (gr0.cell p2 (by simp)) (by simp)), (gr1.cell (gr0.cell p3 (by simp)) (by simp)), (gr1.cell (gr0.cell p4 (by simp)) (by simp)), (gr1.cell (gr0.cell p5 (by simp)) (by simp)), (gr1.cell (gr0.cell p6 (by simp)) (by simp)), (gr1.cell (gr0.cell p7 (by simp)) (by simp)), (gr1.cell (gr0.cell q0 (by simp)) (by simp)), (gr1.cell (gr0.cell q1 (by simp)) (by simp)), (gr1.cell (gr0.cell q2 (by simp)) (by simp)), (gr1.cell (gr0.cell q3 (by simp)) (by simp)), (gr1.cell (gr0.cell q4 (by simp)) (by simp)), (gr1.cell (gr0.cell q5 (by simp)) (by simp)), (gr1.cell (gr0.cell q6 (by simp)) (by simp)), (gr1.cell (gr0.cell q7 (by simp)) (by simp))⟩
      | exact ⟨(gr2.cell (gr1.cell (gr0.cell p0 (by simp)) (by simp)) (by simp)), (gr2.cell (gr1.cell (gr0.cell p1 (by simp)) (by simp)) (by simp)), (gr2.cell (gr1.cell (gr0.cell p2 (by simp)) (by simp)) (by simp)), (gr2.cell (gr1.cell (gr0.cell p3 (by simp)) (by simp)) (by simp)), (gr2.cell (gr1.cell (gr0.cell p4 (by simp)) (by simp)) (by simp)), (gr2.cell (gr1.cell (gr0.cell p5 (by simp)) (by simp)) (by simp)), (gr2.cell (gr1.cell (gr0.cell p6 (by simp)) (by simp)) (by simp)), (gr2.cell (gr1.cell (gr0.cell p7 (by simp)) (by simp)) (by simp)), (gr2.cell (gr1.cell (gr0.cell q0 (by simp)) (by simp)) (by simp)), (gr2.cell (gr1.cell (gr0.cell q1 (by simp)) (by simp)) (by simp)), (gr2.cell (gr1.cell (gr0.cell q2 (by simp)) (by simp)) (by simp)), (gr2.cell (gr1.cell (gr0.cell q3 (by simp)) (by simp)) (by simp)), (gr2.cell (gr1.cell (gr0.cell q4 (by simp)) (by simp)) (by simp)), (gr2.cell (gr1.cell (gr0.cell q5 (by simp)) (by simp)) (by simp)), (gr2.cell (gr1.cell (gr0.cell q6 (by simp)) (by simp)) (by simp)), (gr2.cell (gr1.cell (gr0.cell q7 (by simp)) (by simp)) (by simp))⟩)
    (first
      | (go_at_call_of 113 (Value.agg #[.int .i64 k, .int .i64 f, .int .i64 t, .int .i64 a, .int .i64 l, .int .i64 g, .int .i64 s, .slice d n c]); refine (implCls_any _ _ _ _ QA.out (HA.out.kept (gby_drew G2.out)) hl).mono ?_; rintro e wr30 ⟨rfl, gr0⟩)
      | (go_at_call_of 113 (Value.agg #[.int .i64 k', .int .i64 f', .int .i64 t', .int .i64 a', .int .i64 l', .int .i64 g', .int .i64 s', .slice d' n' c']); refine (implCls_any _ _ _ _ QB.out (HB.out.kept (gby_trans (gby_drew G2.out) gr0)) hm).mono ?_; rintro e wr31 ⟨rfl, gr1⟩)
      | (go_at_call 112; refine (HPR.out _).mono ?_; rintro e wr32 ⟨rfl, gr2⟩))
  all_goals
    have gz : (w2).grownBy wr32 none := (gby_trans (gby_trans (gby_trans (gby_drew (gby_refl _ _)) gr0) gr1) gr2)
    have hp := row_held gz HP.out
    have hq := row_held gz HQ.out
    have G3 := Lib.hid (gby_trans G2.out gz)
    clear gz gr0 gr1 gr2 p0 p1 p2 p3 p4 p5 p6 p7 q0 q1 q2 q3 q4 q5 q6 q7 HP HQ
    obtain ⟨p0, p1, p2, p3, p4, p5, p6, p7⟩ := pg_row hp
    obtain ⟨q0, q1, q2, q3, q4, q5, q6, q7⟩ := pg_row hq
    have HP := Lib.hid hp
    have HQ := Lib.hid hq
    clear hp hq
    have hpv := HV.out
    by_cases h0 : cb = 0
    · have why : mayC ca cb t g t' g' = false := decide_eq_false (by omega)
      obtain rfl : pv = 0 := hpv.trans (if_pos h0)
      clear hpv
      go_wp2
      go_ret
      exact ⟨ret_bool (by rw [why]), G3.out⟩
    · by_cases h3 : ca = 2 ∧ cb = 2
      · obtain rfl : pv = 2 := hpv.trans ((if_neg h0).trans (if_pos h3))
        obtain ⟨h3, h4⟩ := h3
        clear hpv
        by_cases h5 : t = t'
        · have b5 : (t != t') = false := by simp [h5]
          by_cases h6 : g = g'
          · have b6 : (g != g') = false := by simp [h6]
            have why : mayC ca cb t g t' g' = false := decide_eq_false (by omega)
            go_wp2
            go_ret
            exact ⟨ret_bool (by rw [why]), G3.out⟩
          · have b6 : (g != g') = true := by simp [h6]
            have why : mayC ca cb t g t' g' = true := decide_eq_true (by omega)
            clear h6
            go_wp2
            go_ret
            exact ⟨ret_bool (by rw [why]), G3.out⟩
        · have b5 : (t != t') = true := by simp [h5]
          have why : mayC ca cb t g t' g' = true := decide_eq_true (by omega)
          clear h5
          go_wp2
          go_ret
          exact ⟨ret_bool (by rw [why]), G3.out⟩
      · have why : mayC ca cb t g t' g' = true := decide_eq_true (by omega)
        obtain rfl : pv = 1 := hpv.trans ((if_neg h0).trans (if_neg h3))
        clear hpv
        go_wp2
        go_ret
        exact ⟨ret_bool (by rw [why]), G3.out⟩

theorem may_both (k f t a l g s : Int) (xs : List Int) (k' f' t' a' l' g' s' : Int) (ys : List Int) (hl : xs.length ≤ 1048576) (hm : ys.length ≤ 1048576) : ∃ b : Bool,
    (∀ (W : World) (u u' : Option Addr) (v v' : Nat), RdI W (.slice u xs.length v) xs → RdI W (.slice u' ys.length v') ys → Calls Try.prog 70 #[pgV k f t a l g s u xs.length v, pgV k' f' t' a' l' g' s' u' ys.length v'] W (AnsN (.bool b) W)) ∧
    ∀ (W : World) (u u' : Option Addr) (v v' : Nat), RdI W (.slice u xs.length v) xs → RdI W (.slice u' ys.length v') ys → Calls Try.prog 72 #[pgV k f t a l g s u xs.length v, pgV k' f' t' a' l' g' s' u' ys.length v'] W (AnsN (.bool b) W) := by
  obtain ⟨ca, qa⟩ := clsOf_ex k f t a l g s xs
  obtain ⟨cb, qb⟩ := clsOf_ex k' f' t' a' l' g' s' ys
  exact ⟨_, fun W u u' v v' H H' => specMay_any W k f t a l g s u _ v xs k' f' t' a' l' g' s' u' _ v' ys ca cb qa qb H.isl' H'.isl' hl hm,
    fun W u u' v v' H H' => implMay_any W k f t a l g s u _ v xs k' f' t' a' l' g' s' u' _ v' ys ca cb qa qb H.isl' H'.isl' hl hm⟩

end Go.Proofs.Ytnighnkkeiegnaa
