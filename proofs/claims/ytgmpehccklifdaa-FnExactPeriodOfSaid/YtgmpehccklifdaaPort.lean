/-
  Widths and ports on both sides.
-/
import Derived.Test.YtgmpehccklifdaaBits4Impl
import Derived.Test.YtgmpehccklifdaaChg
import Derived.ProofKit
import Derived.Deep.RegionHeld3
import Derived.OpenShut
import Derived.ChangeSame
namespace Go.Proofs.Ytgmpehccklifdaa
open Go Go.RowKit Go.ChangeShapes Go.WideShapes Go.ChangeAt
set_option linter.unusedVariables false

/-- 1, 2 or 4 -/
def IsW (n : Int) : Prop := n = 1 ∨ n = 2 ∨ n = 4
instance (n : Int) : Decidable (IsW n) := by unfold IsW; infer_instance

theorem specW_any (n : Int) (W : World) : Calls Try.prog 15 #[.int .i64 n] W (Ans (.bool (decide (IsW n))) W) := by
  by_cases h1 : n = 1
  · subst h1
    go_enter Try.func15, Try.ntmps15
    go_wp2
    go_ret
    exact ⟨ret_bool (by decide), Drew.refl _⟩
  · have b1 : (n == 1) = false := by simp [h1]
    by_cases h2 : n = 2
    · subst h2
      go_enter Try.func15, Try.ntmps15
      go_wp2
      go_ret
      exact ⟨ret_bool (by decide), Drew.refl _⟩
    · have b2 : (n == 2) = false := by simp [h2]
      by_cases h3 : n = 4
      · subst h3
        go_enter Try.func15, Try.ntmps15
        go_wp2
        go_ret
        exact ⟨ret_bool (by decide), Drew.refl _⟩
      · have b3 : (n == 4) = false := by simp [h3]
        have hn : ¬ IsW n := by rintro (h | h | h) <;> omega
        clear h1 h2 h3
        go_enter Try.func15, Try.ntmps15
        go_wp2
        go_ret
        exact ⟨ret_bool (by simp [hn]), Drew.refl _⟩

theorem isW_pow (n : Int) (h : 1 ≤ n) (h4 : n ≤ 4) : IsPow n ↔ IsW n := by
  constructor
  · rintro ⟨k, hk, rfl⟩
    rcases k with _ | _ | _ | k
    · exact .inl rfl
    · exact .inr (.inl rfl)
    · exact .inr (.inr rfl)
    · have : 2 ^ 3 ≤ 2 ^ (k + 1 + 1 + 1) := Nat.pow_le_pow_right (by omega) (by omega)
      omega
  · rintro (rfl | rfl | rfl)
    · exact ⟨0, by omega, rfl⟩
    · exact ⟨1, by omega, rfl⟩
    · exact ⟨2, by omega, rfl⟩

theorem implW_any (n : Int) (W : World) : Calls Try.prog 16 #[.int .i64 n] W (Ans (.bool (decide (IsW n))) W) := by
  by_cases h : 1 ≤ n ∧ n ≤ 4
  · obtain ⟨h1, h4⟩ := h
    by_cases hp : IsW n
    · have HP := Lib.hid ((isW_pow n h1 h4).2 hp)
      rw [show decide (IsW n) = true from decide_eq_true hp]
      clear hp
      go_enter Try.func16, Try.ntmps16
      go_wp2_with fail
      go_at_call 48
      refine (rng_yes _ _ _ _ (by omega) (by omega)).mono ?_
      rintro e w' ⟨rfl, rfl⟩
      go_wp2_with fail
      go_at_call 49
      refine (implPower_yes _ _ HP.out).mono ?_
      rintro e w' ⟨rfl, hd⟩
      have HD := Lib.hid hd
      clear hd
      go_wp2
      go_ret
      exact ⟨rfl, HD.out⟩
    · have HP := Lib.hid (fun q => hp ((isW_pow n h1 h4).1 q))
      rw [show decide (IsW n) = false from decide_eq_false hp]
      clear hp
      go_enter Try.func16, Try.ntmps16
      go_wp2_with fail
      go_at_call 48
      refine (rng_yes _ _ _ _ (by omega) (by omega)).mono ?_
      rintro e w' ⟨rfl, rfl⟩
      go_wp2_with fail
      go_at_call 49
      refine (implPower_no _ _ HP.out).mono ?_
      rintro e w' ⟨rfl, hd⟩
      have HD := Lib.hid hd
      clear hd
      go_wp2
      go_ret
      exact ⟨rfl, HD.out⟩
  · have hn : ¬ IsW n := by rintro (e | e | e) <;> omega
    rw [show decide (IsW n) = false from decide_eq_false hn]
    clear hn
    go_enter Try.func16, Try.ntmps16
    go_wp2_with fail
    go_at_call 48
    refine (rng_no _ _ _ _ (by omega)).mono ?_
    rintro e w' ⟨rfl, rfl⟩
    go_wp2
    go_ret
    exact ⟨rfl, Drew.refl _⟩

theorem walk_exactIsWidth (q : Int) (W : World) :
    Calls Try.prog 3 #[.int .i64 q] W fun e w' => e = .returned (.bool true) ∧ Below W.heap.size W w' := by
  obtain ⟨r, hr⟩ : ∃ r, r = decide (IsW q) := ⟨_, rfl⟩
  have HS := Lib.hid (hr ▸ fun W => specW_any q W)
  have HM := Lib.hid (hr ▸ fun W => implW_any q W)
  clear hr
  cases r
  all_goals
    go_enter Try.func3, Try.ntmps3
    go_wp2_with fail
    go_at_call 15
    refine (HS.out _).mono ?_
    rintro e w1 ⟨rfl, g1⟩
    have G1 := Lib.hid g1
    clear g1
    go_wp2_with fail
    go_at_call 16
    refine (HM.out _).mono ?_
    rintro e w2 ⟨rfl, g2⟩
    have G2 := Lib.hid g2
    clear g2
    go_wp2
    go_ret
    exact ⟨rfl, gby_below ((G1.out.trans G2.out).gby none)⟩

/-- a port -/
def ptV (s w o r : Int) : Value := .agg #[.int .i64 s, .int .i64 w, .int .i64 o, .int .i64 r]
/-- a valid port -/
def PtOk (s w o r : Int) : Prop := (0 ≤ s ∧ s ≤ 5) ∧ IsW o ∧ (0 ≤ r ∧ r ≤ 3) ∧ ((s = 3 ∨ s = 4) ∧ IsW w ∧ w ≤ o ∨ (s ≠ 3 ∧ s ≠ 4) ∧ w = 0)

theorem pt_row {w' : World} {b : Nat} {s w o r : Int} {ty : TypeId} (h : w'.heap[b]? = some (.cells #[.int .i64 s, .int .i64 w, .int .i64 o, .int .i64 r] ty (0, 0))) :
    w'.cell? ⟨b, 0, none⟩ = some (.int .i64 s) ∧ w'.cell? ⟨b, 1, none⟩ = some (.int .i64 w) ∧ w'.cell? ⟨b, 2, none⟩ = some (.int .i64 o) ∧ w'.cell? ⟨b, 3, none⟩ = some (.int .i64 r) :=
  ⟨cell_of_row w' b 0 _ _ _ h, cell_of_row w' b 1 _ _ _ h, cell_of_row w' b 2 _ _ _ h, cell_of_row w' b 3 _ _ _ h⟩
theorem heap_pair (W : World) (a b : Obj) : ((W.alloc a).alloc b).heap[W.heap.size + 1]? = some b := by
  have e : (W.alloc a).heap.size = W.heap.size + 1 := by simp
  rw [← e]; exact heap_alloc_new _ _
theorem row_held {W w : World} {b : Nat} {o : Obj} (g : W.grownBy w none) (h : W.heap[b]? = some o) : w.heap[b]? = some o := by
  rw [g.block b (block_in h) (by simp)]; exact h

set_option maxRecDepth 8000 in
set_option maxHeartbeats 1000000 in
theorem toPt_any (W : World) (s w o r : Int) : Calls Try.prog 20 #[ptV s w o r] W (AnsN (ptV s w o r) W) := by
  unfold ptV
  go_enter Try.func20, Try.ntmps20
  go_wp2
  refine bodyPost_ret (v := ptV s w o r) (by simp [results, go_sem, ptV]) rfl ⟨rfl, ?_⟩
  repeat (with_reducible refine gby_alloc ?_ _)
  exact gby_refl _ _

set_option maxRecDepth 8000 in
set_option maxHeartbeats 2000000 in
theorem specPt_any (W : World) (s w o r : Int) (b : Bool) (hb : b = true ↔ PtOk s w o r) : Calls Try.prog 19 #[ptV s w o r] W (AnsN (.bool b) W) := by
  obtain ⟨bo, ho⟩ : ∃ x, decide (IsW o) = x := ⟨_, rfl⟩
  obtain ⟨bw, hw⟩ : ∃ x, decide (IsW w) = x := ⟨_, rfl⟩
  have HO := Lib.hid ho
  have HW := Lib.hid hw
  have HB := Lib.hid hb
  clear ho hw hb
  unfold ptV
  by_cases h1 : 0 ≤ s ∧ s ≤ 5
  · cases bo
    · have hf : b = false := by
        cases b
        · rfl
        · exact absurd (HB.out.1 rfl).2.1 (of_decide_eq_false HO.out)
      subst hf
      go_enter Try.func19, Try.ntmps19
      go_wp2_with fail
      go_at_call 50
      refine (in_yes _ _ _ _ (by omega) (by omega)).mono ?_
      rintro e w' ⟨rfl, rfl⟩
      go_wp2_with fail
      go_at_call 15
      refine (specW_any _ _).mono ?_
      rw [HO.out]
      rintro e w1 ⟨rfl, d1⟩
      have G1 := Lib.hid (gby_trans (gby_alloc (gby_refl W none) _) (d1.gby none))
      clear d1
      go_wp2
      go_ret
      exact ⟨rfl, G1.out⟩
    · by_cases h2 : 0 ≤ r ∧ r ≤ 3
      · by_cases h3 : s = 3
        · subst h3
          cases bw
          · have hf : b = false := by
              cases b
              · rfl
              · rcases (HB.out.1 rfl).2.2.2 with ⟨_, q, _⟩ | ⟨q, _⟩
                · exact absurd q (of_decide_eq_false HW.out)
                · omega
            subst hf
            go_enter Try.func19, Try.ntmps19
            go_wp2_with fail
            go_at_call 50
            refine (in_yes _ _ _ _ (by omega) (by omega)).mono ?_
            rintro e w' ⟨rfl, rfl⟩
            go_wp2_with fail
            go_at_call 15
            refine (specW_any _ _).mono ?_
            rw [HO.out]
            rintro e w1 ⟨rfl, d1⟩
            have hrow := row_held (d1.gby none) (heap_alloc_new W (.cells #[.int .i64 3, .int .i64 w, .int .i64 o, .int .i64 r] 27))
            have G1 := Lib.hid (gby_trans (gby_alloc (gby_refl W none) _) (d1.gby none))
            obtain ⟨k0, k1, k2, k3⟩ := pt_row hrow
            have HROW := Lib.hid hrow
            clear hrow d1
            go_wp2_with fail
            go_at_call 50
            refine (in_yes _ _ _ _ (by omega) (by omega)).mono ?_
            rintro e w' ⟨rfl, rfl⟩
            go_wp2_with fail
            go_at_call 15
            refine (specW_any _ _).mono ?_
            rw [HW.out]
            rintro e w2 ⟨rfl, d2⟩
            have G2 := Lib.hid (gby_trans G1.out (d2.gby none))
            clear d2
            go_wp2
            go_ret
            exact ⟨rfl, G2.out⟩
          · by_cases h5 : w ≤ o
            · have hf : b = true := HB.out.2 ⟨by omega, of_decide_eq_true HO.out, h2, .inl ⟨by omega, of_decide_eq_true HW.out, h5⟩⟩
              subst hf
              go_enter Try.func19, Try.ntmps19
              go_wp2_with fail
              go_at_call 50
              refine (in_yes _ _ _ _ (by omega) (by omega)).mono ?_
              rintro e w' ⟨rfl, rfl⟩
              go_wp2_with fail
              go_at_call 15
              refine (specW_any _ _).mono ?_
              rw [HO.out]
              rintro e w1 ⟨rfl, d1⟩
              have hrow := row_held (d1.gby none) (heap_alloc_new W (.cells #[.int .i64 3, .int .i64 w, .int .i64 o, .int .i64 r] 27))
              have G1 := Lib.hid (gby_trans (gby_alloc (gby_refl W none) _) (d1.gby none))
              obtain ⟨k0, k1, k2, k3⟩ := pt_row hrow
              have HROW := Lib.hid hrow
              clear hrow d1
              go_wp2_with fail
              go_at_call 50
              refine (in_yes _ _ _ _ (by omega) (by omega)).mono ?_
              rintro e w' ⟨rfl, rfl⟩
              go_wp2_with fail
              go_at_call 15
              refine (specW_any _ _).mono ?_
              rw [HW.out]
              rintro e w2 ⟨rfl, d2⟩
              have hrow := row_held (d2.gby none) HROW.out
              have G2 := Lib.hid (gby_trans G1.out (d2.gby none))
              clear HROW k0 k1 k2 k3
              obtain ⟨k0, k1, k2, k3⟩ := pt_row hrow
              have HROW := Lib.hid hrow
              clear hrow d2
              
              go_wp2
              go_ret
              exact ⟨by first | rfl | exact ret_bool (by simp; omega), G2.out⟩
            · have hf : b = false := by
                cases b
                · rfl
                · rcases (HB.out.1 rfl).2.2.2 with ⟨_, _, q⟩ | ⟨q, _⟩
                  · exact absurd q h5
                  · omega
              subst hf
              go_enter Try.func19, Try.ntmps19
              go_wp2_with fail
              go_at_call 50
              refine (in_yes _ _ _ _ (by omega) (by omega)).mono ?_
              rintro e w' ⟨rfl, rfl⟩
              go_wp2_with fail
              go_at_call 15
              refine (specW_any _ _).mono ?_
              rw [HO.out]
              rintro e w1 ⟨rfl, d1⟩
              have hrow := row_held (d1.gby none) (heap_alloc_new W (.cells #[.int .i64 3, .int .i64 w, .int .i64 o, .int .i64 r] 27))
              have G1 := Lib.hid (gby_trans (gby_alloc (gby_refl W none) _) (d1.gby none))
              obtain ⟨k0, k1, k2, k3⟩ := pt_row hrow
              have HROW := Lib.hid hrow
              clear hrow d1
              go_wp2_with fail
              go_at_call 50
              refine (in_yes _ _ _ _ (by omega) (by omega)).mono ?_
              rintro e w' ⟨rfl, rfl⟩
              go_wp2_with fail
              go_at_call 15
              refine (specW_any _ _).mono ?_
              rw [HW.out]
              rintro e w2 ⟨rfl, d2⟩
              have hrow := row_held (d2.gby none) HROW.out
              have G2 := Lib.hid (gby_trans G1.out (d2.gby none))
              clear HROW k0 k1 k2 k3
              obtain ⟨k0, k1, k2, k3⟩ := pt_row hrow
              have HROW := Lib.hid hrow
              clear hrow d2
              
              go_wp2
              go_ret
              exact ⟨by first | rfl | exact ret_bool (by simp; omega), G2.out⟩
        · by_cases h4 : s = 4
          · subst h4
            have e3 : ((4 : Int) == 3) = false := by decide
            cases bw
            · have hf : b = false := by
                cases b
                · rfl
                · rcases (HB.out.1 rfl).2.2.2 with ⟨_, q, _⟩ | ⟨q, _⟩
                  · exact absurd q (of_decide_eq_false HW.out)
                  · omega
              subst hf
              go_enter Try.func19, Try.ntmps19
              go_wp2_with fail
              go_at_call 50
              refine (in_yes _ _ _ _ (by omega) (by omega)).mono ?_
              rintro e w' ⟨rfl, rfl⟩
              go_wp2_with fail
              go_at_call 15
              refine (specW_any _ _).mono ?_
              rw [HO.out]
              rintro e w1 ⟨rfl, d1⟩
              have hrow := row_held (d1.gby none) (heap_alloc_new W (.cells #[.int .i64 4, .int .i64 w, .int .i64 o, .int .i64 r] 27))
              have G1 := Lib.hid (gby_trans (gby_alloc (gby_refl W none) _) (d1.gby none))
              obtain ⟨k0, k1, k2, k3⟩ := pt_row hrow
              have HROW := Lib.hid hrow
              clear hrow d1
              go_wp2_with fail
              go_at_call 50
              refine (in_yes _ _ _ _ (by omega) (by omega)).mono ?_
              rintro e w' ⟨rfl, rfl⟩
              go_wp2_with fail
              go_at_call 15
              refine (specW_any _ _).mono ?_
              rw [HW.out]
              rintro e w2 ⟨rfl, d2⟩
              have G2 := Lib.hid (gby_trans G1.out (d2.gby none))
              clear d2
              go_wp2
              go_ret
              exact ⟨rfl, G2.out⟩
            · by_cases h5 : w ≤ o
              · have hf : b = true := HB.out.2 ⟨by omega, of_decide_eq_true HO.out, h2, .inl ⟨by omega, of_decide_eq_true HW.out, h5⟩⟩
                subst hf
                go_enter Try.func19, Try.ntmps19
                go_wp2_with fail
                go_at_call 50
                refine (in_yes _ _ _ _ (by omega) (by omega)).mono ?_
                rintro e w' ⟨rfl, rfl⟩
                go_wp2_with fail
                go_at_call 15
                refine (specW_any _ _).mono ?_
                rw [HO.out]
                rintro e w1 ⟨rfl, d1⟩
                have hrow := row_held (d1.gby none) (heap_alloc_new W (.cells #[.int .i64 4, .int .i64 w, .int .i64 o, .int .i64 r] 27))
                have G1 := Lib.hid (gby_trans (gby_alloc (gby_refl W none) _) (d1.gby none))
                obtain ⟨k0, k1, k2, k3⟩ := pt_row hrow
                have HROW := Lib.hid hrow
                clear hrow d1
                go_wp2_with fail
                go_at_call 50
                refine (in_yes _ _ _ _ (by omega) (by omega)).mono ?_
                rintro e w' ⟨rfl, rfl⟩
                go_wp2_with fail
                go_at_call 15
                refine (specW_any _ _).mono ?_
                rw [HW.out]
                rintro e w2 ⟨rfl, d2⟩
                have hrow := row_held (d2.gby none) HROW.out
                have G2 := Lib.hid (gby_trans G1.out (d2.gby none))
                clear HROW k0 k1 k2 k3
                obtain ⟨k0, k1, k2, k3⟩ := pt_row hrow
                have HROW := Lib.hid hrow
                clear hrow d2
                
                go_wp2
                go_ret
                exact ⟨by first | rfl | exact ret_bool (by simp; omega), G2.out⟩
              · have hf : b = false := by
                  cases b
                  · rfl
                  · rcases (HB.out.1 rfl).2.2.2 with ⟨_, _, q⟩ | ⟨q, _⟩
                    · exact absurd q h5
                    · omega
                subst hf
                go_enter Try.func19, Try.ntmps19
                go_wp2_with fail
                go_at_call 50
                refine (in_yes _ _ _ _ (by omega) (by omega)).mono ?_
                rintro e w' ⟨rfl, rfl⟩
                go_wp2_with fail
                go_at_call 15
                refine (specW_any _ _).mono ?_
                rw [HO.out]
                rintro e w1 ⟨rfl, d1⟩
                have hrow := row_held (d1.gby none) (heap_alloc_new W (.cells #[.int .i64 4, .int .i64 w, .int .i64 o, .int .i64 r] 27))
                have G1 := Lib.hid (gby_trans (gby_alloc (gby_refl W none) _) (d1.gby none))
                obtain ⟨k0, k1, k2, k3⟩ := pt_row hrow
                have HROW := Lib.hid hrow
                clear hrow d1
                go_wp2_with fail
                go_at_call 50
                refine (in_yes _ _ _ _ (by omega) (by omega)).mono ?_
                rintro e w' ⟨rfl, rfl⟩
                go_wp2_with fail
                go_at_call 15
                refine (specW_any _ _).mono ?_
                rw [HW.out]
                rintro e w2 ⟨rfl, d2⟩
                have hrow := row_held (d2.gby none) HROW.out
                have G2 := Lib.hid (gby_trans G1.out (d2.gby none))
                clear HROW k0 k1 k2 k3
                obtain ⟨k0, k1, k2, k3⟩ := pt_row hrow
                have HROW := Lib.hid hrow
                clear hrow d2
                
                go_wp2
                go_ret
                exact ⟨by first | rfl | exact ret_bool (by simp; omega), G2.out⟩
          · have e3 : (s == 3) = false := by simp [h3]
            have e4 : (s == 4) = false := by simp [h4]
            by_cases h5 : w = 0
            · have hf : b = true := HB.out.2 ⟨by omega, of_decide_eq_true HO.out, h2, .inr ⟨⟨h3, h4⟩, h5⟩⟩
              subst hf
              have e5 : (w == 0) = true := by simp [h5]
              clear h3 h4 h5
              go_enter Try.func19, Try.ntmps19
              go_wp2_with fail
              go_at_call 50
              refine (in_yes _ _ _ _ (by omega) (by omega)).mono ?_
              rintro e w' ⟨rfl, rfl⟩
              go_wp2_with fail
              go_at_call 15
              refine (specW_any _ _).mono ?_
              rw [HO.out]
              rintro e w1 ⟨rfl, d1⟩
              have hrow := row_held (d1.gby none) (heap_alloc_new W (.cells #[.int .i64 s, .int .i64 w, .int .i64 o, .int .i64 r] 27))
              have G1 := Lib.hid (gby_trans (gby_alloc (gby_refl W none) _) (d1.gby none))
              obtain ⟨k0, k1, k2, k3⟩ := pt_row hrow
              have HROW := Lib.hid hrow
              clear hrow d1
              go_wp2_with fail
              go_at_call 50
              refine (in_yes _ _ _ _ (by omega) (by omega)).mono ?_
              rintro e w' ⟨rfl, rfl⟩
              go_wp2
              go_ret
              exact ⟨rfl, G1.out⟩
            · have hf : b = false := by
                cases b
                · rfl
                · rcases (HB.out.1 rfl).2.2.2 with ⟨q, _⟩ | ⟨_, q⟩
                  · omega
                  · exact absurd q h5
              subst hf
              have e5 : (w == 0) = false := by simp [h5]
              clear h3 h4 h5
              go_enter Try.func19, Try.ntmps19
              go_wp2_with fail
              go_at_call 50
              refine (in_yes _ _ _ _ (by omega) (by omega)).mono ?_
              rintro e w' ⟨rfl, rfl⟩
              go_wp2_with fail
              go_at_call 15
              refine (specW_any _ _).mono ?_
              rw [HO.out]
              rintro e w1 ⟨rfl, d1⟩
              have hrow := row_held (d1.gby none) (heap_alloc_new W (.cells #[.int .i64 s, .int .i64 w, .int .i64 o, .int .i64 r] 27))
              have G1 := Lib.hid (gby_trans (gby_alloc (gby_refl W none) _) (d1.gby none))
              obtain ⟨k0, k1, k2, k3⟩ := pt_row hrow
              have HROW := Lib.hid hrow
              clear hrow d1
              go_wp2_with fail
              go_at_call 50
              refine (in_yes _ _ _ _ (by omega) (by omega)).mono ?_
              rintro e w' ⟨rfl, rfl⟩
              go_wp2
              go_ret
              exact ⟨rfl, G1.out⟩
      · have hf : b = false := by
          cases b
          · rfl
          · exact absurd (HB.out.1 rfl).2.2.1 h2
        subst hf
        go_enter Try.func19, Try.ntmps19
        go_wp2_with fail
        go_at_call 50
        refine (in_yes _ _ _ _ (by omega) (by omega)).mono ?_
        rintro e w' ⟨rfl, rfl⟩
        go_wp2_with fail
        go_at_call 15
        refine (specW_any _ _).mono ?_
        rw [HO.out]
        rintro e w1 ⟨rfl, d1⟩
        have hrow := row_held (d1.gby none) (heap_alloc_new W (.cells #[.int .i64 s, .int .i64 w, .int .i64 o, .int .i64 r] 27))
        have G1 := Lib.hid (gby_trans (gby_alloc (gby_refl W none) _) (d1.gby none))
        obtain ⟨k0, k1, k2, k3⟩ := pt_row hrow
        have HROW := Lib.hid hrow
        clear hrow d1
        go_wp2_with fail
        go_at_call 50
        refine (in_no _ _ _ _ (by omega)).mono ?_
        rintro e w' ⟨rfl, rfl⟩
        go_wp2
        go_ret
        exact ⟨rfl, G1.out⟩
  · have hf : b = false := by
      cases b
      · rfl
      · exact absurd (HB.out.1 rfl).1 h1
    subst hf
    go_enter Try.func19, Try.ntmps19
    go_wp2_with fail
    go_at_call 50
    refine (in_no _ _ _ _ (by omega)).mono ?_
    rintro e w' ⟨rfl, rfl⟩
    go_wp2
    go_ret
    exact ⟨rfl, gby_alloc (gby_refl _ _) _⟩

set_option maxRecDepth 8000 in
set_option maxHeartbeats 2000000 in
theorem implPt_any (W : World) (s w o r : Int) (b : Bool) (hb : b = true ↔ PtOk s w o r) : Calls Try.prog 21 #[ptV s w o r] W (AnsN (.bool b) W) := by
  obtain ⟨bo, ho⟩ : ∃ x, decide (IsW o) = x := ⟨_, rfl⟩
  obtain ⟨bw, hw⟩ : ∃ x, decide (IsW w) = x := ⟨_, rfl⟩
  have HO := Lib.hid ho
  have HW := Lib.hid hw
  have HB := Lib.hid hb
  clear ho hw hb
  unfold ptV
  by_cases h1 : 0 ≤ s ∧ s ≤ 5
  · cases bo
    · have hf : b = false := by
        cases b
        · rfl
        · exact absurd (HB.out.1 rfl).2.1 (of_decide_eq_false HO.out)
      subst hf
      go_enter Try.func21, Try.ntmps21
      go_wp2_with fail
      go_at_call 48
      refine (rng_yes _ _ _ _ (by omega) (by omega)).mono ?_
      rintro e w' ⟨rfl, rfl⟩
      go_wp2_with fail
      go_at_call 16
      refine (implW_any _ _).mono ?_
      rw [HO.out]
      rintro e w1 ⟨rfl, d1⟩
      have G1 := Lib.hid (gby_trans (gby_alloc (gby_refl W none) _) (d1.gby none))
      clear d1
      go_wp2
      go_ret
      exact ⟨rfl, G1.out⟩
    · by_cases h2 : 0 ≤ r ∧ r ≤ 3
      · by_cases h3 : s = 3
        · subst h3
          cases bw
          · have hf : b = false := by
              cases b
              · rfl
              · rcases (HB.out.1 rfl).2.2.2 with ⟨_, q, _⟩ | ⟨q, _⟩
                · exact absurd q (of_decide_eq_false HW.out)
                · omega
            subst hf
            go_enter Try.func21, Try.ntmps21
            go_wp2_with fail
            go_at_call 48
            refine (rng_yes _ _ _ _ (by omega) (by omega)).mono ?_
            rintro e w' ⟨rfl, rfl⟩
            go_wp2_with fail
            go_at_call 16
            refine (implW_any _ _).mono ?_
            rw [HO.out]
            rintro e w1 ⟨rfl, d1⟩
            have hrow := row_held (d1.gby none) (heap_alloc_new W (.cells #[.int .i64 3, .int .i64 w, .int .i64 o, .int .i64 r] 27))
            have G1 := Lib.hid (gby_trans (gby_alloc (gby_refl W none) _) (d1.gby none))
            obtain ⟨k0, k1, k2, k3⟩ := pt_row hrow
            have HROW := Lib.hid hrow
            clear hrow d1
            go_wp2_with fail
            go_at_call 48
            refine (rng_yes _ _ _ _ (by omega) (by omega)).mono ?_
            rintro e w' ⟨rfl, rfl⟩
            go_wp2_with fail
            go_at_call 16
            refine (implW_any _ _).mono ?_
            rw [HW.out]
            rintro e w2 ⟨rfl, d2⟩
            have G2 := Lib.hid (gby_trans G1.out (d2.gby none))
            clear d2
            go_wp2
            go_ret
            exact ⟨rfl, G2.out⟩
          · by_cases h5 : w ≤ o
            · have hf : b = true := HB.out.2 ⟨by omega, of_decide_eq_true HO.out, h2, .inl ⟨by omega, of_decide_eq_true HW.out, h5⟩⟩
              subst hf
              go_enter Try.func21, Try.ntmps21
              go_wp2_with fail
              go_at_call 48
              refine (rng_yes _ _ _ _ (by omega) (by omega)).mono ?_
              rintro e w' ⟨rfl, rfl⟩
              go_wp2_with fail
              go_at_call 16
              refine (implW_any _ _).mono ?_
              rw [HO.out]
              rintro e w1 ⟨rfl, d1⟩
              have hrow := row_held (d1.gby none) (heap_alloc_new W (.cells #[.int .i64 3, .int .i64 w, .int .i64 o, .int .i64 r] 27))
              have G1 := Lib.hid (gby_trans (gby_alloc (gby_refl W none) _) (d1.gby none))
              obtain ⟨k0, k1, k2, k3⟩ := pt_row hrow
              have HROW := Lib.hid hrow
              clear hrow d1
              go_wp2_with fail
              go_at_call 48
              refine (rng_yes _ _ _ _ (by omega) (by omega)).mono ?_
              rintro e w' ⟨rfl, rfl⟩
              go_wp2_with fail
              go_at_call 16
              refine (implW_any _ _).mono ?_
              rw [HW.out]
              rintro e w2 ⟨rfl, d2⟩
              have hrow := row_held (d2.gby none) HROW.out
              have G2 := Lib.hid (gby_trans G1.out (d2.gby none))
              clear HROW k0 k1 k2 k3
              obtain ⟨k0, k1, k2, k3⟩ := pt_row hrow
              have HROW := Lib.hid hrow
              clear hrow d2
              
              go_wp2
              go_ret
              exact ⟨by first | rfl | exact ret_bool (by simp; omega), G2.out⟩
            · have hf : b = false := by
                cases b
                · rfl
                · rcases (HB.out.1 rfl).2.2.2 with ⟨_, _, q⟩ | ⟨q, _⟩
                  · exact absurd q h5
                  · omega
              subst hf
              go_enter Try.func21, Try.ntmps21
              go_wp2_with fail
              go_at_call 48
              refine (rng_yes _ _ _ _ (by omega) (by omega)).mono ?_
              rintro e w' ⟨rfl, rfl⟩
              go_wp2_with fail
              go_at_call 16
              refine (implW_any _ _).mono ?_
              rw [HO.out]
              rintro e w1 ⟨rfl, d1⟩
              have hrow := row_held (d1.gby none) (heap_alloc_new W (.cells #[.int .i64 3, .int .i64 w, .int .i64 o, .int .i64 r] 27))
              have G1 := Lib.hid (gby_trans (gby_alloc (gby_refl W none) _) (d1.gby none))
              obtain ⟨k0, k1, k2, k3⟩ := pt_row hrow
              have HROW := Lib.hid hrow
              clear hrow d1
              go_wp2_with fail
              go_at_call 48
              refine (rng_yes _ _ _ _ (by omega) (by omega)).mono ?_
              rintro e w' ⟨rfl, rfl⟩
              go_wp2_with fail
              go_at_call 16
              refine (implW_any _ _).mono ?_
              rw [HW.out]
              rintro e w2 ⟨rfl, d2⟩
              have hrow := row_held (d2.gby none) HROW.out
              have G2 := Lib.hid (gby_trans G1.out (d2.gby none))
              clear HROW k0 k1 k2 k3
              obtain ⟨k0, k1, k2, k3⟩ := pt_row hrow
              have HROW := Lib.hid hrow
              clear hrow d2
              
              go_wp2
              go_ret
              exact ⟨by first | rfl | exact ret_bool (by simp; omega), G2.out⟩
        · by_cases h4 : s = 4
          · subst h4
            have e3 : ((4 : Int) == 3) = false := by decide
            cases bw
            · have hf : b = false := by
                cases b
                · rfl
                · rcases (HB.out.1 rfl).2.2.2 with ⟨_, q, _⟩ | ⟨q, _⟩
                  · exact absurd q (of_decide_eq_false HW.out)
                  · omega
              subst hf
              go_enter Try.func21, Try.ntmps21
              go_wp2_with fail
              go_at_call 48
              refine (rng_yes _ _ _ _ (by omega) (by omega)).mono ?_
              rintro e w' ⟨rfl, rfl⟩
              go_wp2_with fail
              go_at_call 16
              refine (implW_any _ _).mono ?_
              rw [HO.out]
              rintro e w1 ⟨rfl, d1⟩
              have hrow := row_held (d1.gby none) (heap_alloc_new W (.cells #[.int .i64 4, .int .i64 w, .int .i64 o, .int .i64 r] 27))
              have G1 := Lib.hid (gby_trans (gby_alloc (gby_refl W none) _) (d1.gby none))
              obtain ⟨k0, k1, k2, k3⟩ := pt_row hrow
              have HROW := Lib.hid hrow
              clear hrow d1
              go_wp2_with fail
              go_at_call 48
              refine (rng_yes _ _ _ _ (by omega) (by omega)).mono ?_
              rintro e w' ⟨rfl, rfl⟩
              go_wp2_with fail
              go_at_call 16
              refine (implW_any _ _).mono ?_
              rw [HW.out]
              rintro e w2 ⟨rfl, d2⟩
              have G2 := Lib.hid (gby_trans G1.out (d2.gby none))
              clear d2
              go_wp2
              go_ret
              exact ⟨rfl, G2.out⟩
            · by_cases h5 : w ≤ o
              · have hf : b = true := HB.out.2 ⟨by omega, of_decide_eq_true HO.out, h2, .inl ⟨by omega, of_decide_eq_true HW.out, h5⟩⟩
                subst hf
                go_enter Try.func21, Try.ntmps21
                go_wp2_with fail
                go_at_call 48
                refine (rng_yes _ _ _ _ (by omega) (by omega)).mono ?_
                rintro e w' ⟨rfl, rfl⟩
                go_wp2_with fail
                go_at_call 16
                refine (implW_any _ _).mono ?_
                rw [HO.out]
                rintro e w1 ⟨rfl, d1⟩
                have hrow := row_held (d1.gby none) (heap_alloc_new W (.cells #[.int .i64 4, .int .i64 w, .int .i64 o, .int .i64 r] 27))
                have G1 := Lib.hid (gby_trans (gby_alloc (gby_refl W none) _) (d1.gby none))
                obtain ⟨k0, k1, k2, k3⟩ := pt_row hrow
                have HROW := Lib.hid hrow
                clear hrow d1
                go_wp2_with fail
                go_at_call 48
                refine (rng_yes _ _ _ _ (by omega) (by omega)).mono ?_
                rintro e w' ⟨rfl, rfl⟩
                go_wp2_with fail
                go_at_call 16
                refine (implW_any _ _).mono ?_
                rw [HW.out]
                rintro e w2 ⟨rfl, d2⟩
                have hrow := row_held (d2.gby none) HROW.out
                have G2 := Lib.hid (gby_trans G1.out (d2.gby none))
                clear HROW k0 k1 k2 k3
                obtain ⟨k0, k1, k2, k3⟩ := pt_row hrow
                have HROW := Lib.hid hrow
                clear hrow d2
                
                go_wp2
                go_ret
                exact ⟨by first | rfl | exact ret_bool (by simp; omega), G2.out⟩
              · have hf : b = false := by
                  cases b
                  · rfl
                  · rcases (HB.out.1 rfl).2.2.2 with ⟨_, _, q⟩ | ⟨q, _⟩
                    · exact absurd q h5
                    · omega
                subst hf
                go_enter Try.func21, Try.ntmps21
                go_wp2_with fail
                go_at_call 48
                refine (rng_yes _ _ _ _ (by omega) (by omega)).mono ?_
                rintro e w' ⟨rfl, rfl⟩
                go_wp2_with fail
                go_at_call 16
                refine (implW_any _ _).mono ?_
                rw [HO.out]
                rintro e w1 ⟨rfl, d1⟩
                have hrow := row_held (d1.gby none) (heap_alloc_new W (.cells #[.int .i64 4, .int .i64 w, .int .i64 o, .int .i64 r] 27))
                have G1 := Lib.hid (gby_trans (gby_alloc (gby_refl W none) _) (d1.gby none))
                obtain ⟨k0, k1, k2, k3⟩ := pt_row hrow
                have HROW := Lib.hid hrow
                clear hrow d1
                go_wp2_with fail
                go_at_call 48
                refine (rng_yes _ _ _ _ (by omega) (by omega)).mono ?_
                rintro e w' ⟨rfl, rfl⟩
                go_wp2_with fail
                go_at_call 16
                refine (implW_any _ _).mono ?_
                rw [HW.out]
                rintro e w2 ⟨rfl, d2⟩
                have hrow := row_held (d2.gby none) HROW.out
                have G2 := Lib.hid (gby_trans G1.out (d2.gby none))
                clear HROW k0 k1 k2 k3
                obtain ⟨k0, k1, k2, k3⟩ := pt_row hrow
                have HROW := Lib.hid hrow
                clear hrow d2
                
                go_wp2
                go_ret
                exact ⟨by first | rfl | exact ret_bool (by simp; omega), G2.out⟩
          · have e3 : (s == 3) = false := by simp [h3]
            have e4 : (s == 4) = false := by simp [h4]
            by_cases h5 : w = 0
            · have hf : b = true := HB.out.2 ⟨by omega, of_decide_eq_true HO.out, h2, .inr ⟨⟨h3, h4⟩, h5⟩⟩
              subst hf
              have e5 : (w == 0) = true := by simp [h5]
              clear h3 h4 h5
              go_enter Try.func21, Try.ntmps21
              go_wp2_with fail
              go_at_call 48
              refine (rng_yes _ _ _ _ (by omega) (by omega)).mono ?_
              rintro e w' ⟨rfl, rfl⟩
              go_wp2_with fail
              go_at_call 16
              refine (implW_any _ _).mono ?_
              rw [HO.out]
              rintro e w1 ⟨rfl, d1⟩
              have hrow := row_held (d1.gby none) (heap_alloc_new W (.cells #[.int .i64 s, .int .i64 w, .int .i64 o, .int .i64 r] 27))
              have G1 := Lib.hid (gby_trans (gby_alloc (gby_refl W none) _) (d1.gby none))
              obtain ⟨k0, k1, k2, k3⟩ := pt_row hrow
              have HROW := Lib.hid hrow
              clear hrow d1
              go_wp2_with fail
              go_at_call 48
              refine (rng_yes _ _ _ _ (by omega) (by omega)).mono ?_
              rintro e w' ⟨rfl, rfl⟩
              go_wp2
              go_ret
              exact ⟨rfl, G1.out⟩
            · have hf : b = false := by
                cases b
                · rfl
                · rcases (HB.out.1 rfl).2.2.2 with ⟨q, _⟩ | ⟨_, q⟩
                  · omega
                  · exact absurd q h5
              subst hf
              have e5 : (w == 0) = false := by simp [h5]
              clear h3 h4 h5
              go_enter Try.func21, Try.ntmps21
              go_wp2_with fail
              go_at_call 48
              refine (rng_yes _ _ _ _ (by omega) (by omega)).mono ?_
              rintro e w' ⟨rfl, rfl⟩
              go_wp2_with fail
              go_at_call 16
              refine (implW_any _ _).mono ?_
              rw [HO.out]
              rintro e w1 ⟨rfl, d1⟩
              have hrow := row_held (d1.gby none) (heap_alloc_new W (.cells #[.int .i64 s, .int .i64 w, .int .i64 o, .int .i64 r] 27))
              have G1 := Lib.hid (gby_trans (gby_alloc (gby_refl W none) _) (d1.gby none))
              obtain ⟨k0, k1, k2, k3⟩ := pt_row hrow
              have HROW := Lib.hid hrow
              clear hrow d1
              go_wp2_with fail
              go_at_call 48
              refine (rng_yes _ _ _ _ (by omega) (by omega)).mono ?_
              rintro e w' ⟨rfl, rfl⟩
              go_wp2
              go_ret
              exact ⟨rfl, G1.out⟩
      · have hf : b = false := by
          cases b
          · rfl
          · exact absurd (HB.out.1 rfl).2.2.1 h2
        subst hf
        go_enter Try.func21, Try.ntmps21
        go_wp2_with fail
        go_at_call 48
        refine (rng_yes _ _ _ _ (by omega) (by omega)).mono ?_
        rintro e w' ⟨rfl, rfl⟩
        go_wp2_with fail
        go_at_call 16
        refine (implW_any _ _).mono ?_
        rw [HO.out]
        rintro e w1 ⟨rfl, d1⟩
        have hrow := row_held (d1.gby none) (heap_alloc_new W (.cells #[.int .i64 s, .int .i64 w, .int .i64 o, .int .i64 r] 27))
        have G1 := Lib.hid (gby_trans (gby_alloc (gby_refl W none) _) (d1.gby none))
        obtain ⟨k0, k1, k2, k3⟩ := pt_row hrow
        have HROW := Lib.hid hrow
        clear hrow d1
        go_wp2_with fail
        go_at_call 48
        refine (rng_no _ _ _ _ (by omega)).mono ?_
        rintro e w' ⟨rfl, rfl⟩
        go_wp2
        go_ret
        exact ⟨rfl, G1.out⟩
  · have hf : b = false := by
      cases b
      · rfl
      · exact absurd (HB.out.1 rfl).1 h1
    subst hf
    go_enter Try.func21, Try.ntmps21
    go_wp2_with fail
    go_at_call 48
    refine (rng_no _ _ _ _ (by omega)).mono ?_
    rintro e w' ⟨rfl, rfl⟩
    go_wp2
    go_ret
    exact ⟨rfl, gby_alloc (gby_refl _ _) _⟩

theorem ptB (s w o r : Int) : ∃ b : Bool, (b = true ↔ PtOk s w o r) := by
  by_cases h : PtOk s w o r
  · exact ⟨true, by simp [h]⟩
  · exact ⟨false, by simp [h]⟩

set_option maxRecDepth 8000 in
set_option maxHeartbeats 2000000 in
theorem walk_exactPortOk (W : World) (s w o r : Int) :
    Calls Try.prog 5 #[ptV s w o r] W fun e w' => e = .returned (.bool true) ∧ Below W.heap.size W w' := by
  obtain ⟨b, hb⟩ := ptB s w o r
  have HB := Lib.hid hb
  have hbb : (b != b) = false := by simp
  clear hb
  unfold ptV
  go_enter Try.func5, Try.ntmps5
  go_wp2_with fail
  go_at_call 20
  refine (toPt_any _ s w o r).mono ?_
  rintro e w1 ⟨rfl, g1⟩
  have hrow := row_held g1 (heap_alloc_new W (.cells #[.int .i64 s, .int .i64 w, .int .i64 o, .int .i64 r] 25))
  have G1 := Lib.hid (gby_trans (gby_alloc (gby_refl W none) _) g1)
  have HROW := Lib.hid hrow
  clear hrow g1
  go_wp2_with fail
  go_at_call 19
  refine (specPt_any _ s w o r b HB.out).mono ?_
  rintro e w2 ⟨rfl, g2⟩
  have hrow := row_held g2 HROW.out
  obtain ⟨k0, k1, k2, k3⟩ := pt_row hrow
  have G2 := Lib.hid (gby_trans G1.out g2)
  clear hrow g2
  go_wp2_with fail
  go_at_call 20
  refine (toPt_any _ s w o r).mono ?_
  rintro e w3 ⟨rfl, g3⟩
  have G3 := Lib.hid (gby_trans G2.out g3)
  clear g3 k0 k1 k2 k3
  go_wp2_with fail
  go_at_call 21
  refine (implPt_any _ s w o r b HB.out).mono ?_
  rintro e w4 ⟨rfl, g4⟩
  have G4 := Lib.hid (gby_trans G3.out g4)
  clear g4
  go_wp2
  go_ret
  exact ⟨rfl, gby_below G4.out⟩

/-- the width that two ports agree on -/
def agW (b c : Bool) (o o' : Int) : Int := if b = true ∧ c = true then min o o' else 0

set_option maxRecDepth 8000 in
set_option maxHeartbeats 2000000 in
theorem specAg_any (W : World) (s w o r s' w' o' r' : Int) (b c : Bool) (hb : b = true ↔ PtOk s w o r) (hc : c = true ↔ PtOk s' w' o' r') : Calls Try.prog 22 #[ptV s w o r, ptV s' w' o' r'] W (AnsN (.int .i64 (agW b c o o')) W) := by
  have HB := Lib.hid hb
  have HC := Lib.hid hc
  clear hb hc
  unfold ptV
  cases b
  · rw [show agW false c o o' = 0 by simp [agW]]
    go_enter Try.func22, Try.ntmps22
    go_wp2_with fail
    go_at_call 19
    refine (specPt_any _ s w o r false (by simpa using HB.out)).mono ?_
    rintro e w1 ⟨rfl, g1⟩
    have G1 := Lib.hid (gby_trans (gby_alloc (gby_alloc (gby_refl W none) _) _) g1)
    clear g1
    go_wp2
    go_ret
    exact ⟨rfl, G1.out⟩
  · cases c
    all_goals
      try rw [show agW true false o o' = 0 by simp [agW]]
      try rw [show agW true true o o' = min o o' by simp [agW]]
      go_enter Try.func22, Try.ntmps22
      go_wp2_with fail
      go_at_call 19
      refine (specPt_any _ s w o r true (by simpa using HB.out)).mono ?_
      rintro e w1 ⟨rfl, g1⟩
      have hp := row_held g1 (W := (W.alloc _).alloc _) (b := W.heap.size) (by rw [heap_alloc_old _ _ (by simp)]; exact heap_alloc_new W _)
      have hq := row_held g1 (W := (W.alloc _).alloc _) (b := W.heap.size + 1) (heap_pair W _ _)
      obtain ⟨k0, k1, k2, k3⟩ := pt_row hp
      obtain ⟨m0, m1, m2, m3⟩ := pt_row hq
      have HP := Lib.hid hp
      have HQ := Lib.hid hq
      have G1 := Lib.hid (gby_trans (gby_alloc (gby_alloc (gby_refl W none) _) _) g1)
      clear g1 hp hq
      go_wp2_with fail
      go_at_call 19
      first
        | refine (specPt_any _ s' w' o' r' true (by simpa using HC.out)).mono ?_
        | refine (specPt_any _ s' w' o' r' false (by simpa using HC.out)).mono ?_
      rintro e w2 ⟨rfl, g2⟩
      have hp := row_held g2 HP.out
      have hq := row_held g2 HQ.out
      clear k0 k1 k2 k3 m0 m1 m2 m3
      obtain ⟨k0, k1, k2, k3⟩ := pt_row hp
      obtain ⟨m0, m1, m2, m3⟩ := pt_row hq
      have G2 := Lib.hid (gby_trans G1.out g2)
      clear g2 hp hq HP HQ
      go_wp2
      all_goals
        go_ret
        exact ⟨by first | rfl | exact ret_i64 (by rw [Int.min_def]; split <;> omega), G2.out⟩

set_option maxRecDepth 8000 in
set_option maxHeartbeats 2000000 in
theorem implAg_any (W : World) (s w o r s' w' o' r' : Int) (b c : Bool) (hb : b = true ↔ PtOk s w o r) (hc : c = true ↔ PtOk s' w' o' r') : Calls Try.prog 23 #[ptV s w o r, ptV s' w' o' r'] W (AnsN (.int .i64 (agW b c o o')) W) := by
  have HB := Lib.hid hb
  have HC := Lib.hid hc
  clear hb hc
  unfold ptV
  cases b
  · rw [show agW false c o o' = 0 by simp [agW]]
    go_enter Try.func23, Try.ntmps23
    go_wp2_with fail
    go_at_call 21
    refine (implPt_any _ s w o r false (by simpa using HB.out)).mono ?_
    rintro e w1 ⟨rfl, g1⟩
    have G1 := Lib.hid (gby_trans (gby_alloc (gby_alloc (gby_refl W none) _) _) g1)
    clear g1
    go_wp2
    go_ret
    exact ⟨rfl, G1.out⟩
  · cases c
    all_goals
      try rw [show agW true false o o' = 0 by simp [agW]]
      try rw [show agW true true o o' = min o o' by simp [agW]]
      go_enter Try.func23, Try.ntmps23
      go_wp2_with fail
      go_at_call 21
      refine (implPt_any _ s w o r true (by simpa using HB.out)).mono ?_
      rintro e w1 ⟨rfl, g1⟩
      have hp := row_held g1 (W := (W.alloc _).alloc _) (b := W.heap.size) (by rw [heap_alloc_old _ _ (by simp)]; exact heap_alloc_new W _)
      have hq := row_held g1 (W := (W.alloc _).alloc _) (b := W.heap.size + 1) (heap_pair W _ _)
      obtain ⟨k0, k1, k2, k3⟩ := pt_row hp
      obtain ⟨m0, m1, m2, m3⟩ := pt_row hq
      have HP := Lib.hid hp
      have HQ := Lib.hid hq
      have G1 := Lib.hid (gby_trans (gby_alloc (gby_alloc (gby_refl W none) _) _) g1)
      clear g1 hp hq
      go_wp2_with fail
      go_at_call 21
      first
        | refine (implPt_any _ s' w' o' r' true (by simpa using HC.out)).mono ?_
        | refine (implPt_any _ s' w' o' r' false (by simpa using HC.out)).mono ?_
      rintro e w2 ⟨rfl, g2⟩
      have hp := row_held g2 HP.out
      have hq := row_held g2 HQ.out
      clear k0 k1 k2 k3 m0 m1 m2 m3
      obtain ⟨k0, k1, k2, k3⟩ := pt_row hp
      obtain ⟨m0, m1, m2, m3⟩ := pt_row hq
      have G2 := Lib.hid (gby_trans G1.out g2)
      clear g2 hp hq HP HQ
      go_wp2
      all_goals
        go_ret
        exact ⟨by first | rfl | exact ret_i64 (by rw [Int.min_def]; split <;> omega), G2.out⟩

set_option maxRecDepth 8000 in
set_option maxHeartbeats 4000000 in
theorem walk_exactAgreedWidth (W : World) (s w o r s' w' o' r' : Int) :
    Calls Try.prog 6 #[ptV s w o r, ptV s' w' o' r'] W fun e w9 => e = .returned (.bool true) ∧ Below W.heap.size W w9 := by
  obtain ⟨b, hb⟩ := ptB s w o r
  obtain ⟨c, hc⟩ := ptB s' w' o' r'
  obtain ⟨x, hx⟩ : ∃ x, x = agW b c o o' := ⟨_, rfl⟩
  have HS := Lib.hid (fun W => show Calls Try.prog 22 #[ptV s w o r, ptV s' w' o' r'] W (AnsN (.int .i64 x) W) from hx ▸ specAg_any W s w o r s' w' o' r' b c hb hc)
  have HM := Lib.hid (fun W => show Calls Try.prog 23 #[ptV s w o r, ptV s' w' o' r'] W (AnsN (.int .i64 x) W) from hx ▸ implAg_any W s w o r s' w' o' r' b c hb hc)
  have hz : (x != x) = false := by simp
  clear hb hc hx
  unfold ptV
  go_enter Try.func6, Try.ntmps6
  have hp : (((W.alloc (.cells #[.int .i64 s, .int .i64 w, .int .i64 o, .int .i64 r] 25)).alloc (.cells #[.int .i64 s', .int .i64 w', .int .i64 o', .int .i64 r'] 25))).heap[W.heap.size]? = some (.cells #[.int .i64 s, .int .i64 w, .int .i64 o, .int .i64 r] 25 (0, 0)) := by rw [heap_alloc_old _ _ (by simp)]; exact heap_alloc_new W _
  have hq : (((W.alloc (.cells #[.int .i64 s, .int .i64 w, .int .i64 o, .int .i64 r] 25)).alloc (.cells #[.int .i64 s', .int .i64 w', .int .i64 o', .int .i64 r'] 25))).heap[W.heap.size + 1]? = some (.cells #[.int .i64 s', .int .i64 w', .int .i64 o', .int .i64 r'] 25 (0, 0)) := heap_pair W _ _
  obtain ⟨k0, k1, k2, k3⟩ := pt_row hp
  obtain ⟨m0, m1, m2, m3⟩ := pt_row hq
  have HP := Lib.hid hp
  have HQ := Lib.hid hq
  clear hp hq
  go_wp2_with fail
  go_region_held3 (fun w9 => w9.cell? ⟨W.heap.size, 0, none⟩ = some (.int .i64 s) ∧ w9.cell? ⟨W.heap.size, 1, none⟩ = some (.int .i64 w) ∧ w9.cell? ⟨W.heap.size, 2, none⟩ = some (.int .i64 o) ∧ w9.cell? ⟨W.heap.size, 3, none⟩ = some (.int .i64 r) ∧ w9.cell? ⟨W.heap.size + 1, 0, none⟩ = some (.int .i64 s') ∧ w9.cell? ⟨W.heap.size + 1, 1, none⟩ = some (.int .i64 w') ∧ w9.cell? ⟨W.heap.size + 1, 2, none⟩ = some (.int .i64 o') ∧ w9.cell? ⟨W.heap.size + 1, 3, none⟩ = some (.int .i64 r'))
      (first
        | exact ⟨k0, k1, k2, k3, m0, m1, m2, m3⟩
        | exact ⟨(ga1.cell k0 (by simp)), (ga1.cell k1 (by simp)), (ga1.cell k2 (by simp)), (ga1.cell k3 (by simp)), (ga1.cell m0 (by simp)), (ga1.cell m1 (by simp)), (ga1.cell m2 (by simp)), (ga1.cell m3 (by simp))⟩
        | exact ⟨(gb1.cell (ga1.cell k0 (by simp)) (by simp)), (gb1.cell (ga1.cell k1 (by simp)) (by simp)), (gb1.cell (ga1.cell k2 (by simp)) (by simp)), (gb1.cell (ga1.cell k3 (by simp)) (by simp)), (gb1.cell (ga1.cell m0 (by simp)) (by simp)), (gb1.cell (ga1.cell m1 (by simp)) (by simp)), (gb1.cell (ga1.cell m2 (by simp)) (by simp)), (gb1.cell (ga1.cell m3 (by simp)) (by simp))⟩
        | exact ⟨(gc1.cell (gb1.cell (ga1.cell k0 (by simp)) (by simp)) (by simp)), (gc1.cell (gb1.cell (ga1.cell k1 (by simp)) (by simp)) (by simp)), (gc1.cell (gb1.cell (ga1.cell k2 (by simp)) (by simp)) (by simp)), (gc1.cell (gb1.cell (ga1.cell k3 (by simp)) (by simp)) (by simp)), (gc1.cell (gb1.cell (ga1.cell m0 (by simp)) (by simp)) (by simp)), (gc1.cell (gb1.cell (ga1.cell m1 (by simp)) (by simp)) (by simp)), (gc1.cell (gb1.cell (ga1.cell m2 (by simp)) (by simp)) (by simp)), (gc1.cell (gb1.cell (ga1.cell m3 (by simp)) (by simp)) (by simp))⟩)
      (first
        | (go_at_call_of 20 (Value.agg #[.int .i64 s, .int .i64 w, .int .i64 o, .int .i64 r]); refine (toPt_any _ s w o r).mono ?_; rintro e wa1 ⟨rfl, ga1⟩)
        | (go_at_call_of 20 (Value.agg #[.int .i64 s', .int .i64 w', .int .i64 o', .int .i64 r']); refine (toPt_any _ s' w' o' r').mono ?_; rintro e wb1 ⟨rfl, gb1⟩)
        | (go_at_call 22; refine (HS.out _).mono ?_; rintro e wc1 ⟨rfl, gc1⟩))
  all_goals
    have gz : (((W.alloc (.cells #[.int .i64 s, .int .i64 w, .int .i64 o, .int .i64 r] 25)).alloc (.cells #[.int .i64 s', .int .i64 w', .int .i64 o', .int .i64 r'] 25))).grownBy wc1 none := gby_trans (gby_trans (gby_trans (gby_drew (gby_refl _ _)) ga1) gb1) gc1
    have hp := row_held gz HP.out
    have hq := row_held gz HQ.out
    have G1 := Lib.hid (gby_trans (gby_alloc (gby_alloc (gby_refl W none) _) _) gz)
    clear gz ga1 gb1 gc1 k0 k1 k2 k3 m0 m1 m2 m3 HP HQ
    obtain ⟨k0, k1, k2, k3⟩ := pt_row hp
    obtain ⟨m0, m1, m2, m3⟩ := pt_row hq
    have HP := Lib.hid hp
    have HQ := Lib.hid hq
    clear hp hq
    go_wp2_with fail
    go_region_held3 (fun w9 => w9.cell? ⟨W.heap.size, 0, none⟩ = some (.int .i64 s) ∧ w9.cell? ⟨W.heap.size, 1, none⟩ = some (.int .i64 w) ∧ w9.cell? ⟨W.heap.size, 2, none⟩ = some (.int .i64 o) ∧ w9.cell? ⟨W.heap.size, 3, none⟩ = some (.int .i64 r) ∧ w9.cell? ⟨W.heap.size + 1, 0, none⟩ = some (.int .i64 s') ∧ w9.cell? ⟨W.heap.size + 1, 1, none⟩ = some (.int .i64 w') ∧ w9.cell? ⟨W.heap.size + 1, 2, none⟩ = some (.int .i64 o') ∧ w9.cell? ⟨W.heap.size + 1, 3, none⟩ = some (.int .i64 r'))
        (first
          | exact ⟨k0, k1, k2, k3, m0, m1, m2, m3⟩
          | exact ⟨(ga2.cell k0 (by simp)), (ga2.cell k1 (by simp)), (ga2.cell k2 (by simp)), (ga2.cell k3 (by simp)), (ga2.cell m0 (by simp)), (ga2.cell m1 (by simp)), (ga2.cell m2 (by simp)), (ga2.cell m3 (by simp))⟩
          | exact ⟨(gb2.cell (ga2.cell k0 (by simp)) (by simp)), (gb2.cell (ga2.cell k1 (by simp)) (by simp)), (gb2.cell (ga2.cell k2 (by simp)) (by simp)), (gb2.cell (ga2.cell k3 (by simp)) (by simp)), (gb2.cell (ga2.cell m0 (by simp)) (by simp)), (gb2.cell (ga2.cell m1 (by simp)) (by simp)), (gb2.cell (ga2.cell m2 (by simp)) (by simp)), (gb2.cell (ga2.cell m3 (by simp)) (by simp))⟩
          | exact ⟨(gc2.cell (gb2.cell (ga2.cell k0 (by simp)) (by simp)) (by simp)), (gc2.cell (gb2.cell (ga2.cell k1 (by simp)) (by simp)) (by simp)), (gc2.cell (gb2.cell (ga2.cell k2 (by simp)) (by simp)) (by simp)), (gc2.cell (gb2.cell (ga2.cell k3 (by simp)) (by simp)) (by simp)), (gc2.cell (gb2.cell (ga2.cell m0 (by simp)) (by simp)) (by simp)), (gc2.cell (gb2.cell (ga2.cell m1 (by simp)) (by simp)) (by simp)), (gc2.cell (gb2.cell (ga2.cell m2 (by simp)) (by simp)) (by simp)), (gc2.cell (gb2.cell (ga2.cell m3 (by simp)) (by simp)) (by simp))⟩)
        (first
          | (go_at_call_of 20 (Value.agg #[.int .i64 s, .int .i64 w, .int .i64 o, .int .i64 r]); refine (toPt_any _ s w o r).mono ?_; rintro e wa2 ⟨rfl, ga2⟩)
          | (go_at_call_of 20 (Value.agg #[.int .i64 s', .int .i64 w', .int .i64 o', .int .i64 r']); refine (toPt_any _ s' w' o' r').mono ?_; rintro e wb2 ⟨rfl, gb2⟩)
          | (go_at_call 23; refine (HM.out _).mono ?_; rintro e wc2 ⟨rfl, gc2⟩))
    all_goals
      have gz : (wc1).grownBy wc2 none := gby_trans (gby_trans (gby_trans (gby_drew (gby_refl _ _)) ga2) gb2) gc2
      have hp := row_held gz HP.out
      have hq := row_held gz HQ.out
      have G2 := Lib.hid (gby_trans G1.out gz)
      clear gz ga2 gb2 gc2 k0 k1 k2 k3 m0 m1 m2 m3 HP HQ
      obtain ⟨k0, k1, k2, k3⟩ := pt_row hp
      obtain ⟨m0, m1, m2, m3⟩ := pt_row hq
      have HP := Lib.hid hp
      have HQ := Lib.hid hq
      clear hp hq
      go_wp2
      go_ret
      exact ⟨rfl, gby_below G2.out⟩

set_option maxRecDepth 100000 in
theorem cellsPt : Try.prog.cellsOf 25 = 4 := by kernel_rfl

set_option maxRecDepth 100000 in
theorem cellsPI : Try.prog.cellsOf 3 = 1 := by kernel_rfl

set_option maxRecDepth 100000 in
theorem open_pt {H : Type} {enc : TypeId × Value → H} {W : World} {base : Nat} {v : Value} {d : DataW H} {ps : List MemPlace} (hw : Value.okWide Try.prog W .any base 25 v) (h : DataW.Trod enc Try.prog W 0 (fun _ => true) true 25 v d ps) :
    ∃ s w o r, v = ptV s w o r := by
  obtain ⟨cs, rfl, hsz⟩ := okWide_struct Try.underlying25 hw
  rw [cellsPt] at hsz
  obtain ⟨L⟩ := cs
  match L, hsz with
  | [x0, x1, x2, x3], _ =>
  obtain ⟨fuel, hf⟩ := h
  obtain ⟨ys, n, _, _, _, hlen, hfld⟩ := DataW.trod_struct Try.underlying25 hf
  match ys, hlen with
  | [y0, y1, y2, y3], _ =>
  obtain ⟨i0, e0, _, _⟩ := DataW.trod_int Try.underlying3 (hfld 0 _ rfl)
  obtain ⟨i1, e1, _, _⟩ := DataW.trod_int Try.underlying3 (hfld 1 _ rfl)
  obtain ⟨i2, e2, _, _⟩ := DataW.trod_int Try.underlying3 (hfld 2 _ rfl)
  obtain ⟨i3, e3, _, _⟩ := DataW.trod_int Try.underlying3 (hfld 3 _ rfl)
  simp [Value.cells, cellsPI] at e0 e1 e2 e3
  subst e0 e1 e2 e3
  exact ⟨i0, i1, i2, i3, rfl⟩

end Go.Proofs.Ytgmpehccklifdaa
