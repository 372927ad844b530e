/-
  Credits: when they are valid, when they are the same, on both sides.
-/
import Derived.Test.YtnighnkkeiegnaaKCredits
import Derived.Test.YtnighnkkeiegnaaBits2Impl
import Derived.Test.YtnighnkkeiegnaaIntsEq
namespace Go.Proofs.Ytnighnkkeiegnaa
open Go Go.RowKit
set_option linter.unusedVariables false

theorem all_in {xs : List Int} {a b : Int} (h : ∀ k, k < xs.length → a ≤ xs.getD k 0 ∧ xs.getD k 0 ≤ b) : ∀ x ∈ xs, a ≤ x ∧ x ≤ b := by
  intro x hx
  obtain ⟨k, hk, rfl⟩ := List.mem_iff_getElem.1 hx
  have := h k hk
  rw [List.getD_eq_getElem?_getD, List.getElem?_eq_getElem hk] at this
  exact this
theorem all_at {xs : List Int} {a b : Int} (q : ∀ x ∈ xs, a ≤ x ∧ x ≤ b) {k : Nat} (hk : k < xs.length) : a ≤ xs.getD k 0 ∧ xs.getD k 0 ≤ b :=
  q (xs.getD k 0) (by rw [List.getD_eq_getElem?_getD, List.getElem?_eq_getElem hk]; exact List.getElem_mem hk)
theorem inq_yes {x a b : Int} (h1 : a ≤ x) (h2 : x ≤ b) (W : World) : Calls Try.prog 69 #[.int .i64 x, .int .i64 a, .int .i64 b] W (Ans (.bool true) W) :=
  (in_yes x a b W h1 h2).mono (fun e w' h => ⟨h.1, h.2 ▸ Drew.refl _⟩)
theorem inq_no {x a b : Int} (h : x < a ∨ b < x) (W : World) : Calls Try.prog 69 #[.int .i64 x, .int .i64 a, .int .i64 b] W (Ans (.bool false) W) :=
  (in_no x a b W h).mono (fun e w' h => ⟨h.1, h.2 ▸ Drew.refl _⟩)
theorem drew_cell {w w' : World} (h : Drew w w') {a : Addr} {v : Value} (hc : w.cell? a = some v) : w'.cell? a = some v := by obtain ⟨n, rfl⟩ := h; exact hc
theorem drew_row {w w' : World} (h : Drew w w') {b : Nat} {o : Obj} (hc : w.heap[b]? = some o) : w'.heap[b]? = some o := by obtain ⟨n, rfl⟩ := h; exact hc
theorem ansq0 {P : Program} {f : FuncId} {args : Array Value} {w : World} {n : Nat} {v : Value} (h : ∀ m, Calls P f args (w.drewN m) (Ans v (w.drewN m))) : Calls P f args (w.drewN n) fun e w'' => e = .returned v ∧ ∃ m, w'' = w.drewN m := Calls.quiet_of (h n)
theorem ansq1 {P : Program} {f : FuncId} {args : Array Value} {w : World} {n x : Nat} {v : Value} (h : ∀ m, Calls P f args (w.drewN m) (Ans v (w.drewN m))) : Calls P f args (w.drewN (n + x)) fun e w'' => e = .returned v ∧ ∃ m, w'' = w.drewN (n + m) :=
  (h (n + x)).mono (fun e w'' q => by
    obtain ⟨rfl, k, rfl⟩ := q
    exact ⟨rfl, x + k, by simp [World.drewN, Nat.add_assoc]⟩)

/-- three counts from 0 to 30 -/
def CntOk (xs : List Int) : Prop := xs.length = 3 ∧ ∀ x ∈ xs, 0 ≤ x ∧ x ≤ 30
instance (xs : List Int) : Decidable (CntOk xs) := by unfold CntOk; infer_instance

set_option maxHeartbeats 1000000 in
theorem areCounts_any (W : World) (a : Option Addr) (n c : Nat) (xs : List Int) (H : ISl W a n xs) (hl : n ≤ 1048576) :
    Calls Try.prog 115 #[.slice a n c] W (fun e w' => e = .returned (.bool (decide (CntOk xs))) ∧ W = w') := by
  obtain ⟨e, H2⟩ := H
  have HC := Lib.hid H2
  have HE := Lib.hid e
  clear H2 e
  go_enter Try.func115, Try.ntmps115
  go_wp2
  go_loopw [7] (fun i wr => ∃ k : Nat, k ≤ n ∧ i = .int .i64 (k : Int) ∧ (∀ j, j < k → 0 ≤ xs.getD j 0 ∧ xs.getD j 0 ≤ 30) ∧ W = wr) (fun i _ => n - (intOf i).toNat)
  case atStart => exact ⟨0, Nat.zero_le _, rfl, fun j hj => absurd hj (Nat.not_lt_zero _), rfl⟩
  case round =>
    obtain ⟨k, hk, rfl, hn, rfl⟩ := hrel
    have HN := Lib.hid hn
    clear hn
    by_cases hlt : k < n
    · have hki : (k : Int) < (n : Int) := by omega
      obtain ⟨b, off, rfl, hcell⟩ := HC.out.resolve_left (by omega)
      have hc := hcell k hlt
      clear hcell
      obtain ⟨x, hx⟩ : ∃ x : Int, x = xs.getD k 0 := ⟨_, rfl⟩
      rw [← hx] at hc
      have HX := Lib.hid hx
      clear hx
      by_cases hg : 0 ≤ x ∧ x ≤ 30
      · obtain ⟨g1, g2⟩ := hg
        go_wp2_with (go_at_call 111; refine (rng_yes _ _ _ _ g1 g2).mono ?_; rintro e w' ⟨rfl, rfl⟩)
        refine ⟨⟨k + 1, by omega, by go_num, ?_, by trivial⟩, by simp [intOf]; omega⟩
        intro j hj
        by_cases e : j = k
        · subst e; rw [← HX.out]; exact ⟨g1, g2⟩
        · exact HN.out j (by omega)
      · have HG := Lib.hid hg
        clear hg
        go_wp2_with (go_at_call 111; refine (rng_no _ _ _ _ (by have := HG.out; omega)).mono ?_; rintro e w' ⟨rfl, rfl⟩)
        go_ret
        have hnot : ¬ CntOk xs := fun h => HG.out (by rw [HX.out]; exact all_at h.2 (by have := HE.out; omega))
        exact ⟨ret_bool (by simp [hnot]), rfl⟩
    · have hki : ¬ (k : Int) < (n : Int) := by omega
      have HY := Lib.hid (all_in (xs := xs) (a := 0) (b := 30) (fun j hj => HN.out j (by have := HE.out; omega)))
      by_cases h3 : n = 3
      · have b3 : ((n : Int) == 3) = true := by simp; omega
        have HH := Lib.hid h3
        clear h3
        go_wp2
        go_ret
        have hyes : CntOk xs := ⟨by have := HE.out; have := HH.out; omega, HY.out⟩
        exact ⟨ret_bool (by simp [hyes]), rfl⟩
      · have b3 : ((n : Int) == 3) = false := by simp; omega
        have HH := Lib.hid h3
        clear h3
        go_wp2
        go_ret
        have hnot : ¬ CntOk xs := fun h => HH.out (by have := HE.out; have := h.1; omega)
        exact ⟨ret_bool (by simp [hnot]), rfl⟩

/-- valid credits -/
def CrdOk (xs ys : List Int) : Prop := CntOk xs ∧ CntOk ys
instance (xs ys : List Int) : Decidable (CrdOk xs ys) := by unfold CrdOk; infer_instance

set_option maxRecDepth 8000 in
set_option maxHeartbeats 1000000 in
theorem implCr_any (W : World) (a0 : Option Addr) (n0 c0 : Nat) (a1 : Option Addr) (n1 c1 : Nat) (xs ys : List Int) (H0 : ISl W a0 n0 xs) (H1 : ISl W a1 n1 ys) (hl0 : n0 ≤ 1048576) (hl1 : n1 ≤ 1048576) :
    Calls Try.prog 78 #[crV a0 n0 c0 a1 n1 c1] W (AnsN (.bool (decide (CrdOk xs ys))) W) := by
  have HA := Lib.hid H0
  have HB := Lib.hid H1
  have e : decide (CrdOk xs ys) = (decide (CntOk xs) && decide (CntOk ys)) := by by_cases h1 : CntOk xs <;> by_cases h2 : CntOk ys <;> simp [CrdOk, h1, h2]
  rw [e]
  clear H0 H1 e
  obtain ⟨p, hp⟩ : ∃ p, p = decide (CntOk xs) := ⟨_, rfl⟩
  obtain ⟨q, hq⟩ : ∃ q, q = decide (CntOk ys) := ⟨_, rfl⟩
  rw [← hp, ← hq]
  have HP := Lib.hid hp
  have HQ := Lib.hid hq
  clear hp hq
  unfold crV
  cases p <;> cases q
  all_goals
    go_enter Try.func78, Try.ntmps78
    go_wp2_with (first | (go_at_call_of 115 (Value.slice a0 n0 c0); refine (areCounts_any _ a0 n0 c0 xs (HA.out.kept (gby_alloc (gby_refl _ _) _)) hl0).mono ?_; rw [← HP.out]; rintro e w' ⟨rfl, rfl⟩) | (go_at_call_of 115 (Value.slice a1 n1 c1); refine (areCounts_any _ a1 n1 c1 ys (HB.out.kept (gby_alloc (gby_refl _ _) _)) hl1).mono ?_; rw [← HQ.out]; rintro e w' ⟨rfl, rfl⟩))
    go_ret
    exact ⟨rfl, gby_alloc (gby_refl _ _) _⟩

set_option maxRecDepth 8000 in
set_option maxHeartbeats 2000000 in
theorem specCr_any (W : World) (a0 : Option Addr) (n0 c0 : Nat) (a1 : Option Addr) (n1 c1 : Nat) (xs ys : List Int) (H0 : ISl W a0 n0 xs) (H1 : ISl W a1 n1 ys) (hl0 : n0 ≤ 1048576) (hl1 : n1 ≤ 1048576) :
    Calls Try.prog 73 #[crV a0 n0 c0 a1 n1 c1] W (AnsN (.bool (decide (CrdOk xs ys))) W) := by
  obtain ⟨e0, H0⟩ := H0
  obtain ⟨e1, H1⟩ := H1
  have HC := Lib.hid H0
  have HD := Lib.hid H1
  have HE := Lib.hid e0
  have HF := Lib.hid e1
  clear H0 H1 e0 e1
  unfold crV
  by_cases h0 : n0 = 3
  · by_cases h1 : n1 = 3
    · subst h0 h1
      clear hl0 hl1
      go_enter Try.func73, Try.ntmps73
      go_wp2
      go_loopw [3] (fun i wr => ∃ k : Nat, k ≤ 3 ∧ i = .int .i64 (k : Int) ∧ (∀ j, j < k → (0 ≤ xs.getD j 0 ∧ xs.getD j 0 ≤ 30) ∧ 0 ≤ ys.getD j 0 ∧ ys.getD j 0 ≤ 30) ∧ Drew (W.alloc (.cells #[.slice a0 3 c0, .slice a1 3 c1] 31)) wr) (fun i _ => 3 - (intOf i).toNat)
      case atStart => exact ⟨0, Nat.zero_le _, rfl, fun j hj => absurd hj (Nat.not_lt_zero _), by first | exact Drew.refl _ | exact ⟨_, rfl⟩⟩
      case round =>
        obtain ⟨k, hk, rfl, hn, hd⟩ := hrel
        have HN := Lib.hid hn
        have HW := Lib.hid hd
        obtain ⟨z0, z1⟩ := cr_row (drew_row hd (heap_alloc_new _ _))
        clear hn hd
        by_cases hlt : k < 3
        · have hki : (k : Int) < 3 := by omega
          have hk0 : (0 : Int) ≤ (k : Int) := by omega
          have htn : ((k : Int)).toNat = k := by omega
          obtain ⟨b, off, rfl, hcell⟩ := HC.out.resolve_left (by omega)
          obtain ⟨b2, off2, rfl, hcell2⟩ := HD.out.resolve_left (by omega)
          have hc := drew_cell HW.out ((gby_alloc (gby_refl W none) _).cell (hcell k hlt) (by simp))
          have hc2 := drew_cell HW.out ((gby_alloc (gby_refl W none) _).cell (hcell2 k hlt) (by simp))
          clear hcell hcell2
          obtain ⟨x, hx⟩ : ∃ x : Int, x = xs.getD k 0 := ⟨_, rfl⟩
          obtain ⟨y, hy⟩ : ∃ y : Int, y = ys.getD k 0 := ⟨_, rfl⟩
          rw [← hx] at hc
          rw [← hy] at hc2
          have HX := Lib.hid hx
          have HY := Lib.hid hy
          clear hx hy
          by_cases hg : 0 ≤ x ∧ x ≤ 30
          · obtain ⟨g1, g2⟩ := hg
            by_cases hh : 0 ≤ y ∧ y ≤ 30
            · obtain ⟨i1, i2⟩ := hh
              go_wp2_with (go_at_call 69; refine (in_yes _ _ _ _ (by omega) (by omega)).mono ?_; rintro e w' ⟨rfl, rfl⟩)
              refine ⟨⟨k + 1, by omega, by go_num, ?_, by repeat (first | exact HW.out | apply Drew.drewN)⟩, by simp [intOf]; omega⟩
              intro j hj
              by_cases e : j = k
              · subst e; rw [← HX.out, ← HY.out]; exact ⟨⟨g1, g2⟩, i1, i2⟩
              · exact HN.out j (by omega)
            · have HH := Lib.hid hh
              clear hh
              go_wp2_with (go_at_call 69; first | (refine (in_yes _ _ _ _ (by omega) (by omega)).mono ?_; rintro e w' ⟨rfl, rfl⟩) | (refine (in_no _ _ _ _ (by have := HH.out; omega)).mono ?_; rintro e w' ⟨rfl, rfl⟩))
              go_ret
              have hnot : ¬ CrdOk xs ys := fun h => HH.out (by rw [HY.out]; exact all_at h.2.2 (by have := h.2.1; omega))
              exact ⟨ret_bool (by simp [hnot]), by repeat (first | exact gby_trans (gby_alloc (gby_refl _ _) _) (HW.out.gby none) | apply gby_drewN)⟩
          · have HG := Lib.hid hg
            clear hg
            go_wp2_with (go_at_call 69; refine (in_no _ _ _ _ (by have := HG.out; omega)).mono ?_; rintro e w' ⟨rfl, rfl⟩)
            go_ret
            have hnot : ¬ CrdOk xs ys := fun h => HG.out (by rw [HX.out]; exact all_at h.1.2 (by have := h.1.1; omega))
            exact ⟨ret_bool (by simp [hnot]), by repeat (first | exact gby_trans (gby_alloc (gby_refl _ _) _) (HW.out.gby none) | apply gby_drewN)⟩
        · have hki : ¬ (k : Int) < 3 := by omega
          go_wp2
          go_ret
          have hyes : CrdOk xs ys := ⟨⟨HE.out.symm, all_in (fun j hj => (HN.out j (by have := HE.out; omega)).1)⟩, HF.out.symm, all_in (fun j hj => (HN.out j (by have := HF.out; omega)).2)⟩
          exact ⟨ret_bool (by simp [hyes]), by repeat (first | exact gby_trans (gby_alloc (gby_refl _ _) _) (HW.out.gby none) | apply gby_drewN)⟩
    · have b0 : ((n0 : Int) != 3) = false := by simp; omega
      have b1 : ((n1 : Int) != 3) = true := by simp; omega
      have hnot : ¬ CrdOk xs ys := fun h => h1 (by have := HF.out; have := h.2.1; omega)
      clear h0 h1
      go_enter Try.func73, Try.ntmps73
      go_wp2
      go_ret
      exact ⟨ret_bool (by simp [hnot]), gby_alloc (gby_refl _ _) _⟩
  · have b0 : ((n0 : Int) != 3) = true := by simp; omega
    have hnot : ¬ CrdOk xs ys := fun h => h0 (by have := HE.out; have := h.1.1; omega)
    clear h0
    go_enter Try.func73, Try.ntmps73
    go_wp2
    go_ret
    exact ⟨ret_bool (by simp [hnot]), gby_alloc (gby_refl _ _) _⟩

theorem crdOk_both (xs ys : List Int) (hx : xs.length ≤ 1048576) (hy : ys.length ≤ 1048576) : ∃ b : Bool, (∀ (W : World) (u u' : Option Addr) (v v' : Nat), RdI W (.slice u xs.length v) xs → RdI W (.slice u' ys.length v') ys → Calls Try.prog 73 #[crV u xs.length v u' ys.length v'] W (AnsN (.bool b) W)) ∧
    ∀ (W : World) (u u' : Option Addr) (v v' : Nat), RdI W (.slice u xs.length v) xs → RdI W (.slice u' ys.length v') ys → Calls Try.prog 78 #[crV u xs.length v u' ys.length v'] W (AnsN (.bool b) W) :=
  ⟨_, fun W u u' v v' H H' => specCr_any W u _ v u' _ v' xs ys H.isl' H'.isl' hx hy, fun W u u' v v' H H' => implCr_any W u _ v u' _ v' xs ys H.isl' H'.isl' hx hy⟩

set_option maxRecDepth 8000 in
set_option maxHeartbeats 2000000 in
theorem specSameCr_any (W : World) (a0 : Option Addr) (n0 c0 : Nat) (a1 : Option Addr) (n1 c1 : Nat) (a2 : Option Addr) (n2 c2 : Nat) (a3 : Option Addr) (n3 c3 : Nat) (xs ys zs us : List Int) (H0 : ISl W a0 n0 xs) (H1 : ISl W a1 n1 ys) (H2 : ISl W a2 n2 zs) (H3 : ISl W a3 n3 us) (hl0 : n0 ≤ 1048576) (hl1 : n1 ≤ 1048576) (hl2 : n2 ≤ 1048576) (hl3 : n3 ≤ 1048576) :
    Calls Try.prog 77 #[crV a0 n0 c0 a1 n1 c1, crV a2 n2 c2 a3 n3 c3] W (AnsN (.bool (decide (xs = zs) && decide (ys = us))) W) := by
  have HA := Lib.hid H0
  have HB := Lib.hid H1
  have HC := Lib.hid H2
  have HD := Lib.hid H3
  clear H0 H1 H2 H3
  obtain ⟨p, hp⟩ : ∃ p, p = decide (xs = zs) := ⟨_, rfl⟩
  obtain ⟨q, hq⟩ : ∃ q, q = decide (ys = us) := ⟨_, rfl⟩
  rw [← hp, ← hq]
  have HP := Lib.hid hp
  have HQ := Lib.hid hq
  clear hp hq
  unfold crV
  cases p
  · go_enter Try.func77, Try.ntmps77
    go_wp2_with fail
    go_at_call 114
    refine (l04Ints_any _ a0 a2 n0 n2 c0 c2 xs zs (HA.out.kept (gby_alloc (gby_alloc (gby_refl _ _) _) _)) (HC.out.kept (gby_alloc (gby_alloc (gby_refl _ _) _) _)) hl0 (by omega)).mono ?_
    rw [← HP.out]
    rintro e w1 ⟨rfl, d1⟩
    have G1 := Lib.hid (gby_trans (gby_alloc (gby_alloc (gby_refl W none) _) _) (d1.gby none))
    clear d1
    go_wp2
    go_ret
    exact ⟨rfl, G1.out⟩
  · cases q
    all_goals
      go_enter Try.func77, Try.ntmps77
      go_wp2_with fail
      go_at_call 114
      refine (l04Ints_any _ a0 a2 n0 n2 c0 c2 xs zs (HA.out.kept (gby_alloc (gby_alloc (gby_refl _ _) _) _)) (HC.out.kept (gby_alloc (gby_alloc (gby_refl _ _) _) _)) hl0 (by omega)).mono ?_
      rw [← HP.out]
      rintro e w1 ⟨rfl, d1⟩
      obtain ⟨p0, p1⟩ := cr_row (row_held (d1.gby none) (W := (W.alloc _).alloc _) (b := W.heap.size) (by rw [heap_alloc_old _ _ (by simp)]; exact heap_alloc_new W _))
      obtain ⟨q0, q1⟩ := cr_row (row_held (d1.gby none) (W := (W.alloc _).alloc _) (b := W.heap.size + 1) (heap_pair W _ _))
      have G1 := Lib.hid (gby_trans (gby_alloc (gby_alloc (gby_refl W none) _) _) (d1.gby none))
      clear d1
      go_wp2_with fail
      go_at_call 114
      refine (l04Ints_any _ a1 a3 n1 n3 c1 c3 ys us (HB.out.kept G1.out) (HD.out.kept G1.out) hl1 (by omega)).mono ?_
      rw [← HQ.out]
      rintro e w2 ⟨rfl, d2⟩
      have G2 := Lib.hid (gby_trans G1.out (d2.gby none))
      clear d2 p0 p1 q0 q1
      go_wp2
      go_ret
      exact ⟨rfl, G2.out⟩

set_option maxRecDepth 8000 in
set_option maxHeartbeats 2000000 in
theorem implSameCr_any (W : World) (a0 : Option Addr) (n0 c0 : Nat) (a1 : Option Addr) (n1 c1 : Nat) (a2 : Option Addr) (n2 c2 : Nat) (a3 : Option Addr) (n3 c3 : Nat) (xs ys zs us : List Int) (H0 : ISl W a0 n0 xs) (H1 : ISl W a1 n1 ys) (H2 : ISl W a2 n2 zs) (H3 : ISl W a3 n3 us) (hl0 : n0 ≤ 1048576) (hl1 : n1 ≤ 1048576) (hl2 : n2 ≤ 1048576) (hl3 : n3 ≤ 1048576) :
    Calls Try.prog 82 #[crV a0 n0 c0 a1 n1 c1, crV a2 n2 c2 a3 n3 c3] W (AnsN (.bool (decide (xs = zs) && decide (ys = us))) W) := by
  have HA := Lib.hid H0
  have HB := Lib.hid H1
  have HC := Lib.hid H2
  have HD := Lib.hid H3
  clear H0 H1 H2 H3
  obtain ⟨p, hp⟩ : ∃ p, p = decide (xs = zs) := ⟨_, rfl⟩
  obtain ⟨q, hq⟩ : ∃ q, q = decide (ys = us) := ⟨_, rfl⟩
  rw [← hp, ← hq]
  have HP := Lib.hid hp
  have HQ := Lib.hid hq
  clear hp hq
  unfold crV
  cases p
  · go_enter Try.func82, Try.ntmps82
    go_wp2_with fail
    go_at_call 118
    refine (equal_any _ a0 a2 n0 n2 c0 c2 xs zs (HA.out.kept (gby_alloc (gby_alloc (gby_refl _ _) _) _)) (HC.out.kept (gby_alloc (gby_alloc (gby_refl _ _) _) _)) hl0 (by omega)).mono ?_
    rw [← HP.out]
    rintro e w1 ⟨rfl, d1⟩
    have G1 := Lib.hid (gby_trans (gby_alloc (gby_alloc (gby_refl W none) _) _) (d1.gby none))
    clear d1
    go_wp2
    go_ret
    exact ⟨rfl, G1.out⟩
  · cases q
    all_goals
      go_enter Try.func82, Try.ntmps82
      go_wp2_with fail
      go_at_call 118
      refine (equal_any _ a0 a2 n0 n2 c0 c2 xs zs (HA.out.kept (gby_alloc (gby_alloc (gby_refl _ _) _) _)) (HC.out.kept (gby_alloc (gby_alloc (gby_refl _ _) _) _)) hl0 (by omega)).mono ?_
      rw [← HP.out]
      rintro e w1 ⟨rfl, d1⟩
      obtain ⟨p0, p1⟩ := cr_row (row_held (d1.gby none) (W := (W.alloc _).alloc _) (b := W.heap.size) (by rw [heap_alloc_old _ _ (by simp)]; exact heap_alloc_new W _))
      obtain ⟨q0, q1⟩ := cr_row (row_held (d1.gby none) (W := (W.alloc _).alloc _) (b := W.heap.size + 1) (heap_pair W _ _))
      have G1 := Lib.hid (gby_trans (gby_alloc (gby_alloc (gby_refl W none) _) _) (d1.gby none))
      clear d1
      go_wp2_with fail
      go_at_call 118
      refine (equal_any _ a1 a3 n1 n3 c1 c3 ys us (HB.out.kept G1.out) (HD.out.kept G1.out) hl1 (by omega)).mono ?_
      rw [← HQ.out]
      rintro e w2 ⟨rfl, d2⟩
      have G2 := Lib.hid (gby_trans G1.out (d2.gby none))
      clear d2 p0 p1 q0 q1
      go_wp2
      go_ret
      exact ⟨rfl, G2.out⟩

theorem sameCr_both (xs ys zs us : List Int) (hx : xs.length ≤ 1048576) (hy : ys.length ≤ 1048576) (hz : zs.length ≤ 1048576) (hu : us.length ≤ 1048576) : ∃ b : Bool,
    (∀ (W : World) (u0 u1 u2 u3 : Option Addr) (v0 v1 v2 v3 : Nat), RdI W (.slice u0 xs.length v0) xs → RdI W (.slice u1 ys.length v1) ys → RdI W (.slice u2 zs.length v2) zs → RdI W (.slice u3 us.length v3) us → Calls Try.prog 77 #[crV u0 xs.length v0 u1 ys.length v1, crV u2 zs.length v2 u3 us.length v3] W (AnsN (.bool b) W)) ∧
    ∀ (W : World) (u0 u1 u2 u3 : Option Addr) (v0 v1 v2 v3 : Nat), RdI W (.slice u0 xs.length v0) xs → RdI W (.slice u1 ys.length v1) ys → RdI W (.slice u2 zs.length v2) zs → RdI W (.slice u3 us.length v3) us → Calls Try.prog 82 #[crV u0 xs.length v0 u1 ys.length v1, crV u2 zs.length v2 u3 us.length v3] W (AnsN (.bool b) W) :=
  ⟨_, fun W u0 u1 u2 u3 v0 v1 v2 v3 H0 H1 H2 H3 => specSameCr_any W u0 _ v0 u1 _ v1 u2 _ v2 u3 _ v3 xs ys zs us H0.isl' H1.isl' H2.isl' H3.isl' hx hy hz hu,
    fun W u0 u1 u2 u3 v0 v1 v2 v3 H0 H1 H2 H3 => implSameCr_any W u0 _ v0 u1 _ v1 u2 _ v2 u3 _ v3 xs ys zs us H0.isl' H1.isl' H2.isl' H3.isl' hx hy hz hu⟩

end Go.Proofs.Ytnighnkkeiegnaa
