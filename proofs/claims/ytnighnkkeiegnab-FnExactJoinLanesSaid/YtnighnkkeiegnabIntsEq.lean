/-
  Slices of numbers that are compared.
-/
import Derived.Test.YtnighnkkeiegnabInts
namespace Go.Proofs.Ytnighnkkeiegnab
open Go Go.RowKit

theorem lists_eq {xs ys : List Int} (h : xs.length = ys.length) (he : ∀ j, j < xs.length → xs.getD j 0 = ys.getD j 0) : xs = ys := by
  apply List.ext_getElem h
  intro j h1 h2
  have := he j h1
  rw [List.getD_eq_getElem?_getD, List.getElem?_eq_getElem h1, List.getD_eq_getElem?_getD, List.getElem?_eq_getElem h2] at this
  simpa using this

set_option maxHeartbeats 1000000 in
theorem eqInts_any (W : World) (a1 a2 : Option Addr) (l1 l2 c1 c2 : Nat) (xs ys : List Int) (H1 : ISl W a1 l1 xs) (H2 : ISl W a2 l2 ys) (hl1 : l1 ≤ 1048576) (hl2 : l2 ≤ 9000000000000000) :
    Calls Try.prog 24 #[.slice a1 l1 c1, .slice a2 l2 c2] W (Ans (.bool (decide (xs = ys))) W) := by
  obtain ⟨e1, H1⟩ := H1
  obtain ⟨e2, H2⟩ := H2
  have HC1 := Lib.hid H1
  have HE1 := Lib.hid e1
  have HC2 := Lib.hid H2
  have HE2 := Lib.hid e2
  clear H1 e1 H2 e2
  by_cases hq : l1 = l2
  · subst hq
    have hz : ((l1 : Int) != (l1 : Int)) = false := by simp
    go_enter Try.func24, Try.ntmps24
    go_wp2
    go_loopw [5] (fun i wr => ∃ k : Nat, k ≤ l1 ∧ i = .int .i64 (k : Int) ∧ (∀ j, j < k → xs.getD j 0 = ys.getD j 0) ∧ Drew W wr) (fun i _ => l1 - (intOf i).toNat)
    case atStart => exact ⟨0, Nat.zero_le _, rfl, fun j hj => absurd hj (Nat.not_lt_zero _), Drew.refl _⟩
    case round =>
      obtain ⟨k, hk, rfl, hn, hd⟩ := hrel
      have HD := Lib.hid hd
      have HN := Lib.hid hn
      clear hd hn
      by_cases hlt : k < l1
      · have hki : (k : Int) < (l1 : Int) := by omega
        obtain ⟨b, off, rfl, hcell⟩ := HC1.out.resolve_left (by omega)
        have hc := (HD.out.gby none).cell (hcell k hlt) (by simp)
        obtain ⟨b2, off2, rfl, hcell2⟩ := HC2.out.resolve_left (by omega)
        have hc2 := (HD.out.gby none).cell (hcell2 k hlt) (by simp)
        clear hcell hcell2
        obtain ⟨x, hx⟩ : ∃ x : Int, x = xs.getD k 0 := ⟨_, rfl⟩
        rw [← hx] at hc
        have HX := Lib.hid hx
        obtain ⟨y, hy⟩ : ∃ y : Int, y = ys.getD k 0 := ⟨_, rfl⟩
        rw [← hy] at hc2
        have HY := Lib.hid hy
        clear hx hy
        by_cases hg : x = y
        · subst hg
          have hb : (x != x) = false := by simp
          have hb2 : (x == x) = true := by simp
          go_wp2
          try go_quiet (fail)
          go_wp2
          refine ⟨⟨k + 1, by omega, by go_num, ?_, by repeat (first | exact HD.out | apply Drew.drewN)⟩, by simp [intOf]; omega⟩
          intro j hj
          by_cases e : j = k
          · subst e; rw [← HX.out, ← HY.out]
          · exact HN.out j (by omega)
        · have hb : (x != y) = true := by simpa using hg
          have hb2 : (x == y) = false := by simpa using hg
          have HG := Lib.hid hg
          clear hg
          go_wp2
          try go_quiet (fail)
          go_wp2
          go_ret
          have hnot : ¬ xs = ys := fun h => HG.out (by rw [HX.out, HY.out, h])
          exact ⟨ret_bool (by simp [hnot]), by repeat (first | exact HD.out | apply Drew.drewN)⟩
      · have hki : ¬ (k : Int) < (l1 : Int) := by omega
        have hyes : xs = ys := lists_eq (by have := HE1.out; have := HE2.out; omega) (fun j hj => HN.out j (by have := HE1.out; omega))
        go_wp2
        go_ret
        exact ⟨ret_bool (by simp), HD.out⟩
  · have hz : ((l1 : Int) != (l2 : Int)) = true := by simp; omega
    have HQ := Lib.hid hq
    clear hq
    go_enter Try.func24, Try.ntmps24
    go_wp2
    go_ret
    have hnot : ¬ xs = ys := fun h => HQ.out (by rw [HE1.out, HE2.out, h])
    exact ⟨ret_bool (by simp [hnot]), Drew.refl _⟩

set_option maxHeartbeats 1000000 in
theorem l04Ints_any (W : World) (a1 a2 : Option Addr) (l1 l2 c1 c2 : Nat) (xs ys : List Int) (H1 : ISl W a1 l1 xs) (H2 : ISl W a2 l2 ys) (hl1 : l1 ≤ 1048576) (hl2 : l2 ≤ 9000000000000000) :
    Calls Try.prog 49 #[.slice a1 l1 c1, .slice a2 l2 c2] W (Ans (.bool (decide (xs = ys))) W) := by
  obtain ⟨e1, H1⟩ := H1
  obtain ⟨e2, H2⟩ := H2
  have HC1 := Lib.hid H1
  have HE1 := Lib.hid e1
  have HC2 := Lib.hid H2
  have HE2 := Lib.hid e2
  clear H1 e1 H2 e2
  by_cases hq : l1 = l2
  · subst hq
    have hz : ((l1 : Int) != (l1 : Int)) = false := by simp
    go_enter Try.func49, Try.ntmps49
    go_wp2
    go_loopw [5] (fun i wr => ∃ k : Nat, k ≤ l1 ∧ i = .int .i64 (k : Int) ∧ (∀ j, j < k → xs.getD j 0 = ys.getD j 0) ∧ Drew W wr) (fun i _ => l1 - (intOf i).toNat)
    case atStart => exact ⟨0, Nat.zero_le _, rfl, fun j hj => absurd hj (Nat.not_lt_zero _), Drew.refl _⟩
    case round =>
      obtain ⟨k, hk, rfl, hn, hd⟩ := hrel
      have HD := Lib.hid hd
      have HN := Lib.hid hn
      clear hd hn
      by_cases hlt : k < l1
      · have hki : (k : Int) < (l1 : Int) := by omega
        obtain ⟨b, off, rfl, hcell⟩ := HC1.out.resolve_left (by omega)
        have hc := (HD.out.gby none).cell (hcell k hlt) (by simp)
        obtain ⟨b2, off2, rfl, hcell2⟩ := HC2.out.resolve_left (by omega)
        have hc2 := (HD.out.gby none).cell (hcell2 k hlt) (by simp)
        clear hcell hcell2
        obtain ⟨x, hx⟩ : ∃ x : Int, x = xs.getD k 0 := ⟨_, rfl⟩
        rw [← hx] at hc
        have HX := Lib.hid hx
        obtain ⟨y, hy⟩ : ∃ y : Int, y = ys.getD k 0 := ⟨_, rfl⟩
        rw [← hy] at hc2
        have HY := Lib.hid hy
        clear hx hy
        by_cases hg : x = y
        · subst hg
          have hb : (x != x) = false := by simp
          have hb2 : (x == x) = true := by simp
          go_wp2
          try go_quiet (fail)
          go_wp2
          refine ⟨⟨k + 1, by omega, by go_num, ?_, by repeat (first | exact HD.out | apply Drew.drewN)⟩, by simp [intOf]; omega⟩
          intro j hj
          by_cases e : j = k
          · subst e; rw [← HX.out, ← HY.out]
          · exact HN.out j (by omega)
        · have hb : (x != y) = true := by simpa using hg
          have hb2 : (x == y) = false := by simpa using hg
          have HG := Lib.hid hg
          clear hg
          go_wp2
          try go_quiet (fail)
          go_wp2
          go_ret
          have hnot : ¬ xs = ys := fun h => HG.out (by rw [HX.out, HY.out, h])
          exact ⟨ret_bool (by simp [hnot]), by repeat (first | exact HD.out | apply Drew.drewN)⟩
      · have hki : ¬ (k : Int) < (l1 : Int) := by omega
        have hyes : xs = ys := lists_eq (by have := HE1.out; have := HE2.out; omega) (fun j hj => HN.out j (by have := HE1.out; omega))
        go_wp2
        go_ret
        exact ⟨ret_bool (by simp), HD.out⟩
  · have hz : ((l1 : Int) != (l2 : Int)) = true := by simp; omega
    have HQ := Lib.hid hq
    clear hq
    go_enter Try.func49, Try.ntmps49
    go_wp2
    go_ret
    have hnot : ¬ xs = ys := fun h => HQ.out (by rw [HE1.out, HE2.out, h])
    exact ⟨ret_bool (by simp [hnot]), Drew.refl _⟩

set_option maxHeartbeats 1000000 in
theorem equal_any (W : World) (a1 a2 : Option Addr) (l1 l2 c1 c2 : Nat) (xs ys : List Int) (H1 : ISl W a1 l1 xs) (H2 : ISl W a2 l2 ys) (hl1 : l1 ≤ 1048576) (hl2 : l2 ≤ 9000000000000000) :
    Calls Try.prog 54 #[.slice a1 l1 c1, .slice a2 l2 c2] W (Ans (.bool (decide (xs = ys))) W) := by
  obtain ⟨e1, H1⟩ := H1
  obtain ⟨e2, H2⟩ := H2
  have HC1 := Lib.hid H1
  have HE1 := Lib.hid e1
  have HC2 := Lib.hid H2
  have HE2 := Lib.hid e2
  clear H1 e1 H2 e2
  by_cases hq : l1 = l2
  · subst hq
    have hz : ((l1 : Int) != (l1 : Int)) = false := by simp
    go_enter Try.func54, Try.ntmps54
    go_wp2

    go_loopw [13] (fun i wr => ∃ k : Nat, k ≤ l1 ∧ i = .int .i64 (k : Int) ∧ (∀ j, j < k → xs.getD j 0 = ys.getD j 0) ∧ Drew W wr) (fun i _ => l1 - (intOf i).toNat)
    case atStart => exact ⟨0, Nat.zero_le _, rfl, fun j hj => absurd hj (Nat.not_lt_zero _), Drew.refl _⟩
    case round =>
      obtain ⟨k, hk, rfl, hn, hd⟩ := hrel
      have HD := Lib.hid hd
      have HN := Lib.hid hn
      clear hd hn
      by_cases hlt : k < l1
      · have hki : (k : Int) < (l1 : Int) := by omega
        obtain ⟨b, off, rfl, hcell⟩ := HC1.out.resolve_left (by omega)
        have hc := (HD.out.gby none).cell (hcell k hlt) (by simp)
        obtain ⟨b2, off2, rfl, hcell2⟩ := HC2.out.resolve_left (by omega)
        have hc2 := (HD.out.gby none).cell (hcell2 k hlt) (by simp)
        clear hcell hcell2
        obtain ⟨x, hx⟩ : ∃ x : Int, x = xs.getD k 0 := ⟨_, rfl⟩
        rw [← hx] at hc
        have HX := Lib.hid hx
        obtain ⟨y, hy⟩ : ∃ y : Int, y = ys.getD k 0 := ⟨_, rfl⟩
        rw [← hy] at hc2
        have HY := Lib.hid hy
        clear hx hy
        by_cases hg : x = y
        · subst hg
          have hb : (x != x) = false := by simp
          have hb2 : (x == x) = true := by simp
          go_wp2
          try go_quiet (fail)
          go_wp2
          refine ⟨⟨k + 1, by omega, by go_num, ?_, by repeat (first | exact HD.out | apply Drew.drewN)⟩, by simp [intOf]; omega⟩
          intro j hj
          by_cases e : j = k
          · subst e; rw [← HX.out, ← HY.out]
          · exact HN.out j (by omega)
        · have hb : (x != y) = true := by simpa using hg
          have hb2 : (x == y) = false := by simpa using hg
          have HG := Lib.hid hg
          clear hg
          go_wp2
          try go_quiet (fail)
          go_wp2
          go_ret
          have hnot : ¬ xs = ys := fun h => HG.out (by rw [HX.out, HY.out, h])
          exact ⟨ret_bool (by simp [hnot]), by repeat (first | exact HD.out | apply Drew.drewN)⟩
      · have hki : ¬ (k : Int) < (l1 : Int) := by omega
        have hyes : xs = ys := lists_eq (by have := HE1.out; have := HE2.out; omega) (fun j hj => HN.out j (by have := HE1.out; omega))
        go_wp2
        go_ret
        exact ⟨ret_bool (by simp), HD.out⟩
  · have hz : ((l1 : Int) != (l2 : Int)) = true := by simp; omega
    have HQ := Lib.hid hq
    clear hq
    go_enter Try.func54, Try.ntmps54
    go_wp2
    go_ret
    have hnot : ¬ xs = ys := fun h => HQ.out (by rw [HE1.out, HE2.out, h])
    exact ⟨ret_bool (by simp [hnot]), Drew.refl _⟩

end Go.Proofs.Ytnighnkkeiegnab
