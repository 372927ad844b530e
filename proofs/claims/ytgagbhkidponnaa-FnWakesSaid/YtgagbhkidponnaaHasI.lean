/-
  Is a number among these?
-/
import Derived.Test.YtgagbhkidponnaaBPost0
import Derived.Test.YtgagbhkidponnaaShelfRev
import Derived.Test.YtgagbhkidponnaaPlainRow
namespace Go.Proofs.Ytgagbhkidponnaa
open Go Go.RowKit
set_option linter.unusedVariables false

theorem iff_no' {p : Prop} (h : ¬ p) : false = true ↔ p := ⟨fun q => (by cases q), fun q => absurd q h⟩
theorem iff_yes' {p : Prop} (h : p) : true = true ↔ p := ⟨fun _ => h, fun _ => rfl⟩
theorem mem_at {ys : List Int} {x : Int} : x ∈ ys ↔ ∃ k, k < ys.length ∧ ys.getD k 0 = x := by
  rw [List.mem_iff_getElem?]
  constructor
  · rintro ⟨k, hk⟩
    obtain ⟨h1, h2⟩ := List.getElem?_eq_some_iff.1 hk
    exact ⟨k, h1, by rw [List.getD_eq_getElem?_getD, hk]; rfl⟩
  · rintro ⟨k, h1, h2⟩
    exact ⟨k, by rw [List.getElem?_eq_getElem h1]; rw [List.getD_eq_getElem?_getD, List.getElem?_eq_getElem h1] at h2; exact congrArg some h2⟩

set_option maxRecDepth 8000 in
set_option maxHeartbeats 2000000 in
theorem has19_any (W : World) (v : Value) (ys : List Int) (x : Int) (H : RdL shI W v ys) (hl : ys.length ≤ 1048576) : Calls Try.prog 96 #[v, .int .i64 x] W (BPost (x ∈ ys) W) := by
  obtain ⟨a0, cap, rfl, hcap, hi⟩ := rdI1_in H
  have HA := Lib.hid hi
  obtain ⟨len, hlen⟩ : ∃ len, len = ys.length := ⟨_, rfl⟩
  have HE := Lib.hid hlen
  unfold RdN1 at HA
  rw [← hlen] at hl HA ⊢
  clear H hi hlen hcap
  go_enter Try.func96, Try.ntmps96
  go_wp2
  go_loopw [5] (fun i wr => ∃ n : Nat, n ≤ len ∧ i = .int .i64 (n : Int) ∧ (∀ j, j < n → ¬ ys.getD j 0 = x) ∧ (W).grownBy wr none) (fun i _ => len - (intOf i).toNat)
  case atStart => exact ⟨0, by omega, rfl, fun j hj => absurd hj (Nat.not_lt_zero _), gby_refl _ _⟩
  case round =>
    obtain ⟨n, hn, rfl, hj, hg⟩ := hrel
    have szrwr := hg.size
    try simp only [World.size_alloc] at szrwr
    try simp only [World.size_setCell] at szrwr
    have szr_ := szrwr
    have G1_ := Lib.hid (show (W).grownBy (wr) none from gby_trans (gby_refl _ _) hg)
    have HTB_ := Lib.hid hg
    clear hg
    have HJ := Lib.hid hj
    clear hj
    have hn0 : (0 : Int) ≤ (n : Int) := by omega
    have htn : ((n : Int)).toNat = n := by omega
    by_cases hlt : n < len
    · have hki : (n : Int) < (len : Int) := by omega
      obtain ⟨b, off, rfl, hcell⟩ := HA.out.resolve_left (by omega)
      obtain ⟨y, hy⟩ : ∃ y, y = ys.getD n 0 := ⟨_, rfl⟩
      have HY := Lib.hid hy
      have hyc := hcell n hlt
      rw [← hy] at hyc
      clear hy hcell
      have y_ := (G1_.out).cell hyc (by simp)
      clear hyc
      by_cases he : y = x
      · have hb : (y == x) = true := by simpa using he
        have HE1 := Lib.hid he
        clear he
        go_wp2
        go_ret
        exact ⟨true, rfl, iff_yes' (mem_at.2 ⟨n, by rw [← HE.out]; exact hlt, by rw [← HY.out]; exact HE1.out⟩), G1_.out⟩
      · have hb : (y == x) = false := by simpa using he
        have HE1 := Lib.hid he
        clear he
        go_wp2
        refine ⟨⟨n + 1, by omega, by go_num, fun j hj => ?_, HTB_.out⟩, by simp [intOf]; omega⟩
        by_cases e : j = n
        · subst e; rw [← HY.out]; exact HE1.out
        · exact HJ.out j (by omega)
    · obtain rfl : n = len := by omega
      have hki : ¬ (n : Int) < (n : Int) := by omega
      go_wp2
      go_ret
      exact ⟨false, rfl, iff_no' (fun q => by obtain ⟨k, h1, h2⟩ := mem_at.1 q; exact HJ.out k (by rw [HE.out]; exact h1) h2), G1_.out⟩

set_option maxRecDepth 8000 in
set_option maxHeartbeats 2000000 in
theorem hasL_any (W : World) (v : Value) (ys : List Int) (x : Int) (H : RdL shI W v ys) (hl : ys.length ≤ 1048576) : Calls Try.prog 29 #[v, .int .i64 x] W (BPost (x ∈ ys) W) := by
  obtain ⟨a0, cap, rfl, hcap, hi⟩ := rdI1_in H
  have HA := Lib.hid hi
  obtain ⟨len, hlen⟩ : ∃ len, len = ys.length := ⟨_, rfl⟩
  have HE := Lib.hid hlen
  unfold RdN1 at HA
  rw [← hlen] at hl HA ⊢
  clear H hi hlen hcap
  go_enter Try.func29, Try.ntmps29
  go_wp2
  go_loopw [5] (fun i wr => ∃ n : Nat, n ≤ len ∧ i = .int .i64 (n : Int) ∧ (∀ j, j < n → ¬ ys.getD j 0 = x) ∧ (W).grownBy wr none) (fun i _ => len - (intOf i).toNat)
  case atStart => exact ⟨0, by omega, rfl, fun j hj => absurd hj (Nat.not_lt_zero _), gby_refl _ _⟩
  case round =>
    obtain ⟨n, hn, rfl, hj, hg⟩ := hrel
    have szrwr := hg.size
    try simp only [World.size_alloc] at szrwr
    try simp only [World.size_setCell] at szrwr
    have szr_ := szrwr
    have G1_ := Lib.hid (show (W).grownBy (wr) none from gby_trans (gby_refl _ _) hg)
    have HTB_ := Lib.hid hg
    clear hg
    have HJ := Lib.hid hj
    clear hj
    have hn0 : (0 : Int) ≤ (n : Int) := by omega
    have htn : ((n : Int)).toNat = n := by omega
    by_cases hlt : n < len
    · have hki : (n : Int) < (len : Int) := by omega
      obtain ⟨b, off, rfl, hcell⟩ := HA.out.resolve_left (by omega)
      obtain ⟨y, hy⟩ : ∃ y, y = ys.getD n 0 := ⟨_, rfl⟩
      have HY := Lib.hid hy
      have hyc := hcell n hlt
      rw [← hy] at hyc
      clear hy hcell
      have y_ := (G1_.out).cell hyc (by simp)
      clear hyc
      by_cases he : y = x
      · have hb : (y == x) = true := by simpa using he
        have HE1 := Lib.hid he
        clear he
        go_wp2
        go_ret
        exact ⟨true, rfl, iff_yes' (mem_at.2 ⟨n, by rw [← HE.out]; exact hlt, by rw [← HY.out]; exact HE1.out⟩), G1_.out⟩
      · have hb : (y == x) = false := by simpa using he
        have HE1 := Lib.hid he
        clear he
        go_wp2
        refine ⟨⟨n + 1, by omega, by go_num, fun j hj => ?_, HTB_.out⟩, by simp [intOf]; omega⟩
        by_cases e : j = n
        · subst e; rw [← HY.out]; exact HE1.out
        · exact HJ.out j (by omega)
    · obtain rfl : n = len := by omega
      have hki : ¬ (n : Int) < (n : Int) := by omega
      go_wp2
      go_ret
      exact ⟨false, rfl, iff_no' (fun q => by obtain ⟨k, h1, h2⟩ := mem_at.1 q; exact HJ.out k (by rw [HE.out]; exact h1) h2), G1_.out⟩

theorem contains_any (W : World) (v : Value) (ys : List Int) (x : Int) (H : RdL shI W v ys) (hl : ys.length ≤ 1048576) : Calls Try.prog 60 #[v, .int .i64 x] W (BPost (x ∈ ys) W) := by
  obtain ⟨a0, cap, rfl, hcap, hi⟩ := rdI1_in H
  rcases hi with h0 | ⟨b, off, rfl, hc⟩
  · obtain rfl : ys = [] := List.eq_nil_of_length_eq_zero h0
    exact (Try.slices_Contains_int_empty a0 cap x W).mono (by rintro e w' ⟨rfl, rfl⟩; exact ⟨false, rfl, iff_no' (by simp), gby_refl _ _⟩)
  · exact (Try.slices_Contains_int b off ys.length cap ys x W (Nat.le_refl _) (by omega) hc).mono (by rintro e w' ⟨rfl, rfl⟩; exact ⟨_, rfl, by simp, gby_refl _ _⟩)

end Go.Proofs.Ytgagbhkidponnaa
