/-
  Tags on both sides: made, checked, copied, counted.
-/
import Derived.Test.YtgagbhkidponnaaCloneB
import Derived.Test.YtgagbhkidponnaaSetB
import Derived.Test.YtgagbhkidponnaaQTags
import Derived.Test.YtgagbhkidponnaaBitsSpec
namespace Go.Proofs.Ytgagbhkidponnaa
open Go Go.RowKit
set_option linter.unusedVariables false

theorem implTagsOk (W : World) (a : Option Addr) (n c : Nat) (r : Bool) (hr : ((n : Int) == 8) = r) : Calls Try.prog 70 #[vTags (.slice a n c)] W (AnsN (.bool r) W) := by
  unfold vTags
  go_enter Try.func70, Try.ntmps70
  have rA1_ := Lib.hid (show ((W.alloc (.cells #[.slice a n c] 57))).heap[W.heap.size]? = some (.cells #[.slice a n c] 57 (0, 0)) from by exact heap_alloc_new _ _)
  have G2_ := Lib.hid (show (W).grownBy ((W.alloc (.cells #[.slice a n c] 57))) none from (gby_alloc (gby_refl _ _) _))
  have A_0_ : ((W.alloc (.cells #[.slice a n c] 57))).cell? ⟨W.heap.size, 0, none⟩ = some (.slice a n c) := cell_of_row _ _ 0 _ _ _ rA1_.out
  go_wp2
  go_ret
  exact ⟨rfl, G2_.out⟩

set_option maxHeartbeats 1000000 in
theorem copiedTags_d (W : World) (v0 : Value) (xs0 : List Bool) (H0 : RdL shB W v0 xs0) (hl0 : szL shB xs0 ≤ 1048576) :
    Calls Try.prog 69 #[vTags v0] W (NewTags xs0 W) := by
  have HX := Lib.hid H0
  clear H0
  unfold vTags
  have hR := Lib.hid (show ((W.alloc (.cells #[v0] 57)).alloc (.cells #[.slice none 0 0] 57)).heap[W.heap.size + 1]? = some (.cells #[.slice none 0 0] 57 (0, 0)) from heap_pair W _ _)
  have k0 : ((W.alloc (.cells #[v0] 57)).alloc (.cells #[.slice none 0 0] 57)).cell? ⟨W.heap.size, 0, none⟩ = some v0 := cell_of_row _ _ 0 _ _ _ (show (_ : Option Obj) = some (.cells #[v0] 57 (0, 0)) from by rw [heap_alloc_old _ _ (by simp)]; exact heap_alloc_new W _)
  go_enter Try.func69, Try.ntmps69
  go_wp2_with fail
  go_at_call 95
  refine (cloneB_d _ v0 xs0 (HX.out.grow (gby_alloc (gby_alloc (gby_refl _ _) _) _)) hl0).mono ?_
  rintro e w2 ⟨v2, rfl, o1, g1⟩
  simp only [World.size_alloc] at o1
  have RR := row_held g1 hR.out
  have f0 := frozen_of_row w2 _ 0 _ _ RR
  have c0 := cell_of_row w2 _ 0 _ _ _ RR
  obtain ⟨p, n2, c2, hv⟩ := RdL.form o1.rd
  subst hv
  have z0 : (w2.setCell ⟨W.heap.size + 1, 0, none⟩ (.slice p n2 c2)).cell? ⟨W.heap.size + 1, 0, none⟩ = some (.slice p n2 c2) := cell_of_row _ _ 0 _ _ _ (heap_setCell_same _ _ 0 _ _ _ RR)
  have O1 := Lib.hid o1
  have G1 := Lib.hid (gby_trans (gby_alloc (gby_alloc (gby_refl W none) _) _) g1)
  clear g1 RR o1
  go_wp2
  refine bodyPost_ret (v := vTags (.slice p n2 c2)) (by simp [results, go_sem, vTags, z0]) rfl ⟨_, rfl, ?_, ?_⟩
  · exact OwU.one (OwL.wide (OwL.keep O1.out (chg_one _ _ _ _) (.inr (by omega))) (by omega) (by simp))
  · exact gby_setnew G1.out _ (by dsimp only; omega) _

/-- how many of the first k are true -/
def cntB (xs : List Bool) (k : Nat) : Nat := (xs.take k).count true
theorem cntB_succ (xs : List Bool) (k : Nat) (hk : k < xs.length) : cntB xs (k + 1) = cntB xs k + if xs.getD k false then 1 else 0 := by
  unfold cntB
  rw [List.take_succ_eq_append_getElem hk, List.count_append, List.getD_eq_getElem?_getD, List.getElem?_eq_getElem hk]
  cases xs[k] <;> simp
theorem cntB_le (xs : List Bool) (k : Nat) : cntB xs k ≤ k := Nat.le_trans List.count_le_length (by rw [List.length_take]; omega)

set_option maxHeartbeats 1000000 in
theorem implCount (W : World) (v0 : Value) (xs : List Bool) (H0 : RdL shB W v0 xs) (hl0 : szL shB xs ≤ 1048576) : Calls Try.prog 40 #[vTags v0] W (AnsN (.int .i64 (cntB xs xs.length : Nat)) W) := by
  rw [szL_B] at hl0
  obtain ⟨a, cap, rfl, _, h1⟩ := rdB_in H0
  have HA := Lib.hid h1
  obtain ⟨len, hlen⟩ : ∃ len, len = xs.length := ⟨_, rfl⟩
  have HE := Lib.hid hlen
  rw [← hlen] at hl0 ⊢
  clear H0 h1 hlen
  unfold vTags
  have hA := Lib.hid (heap_alloc_new W (.cells #[.slice a len cap] 57))
  have k0 : (W.alloc (.cells #[.slice a len cap] 57)).cell? ⟨W.heap.size, 0, none⟩ = some (.slice a len cap) := cell_of_row _ _ 0 _ _ _ hA.out
  go_enter Try.func40, Try.ntmps40
  go_wp2
  go_loopw [3, 5, 9] (fun n z i wr => ∃ k : Nat, k ≤ len ∧ n = .int .i64 (cntB xs k : Nat) ∧ (∃ y, z = y) ∧ i = .int .i64 (k : Int) ∧ (W.alloc (.cells #[.slice a len cap] 57)).grownBy wr none) (fun _ _ i _ => len - (intOf i).toNat)
  case atStart => exact ⟨0, Nat.zero_le _, rfl, ⟨_, rfl⟩, rfl, gby_refl _ _⟩
  case round =>
    obtain ⟨k, hk, rfl, ⟨bb, rfl⟩, rfl, hg⟩ := hrel
    have HG := Lib.hid hg
    have k1 := hg.cell k0 (by simp)
    have hcl := cntB_le xs k
    clear hg
    by_cases hlt : k < len
    · have hki : (k : Int) < (len : Int) := by omega
      have hk0 : (0 : Int) ≤ (k : Int) := by omega
      have htn : ((k : Int)).toNat = k := by omega
      have hke : k < xs.length := by have := HE.out; omega
      obtain ⟨b, off, rfl, hcell⟩ := HA.out.resolve_left (by omega)
      have k2 := HG.out.cell (show (W.alloc (.cells #[.slice (some ⟨b, off, none⟩) len cap] 57)).cell? ⟨b, off + k, none⟩ = _ from (gby_alloc (gby_refl W none) _).cell (hcell k hke) (by simp)) (by simp)
      have hs := cntB_succ xs k hke
      obtain ⟨x, hx⟩ : ∃ x, x = xs.getD k false := ⟨_, rfl⟩
      rw [← hx] at k2 hs
      clear hcell hx
      cases x
      · have HS := Lib.hid (show cntB xs (k + 1) = cntB xs k from hs)
        clear hs
        go_wp2
        exact ⟨⟨k + 1, by omega, by rw [HS.out], ⟨_, rfl⟩, by go_num, HG.out⟩, by simp [intOf]; omega⟩
      · have HS := Lib.hid (show cntB xs (k + 1) = cntB xs k + 1 from hs)
        clear hs
        go_wp2
        exact ⟨⟨k + 1, by omega, by rw [HS.out]; go_num, ⟨_, rfl⟩, by go_num, HG.out⟩, by simp [intOf]; omega⟩
    · have hki : ¬ (k : Int) < (len : Int) := by omega
      obtain rfl : k = len := by omega
      go_wp2
      go_ret
      exact ⟨rfl, gby_trans (gby_alloc (gby_refl W none) _) HG.out⟩

end Go.Proofs.Ytgagbhkidponnaa
