/-
  Wishes of sleep settled: what comes of them.
-/
import Derived.Test.YtgagbhkidponnaaSleep
import Derived.Test.YtgagbhkidponnaaPathMath
namespace Go.Proofs.Ytgagbhkidponnaa
open Go Go.RowKit

/-- one node settled -/
def stp (xs : List DNode) (s : List Int) (k : Nat) : List Int := s.set (par xs k) (min (s.getD (par xs k) 0) (s.getD k 0))
/-- the nodes k, k - 1 .. 1 settled in this order -/
def stl (xs : List DNode) : Nat → List Int → List Int
  | 0, s => s
  | k + 1, s => stl xs k (stp xs s (k + 1))
theorem stp_len (xs : List DNode) (s : List Int) (k : Nat) : (stp xs s k).length = s.length := by simp [stp]
theorem stl_len (xs : List DNode) : ∀ k (s : List Int), (stl xs k s).length = s.length
  | 0, _ => rfl
  | k + 1, s => by unfold stl; rw [stl_len xs k, stp_len]
theorem getD_set (s : List Int) (i j : Nat) (x : Int) (hi : i < s.length) : (s.set i x).getD j 0 = if i = j then x else s.getD j 0 := by
  rw [List.getD_eq_getElem?_getD, List.getElem?_set, List.getD_eq_getElem?_getD]
  split
  · simp [hi]
  · rfl
theorem stp_at {xs : List DNode} {s : List Int} {k : Nat} (hp : par xs k < s.length) (j : Nat) : (stp xs s k).getD j 0 = if par xs k = j then min (s.getD (par xs k) 0) (s.getD k 0) else s.getD j 0 := getD_set _ _ _ _ hp
theorem stp_le {xs : List DNode} {s : List Int} {k : Nat} (hp : par xs k < s.length) (j : Nat) : (stp xs s k).getD j 0 ≤ s.getD j 0 := by
  rw [stp_at hp]
  split
  · next h => subst h; exact Int.min_le_left _ _
  · exact Int.le_refl _
theorem stl_le {xs : List DNode} (h : TOk xs) : ∀ (k : Nat) (s : List Int), k < xs.length → s.length = xs.length → ∀ j, (stl xs k s).getD j 0 ≤ s.getD j 0
  | 0, _, _, _ => fun _ => Int.le_refl _
  | k + 1, s, hk, hs => fun j => by
    have hp := par_lt h (by omega) hk
    exact Int.le_trans (stl_le h k _ (by omega) (by rw [stp_len]; exact hs) j) (stp_le (by omega) j)
theorem stl_above {xs : List DNode} (h : TOk xs) : ∀ (k : Nat) (s : List Int), k < xs.length → s.length = xs.length → ∀ j, k ≤ j → (stl xs k s).getD j 0 = s.getD j 0
  | 0, _, _, _ => fun _ _ => rfl
  | k + 1, s, hk, hs => fun j hj => by
    have hp := par_lt h (show 1 ≤ k + 1 by omega) hk
    unfold stl
    rw [stl_above h k _ (by omega) (by rw [stp_len]; exact hs) j (by omega), stp_at (by omega), if_neg (by omega)]
theorem stl_ok {xs : List DNode} (h : TOk xs) : ∀ (k : Nat) (s : List Int), k < xs.length → s.length = xs.length → ∀ i, 1 ≤ i → i ≤ k → (stl xs k s).getD (par xs i) 0 ≤ (stl xs k s).getD i 0
  | 0, _, _, _ => fun i h1 h2 => by omega
  | k + 1, s, hk, hs => fun i h1 h2 => by
    have hp := par_lt h (show 1 ≤ k + 1 by omega) hk
    unfold stl
    by_cases e : i = k + 1
    · subst e
      refine Int.le_trans (stl_le h k _ (by omega) (by rw [stp_len]; exact hs) _) ?_
      rw [stl_above h k _ (by omega) (by rw [stp_len]; exact hs) (k + 1) (by omega), stp_at (by omega), stp_at (by omega), if_pos rfl, if_neg (by omega)]
      exact Int.min_le_right _ _
    · exact stl_ok h k _ (by omega) (by rw [stp_len]; exact hs) i h1 (by omega)
theorem stl_ge {xs : List DNode} (h : TOk xs) (m : Nat → Int) (hm : ∀ i, 1 ≤ i → i < xs.length → m (par xs i) ≤ m i) : ∀ (k : Nat) (s : List Int), k < xs.length → s.length = xs.length → (∀ j, j < xs.length → m j ≤ s.getD j 0) → ∀ j, j < xs.length → m j ≤ (stl xs k s).getD j 0
  | 0, _, _, _ => fun q => q
  | k + 1, s, hk, hs => fun q => by
    have hp := par_lt h (show 1 ≤ k + 1 by omega) hk
    refine stl_ge h m hm k _ (by omega) (by rw [stp_len]; exact hs) (fun j hj => ?_)
    rw [stp_at (by omega)]
    split
    · next e =>
      subst e
      exact Int.le_min.2 ⟨q _ (by omega), Int.le_trans (hm (k + 1) (by omega) hk) (q _ hk)⟩
    · exact q j hj
theorem stl_same {xs : List DNode} (h : TOk xs) : ∀ (k : Nat) (s : List Int), k < xs.length → s.length = xs.length → (∀ i, 1 ≤ i → i < xs.length → s.getD (par xs i) 0 ≤ s.getD i 0) → stl xs k s = s
  | 0, _, _, _, _ => rfl
  | k + 1, s, hk, hs, q => by
    have hp := par_lt h (show 1 ≤ k + 1 by omega) hk
    have e : stp xs s (k + 1) = s := by
      unfold stp
      rw [Int.min_eq_left (q (k + 1) (by omega) hk)]
      refine List.ext_getElem (by simp) (fun i h1 h2 => ?_)
      rw [List.getElem_set]
      split
      · next e => subst e; rw [List.getD_eq_getElem?_getD, List.getElem?_eq_getElem (by omega)]; rfl
      · rfl
    unfold stl
    rw [e]
    exact stl_same h k s (by omega) hs q
/-- all wishes settled -/
def settled (xs : List DNode) (ss : List Int) : List Int := stl xs (xs.length - 1) ss
theorem settled_len (xs : List DNode) (ss : List Int) : (settled xs ss).length = ss.length := stl_len _ _ _
theorem wish_stp {xs : List DNode} {s : List Int} {k : Nat} (h : TOk xs) (h1 : 1 ≤ k) (hk : k < xs.length) (hw : WishP xs s) : WishP xs (stp xs s k) := by
  have hp := par_lt h h1 hk
  have hs := hw.2.2
  refine ⟨fun j hj => ?_, h, by rw [stp_len]; exact hs⟩
  rw [stp_len] at hj
  rw [stp_at (by omega)]
  have a := hw.1 j hj
  have b := hw.1 (par xs k) (by omega)
  have c := hw.1 k (by omega)
  split <;> omega
theorem wish_stl {xs : List DNode} (h : TOk xs) : ∀ (k : Nat) (s : List Int), k < xs.length → WishP xs s → WishP xs (stl xs k s)
  | 0, _, _, q => q
  | k + 1, s, hk, q => wish_stl h k _ (by omega) (wish_stp h (by omega) hk q)
theorem settled_ok {xs : List DNode} {ss : List Int} (hw : WishP xs ss) : SleepP xs (settled xs ss) := by
  have h := hw.2.1
  have h1 := h.1.1
  refine ⟨wish_stl h _ _ (by omega) hw, fun k k1 k2 => ?_⟩
  exact stl_ok h _ _ (by omega) hw.2.2 k k1 (by omega)
theorem settled_same {xs : List DNode} {ss : List Int} (hw : SleepP xs ss) : settled xs ss = ss := by
  have h := hw.1.2.1
  have h1 := h.1.1
  exact stl_same h _ _ (by omega) hw.1.2.2 (fun i i1 i2 => hw.2 i i1 i2)

end Go.Proofs.Ytgagbhkidponnaa
