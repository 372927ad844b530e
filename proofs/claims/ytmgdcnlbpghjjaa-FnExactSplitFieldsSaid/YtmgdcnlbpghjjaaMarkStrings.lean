/-
  Contracts of the laws' helpers over rows of texts: two equal rows are equal; a row is marked; a marked row still holds its marks.
-/
import Derived.Test.YtmgdcnlbpghjjaaMarkText
import Derived.Test.YtmgdcnlbpghjjaaFieldsSpec
namespace Go.Proofs.Ytmgdcnlbpghjjaa
open Go Go.RowKit

theorem own_pos {w : World} {base e size n : Nat} {v : Value} {xs : List Value} (h : w.ownsRow base e size v n xs) (hn : 0 < n) : ∃ g cap, v = .slice (some ⟨g, 0, none⟩) n cap ∧ base ≤ g ∧ g < w.heap.size := by
  rcases h.2 with ⟨_, h0⟩ | ⟨g, cap, cur, rfl, hb, hg, _⟩
  · omega
  · exact ⟨g, cap, rfl, hb, lt_of_block hg⟩

theorem own_gby {w w' : World} {base e size n : Nat} {v : Value} {xs : List Value} (h : w.ownsRow base e size v n xs) (hg : w.grownBy w' none) : w'.ownsRow base e size v n xs :=
  h.kept hg (by
    rcases hv : v.ownBlock with _ | g
    · exact .inl rfl
    · exact .inr (by simp))

theorem strs_at (xs : List ByteArray) (k : Nat) (hk : k < xs.length) : (strs xs)[k]? = some (.string xs[k]) := by
  rw [strs, List.getElem?_map, List.getElem?_eq_getElem hk]; rfl

set_option maxHeartbeats 1000000 in
theorem eqS_same (w : World) (b1 b2 : Nat) (v1 v2 : Value) (xs : List ByteArray) (h1 : w.ownsRow b1 9 1 v1 xs.length (strs xs)) (h2 : w.ownsRow b2 9 1 v2 xs.length (strs xs)) (hl : xs.length ≤ 1000000) :
    Calls Try.prog 17 #[v1, v2] w (fun e w' => e = .returned (.bool true) ∧ w.grownBy w' none) := by
  have O1 := Lib.hid h1
  have O2 := Lib.hid h2
  obtain ⟨a1, c1, rfl⟩ := own_slice h1
  obtain ⟨a2, c2, rfl⟩ := own_slice h2
  clear h1 h2
  go_enter Try.func17, Try.ntmps17
  go_wp2
  go_loopw [5] (fun i wr => ∃ k : Nat, k ≤ xs.length ∧ i = .int .i64 (k : Int) ∧ w.grownBy wr none) (fun i _ => xs.length - (intOf i).toNat)
  case atStart => exact ⟨0, Nat.zero_le _, rfl, gby_refl _ _⟩
  case round =>
    obtain ⟨k, hk, rfl, hg⟩ := hrel
    have HG := Lib.hid hg
    clear hg
    by_cases hlt : k < xs.length
    · obtain ⟨g1, d1, e1, _, _⟩ := own_pos O1.out (by omega)
      obtain ⟨g2, d2, e2, _, _⟩ := own_pos O2.out (by omega)
      obtain ⟨rfl, rfl⟩ : a1 = some ⟨g1, 0, none⟩ ∧ c1 = d1 := by injection e1 with x y z; exact ⟨x, z⟩
      obtain ⟨rfl, rfl⟩ : a2 = some ⟨g2, 0, none⟩ ∧ c2 = d2 := by injection e2 with x y z; exact ⟨x, z⟩
      have hc1 := (own_gby O1.out HG.out).cellAt k (by omega)
      have hc2 := (own_gby O2.out HG.out).cellAt k (by omega)
      rw [strs_at xs k hlt] at hc1 hc2
      clear e1 e2
      generalize xs[k] = y at hc1 hc2
      have hi0 : (0 : Int) ≤ (k : Int) := by omega
      have hi1 : (k : Int) < (xs.length : Int) := by omega
      have htn : ((k : Int)).toNat = k := by omega
      go_wp2
      go_quiet (fail)
      go_wp2
      exact ⟨⟨k + 1, by omega, by go_num, gby_drewN HG.out _⟩, by simp [intOf]; omega⟩
    · go_wp2
      go_ret
      exact ⟨rfl, HG.out⟩

/-- the marks from m on -/
def marks (m n : Nat) : List ByteArray := (List.range n).map fun j => markOf (m + j)
theorem marks_length (m n : Nat) : (marks m n).length = n := by simp [marks]
theorem marks_at (m n k : Nat) (hk : k < n) : (marks m n)[k]? = some (markOf (m + k)) := by simp [marks, hk]

set_option maxHeartbeats 1000000 in
theorem markS_any (w : World) (b m : Nat) (v : Value) (xs : List ByteArray) (h1 : w.ownsRow b 9 1 v xs.length (strs xs)) (hl : xs.length ≤ 1000000) (hm : 0 < m) (hm2 : m ≤ 1000000) :
    Calls Try.prog 18 #[v, .int .i64 (m : Int)] w (fun e w' => e = .returned (.int .i64 ((m + xs.length : Nat) : Int)) ∧ w'.ownsRow b 9 1 v xs.length (strs (marks m xs.length)) ∧ w.grownBy w' v.ownBlock) := by
  have O1 := Lib.hid h1
  obtain ⟨a1, c1, rfl⟩ := own_slice h1
  clear h1
  go_enter Try.func18, Try.ntmps18
  go_wp2
  go_loopw [1, 5] (fun q i wr => ∃ (k : Nat) (ys : List ByteArray), k ≤ xs.length ∧ i = .int .i64 (k : Int) ∧ q = .int .i64 ((m + k : Nat) : Int) ∧ ys.length = xs.length ∧ (∀ j, j < k → ys[j]? = some (markOf (m + j))) ∧ wr.ownsRow b 9 1 (.slice a1 xs.length c1) xs.length (strs ys) ∧ w.grownBy wr (Value.slice a1 xs.length c1).ownBlock) (fun _ i _ => xs.length - (intOf i).toNat)
  case atStart => exact ⟨0, xs, Nat.zero_le _, rfl, rfl, rfl, fun j hj => absurd hj (Nat.not_lt_zero _), O1.out, gby_refl _ _⟩
  case round =>
    obtain ⟨k, ys, hk, rfl, rfl, hyl, hys, hown, hg⟩ := hrel
    have HG := Lib.hid hg
    have HO := Lib.hid hown
    have HY := Lib.hid hys
    have HL := Lib.hid hyl
    clear hg hown hys hyl
    by_cases hlt : k < xs.length
    · obtain ⟨g1, d1, e1, hb1, _⟩ := own_pos HO.out (by omega)
      obtain ⟨rfl, rfl⟩ : a1 = some ⟨g1, 0, none⟩ ∧ c1 = d1 := by injection e1 with x y z; exact ⟨x, z⟩
      clear e1
      have hi0 : (0 : Int) ≤ (k : Int) := by omega
      have hi1 : (k : Int) < (xs.length : Int) := by omega
      have htn : ((k : Int)).toNat = k := by omega
      go_wp2_with fail
      go_at_call 29
      refine (markText_any (m + k) _ (by omega) (by omega)).mono ?_
      rintro e w1 ⟨rfl, B1⟩
      have hsz := B1.size
      have HO1 := Lib.hid (own_gby HO.out (below_gby B1 none))
      have HG1 := Lib.hid (gby_new HG.out (below_gby B1 none) (by simp))
      clear B1
      have hc1 := HO1.out.cellAt k (by omega)
      rw [strs_at ys k (by have := HL.out; omega)] at hc1
      have hf1 := HO1.out.frozenAt k
      generalize ys[k]'(by have := HL.out; omega) = y at hc1
      go_wp2
      refine ⟨⟨k + 1, ys.set k (markOf (m + k)), by omega, by go_num, by go_num, by rw [List.length_set]; exact HL.out, ?_, ?_, ?_⟩, by simp [intOf]; omega⟩
      · intro j hj
        by_cases e : j = k
        · subst e; rw [List.getElem?_set_self (by have := HL.out; omega)]
        · rw [List.getElem?_set_ne (by omega)]; exact HY.out j (by omega)
      · have := (HO1.out.stored k (.string (markOf (m + k)))).1
        rw [strs, ← List.map_set] at this
        exact this
      · exact gby_set HG1.out k _
    · go_wp2
      go_ret
      have e : k = xs.length := by omega
      have ey : ys = marks m xs.length := by
        apply List.ext_getElem?
        intro j
        by_cases hj : j < xs.length
        · rw [marks_at m _ j hj]; exact HY.out j (by omega)
        · rw [List.getElem?_eq_none (by have := HL.out; omega), List.getElem?_eq_none (by rw [marks_length]; omega)]
      exact ⟨ret_i64 (by rw [e]), by rw [← ey]; exact HO.out, HG.out⟩

set_option maxHeartbeats 1000000 in
theorem heldS_any (w : World) (b m n : Nat) (v : Value) (h1 : w.ownsRow b 9 1 v n (strs (marks m n))) (hl : n ≤ 1000000) (hm : 0 < m) (hm2 : m ≤ 1000000) :
    Calls Try.prog 19 #[v, .int .i64 (m : Int)] w (fun e w' => e = .returned (.int .i64 ((m + n : Nat) : Int)) ∧ w.grownBy w' none) := by
  have O1 := Lib.hid h1
  obtain ⟨a1, c1, rfl⟩ := own_slice h1
  clear h1
  go_enter Try.func19, Try.ntmps19
  go_wp2
  go_loopw [1, 5] (fun q i wr => ∃ k : Nat, k ≤ n ∧ i = .int .i64 (k : Int) ∧ q = .int .i64 ((m + k : Nat) : Int) ∧ w.grownBy wr none) (fun _ i _ => n - (intOf i).toNat)
  case atStart => exact ⟨0, Nat.zero_le _, rfl, rfl, gby_refl _ _⟩
  case round =>
    obtain ⟨k, hk, rfl, rfl, hg⟩ := hrel
    have HG := Lib.hid hg
    clear hg
    by_cases hlt : k < n
    · obtain ⟨g1, d1, e1, hb1, hgl⟩ := own_pos (own_gby O1.out HG.out) (by omega)
      obtain ⟨rfl, rfl⟩ : a1 = some ⟨g1, 0, none⟩ ∧ c1 = d1 := by injection e1 with x y z; exact ⟨x, z⟩
      have hc1 := (own_gby O1.out HG.out).cellAt k (by omega)
      rw [strs_at (marks m n) k (by rw [marks_length]; exact hlt)] at hc1
      have em : (marks m n)[k]'(by rw [marks_length]; exact hlt) = markOf (m + k) := by
        have := marks_at m n k hlt
        rw [List.getElem?_eq_getElem (by rw [marks_length]; exact hlt)] at this
        exact Option.some.inj this
      rw [em] at hc1
      clear e1 em
      have hi0 : (0 : Int) ≤ (k : Int) := by omega
      have hi1 : (k : Int) < (n : Int) := by omega
      have htn : ((k : Int)).toNat = k := by omega
      go_wp2_with fail
      go_region_held3 (fun w' => w'.cell? ⟨g1, k, none⟩ = some (.string (markOf (m + k))))
        (first
          | go_keep
          | (rw [hbel.cell (p := ⟨g1, k, none⟩) (by simp; omega)]; assumption)
          | (rw [hbel.cell (p := ⟨g1, k, none⟩) (by simp; omega)]; simpa using hc1))
        (first
          | (go_at_call 29; refine (markText_any (m + k) _ (by omega) (by omega)).mono ?_; rintro e w1 ⟨rfl, hbel⟩))
      all_goals
        have HB := Lib.hid hbel
        clear hbel
        go_wp2
        exact ⟨⟨k + 1, by omega, by go_num, congrArg (Value.int .i64) (by omega), gby_trans (gby_drew HG.out) (below_gby HB.out none)⟩, by simp [intOf]; omega⟩
    · go_wp2
      go_ret
      exact ⟨ret_i64 (by rw [show k = n by omega]), HG.out⟩

end Go.Proofs.Ytmgdcnlbpghjjaa
