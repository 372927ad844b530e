/-
  Plain facts: the hexadecimal text of a string is read back as the string.
-/
import Derived.Test.YtmgdcnlbpghjjaaDoorUnhexMath
namespace Go.Proofs.YtmgdcnlbpghjjaaDoor
open Go Go.RowKit Go.PlainAid

theorem valI_figI (n : Int) (h0 : 0 ≤ n) (h1 : n < 16) : valI (figI n) = n := by unfold valI figI; (repeat' split) <;> omega
theorem figI_byte (n : Int) (h0 : 0 ≤ n) (h1 : n < 16) : 0 ≤ figI n ∧ figI n ≤ 255 := by unfold figI; split <;> omega

theorem hexI_get (l : List UInt8) : ∀ j, (hexI l)[2 * j]? = l[j]?.map (fun b => figI ((b.toNat : Int) / 16)) ∧ (hexI l)[2 * j + 1]? = l[j]?.map (fun b => figI ((b.toNat : Int) % 16)) := by
  induction l with
  | nil => intro j; simp [hexI]
  | cons b l ih =>
    intro j
    cases j with
    | zero => simp [hexI, pairI]
    | succ j =>
      have e1 : 2 * (j + 1) = 2 * j + 1 + 1 := by omega
      have := ih j
      simp only [hexI, List.flatMap_cons, pairI] at this ⊢
      rw [e1]
      simp only [List.cons_append, List.nil_append, List.getElem?_cons_succ]
      exact this

theorem bt_nums (xs : List Int) (k : Nat) (x : Int) (h : xs[k]? = some x) (h0 : 0 ≤ x) (h1 : x ≤ 255) : bt (strOfNums xs) k = x := by
  have hk : k < xs.length := by
    rcases Nat.lt_or_ge k xs.length with h' | h'
    · exact h'
    · rw [List.getElem?_eq_none h'] at h; cases h
  have hs : k < (strOfNums xs).size := by rw [strOfNums_size]; exact hk
  unfold bt
  rw [dif_pos hs]
  have e : (strOfNums xs)[k] = UInt8.ofNat x.toNat := by
    show (strOfNums xs).data[k] = _
    rw [List.getElem?_eq_getElem hk] at h
    simp [strOfNums, Option.some.inj h]
  rw [e, UInt8.toNat_ofNat']; omega

theorem hexI_size (s : ByteArray) : (strOfNums (hexI s.data.toList)).size = 2 * s.size := by rw [strOfNums_size, hexI_length]; simp

theorem hex_hi (s : ByteArray) (j : Nat) (hj : j < s.size) : hiV (strOfNums (hexI s.data.toList)) j = (s[j].toNat : Int) / 16 ∧ loV (strOfNums (hexI s.data.toList)) j = (s[j].toNat : Int) % 16 := by
  have hb := UInt8.toNat_lt s[j]
  have e : s.data.toList[j]? = some s[j] := by rw [List.getElem?_eq_getElem (by simpa using hj)]; rfl
  obtain ⟨g1, g2⟩ := hexI_get s.data.toList j
  rw [e] at g1 g2
  have f1 := figI_byte ((s[j].toNat : Int) / 16) (by omega) (by omega)
  have f2 := figI_byte ((s[j].toNat : Int) % 16) (by omega) (by omega)
  unfold hiV loV
  rw [bt_nums _ _ _ g1 f1.1 f1.2, bt_nums _ _ _ g2 f2.1 f2.2, valI_figI _ (by omega) (by omega), valI_figI _ (by omega) (by omega)]
  exact ⟨rfl, rfl⟩

theorem hex_good (s : ByteArray) : goodTo (strOfNums (hexI s.data.toList)) s.size := by
  intro j hj
  rw [(hex_hi s j hj).1, (hex_hi s j hj).2]; omega

theorem hex_pairs (s : ByteArray) : ∀ k, k ≤ s.size → pairs (strOfNums (hexI s.data.toList)) k = (s.data.toList.take k).map (fun b => (b.toNat : Int)) := by
  intro k
  induction k with
  | zero => intro _; simp [pairs]
  | succ k ih =>
    intro hk
    rw [pairs_succ, ih (by omega), take_snoc s k (by omega), List.map_append, (hex_hi s k (by omega)).1, (hex_hi s k (by omega)).2]
    simp; omega

theorem nums_back (s : ByteArray) : strOfNums (s.data.toList.map (fun b => (b.toNat : Int))) = s := by
  apply ByteArray.ext
  unfold strOfNums
  have : (s.data.toList.map (fun b => (b.toNat : Int))).map (fun n => UInt8.ofNat n.toNat) = s.data.toList := by
    rw [List.map_map]
    conv => rhs; rw [← List.map_id s.data.toList]
    apply List.map_congr_left
    intro b _
    simp
  rw [this]

/-- decoding what was encoded gives the string back -/
theorem hex_back (s : ByteArray) : goodTo (strOfNums (hexI s.data.toList)) ((strOfNums (hexI s.data.toList)).size / 2) ∧ strOfNums (pairs (strOfNums (hexI s.data.toList)) ((strOfNums (hexI s.data.toList)).size / 2)) = s := by
  have e : (strOfNums (hexI s.data.toList)).size / 2 = s.size := by rw [hexI_size]; omega
  rw [e]
  refine ⟨hex_good s, ?_⟩
  rw [hex_pairs s s.size (Nat.le_refl _), take_all s s.size (Nat.le_refl _)]
  exact nums_back s

end Go.Proofs.YtmgdcnlbpghjjaaDoor
