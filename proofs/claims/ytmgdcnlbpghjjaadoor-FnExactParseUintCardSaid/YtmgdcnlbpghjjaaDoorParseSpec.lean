/-
  Contract of the model's ParseUint.
-/
import Derived.Test.YtmgdcnlbpghjjaaDoorFmtSpec
import Derived.Test.YtmgdcnlbpghjjaaDoorParseMath
namespace Go.Proofs.YtmgdcnlbpghjjaaDoor
open Go Go.RowKit Go.Lib Go.PlainAid

/-- the number whose text it is, and true; or 0 and false -/
def Parsed (s : ByteArray) (w : World) (e : Ending) (w' : World) : Prop :=
  ((∃ n : Nat, Canon s.data.toList n ∧ e = .returned (.tuple #[.int .i64 (n : Int), .bool true])) ∨ ((∀ n : Nat, ¬ Canon s.data.toList n) ∧ e = .returned (.tuple #[.int .i64 0, .bool false]))) ∧ Below w.heap.size w w'

theorem canon_short {s : ByteArray} {n : Nat} (h : Canon s.data.toList n) : s.size ≤ 10 := by
  have := nDigits_le n h.1
  rw [h.2] at this
  simpa using this
theorem canon_dig {s : ByteArray} {n : Nat} (h : Canon s.data.toList n) (k : Nat) (hk : k < s.size) : 48 ≤ bt s k ∧ bt s k ≤ 57 := by
  have hm : s[k] ∈ s.data.toList := by
    have : s[k] = s.data.toList[k]'(by simpa using hk) := by simp; rfl
    rw [this]; exact List.getElem_mem _
  have := decDigits_dig n s[k] (by rw [h.2]; exact hm)
  unfold IsDig at this
  rw [bt_dig s k hk]; omega

theorem specParse_long (s : ByteArray) (w : World) (h : 10 < s.size) (hs : s.size ≤ maxLen) :
    Calls Tryd.prog 17 #[.string s] w (Parsed s w) := by
  unfold maxLen at hs
  have hi : (10 : Int) < (s.size : Int) := by omega
  have HN := Lib.hid (show ∀ n : Nat, ¬ Canon s.data.toList n from fun n hc => by have := canon_short hc; omega)
  go_enter Tryd.func17, Tryd.ntmps17
  go_wp2
  go_ret2
  exact ⟨.inr ⟨HN.out, rfl⟩, Below.refl _ _⟩

/-- the first k bytes are digits of value v -/
def Upto (s : ByteArray) (k v : Nat) : Prop := (∀ c ∈ s.data.toList.take k, IsDig c) ∧ v = valD 0 (s.data.toList.take k) ∧ v < 10000000000

theorem upto_step {s : ByteArray} {k v : Nat} (h : Upto s k v) (hk : k < s.size) (hs : s.size ≤ 10) (h0 : 48 ≤ bt s k) (h1 : bt s k ≤ 57) : Upto s (k + 1) (10 * v + ((bt s k).toNat - 48)) := by
  obtain ⟨hd, hv, hlt⟩ := h
  have e : (bt s k).toNat = s[k].toNat := by rw [bt_dig s k hk]; omega
  have hd' : ∀ c ∈ s.data.toList.take (k + 1), IsDig c := by
    rw [take_snoc s k hk]; intro c hc
    rcases List.mem_append.1 hc with hc | hc
    · exact hd c hc
    · obtain rfl := List.mem_singleton.1 hc
      rw [bt_dig s k hk] at h0 h1; unfold IsDig; omega
  have hv' : 10 * v + ((bt s k).toNat - 48) = valD 0 (s.data.toList.take (k + 1)) := by rw [take_snoc s k hk, valD_snoc, ← hv, e]
  refine ⟨hd', hv', ?_⟩
  rw [hv']
  have := valD_lt _ hd'
  have hl : (s.data.toList.take (k + 1)).length ≤ 10 := by rw [List.length_take]; simp; omega
  exact Nat.lt_of_lt_of_le this (Nat.pow_le_pow_right (by omega) hl)

set_option maxHeartbeats 1000000 in
theorem specParse_short (s : ByteArray) (w : World) (h : s.size ≤ 10) :
    Calls Tryd.prog 17 #[.string s] w (Parsed s w) := by
  go_enter Tryd.func17, Tryd.ntmps17
  go_wp2
  go_loop [4, 5] (fun n i => ∃ (k v : Nat), k ≤ s.size ∧ i = .int .i64 (k : Int) ∧ n = .int .i64 (v : Int) ∧ Upto s k v) (fun _ i => s.size - (intOf i).toNat)
  case atStart => exact ⟨0, 0, Nat.zero_le _, rfl, rfl, by intro c hc; simp at hc, by simp [valD], by omega⟩
  case round =>
    obtain ⟨k, v, hk, rfl, rfl, hu⟩ := hrel
    have hv := hu.2.2
    have HU := Lib.hid hu
    clear hu
    by_cases hlt : k < s.size
    · have hb := get_bt s
      have hi0 : (0 : Int) ≤ (k : Int) := by omega
      have hi1 : (k : Int) < (s.size : Int) := by omega
      have HLT := Lib.hid hlt
      have b0 := bt_nonneg s k
      have b1 := bt_le s k
      obtain ⟨x, hx⟩ : ∃ x, x = bt s k := ⟨_, rfl⟩
      have HX := Lib.hid hx
      by_cases c1 : bt s k < 48
      · have HN := Lib.hid (show ∀ n : Nat, ¬ Canon s.data.toList n from fun n hc => by have := canon_dig hc k hlt; omega)
        clear hx
        go_wp2
        go_ret2
        exact ⟨.inr ⟨HN.out, rfl⟩, Below.refl _ _⟩
      · by_cases c2 : 57 < bt s k
        · have HN := Lib.hid (show ∀ n : Nat, ¬ Canon s.data.toList n from fun n hc => by have := canon_dig hc k hlt; omega)
          clear hx
          go_wp2
          go_ret2
          exact ⟨.inr ⟨HN.out, rfl⟩, Below.refl _ _⟩
        · have HS := Lib.hid (upto_step HU.out hlt h (by omega) (by omega))
          have HC := Lib.hid (show 48 ≤ bt s k from by omega)
          clear hx
          go_wp2
          go_round
          case rel => exact ⟨k + 1, 10 * v + ((bt s k).toNat - 48), by have := HLT.out; omega, by go_num, congrArg (Value.int .i64) (by have := HC.out; omega), HS.out⟩
          case measure => have := HLT.out; simp [intOf]; omega
    · have hke : s.data.toList.take k = s.data.toList := take_all s k (by omega)
      have HE := Lib.hid hke
      clear hke
      by_cases hbig : (1000000000 : Int) < (v : Int)
      · have HN := Lib.hid (show ∀ n : Nat, ¬ Canon s.data.toList n from fun n hc => by have h1 := canon_val hc; have h2 := HU.out.2.1; rw [HE.out] at h2; have := hc.1; omega)
        go_wp2
        go_ret2
        exact ⟨.inr ⟨HN.out, rfl⟩, Below.refl _ _⟩
      · go_wp2_with fail
        go_at_call 16
        refine (specFormat_any _ _ (by omega) (by omega)).mono ?_
        rintro e w1 ⟨rfl, B1⟩
        have HB1 := Lib.hid B1
        clear B1
        rw [itoa_nonneg]
        by_cases heq : (⟨(decDigits v).toArray⟩ : ByteArray) = s
        · have HC := Lib.hid (show Canon s.data.toList v from ⟨by omega, by rw [← heq]⟩)
          rw [heq]
          clear heq
          go_wp2
          go_ret2
          exact ⟨.inl ⟨v, HC.out, rfl⟩, HB1.out⟩
        · have HN := Lib.hid (show ∀ n : Nat, ¬ Canon s.data.toList n from fun n hc => by
            have h1 := canon_val hc
            have h2 := HU.out.2.1
            rw [HE.out, h1] at h2
            subst h2
            exact heq (ByteArray.ext (by have := hc.2; simp [this])))
          generalize (⟨(decDigits v).toArray⟩ : ByteArray) = t at heq ⊢
          have hne := neq_bytes heq
          clear heq
          go_wp2
          go_ret2
          exact ⟨.inr ⟨HN.out, rfl⟩, HB1.out⟩

theorem specParse_any (s : ByteArray) (w : World) (hs : s.size ≤ maxLen) :
    Calls Tryd.prog 17 #[.string s] w (Parsed s w) := by
  by_cases h : s.size ≤ 10
  · exact specParse_short s w h
  · exact specParse_long s w (by omega) hs

end Go.Proofs.YtmgdcnlbpghjjaaDoor
