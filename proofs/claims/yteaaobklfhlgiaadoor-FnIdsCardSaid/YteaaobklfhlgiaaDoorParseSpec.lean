/-
  Contract of the model's ParseUint.
-/
import Derived.Test.YteaaobklfhlgiaaDoorFmtSpec
import Derived.Test.YteaaobklfhlgiaaDoorParseMath
namespace Go.Proofs.YteaaobklfhlgiaaDoor
open Go Go.RowKit Go.Lib Go.PlainAid

/-- the number whose text it is, and true; or 0 and false -/
def Parsed (s : ByteArray) (w : World) (e : Ending) (w' : World) : Prop :=
  ((∃ n : Nat, Canon s.data.toList n ∧ e = .returned (.tuple #[.int .i64 (n : Int), .bool true])) ∨ ((∀ n : Nat, ¬ Canon s.data.toList n) ∧ e = .returned (.tuple #[.int .i64 0, .bool false]))) ∧ Below w.heap.size w w'

theorem canon_short {s : ByteArray} {n : Nat} (h : Canon s.data.toList n) : s.size ≤ 10 := by
  have := nDigits_le n h.1
  rw [h.2] at this
  simpa using this
theorem canon_dig {s : ByteArray} {n : Nat} (h : Canon s.data.toList n) (k : Nat) (hk : k < s.size) : 48 ≤ bt s k ∧ bt s k ≤ 57 := by
  have hm : s[k] ∈ s.data.toList := by
    have : s[k] = s.data.toList[k]'(by simpa using hk) := by simp; rfl
    rw [this]; exact List.getElem_mem _
  have := decDigits_dig n s[k] (by rw [h.2]; exact hm)
  unfold IsDig at this
  rw [bt_dig s k hk]; omega

/-- the first k bytes are digits of value v -/
def Upto (s : ByteArray) (k v : Nat) : Prop := (∀ c ∈ s.data.toList.take k, IsDig c) ∧ v = valD 0 (s.data.toList.take k) ∧ v < 10000000000

theorem upto_step {s : ByteArray} {k v : Nat} (h : Upto s k v) (hk : k < s.size) (hs : s.size ≤ 10) (h0 : 48 ≤ bt s k) (h1 : bt s k ≤ 57) : Upto s (k + 1) (10 * v + ((bt s k).toNat - 48)) := by
  obtain ⟨hd, hv, hlt⟩ := h
  have e : (bt s k).toNat = s[k].toNat := by rw [bt_dig s k hk]; omega
  have hd' : ∀ c ∈ s.data.toList.take (k + 1), IsDig c := by
    rw [take_snoc s k hk]; intro c hc
    rcases List.mem_append.1 hc with hc | hc
    · exact hd c hc
    · obtain rfl := List.mem_singleton.1 hc
      rw [bt_dig s k hk] at h0 h1; unfold IsDig; omega
  have hv' : 10 * v + ((bt s k).toNat - 48) = valD 0 (s.data.toList.take (k + 1)) := by rw [take_snoc s k hk, valD_snoc, ← hv, e]
  refine ⟨hd', hv', ?_⟩
  rw [hv']
  have := valD_lt _ hd'
  have hl : (s.data.toList.take (k + 1)).length ≤ 10 := by rw [List.length_take]; simp; omega
  exact Nat.lt_of_lt_of_le this (Nat.pow_le_pow_right (by omega) hl)

end Go.Proofs.YteaaobklfhlgiaaDoor
