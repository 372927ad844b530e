/-
  Plain facts on decimal text: the digits of a number, put in front one by one.
-/
import Derived.Test.YteaaobklfhlgiaaDoorHexMath
import Derived.Lib.ItoaNum
namespace Go.Proofs.YteaaobklfhlgiaaDoor
open Go Go.RowKit

/-- the digits of u, none for 0 -/
def decD (u : Nat) : List UInt8 := if u = 0 then [] else Go.Lib.decDigits u
theorem decD_step (u : Nat) (h : u ≠ 0) : decD u = decD (u / 10) ++ [UInt8.ofNat (48 + u % 10)] := by
  unfold decD
  rw [if_neg h]
  by_cases h10 : u < 10
  · rw [if_pos (by omega), Go.Lib.decDigits, dif_pos h10, show u % 10 = u from Nat.mod_eq_of_lt h10]; rfl
  · rw [if_neg (by omega)]
    conv => lhs; rw [Go.Lib.decDigits, dif_neg h10]

/-- one digit put in front of a text -/
theorem digit_front (u : Nat) (t : List UInt8) : strOfNums [figI ((u : Int) % 10)] ++ (⟨t.toArray⟩ : ByteArray) = ⟨(UInt8.ofNat (48 + u % 10) :: t).toArray⟩ := by
  have e : (figI ((u : Int) % 10)).toNat = 48 + u % 10 := by unfold figI; rw [if_pos (by omega)]; omega
  apply ByteArray.ext
  simp [strOfNums, e]

theorem conv_one {P : Program} (w : World) (e src dst : TypeId) (x : Int) (hs : P.underlying src = some (.slice e)) (he : P.underlying e = some (.int .u8)) (hd : P.underlying dst = some .string) :
    (convert src dst (.slice (some ⟨w.heap.size, 0, none⟩) 1 1)).run P (w.alloc (.cells #[.int .u8 x] e)) = .ok (.string (strOfNums [x])) (w.alloc (.cells #[.int .u8 x] e)) :=
  run_convert_bytes_arg _ src e hs he w.heap.size 0 1 1 [x] rfl (fun i hi => by
    obtain rfl : i = 0 := by omega
    rw [cell_of_row _ _ _ _ _ _ (heap_alloc_new w _)]; rfl) dst hd

theorem decDigits_length (u : Nat) : (Go.Lib.decDigits u).length ≤ u / 10 + 2 := by
  induction u using Nat.strongRecOn with
  | _ u ih =>
    rw [Go.Lib.decDigits]
    by_cases h : u < 10
    · rw [dif_pos h]; simp
    · rw [dif_neg h]
      have := ih (u / 10) (by omega)
      simp only [List.length_append, List.length_cons, List.length_nil]
      omega

theorem ret_str {a b : ByteArray} (h : a = b) : Ending.returned (.string a) = .returned (.string b) := by rw [h]

/-- two texts that differ, in the walk's own form -/
theorem neq_bytes {t s : ByteArray} (h : t ≠ s) : (t.toList == s.toList) = false := by
  rw [beq_eq_false_iff_ne]
  intro e
  rw [ByteArray.toList_eq, ByteArray.toList_eq] at e
  exact h (ByteArray.ext (by simpa using congrArg List.toArray e))

end Go.Proofs.YteaaobklfhlgiaaDoor
