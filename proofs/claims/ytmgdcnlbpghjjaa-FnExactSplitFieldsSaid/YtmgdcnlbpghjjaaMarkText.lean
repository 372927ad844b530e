/-
  Contract of the laws' markText: a text for every number above 0, always the same.
-/
import Derived.Test.YtmgdcnlbpghjjaaFigure
import Derived.Test.YtmgdcnlbpghjjaaFmtMath
namespace Go.Proofs.Ytmgdcnlbpghjjaa
open Go Go.RowKit

/-- the digits of k put in front of what is there -/
def markTo (k : Nat) (acc : ByteArray) : ByteArray := if _h : k = 0 then acc else markTo (k / 10) (strOfNums [48 + (k : Int) % 10] ++ acc)
termination_by k
decreasing_by omega
theorem markTo_step (k : Nat) (acc : ByteArray) (h : k ≠ 0) : markTo k acc = markTo (k / 10) (strOfNums [48 + (k : Int) % 10] ++ acc) := by
  conv => lhs; rw [markTo, dif_neg h]
theorem markTo_zero (acc : ByteArray) : markTo 0 acc = acc := by rw [markTo, dif_pos rfl]
/-- the mark of a number -/
def markOf (k : Nat) : ByteArray := { data := #[109] } ++ markTo k { data := #[] }

set_option maxHeartbeats 1000000 in
theorem markText_any (k : Nat) (w : World) (h0 : 0 < k) (h1 : k ≤ 1000000000) :
    Calls Try.prog 29 #[.int .i64 (k : Int)] w (fun e w' => e = .returned (.string (markOf k)) ∧ Below w.heap.size w w') := by
  have z2 : ¬ (k : Int) ≤ 0 := by omega
  have H0 := Lib.hid h0
  clear h0
  go_enter Try.func29, Try.ntmps29
  go_wp2
  go_loopw [0, 3] (fun n s wr => ∃ (u : Nat) (t : ByteArray), u ≤ 1000000000 ∧ n = .int .i64 (u : Int) ∧ s = .string t ∧ t.size + u ≤ 1000000000 ∧ markTo k { data := #[] } = markTo u t ∧ Below w.heap.size w wr) (fun n _ _ => (intOf n).toNat)
  case atStart => exact ⟨k, _, h1, rfl, rfl, by show 0 + k ≤ _; omega, rfl, Below.refl _ _⟩
  case round =>
    obtain ⟨u, t, hu, rfl, rfl, hts, hm, hbel⟩ := hrel
    have HM := Lib.hid hm
    have HB := Lib.hid hbel
    have hsz := hbel.size
    clear hm hbel
    by_cases hz : u = 0
    · subst hz
      have hsum : ({ data := #[109] } : ByteArray).size = 1 := rfl
      go_wp2
      go_ret
      exact ⟨ret_str (by unfold markOf; rw [HM.out, markTo_zero]), HB.out⟩
    · have hz1 : (0 : Int) < (u : Int) := by omega
      have HZ := Lib.hid hz
      clear hz
      have hs1 : (strOfNums [48 + (u : Int) % 10]).size = 1 := strOfNums_size _
      have hcv := conv_one (P := Try.prog) wr 5 22 9 (48 + (u : Int) % 10) Try.underlying22 Try.underlying5 Try.underlying9
      go_wp2
      refine ⟨⟨u / 10, _, by omega, rfl, rfl, ?_, ?_, HB.out.alloc hsz _⟩, by have := HZ.out; simp [intOf]; omega⟩
      · rw [ByteArray.size_append, hs1]; omega
      · rw [HM.out, markTo_step u t HZ.out]

end Go.Proofs.Ytmgdcnlbpghjjaa
