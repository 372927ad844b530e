/-
  Contract of the laws' sameTexts: two equal rows of texts are the same.
-/
import Derived.Test.YtmgdcnlbpghjjaaDoorOwnStr
import Derived.LoopTactic
import Derived.Deep.QuietTactic
import Derived.BigQuiet
namespace Go.Proofs.YtmgdcnlbpghjjaaDoor
open Go Go.RowKit

set_option maxHeartbeats 1000000 in
theorem sameTexts_same (w : World) (b1 b2 : Nat) (v1 v2 : Value) (xs : List ByteArray) (h1 : w.ownsRow b1 9 1 v1 xs.length (strs xs)) (h2 : w.ownsRow b2 9 1 v2 xs.length (strs xs)) (hl : xs.length ≤ 1000000) :
    Calls Tryd.prog 15 #[v1, v2] w (fun e w' => e = .returned (.bool true) ∧ w.grownBy w' none) := by
  have O1 := Lib.hid h1
  have O2 := Lib.hid h2
  obtain ⟨a1, c1, rfl⟩ := own_slice h1
  obtain ⟨a2, c2, rfl⟩ := own_slice h2
  clear h1 h2
  go_enter Tryd.func15, Tryd.ntmps15
  go_wp2
  go_loopw [5] (fun i wr => ∃ k : Nat, k ≤ xs.length ∧ i = .int .i64 (k : Int) ∧ w.grownBy wr none) (fun i _ => xs.length - (intOf i).toNat)
  case atStart => exact ⟨0, Nat.zero_le _, rfl, gby_refl _ _⟩
  case round =>
    obtain ⟨k, hk, rfl, hg⟩ := hrel
    have HG := Lib.hid hg
    clear hg
    by_cases hlt : k < xs.length
    · obtain ⟨g1, d1, e1, _, _⟩ := own_pos O1.out (by omega)
      obtain ⟨g2, d2, e2, _, _⟩ := own_pos O2.out (by omega)
      obtain ⟨rfl, rfl⟩ : a1 = some ⟨g1, 0, none⟩ ∧ c1 = d1 := by injection e1 with x y z; exact ⟨x, z⟩
      obtain ⟨rfl, rfl⟩ : a2 = some ⟨g2, 0, none⟩ ∧ c2 = d2 := by injection e2 with x y z; exact ⟨x, z⟩
      have hc1 := (own_gby O1.out HG.out).cellAt k (by omega)
      have hc2 := (own_gby O2.out HG.out).cellAt k (by omega)
      rw [strs_at xs k hlt] at hc1 hc2
      clear e1 e2
      generalize xs[k] = y at hc1 hc2
      have hi0 : (0 : Int) ≤ (k : Int) := by omega
      have hi1 : (k : Int) < (xs.length : Int) := by omega
      have htn : ((k : Int)).toNat = k := by omega
      go_wp2
      go_quiet (fail)
      go_wp2
      exact ⟨⟨k + 1, by omega, by go_num, gby_drewN HG.out _⟩, by simp [intOf]; omega⟩
    · go_wp2
      go_ret
      exact ⟨rfl, HG.out⟩

end Go.Proofs.YtmgdcnlbpghjjaaDoor
