/-
  The deepest sleep that may be set, on both sides.
-/
import Derived.Test.YtgagbhkidponnaaShpI
import Derived.Test.YtgagbhkidponnaaDNode
import Derived.Test.YtgagbhkidponnaaSetSleep
namespace Go.Proofs.Ytgagbhkidponnaa
open Go Go.RowKit

def ResSDeepestFor (ir0 : Int) (W : World) (e : Ending) (w' : World) : Prop := e = .returned (.int .i64 ir0) ∧ W.grownBy w' none
def ResIDeepestFor (ir0 : Int) (W : World) (e : Ending) (w' : World) : Prop := e = .returned (.int .i64 ir0) ∧ W.grownBy w' none

end Go.Proofs.Ytgagbhkidponnaa

namespace Go.Proofs.Ytgagbhkidponnaa
open Go Go.RowKit
set_option linter.unusedVariables false

/-- the depth d may be set for node k -/
def SetP (xs : List DNode) (ss : List Int) (k d : Int) : Prop := SleepP xs ss ∧ ∃ n : Nat, k = (n : Int) ∧ n < xs.length ∧ SleepP xs (ss.set n d)
/-- r is the deepest of the depths 0 to 3 that may be set, or -1 -/
def DeepP (xs : List DNode) (ss : List Int) (k r : Int) : Prop := -1 ≤ r ∧ r ≤ 3 ∧ (r = -1 ∨ SetP xs ss k r) ∧ ∀ d, r < d → d ≤ 3 → ¬ SetP xs ss k d
theorem deep_ex (xs : List DNode) (ss : List Int) (k : Int) : ∃ r, DeepP xs ss k r := by
  by_cases h3 : SetP xs ss k 3
  · exact ⟨3, by omega, by omega, .inr h3, fun d _ _ => by omega⟩
  by_cases h2 : SetP xs ss k 2
  · exact ⟨2, by omega, by omega, .inr h2, fun d _ _ => by obtain rfl : d = 3 := by omega
                                                           exact h3⟩
  by_cases h1 : SetP xs ss k 1
  · exact ⟨1, by omega, by omega, .inr h1, fun d _ _ => by
      rcases (show d = 2 ∨ d = 3 by omega) with rfl | rfl
      · exact h2
      · exact h3⟩
  by_cases h0 : SetP xs ss k 0
  · exact ⟨0, by omega, by omega, .inr h0, fun d _ _ => by
      rcases (show d = 1 ∨ d = 2 ∨ d = 3 by omega) with rfl | rfl | rfl
      · exact h1
      · exact h2
      · exact h3⟩
  · exact ⟨-1, by omega, by omega, .inl rfl, fun d _ _ => by
      rcases (show d = 0 ∨ d = 1 ∨ d = 2 ∨ d = 3 by omega) with rfl | rfl | rfl | rfl
      · exact h0
      · exact h1
      · exact h2
      · exact h3⟩
def SetPost (p : Prop) (W : World) (e : Ending) (w' : World) : Prop := ∃ (v : Value) (r : Bool), e = .returned (.tuple #[v, .bool r]) ∧ (r = true ↔ p) ∧ W.grownBy w' none

theorem implSetP (W : World) (v u : Value) (xs : List DNode) (ss : List Int) (k d : Int) (H : RdL shNode W v xs) (Hs : RdL shI W u ss) (hl : szL shNode xs ≤ 1048576) (hls : szL shI ss ≤ 1048576) : Calls Try.prog 31 #[v, u, .int .i64 k, .int .i64 d] W (SetPost (SetP xs ss k d) W) := by
  by_cases hp : SleepP xs ss
  · rcases inr_or k 0 ((xs.length : Int) - 1) with ⟨k1, k2⟩ | hk
    · obtain ⟨n, rfl⟩ : ∃ n : Nat, k = (n : Int) := ⟨k.toNat, by omega⟩
      have hk : n < xs.length := by omega
      by_cases hd : SleepP xs (ss.set n d)
      · exact (implSet_good W v u _ _ n d H Hs hl hls hp hk hd).mono (by rintro e w ⟨v, rfl, _, g⟩; exact ⟨v, true, rfl, iff_yes ⟨hp, n, rfl, hk, hd⟩, g⟩)
      · exact (implSet_worse W v u _ _ n d H Hs hl hls hp hk hd).mono (by rintro e w ⟨v, rfl, _, g⟩; exact ⟨v, false, rfl, iff_no (fun q0 => by obtain ⟨_, m, e, _, q⟩ := q0; have e2 : n = m := (by omega); subst e2; exact hd q), g⟩)
    · exact (implSet_out W v u _ _ k d H Hs hl hls hp hk).mono (by rintro e w ⟨v, rfl, _, g⟩; exact ⟨v, false, rfl, iff_no (fun ⟨_, m, e, h, q⟩ => by omega), g⟩)
  · exact (implSet_bad W v u _ _ k d H Hs hl hls hp).mono (by rintro e w ⟨v, rfl, _, g⟩; exact ⟨v, false, rfl, iff_no (fun q => hp q.1), g⟩)

set_option maxRecDepth 8000 in
set_option maxHeartbeats 2000000 in
theorem implDeep (W : World) (v u : Value) (xs : List DNode) (ss : List Int) (k : Int) (H : RdL shNode W v xs) (Hs : RdL shI W u ss) (hl : szL shNode xs ≤ 1048576) (hls : szL shI ss ≤ 1048576) (r : Int) (hd : DeepP xs ss k r) : Calls Try.prog 30 #[v, u, .int .i64 k] W (AnsN (.int .i64 r) W) := by
  have HT := Lib.hid H
  have HSL := Lib.hid Hs
  have HL := Lib.hid hl
  have HLS := Lib.hid hls
  have HD := Lib.hid hd
  obtain ⟨a0, n0, c0, rfl⟩ := RdL.form H
  obtain ⟨a1, n1, c1, rfl⟩ := RdL.form Hs
  clear H Hs hl hls hd
  go_enter Try.func30, Try.ntmps30
  go_wp2
  go_loopw [7, 8, 9] (fun d z1 z2 wr => ∃ n : Nat, d = .int .i64 ((n : Int) - 1) ∧ n ≤ 4 ∧ r ≤ (n : Int) - 1 ∧ (∃ q, z1 = q) ∧ (∃ q, z2 = q) ∧ (W).grownBy wr none) (fun d _ _ _ => (intOf d + 1).toNat)
  case atStart => exact ⟨4, rfl, by omega, by have := HD.out.2.1; omega, ⟨_, rfl⟩, ⟨_, rfl⟩, gby_refl _ _⟩
  case round =>
    obtain ⟨n, rfl, hn, hr, ⟨z1, rfl⟩, ⟨z2, rfl⟩, hg⟩ := hrel
    have szrwr := hg.size
    try simp only [World.size_alloc] at szrwr
    try simp only [World.size_setCell] at szrwr
    have szr_ := szrwr
    have G1_ := Lib.hid (show (W).grownBy (wr) none from gby_trans (gby_refl _ _) hg)
    have HTB_ := Lib.hid hg
    clear hg
    have hm1 : -1 ≤ r := HD.out.1
    by_cases h0 : n = 0
    · subst h0
      obtain rfl : r = -1 := by omega
      have hki : ¬ (((0 : Nat) : Int) - 1 ≥ 0) := by omega
      go_wp2
      go_ret
      exact ⟨rfl, G1_.out⟩
    · obtain ⟨m, rfl⟩ : ∃ m, n = m + 1 := ⟨n - 1, by omega⟩
      have e1 : ((m + 1 : Nat) : Int) - 1 = (m : Int) := by omega
      rw [e1] at hr ⊢
      have hki : (0 : Int) ≤ (m : Int) := by omega
      have hw : IntKind.i64.wrap ((m : Int) - 1) = (m : Int) - 1 := IntWalk.i64_in _ (by omega)
      go_wp2_with fail
      go_at_call 31
      refine (implSetP _ _ _ xs ss k (m : Int) (HT.out.grow G1_.out) (HSL.out.grow G1_.out) HL.out HLS.out).mono ?_
      rintro e w1 ⟨vq, bq, rfl, hq, g⟩
      have G2_ := Lib.hid (show (W).grownBy (w1) none from gby_trans G1_.out g)
      have HTB3_ := Lib.hid (show (W).grownBy (w1) none from gby_trans HTB_.out g)
      clear HTB_
      clear g
      have HQ := Lib.hid hq
      clear hq
      cases bq
      · skip
        go_wp2
        refine ⟨⟨m, by first | rfl | (rw [hw]), by omega, ?_, ⟨_, rfl⟩, ⟨_, rfl⟩, HTB3_.out⟩, by simp [intOf]⟩
        rcases HD.out.2.2.1 with h | h
        · omega
        · by_cases e : r = (m : Int)
          · subst e; have := HQ.out.2 h; cases this
          · omega
      · obtain rfl : r = (m : Int) := by
          by_cases e : r = (m : Int)
          · exact e
          · exact absurd (HQ.out.1 (by first | trivial | rfl)) (HD.out.2.2.2 _ (by omega) (by omega))
        go_wp2
        go_ret
        exact ⟨rfl, G2_.out⟩

end Go.Proofs.Ytgagbhkidponnaa
