/-
  How many virtual functions there may be, on both sides.
-/
import Derived.Test.YtgagbhkidponnaaVirt3
import Derived.Test.YtgagbhkidponnaaRVirtualRoom
namespace Go.Proofs.Ytgagbhkidponnaa
open Go Go.RowKit
set_option linter.unusedVariables false

/-- a list, and this truth value -/
def PostB (q : Bool) (W : World) (e : Ending) (w' : World) : Prop := ∃ v, e = .returned (.tuple #[v, .bool q]) ∧ W.grownBy w' none
/-- so many there may be -/
def RoomIs (b a s : Int) (n : Nat) : Prop := n ≤ 64 ∧ AllIn b a s n ∧ (n = 64 ∨ 255 < b + a + (n : Int) * s)
theorem room_ex (b a s : Int) : ∃ n, RoomIs b a s n := by
  rcases allIn_or b a s 64 with h | ⟨k0, hk, h1, h2⟩
  · exact ⟨64, Nat.le_refl _, h, .inl rfl⟩
  · exact ⟨k0, by omega, h2, .inr h1⟩
theorem implIdsB_no (b a s : Int) (c : Nat) (W : World) (h : (b < 0 ∨ 255 < b) ∨ ¬ VOk a s (c : Int) ∨ ¬ AllIn b a s c) : Calls Try.prog 33 #[.int .i64 b, vVirtual a s (c : Int)] W (PostB false W) := by
  have key : Calls Try.prog 33 #[.int .i64 b, vVirtual a s (c : Int)] W (ResIVirtualIds [] false W) := by
    by_cases hb : b < 0 ∨ 255 < b
    · exact implIds_b b a s c W hb
    · by_cases hv : VOk a s (c : Int)
      · rcases allIn_or b a s c with q | ⟨k0, hk, q⟩
        · exact absurd q (by rcases h with h | h | h; exact absurd h hb; exact absurd hv h; exact h)
        · exact implIds_bad b a s c W (by omega) (by omega) hv k0 hk q
      · exact implIds_v b a s c W (by omega) (by omega) hv
  exact key.mono (by rintro e w ⟨v, rfl, _, g⟩; exact ⟨v, rfl, g⟩)
theorem implIds_ok (b a s : Int) (c : Nat) (W : World) (h0 : 0 ≤ b) (h1 : b ≤ 255) (hv : VOk a s (c : Int)) (ha : AllIn b a s c) : Calls Try.prog 33 #[.int .i64 b, vVirtual a s (c : Int)] W (PostB true W) :=
  (implIds_good b a s c W h0 h1 hv ha).mono (by rintro e w ⟨v, rfl, _, g⟩; exact ⟨v, rfl, g⟩)

set_option maxRecDepth 8000 in
set_option maxHeartbeats 2000000 in
theorem implRoom (b a s R : Int) (W : World) (h64 : R ≤ 64) (hm : -1 ≤ R)
    (hno : ∀ m : Int, R < m → m ≤ 64 → ∀ W, Calls Try.prog 33 #[.int .i64 b, .agg #[.int .i64 a, .int .i64 s, .int .i64 m]] W (PostB false W))
    (hyes : 0 ≤ R → ∀ W, Calls Try.prog 33 #[.int .i64 b, .agg #[.int .i64 a, .int .i64 s, .int .i64 R]] W (PostB true W)) :
    Calls Try.prog 34 #[.int .i64 b, .int .i64 a, .int .i64 s] W (AnsN (.int .i64 R) W) := by
  have HNO := Lib.hid hno
  have HYES := Lib.hid hyes
  clear hno hyes
  go_enter Try.func34, Try.ntmps34
  go_wp2
  go_loopw [7, 8, 9, 10] (fun i z1 z2 z3 wr => ∃ n : Int, R ≤ n ∧ n ≤ 64 ∧ i = .int .i64 n ∧ (∃ q, z1 = q) ∧ (∃ q, z2 = q) ∧ (∃ q, z3 = q) ∧ (W).grownBy wr none) (fun i _ _ _ _ => (intOf i + 1).toNat)
  case atStart => exact ⟨64, h64, by omega, rfl, ⟨_, rfl⟩, ⟨_, rfl⟩, ⟨_, rfl⟩, gby_refl _ _⟩
  case round =>
    obtain ⟨n, hn, hn2, rfl, ⟨z1, rfl⟩, ⟨z2, rfl⟩, ⟨z3, rfl⟩, hg⟩ := hrel
    have szr_ := hg.size
    try simp only [World.size_alloc] at szr_
    have G1_ := Lib.hid (show (W).grownBy (wr) none from gby_trans (gby_refl _ _) hg)
    have HTB_ := Lib.hid hg
    clear hg
    by_cases hlt : R < n
    · have hki : 0 ≤ n := by omega
      have hm1 : IntKind.i64.wrap (n - 1) = n - 1 := IntWalk.i64_in _ (by omega)
      go_wp2_with fail
      have al_ : (wr).grownBy ((wr).alloc (.cells #[.int .i64 a, .int .i64 s, .int .i64 n] 48)) none := gby_alloc (gby_refl _ _) _
      have G2_ := Lib.hid (show (W).grownBy ((wr.alloc (.cells #[.int .i64 a, .int .i64 s, .int .i64 n] 48))) none from gby_trans G1_.out al_)
      have HTB3_ := Lib.hid (show (W).grownBy ((wr.alloc (.cells #[.int .i64 a, .int .i64 s, .int .i64 n] 48))) none from gby_trans HTB_.out al_)
      clear HTB_
      clear al_
      go_wp2_with fail
      go_at_call 33
      refine (HNO.out n hlt hn2 _).mono ?_
      rintro e w1 ⟨v_, rfl, g⟩
      have szw1 := g.size
      try simp only [World.size_alloc] at szw1
      have G4_ := Lib.hid (show (W).grownBy (w1) none from gby_trans G2_.out g)
      have HTB5_ := Lib.hid (show (W).grownBy (w1) none from gby_trans HTB3_.out g)
      clear HTB3_
      clear g
      go_wp2
      exact ⟨⟨n - 1, by omega, by omega, rfl, ⟨_, rfl⟩, ⟨_, rfl⟩, ⟨_, rfl⟩, HTB5_.out⟩, by simp [intOf]; omega⟩
    · obtain rfl : n = R := by omega
      by_cases h0 : 0 ≤ n
      · skip
        go_wp2_with fail
        have al_ : (wr).grownBy ((wr).alloc (.cells #[.int .i64 a, .int .i64 s, .int .i64 n] 48)) none := gby_alloc (gby_refl _ _) _
        have G2_ := Lib.hid (show (W).grownBy ((wr.alloc (.cells #[.int .i64 a, .int .i64 s, .int .i64 n] 48))) none from gby_trans G1_.out al_)
        have HTB3_ := Lib.hid (show (W).grownBy ((wr.alloc (.cells #[.int .i64 a, .int .i64 s, .int .i64 n] 48))) none from gby_trans HTB_.out al_)
        clear HTB_
        clear al_
        go_wp2_with fail
        go_at_call 33
        refine (HYES.out h0 _).mono ?_
        rintro e w1 ⟨v_, rfl, g⟩
        have szw1 := g.size
        try simp only [World.size_alloc] at szw1
        have G4_ := Lib.hid (show (W).grownBy (w1) none from gby_trans G2_.out g)
        have HTB5_ := Lib.hid (show (W).grownBy (w1) none from gby_trans HTB3_.out g)
        clear HTB3_
        clear g
        go_wp2
        go_ret
        exact ⟨rfl, G4_.out⟩
      · obtain rfl : n = -1 := by omega
        go_wp2
        go_ret
        exact ⟨rfl, G1_.out⟩

end Go.Proofs.Ytgagbhkidponnaa
