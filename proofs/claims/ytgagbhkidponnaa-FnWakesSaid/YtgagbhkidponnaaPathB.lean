/-
  PathTo on both sides.
-/
import Derived.Test.YtgagbhkidponnaaPathS
import Derived.Test.YtgagbhkidponnaaPathI
namespace Go.Proofs.Ytgagbhkidponnaa
open Go Go.RowKit
set_option linter.unusedVariables false

set_option maxHeartbeats 1000000 in
theorem implPath_no (W : World) (v : Value) (xs : List DNode) (k : Int) (H : RdL shNode W v xs) (hl : szL shNode xs ≤ 1048576) (hp : ¬ NodeP xs k) : Calls Try.prog 28 #[v, .int .i64 k] W (ResIPathTo [] W) := by
  have HP_ := Lib.hid hp
  clear hp
  have HT := Lib.hid H
  have HL := Lib.hid hl
  obtain ⟨a0, n0, c0, rfl⟩ := RdL.form H
  have hn0 : n0 = xs.length := by obtain ⟨_, _, e, _⟩ := H; injection e
  have HE := Lib.hid hn0
  have hlx : n0 ≤ 1048576 := by have := szL_len shNode xs; omega
  clear H hn0 hl
  go_enter Try.func28, Try.ntmps28
  go_wp2_with fail
  go_at_call 64
  refine (implNode_no _ _ xs _ (HT.out.grow (gby_refl _ _)) HL.out HP_.out).mono ?_
  rintro e w1 ⟨rfl, g⟩
  have szw1 := g.size
  try simp only [World.size_alloc] at szw1
  try simp only [World.size_setCell] at szw1
  have G1_ := Lib.hid (show (W).grownBy (w1) none from gby_trans (gby_refl _ _) g)
  clear g
  go_wp2
  go_ret
  exact ⟨_, rfl, OwU.one owL_nil, G1_.out⟩

set_option maxHeartbeats 1000000 in
theorem implPath_yes (W : World) (v : Value) (xs : List DNode) (k : Nat) (H : RdL shNode W v xs) (hl : szL shNode xs ≤ 1048576) (ht : TOk xs) (hkl : k < xs.length) : Calls Try.prog 28 #[v, .int .i64 (k : Int)] W (ResIPathTo (pth xs k) W) := by
  have HP_ := Lib.hid (show NodeP xs (k : Int) from ⟨ht, by omega, by omega⟩)
  have HTO := Lib.hid ht
  have HK := Lib.hid hkl
  clear ht hkl
  have HT := Lib.hid H
  have HL := Lib.hid hl
  obtain ⟨a0, n0, c0, rfl⟩ := RdL.form H
  have hn0 : n0 = xs.length := by obtain ⟨_, _, e, _⟩ := H; injection e
  have HE := Lib.hid hn0
  have hlx : n0 ≤ 1048576 := by have := szL_len shNode xs; omega
  clear H hn0 hl
  go_enter Try.func28, Try.ntmps28
  go_wp2_with fail
  go_at_call 64
  refine (implNode_yes _ _ xs _ (HT.out.grow (gby_refl _ _)) HL.out HP_.out).mono ?_
  rintro e w1 ⟨rfl, g⟩
  have szw1 := g.size
  try simp only [World.size_alloc] at szw1
  try simp only [World.size_setCell] at szw1
  have G1_ := Lib.hid (show (W).grownBy (w1) none from gby_trans (gby_refl _ _) g)
  clear g
  go_wp2_with fail
  go_at_call 63
  refine (implPathTo _ _ xs k (HT.out.grow G1_.out) HL.out HTO.out HK.out).mono ?_
  rintro e w2 ⟨vr, rfl, o, g⟩
  go_wp2
  go_ret
  exact ⟨_, rfl, OwU.wide (gby_size G1_.out) (Nat.le_refl _) o, gby_trans G1_.out g⟩

/-- the way to k, none if there is no such node -/
def PthIs (xs : List DNode) (k : Int) (ys : List Int) : Prop := (∃ n : Nat, k = (n : Int) ∧ TOk xs ∧ n < xs.length ∧ ys = pth xs n) ∨ (¬ NodeP xs k ∧ ys = [])
theorem pthIs_ex (xs : List DNode) (k : Int) : ∃ ys, PthIs xs k ys := by
  by_cases h : NodeP xs k
  · obtain ⟨h1, h2, h3⟩ := h
    exact ⟨_, .inl ⟨k.toNat, by omega, h1, by omega, rfl⟩⟩
  · exact ⟨_, .inr ⟨h, rfl⟩⟩
theorem pthIs_len {xs : List DNode} {k : Int} {ys : List Int} (h : PthIs xs k ys) : ys.length ≤ 12 := by
  rcases h with ⟨n, _, h1, h2, rfl⟩ | ⟨_, rfl⟩
  · have := (pth_len h1 n h2).2
    have := h1.1.2
    omega
  · simp

theorem specPath_any (W : World) (v : Value) (xs : List DNode) (k : Int) (H : RdL shNode W v xs) (hl : szL shNode xs ≤ 1048576) (ys : List Int) (h : PthIs xs k ys) : Calls Try.prog 97 #[v, .int .i64 k] W (ResIPathTo ys W) := by
  rcases h with ⟨n, rfl, h1, h2, rfl⟩ | ⟨h, rfl⟩
  · exact specPath_yes W v xs n H hl h1 h2
  · exact specPath_no W v xs k H hl h

theorem implPath_any (W : World) (v : Value) (xs : List DNode) (k : Int) (H : RdL shNode W v xs) (hl : szL shNode xs ≤ 1048576) (ys : List Int) (h : PthIs xs k ys) : Calls Try.prog 28 #[v, .int .i64 k] W (ResIPathTo ys W) := by
  rcases h with ⟨n, rfl, h1, h2, rfl⟩ | ⟨h, rfl⟩
  · exact implPath_yes W v xs n H hl h1 h2
  · exact implPath_no W v xs k H hl h

theorem pathTo_both (xs0 : List DNode) (i1 : Int) (h0 : szL shNode xs0 ≤ 1048576) : ∃ (xsr0 : List Int), szL shI xsr0 ≤ 1048576 ∧ (∀ (W : World), ∀ u0, RdL shNode W u0 xs0 → Calls Try.prog 97 #[u0, .int .i64 i1] W (ResSPathTo xsr0 W)) ∧ ∀ (W : World), ∀ u0, RdL shNode W u0 xs0 → Calls Try.prog 28 #[u0, .int .i64 i1] W (ResIPathTo xsr0 W) := by
  obtain ⟨ys, hy⟩ := pthIs_ex xs0 i1
  exact ⟨ys, by rw [szL_I]; have := pthIs_len hy; omega, fun W u H => (specPath_any W u xs0 i1 H h0 ys hy).mono (fun e w q => resS_ofPathTo e w q), fun W u H => implPath_any W u xs0 i1 H h0 ys hy⟩

end Go.Proofs.Ytgagbhkidponnaa
