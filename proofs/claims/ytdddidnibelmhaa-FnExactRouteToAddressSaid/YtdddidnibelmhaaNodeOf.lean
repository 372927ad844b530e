/-
  A valid tree and one of its nodes, on both sides.
-/
import Derived.Test.YtdddidnibelmhaaPathMath
import Derived.Test.YtdddidnibelmhaaBPost
namespace Go.Proofs.Ytdddidnibelmhaa
open Go Go.RowKit
set_option linter.unusedVariables false

set_option maxRecDepth 8000 in
set_option maxHeartbeats 2000000 in
theorem specNode (W : World) (v : Value) (xs : List DNode) (k : Int) (H : RdL shNode W v xs) (hl : szL shNode xs ≤ 1048576) : Calls Try.prog 50 #[v, .int .i64 k] W (BPost (NodeP xs k) W) := by
  have HT := Lib.hid H
  have HL := Lib.hid hl
  obtain ⟨a0, n0, c0, rfl⟩ := RdL.form H
  have hn0 : n0 = xs.length := by obtain ⟨_, _, e, _⟩ := H; injection e
  have HE := Lib.hid hn0
  have hlx : n0 ≤ 1048576 := by have := szL_len shNode xs; omega
  clear H hn0 hl
  by_cases ht : TOk xs
  rotate_left
  · have HNT := Lib.hid ht
    clear ht
    go_enter Try.func50, Try.ntmps50
    go_wp2_with fail
    go_at_call 26
    refine (specTree_no _ _ xs (HT.out.grow (gby_refl _ _)) HL.out HNT.out).mono ?_
    rintro e w1 ⟨rfl, g⟩
    have szw1 := g.size
    try simp only [World.size_alloc] at szw1
    try simp only [World.size_setCell] at szw1
    have G1_ := Lib.hid (show (W).grownBy (w1) none from gby_trans (gby_refl _ _) g)
    clear g
    go_wp2
    go_ret
    exact ⟨false, rfl, iff_no (fun q => HNT.out q.1), G1_.out⟩
  have HYT := Lib.hid ht
  have l1 := ht.1.1
  have l2 := ht.1.2
  rw [← HE.out] at l1 l2
  clear ht
  have hk1 : IntKind.i64.wrap ((n0 : Int) - 1) = (n0 : Int) - 1 := IntWalk.i64_in _ (by omega)
  rcases inr_or k 0 ((n0 : Int) - 1) with ⟨k1, k2⟩ | hb
  rotate_left
  · have HB := Lib.hid hb
    clear hb
    go_enter Try.func50, Try.ntmps50
    go_wp2_with fail
    go_at_call 26
    refine (specTree_yes _ _ xs (HT.out.grow (gby_refl _ _)) HL.out HYT.out).mono ?_
    rintro e w1 ⟨rfl, g⟩
    have szw1 := g.size
    try simp only [World.size_alloc] at szw1
    try simp only [World.size_setCell] at szw1
    have G1_ := Lib.hid (show (W).grownBy (w1) none from gby_trans (gby_refl _ _) g)
    clear g
    go_wp2_with fail
    go_at_call 40
    refine (in_no _ _ _ _ HB.out).mono ?_
    rintro e w2_ ⟨rfl, rfl⟩
    go_wp2
    go_ret
    exact ⟨false, rfl, iff_no (fun q => by have := q.2; have := HB.out; have := HE.out; omega), G1_.out⟩
  go_enter Try.func50, Try.ntmps50
  go_wp2_with fail
  go_at_call 26
  refine (specTree_yes _ _ xs (HT.out.grow (gby_refl _ _)) HL.out HYT.out).mono ?_
  rintro e w1 ⟨rfl, g⟩
  have szw1 := g.size
  try simp only [World.size_alloc] at szw1
  try simp only [World.size_setCell] at szw1
  have G1_ := Lib.hid (show (W).grownBy (w1) none from gby_trans (gby_refl _ _) g)
  clear g
  go_wp2_with fail
  go_at_call 40
  refine (in_yes _ _ _ _ (by omega) (by omega)).mono ?_
  rintro e w2_ ⟨rfl, rfl⟩
  go_wp2
  go_ret
  exact ⟨true, rfl, iff_yes ⟨HYT.out, by omega, by rw [← HE.out]; omega⟩, G1_.out⟩

theorem specNode_yes (W : World) (v : Value) (xs : List DNode) (k : Int) (H : RdL shNode W v xs) (hl : szL shNode xs ≤ 1048576) (h : NodeP xs k) : Calls Try.prog 50 #[v, .int .i64 k] W (AnsN (.bool true) W) := (specNode W v xs k H hl).mono (bpost_yes h)
theorem specNode_no (W : World) (v : Value) (xs : List DNode) (k : Int) (H : RdL shNode W v xs) (hl : szL shNode xs ≤ 1048576) (h : ¬ NodeP xs k) : Calls Try.prog 50 #[v, .int .i64 k] W (AnsN (.bool false) W) := (specNode W v xs k H hl).mono (bpost_no h)

end Go.Proofs.Ytdddidnibelmhaa
