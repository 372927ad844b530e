/-
  Tags by value, on the law's side: measured, copied, compared, marked, held.
-/
import Derived.Test.YtdieobfkdbeiiaaShpI
import Derived.Test.YtdieobfkdbeiiaaQSBool
namespace Go.Proofs.Ytdieobfkdbeiiaa
open Go Go.RowKit
set_option linter.unusedVariables false

/-- a value of Tags -/
def vTags (v0 : Value) : Value := .agg #[v0]

/-- a Tags in new memory -/
def NewTags (xs0 : List Bool) (W : World) (e : Ending) (w' : World) : Prop := ∃ v0, e = .returned (vTags v0) ∧ OwU w' W.heap.size w'.heap.size [] [own shB v0 xs0] ∧ W.grownBy w' none

set_option maxRecDepth 8000 in
set_option maxHeartbeats 2000000 in
theorem eqTags_d (W : World) (v0 : Value) (v0' : Value) (xs0 : List Bool) (H0 : RdL shB W v0 xs0) (K0 : RdL shB W v0' xs0) (hl0 : szL shB xs0 ≤ 1048576) :
    Calls Try.prog 97 #[vTags v0, vTags v0'] W (AnsN (.bool true) W) := by
  have HI0 := Lib.hid H0
  have HJ0 := Lib.hid K0
  clear H0 K0
  unfold vTags
  go_enter Try.func97, Try.ntmps97
  have rP1_ := Lib.hid (show (((W.alloc (.cells #[v0] 42)).alloc (.cells #[v0'] 42))).heap[W.heap.size]? = some (.cells #[v0] 42 (0, 0)) from by rw [heap_alloc_old _ _ (by simp only [World.size_alloc]; omega)]; exact heap_alloc_new _ _)
  have rQ2_ := Lib.hid (show (((W.alloc (.cells #[v0] 42)).alloc (.cells #[v0'] 42))).heap[W.heap.size + 1]? = some (.cells #[v0'] 42 (0, 0)) from by exact heap_pair _ _ _)
  have G3_ := Lib.hid (show (W).grownBy (((W.alloc (.cells #[v0] 42)).alloc (.cells #[v0'] 42))) none from (gby_alloc (gby_alloc (gby_refl _ _) _) _))
  have P_0_ : (((W.alloc (.cells #[v0] 42)).alloc (.cells #[v0'] 42))).cell? ⟨W.heap.size, 0, none⟩ = some (v0) := cell_of_row _ _ 0 _ _ _ rP1_.out
  have Q_0_ : (((W.alloc (.cells #[v0] 42)).alloc (.cells #[v0'] 42))).cell? ⟨W.heap.size + 1, 0, none⟩ = some (v0') := cell_of_row _ _ 0 _ _ _ rQ2_.out
  go_wp2_with fail
  go_at_call 125
  refine (eqBoolS_d _ v0 v0' xs0 (HI0.out.grow G3_.out) (HJ0.out.grow G3_.out) hl0).mono ?_
  rintro e w1 ⟨rfl, g⟩
  clear P_0_ Q_0_
  have rP4_ := Lib.hid (show (w1).heap[W.heap.size]? = some (.cells #[v0] 42 (0, 0)) from row_held g rP1_.out)
  clear rP1_
  have rQ5_ := Lib.hid (show (w1).heap[W.heap.size + 1]? = some (.cells #[v0'] 42 (0, 0)) from row_held g rQ2_.out)
  clear rQ2_
  have G6_ := Lib.hid (show (W).grownBy (w1) none from gby_trans G3_.out g)
  clear g
  have P_0_ : (w1).cell? ⟨W.heap.size, 0, none⟩ = some (v0) := cell_of_row _ _ 0 _ _ _ rP4_.out
  have Q_0_ : (w1).cell? ⟨W.heap.size + 1, 0, none⟩ = some (v0') := cell_of_row _ _ 0 _ _ _ rQ5_.out
  go_wp2
  go_ret
  exact ⟨rfl, G6_.out⟩

set_option maxRecDepth 8000 in
set_option maxHeartbeats 2000000 in
theorem markTags_d (w : World) (lo hi m : Nat) (v0 : Value) (xs0 : List Bool) (pre post : List Own) (h1 : OwU w lo hi [] (pre ++ own shB v0 xs0 :: post)) (hhi : hi ≤ w.heap.size) (hl0 : szL shB xs0 ≤ 1048576) (hm2 : m + ecL shB xs0 ≤ 900000000) :
    Calls Try.prog 100 #[vTags v0, .int .i64 (m : Int)] w (fun e w' => e = .returned (.int .i64 ((m + ecL shB xs0 : Nat) : Int)) ∧ OwU w' lo hi [] (pre ++ own shB v0 (emL shB (m) xs0) :: post) ∧ Chg w w' lo hi) := by
  unfold vTags
  go_enter Try.func100, Try.ntmps100
  have rP1_ := Lib.hid (show ((w.alloc (.cells #[v0] 42))).heap[w.heap.size]? = some (.cells #[v0] 42 (0, 0)) from by exact heap_alloc_new _ _)
  have G2_ := Lib.hid (show (w).grownBy ((w.alloc (.cells #[v0] 42))) none from (gby_alloc (gby_refl _ _) _))
  have U0 := Lib.hid (OwU.grow h1 (gby_alloc (gby_refl _ _) (.cells #[v0] 42)))
  have C0 := Lib.hid (chg_gby G2_.out lo hi)
  clear h1
  have P_0_ : ((w.alloc (.cells #[v0] 42))).cell? ⟨w.heap.size, 0, none⟩ = some (v0) := cell_of_row _ _ 0 _ _ _ rP1_.out
  obtain ⟨p0, q0, l0, u0, _, oo, ff⟩ := OwU.focus (pre := pre) (p := own shB v0 xs0) (post := post) (show OwU ((w.alloc (.cells #[v0] 42))) lo hi [] (pre ++ own shB v0 xs0 :: post) from by first | exact U0.out | (rw [List.append_assoc]; exact U0.out))
  have FF := Lib.hid ff
  clear ff
  go_wp2_with fail
  go_at_call 127
  refine (markBoolS_d _ p0 q0 m v0 xs0 oo hl0 (by omega)).mono ?_
  rintro e w1 ⟨rfl, o, c⟩
  clear P_0_
  have hrow := Chg.keep c rP1_.out (by omega)
  clear rP1_
  have hsz0 := c.size
  try simp only [World.size_alloc] at hsz0
  have rP3_ := Lib.hid (show (w1).heap[w.heap.size]? = some (.cells #[v0] 42 (0, 0)) from hrow)
  clear hrow
  have U1 := Lib.hid (show OwU (w1) lo hi [] (pre ++ own shB v0 (emL shB (m) xs0) :: post) from by first | exact (show OwU (w1) lo hi [] (pre ++ own shB v0 (emL shB (m) xs0) :: post) from FF.out _ (own shB v0 (emL shB (m) xs0)) c o) | (have q := (show OwU (w1) lo hi [] (pre ++ own shB v0 (emL shB (m) xs0) :: post) from FF.out _ (own shB v0 (emL shB (m) xs0)) c o); rw [List.append_assoc] at q; exact q))
  clear U0 o
  have C1 := Lib.hid (chg_trans C0.out (chg_wide c (lo' := lo) (hi' := hi) l0 u0))
  clear c C0
  try clear oo FF
  have P_0_ : (w1).cell? ⟨w.heap.size, 0, none⟩ = some (v0) := cell_of_row _ _ 0 _ _ _ rP3_.out
  go_wp2
  go_ret
  exact ⟨by first | rfl | (congr 3; omega), by first | exact U1.out | simpa only [Nat.add_assoc] using U1.out, C1.out⟩

set_option maxRecDepth 8000 in
set_option maxHeartbeats 2000000 in
theorem heldTags_d (w : World) (m : Nat) (v0 : Value) (xs0 : List Bool) (H0 : RdL shB w v0 (emL shB (m) xs0)) (hl0 : szL shB xs0 ≤ 1048576) (hm2 : m + ecL shB xs0 ≤ 900000000) :
    Calls Try.prog 103 #[vTags v0, .int .i64 (m : Int)] w (AnsN (.int .i64 ((m + ecL shB xs0 : Nat) : Int)) w) := by
  unfold vTags
  have HI0 := Lib.hid H0
  clear H0
  have ng0 : ¬ (((m + ecL shB xs0 : Nat) : Int) < 0) := by omega
  go_enter Try.func103, Try.ntmps103
  have rP1_ := Lib.hid (show ((w.alloc (.cells #[v0] 42))).heap[w.heap.size]? = some (.cells #[v0] 42 (0, 0)) from by exact heap_alloc_new _ _)
  have G2_ := Lib.hid (show (w).grownBy ((w.alloc (.cells #[v0] 42))) none from (gby_alloc (gby_refl _ _) _))
  have P_0_ : ((w.alloc (.cells #[v0] 42))).cell? ⟨w.heap.size, 0, none⟩ = some (v0) := cell_of_row _ _ 0 _ _ _ rP1_.out
  go_wp2_with fail
  go_at_call 128
  refine (heldBoolS_d _ m v0 xs0 (HI0.out.grow G2_.out) hl0 (by omega)).mono ?_
  rintro e w1 ⟨rfl, g⟩
  clear P_0_
  have rP3_ := Lib.hid (show (w1).heap[w.heap.size]? = some (.cells #[v0] 42 (0, 0)) from row_held g rP1_.out)
  clear rP1_
  have G4_ := Lib.hid (show (w).grownBy (w1) none from gby_trans G2_.out g)
  clear g
  have P_0_ : (w1).cell? ⟨w.heap.size, 0, none⟩ = some (v0) := cell_of_row _ _ 0 _ _ _ rP3_.out
  go_wp2
  go_ret
  exact ⟨rfl, G4_.out⟩

end Go.Proofs.Ytdieobfkdbeiiaa
