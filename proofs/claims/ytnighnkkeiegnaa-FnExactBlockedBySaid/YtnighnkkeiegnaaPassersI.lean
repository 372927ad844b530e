/-
  PassersOf, the program.
-/
import Derived.Test.YtnighnkkeiegnaaPassMath
import Derived.Test.YtnighnkkeiegnaaRPassersOf
import Derived.Test.YtnighnkkeiegnaaStepApp
import Derived.Test.YtnighnkkeiegnaaAppP
import Derived.Deep.RegionHeld3
namespace Go.Proofs.Ytnighnkkeiegnaa
open Go Go.RowKit
set_option linter.unusedVariables false

set_option maxRecDepth 8000 in
set_option maxHeartbeats 4000000 in
theorem implAll_any (W : World) (xp : DPacket) (u v : Value) (xs : List DPacket) (Hp : RdL shI W u xp.f7) (hzp_ : szL shI xp.f7 ≤ 1048576) (H : RdL shPacket W v xs) (hl : szL shPacket xs ≤ 1048576) : Calls Try.prog 108 #[vPacket xp.f0 xp.f1 xp.f2 xp.f3 xp.f4 xp.f5 xp.f6 u, v] W (AnsN (.bool (clearOf xp xs xs.length)) W) := by
  obtain ⟨i1_, hi1_, hz0_, hz1_, hz2_⟩ := info_parts infoInt
  have HS := Lib.hid hl
  have HRD := Lib.hid H
  obtain ⟨a0, cap0, rfl, hcap, _, H⟩ := H
  have HC := Lib.hid H
  have hcap2 := hcap.2
  obtain ⟨n0, hn0⟩ : ∃ n, n = xs.length := ⟨_, rfl⟩
  have HE := Lib.hid hn0
  have hlx : n0 ≤ 1048576 := by have := szL_len shPacket xs; omega
  rw [← hn0] at hcap2 ⊢
  rw [← hn0] at HRD HC
  clear H hcap hl hn0
  obtain ⟨pp, np, cp, rfl⟩ := RdL.form Hp
  have Rp := Lib.hid Hp
  clear Hp
  unfold vPacket
  go_enter Try.func108, Try.ntmps108
  have rA1_ := Lib.hid (show ((W.alloc (.cells #[.int .i64 xp.f0, .int .i64 xp.f1, .int .i64 xp.f2, .int .i64 xp.f3, .int .i64 xp.f4, .int .i64 xp.f5, .int .i64 xp.f6, .slice pp np cp] 60))).heap[W.heap.size]? = some (.cells #[.int .i64 xp.f0, .int .i64 xp.f1, .int .i64 xp.f2, .int .i64 xp.f3, .int .i64 xp.f4, .int .i64 xp.f5, .int .i64 xp.f6, .slice pp np cp] 60 (0, 0)) from by exact heap_alloc_new _ _)
  have G2_ := Lib.hid (show (W).grownBy ((W.alloc (.cells #[.int .i64 xp.f0, .int .i64 xp.f1, .int .i64 xp.f2, .int .i64 xp.f3, .int .i64 xp.f4, .int .i64 xp.f5, .int .i64 xp.f6, .slice pp np cp] 60))) none from (gby_alloc (gby_refl _ _) _))
  have A_0_ : ((W.alloc (.cells #[.int .i64 xp.f0, .int .i64 xp.f1, .int .i64 xp.f2, .int .i64 xp.f3, .int .i64 xp.f4, .int .i64 xp.f5, .int .i64 xp.f6, .slice pp np cp] 60))).cell? ⟨W.heap.size, 0, none⟩ = some (.int .i64 xp.f0) := cell_of_row _ _ 0 _ _ _ rA1_.out
  have A_1_ : ((W.alloc (.cells #[.int .i64 xp.f0, .int .i64 xp.f1, .int .i64 xp.f2, .int .i64 xp.f3, .int .i64 xp.f4, .int .i64 xp.f5, .int .i64 xp.f6, .slice pp np cp] 60))).cell? ⟨W.heap.size, 1, none⟩ = some (.int .i64 xp.f1) := cell_of_row _ _ 1 _ _ _ rA1_.out
  have A_2_ : ((W.alloc (.cells #[.int .i64 xp.f0, .int .i64 xp.f1, .int .i64 xp.f2, .int .i64 xp.f3, .int .i64 xp.f4, .int .i64 xp.f5, .int .i64 xp.f6, .slice pp np cp] 60))).cell? ⟨W.heap.size, 2, none⟩ = some (.int .i64 xp.f2) := cell_of_row _ _ 2 _ _ _ rA1_.out
  have A_3_ : ((W.alloc (.cells #[.int .i64 xp.f0, .int .i64 xp.f1, .int .i64 xp.f2, .int .i64 xp.f3, .int .i64 xp.f4, .int .i64 xp.f5, .int .i64 xp.f6, .slice pp np cp] 60))).cell? ⟨W.heap.size, 3, none⟩ = some (.int .i64 xp.f3) := cell_of_row _ _ 3 _ _ _ rA1_.out
  have A_4_ : ((W.alloc (.cells #[.int .i64 xp.f0, .int .i64 xp.f1, .int .i64 xp.f2, .int .i64 xp.f3, .int .i64 xp.f4, .int .i64 xp.f5, .int .i64 xp.f6, .slice pp np cp] 60))).cell? ⟨W.heap.size, 4, none⟩ = some (.int .i64 xp.f4) := cell_of_row _ _ 4 _ _ _ rA1_.out
  have A_5_ : ((W.alloc (.cells #[.int .i64 xp.f0, .int .i64 xp.f1, .int .i64 xp.f2, .int .i64 xp.f3, .int .i64 xp.f4, .int .i64 xp.f5, .int .i64 xp.f6, .slice pp np cp] 60))).cell? ⟨W.heap.size, 5, none⟩ = some (.int .i64 xp.f5) := cell_of_row _ _ 5 _ _ _ rA1_.out
  have A_6_ : ((W.alloc (.cells #[.int .i64 xp.f0, .int .i64 xp.f1, .int .i64 xp.f2, .int .i64 xp.f3, .int .i64 xp.f4, .int .i64 xp.f5, .int .i64 xp.f6, .slice pp np cp] 60))).cell? ⟨W.heap.size, 6, none⟩ = some (.int .i64 xp.f6) := cell_of_row _ _ 6 _ _ _ rA1_.out
  have A_7_ : ((W.alloc (.cells #[.int .i64 xp.f0, .int .i64 xp.f1, .int .i64 xp.f2, .int .i64 xp.f3, .int .i64 xp.f4, .int .i64 xp.f5, .int .i64 xp.f6, .slice pp np cp] 60))).cell? ⟨W.heap.size, 7, none⟩ = some (.slice pp np cp) := cell_of_row _ _ 7 _ _ _ rA1_.out
  go_wp2
  go_loopw [6, 9] (fun y6 i wr => ∃ m : Nat, i = .int .i64 (m : Int) ∧ m ≤ n0 ∧ (∃ q, y6 = q) ∧ clearOf xp xs m = true ∧ ((W.alloc (.cells #[.int .i64 xp.f0, .int .i64 xp.f1, .int .i64 xp.f2, .int .i64 xp.f3, .int .i64 xp.f4, .int .i64 xp.f5, .int .i64 xp.f6, .slice pp np cp] 60))).grownBy wr none) (fun _ i _ => n0 - (intOf i).toNat)
  case atStart => exact ⟨0, rfl, by omega, ⟨_, rfl⟩, rfl, gby_refl _ _⟩
  case round =>
    clear A_0_ A_1_ A_2_ A_3_ A_4_ A_5_ A_6_ A_7_
    obtain ⟨m, rfl, hm, ⟨y6, rfl⟩, hcl_, hg⟩ := hrel
    have szrwr := hg.size
    try simp only [World.size_alloc] at szrwr
    try simp only [World.size_setCell] at szrwr
    have szr_ := szrwr
    have rA3_ := Lib.hid (show (wr).heap[W.heap.size]? = some (.cells #[.int .i64 xp.f0, .int .i64 xp.f1, .int .i64 xp.f2, .int .i64 xp.f3, .int .i64 xp.f4, .int .i64 xp.f5, .int .i64 xp.f6, .slice pp np cp] 60 (0, 0)) from row_held hg rA1_.out)
    clear rA1_
    have G4_ := Lib.hid (show (W).grownBy (wr) none from gby_trans G2_.out hg)
    have HTI_ := Lib.hid hg
    clear hg
    have A_0_ : (wr).cell? ⟨W.heap.size, 0, none⟩ = some (.int .i64 xp.f0) := cell_of_row _ _ 0 _ _ _ rA3_.out
    have A_1_ : (wr).cell? ⟨W.heap.size, 1, none⟩ = some (.int .i64 xp.f1) := cell_of_row _ _ 1 _ _ _ rA3_.out
    have A_2_ : (wr).cell? ⟨W.heap.size, 2, none⟩ = some (.int .i64 xp.f2) := cell_of_row _ _ 2 _ _ _ rA3_.out
    have A_3_ : (wr).cell? ⟨W.heap.size, 3, none⟩ = some (.int .i64 xp.f3) := cell_of_row _ _ 3 _ _ _ rA3_.out
    have A_4_ : (wr).cell? ⟨W.heap.size, 4, none⟩ = some (.int .i64 xp.f4) := cell_of_row _ _ 4 _ _ _ rA3_.out
    have A_5_ : (wr).cell? ⟨W.heap.size, 5, none⟩ = some (.int .i64 xp.f5) := cell_of_row _ _ 5 _ _ _ rA3_.out
    have A_6_ : (wr).cell? ⟨W.heap.size, 6, none⟩ = some (.int .i64 xp.f6) := cell_of_row _ _ 6 _ _ _ rA3_.out
    have A_7_ : (wr).cell? ⟨W.heap.size, 7, none⟩ = some (.slice pp np cp) := cell_of_row _ _ 7 _ _ _ rA3_.out
    have HCL := Lib.hid hcl_
    clear hcl_
    have hm0_ : (0 : Int) ≤ (m : Int) := by omega
    have htm : ((m : Int)).toNat = m := by omega
    by_cases hlm : m < n0
    rotate_left
    · obtain rfl : m = n0 := by omega
      have hmi : ¬ (m : Int) < (m : Int) := by omega
      go_wp2
      go_ret
      exact ⟨ret_bool HCL.out.symm, G4_.out⟩
    have hmi : (m : Int) < (n0 : Int) := by omega
    obtain ⟨ab, ao, rfl, hcell_⟩ := HC.out.resolve_left (by omega)
    have HCE := Lib.hid hcell_
    clear hcell_
    have hq_ : m < n0 := hlm
    obtain ⟨cs_, hat_, hrd_⟩ := HCE.out m (by omega)
    obtain ⟨xi, hx_⟩ : ∃ x, x = xs.getD m default := ⟨_, rfl⟩
    rw [← hx_] at hrd_
    have hzi_ : szL shI xi.f7 ≤ 1048576 := by have q1 := szL_at shPacket xs m (by have := HE.out; omega); rw [← hx_] at q1; exact Nat.le_trans q1 HS.out
    have HXi := Lib.hid hx_
    obtain ⟨v7_, rfl, r7_⟩ := hrd_
    obtain ⟨pi, ni, ci, hv_⟩ := RdL.form r7_
    subst hv_
    have Ri := Lib.hid r7_
    have HEi0 := Lib.hid (show W.cell? ⟨ab, ao + m * 8, none⟩ = some (.int .i64 xi.f0) from at_cell (j := 0) hat_ rfl)
    have HEi1 := Lib.hid (show W.cell? ⟨ab, ao + m * 8 + 1, none⟩ = some (.int .i64 xi.f1) from at_cell (j := 1) hat_ rfl)
    have HEi2 := Lib.hid (show W.cell? ⟨ab, ao + m * 8 + 2, none⟩ = some (.int .i64 xi.f2) from at_cell (j := 2) hat_ rfl)
    have HEi3 := Lib.hid (show W.cell? ⟨ab, ao + m * 8 + 3, none⟩ = some (.int .i64 xi.f3) from at_cell (j := 3) hat_ rfl)
    have HEi4 := Lib.hid (show W.cell? ⟨ab, ao + m * 8 + 4, none⟩ = some (.int .i64 xi.f4) from at_cell (j := 4) hat_ rfl)
    have HEi5 := Lib.hid (show W.cell? ⟨ab, ao + m * 8 + 5, none⟩ = some (.int .i64 xi.f5) from at_cell (j := 5) hat_ rfl)
    have HEi6 := Lib.hid (show W.cell? ⟨ab, ao + m * 8 + 6, none⟩ = some (.int .i64 xi.f6) from at_cell (j := 6) hat_ rfl)
    have HEi7 := Lib.hid (show W.cell? ⟨ab, ao + m * 8 + 7, none⟩ = some (.slice pi ni ci) from at_cell (j := 7) hat_ rfl)
    clear hat_ r7_ hx_ hq_
    have ei0_ := (G4_.out).cell HEi0.out (by simp)
    have ei1_ := (G4_.out).cell HEi1.out (by simp)
    have ei2_ := (G4_.out).cell HEi2.out (by simp)
    have ei3_ := (G4_.out).cell HEi3.out (by simp)
    have ei4_ := (G4_.out).cell HEi4.out (by simp)
    have ei5_ := (G4_.out).cell HEi5.out (by simp)
    have ei6_ := (G4_.out).cell HEi6.out (by simp)
    have ei7_ := (G4_.out).cell HEi7.out (by simp)
    have al_ : (wr).grownBy ((wr).alloc (.cells #[.int .i64 xi.f0, .int .i64 xi.f1, .int .i64 xi.f2, .int .i64 xi.f3, .int .i64 xi.f4, .int .i64 xi.f5, .int .i64 xi.f6, .slice pi ni ci] 60)) none := gby_alloc (gby_refl _ _) _
    have rA5_ := Lib.hid (show ((wr.alloc (.cells #[.int .i64 xi.f0, .int .i64 xi.f1, .int .i64 xi.f2, .int .i64 xi.f3, .int .i64 xi.f4, .int .i64 xi.f5, .int .i64 xi.f6, .slice pi ni ci] 60))).heap[W.heap.size]? = some (.cells #[.int .i64 xp.f0, .int .i64 xp.f1, .int .i64 xp.f2, .int .i64 xp.f3, .int .i64 xp.f4, .int .i64 xp.f5, .int .i64 xp.f6, .slice pp np cp] 60 (0, 0)) from row_held al_ rA3_.out)
    clear rA3_
    have G6_ := Lib.hid (show (W).grownBy ((wr.alloc (.cells #[.int .i64 xi.f0, .int .i64 xi.f1, .int .i64 xi.f2, .int .i64 xi.f3, .int .i64 xi.f4, .int .i64 xi.f5, .int .i64 xi.f6, .slice pi ni ci] 60))) none from gby_trans G4_.out al_)
    have HTI7_ := Lib.hid (show ((W.alloc (.cells #[.int .i64 xp.f0, .int .i64 xp.f1, .int .i64 xp.f2, .int .i64 xp.f3, .int .i64 xp.f4, .int .i64 xp.f5, .int .i64 xp.f6, .slice pp np cp] 60))).grownBy ((wr.alloc (.cells #[.int .i64 xi.f0, .int .i64 xi.f1, .int .i64 xi.f2, .int .i64 xi.f3, .int .i64 xi.f4, .int .i64 xi.f5, .int .i64 xi.f6, .slice pi ni ci] 60))) none from gby_trans HTI_.out al_)
    clear HTI_
    have rQ8_ := Lib.hid (show ((wr.alloc (.cells #[.int .i64 xi.f0, .int .i64 xi.f1, .int .i64 xi.f2, .int .i64 xi.f3, .int .i64 xi.f4, .int .i64 xi.f5, .int .i64 xi.f6, .slice pi ni ci] 60))).heap[wr.heap.size]? = some (.cells #[.int .i64 xi.f0, .int .i64 xi.f1, .int .i64 xi.f2, .int .i64 xi.f3, .int .i64 xi.f4, .int .i64 xi.f5, .int .i64 xi.f6, .slice pi ni ci] 60 (0, 0)) from by first | exact heap_alloc_new _ _ | exact heap_pair _ _ _ | exact heap_trip _ _ _ _)
    clear al_
    have A_0_ : ((wr.alloc (.cells #[.int .i64 xi.f0, .int .i64 xi.f1, .int .i64 xi.f2, .int .i64 xi.f3, .int .i64 xi.f4, .int .i64 xi.f5, .int .i64 xi.f6, .slice pi ni ci] 60))).cell? ⟨W.heap.size, 0, none⟩ = some (.int .i64 xp.f0) := cell_of_row _ _ 0 _ _ _ rA5_.out
    have A_1_ : ((wr.alloc (.cells #[.int .i64 xi.f0, .int .i64 xi.f1, .int .i64 xi.f2, .int .i64 xi.f3, .int .i64 xi.f4, .int .i64 xi.f5, .int .i64 xi.f6, .slice pi ni ci] 60))).cell? ⟨W.heap.size, 1, none⟩ = some (.int .i64 xp.f1) := cell_of_row _ _ 1 _ _ _ rA5_.out
    have A_2_ : ((wr.alloc (.cells #[.int .i64 xi.f0, .int .i64 xi.f1, .int .i64 xi.f2, .int .i64 xi.f3, .int .i64 xi.f4, .int .i64 xi.f5, .int .i64 xi.f6, .slice pi ni ci] 60))).cell? ⟨W.heap.size, 2, none⟩ = some (.int .i64 xp.f2) := cell_of_row _ _ 2 _ _ _ rA5_.out
    have A_3_ : ((wr.alloc (.cells #[.int .i64 xi.f0, .int .i64 xi.f1, .int .i64 xi.f2, .int .i64 xi.f3, .int .i64 xi.f4, .int .i64 xi.f5, .int .i64 xi.f6, .slice pi ni ci] 60))).cell? ⟨W.heap.size, 3, none⟩ = some (.int .i64 xp.f3) := cell_of_row _ _ 3 _ _ _ rA5_.out
    have A_4_ : ((wr.alloc (.cells #[.int .i64 xi.f0, .int .i64 xi.f1, .int .i64 xi.f2, .int .i64 xi.f3, .int .i64 xi.f4, .int .i64 xi.f5, .int .i64 xi.f6, .slice pi ni ci] 60))).cell? ⟨W.heap.size, 4, none⟩ = some (.int .i64 xp.f4) := cell_of_row _ _ 4 _ _ _ rA5_.out
    have A_5_ : ((wr.alloc (.cells #[.int .i64 xi.f0, .int .i64 xi.f1, .int .i64 xi.f2, .int .i64 xi.f3, .int .i64 xi.f4, .int .i64 xi.f5, .int .i64 xi.f6, .slice pi ni ci] 60))).cell? ⟨W.heap.size, 5, none⟩ = some (.int .i64 xp.f5) := cell_of_row _ _ 5 _ _ _ rA5_.out
    have A_6_ : ((wr.alloc (.cells #[.int .i64 xi.f0, .int .i64 xi.f1, .int .i64 xi.f2, .int .i64 xi.f3, .int .i64 xi.f4, .int .i64 xi.f5, .int .i64 xi.f6, .slice pi ni ci] 60))).cell? ⟨W.heap.size, 6, none⟩ = some (.int .i64 xp.f6) := cell_of_row _ _ 6 _ _ _ rA5_.out
    have A_7_ : ((wr.alloc (.cells #[.int .i64 xi.f0, .int .i64 xi.f1, .int .i64 xi.f2, .int .i64 xi.f3, .int .i64 xi.f4, .int .i64 xi.f5, .int .i64 xi.f6, .slice pi ni ci] 60))).cell? ⟨W.heap.size, 7, none⟩ = some (.slice pp np cp) := cell_of_row _ _ 7 _ _ _ rA5_.out
    have Q_0_ : ((wr.alloc (.cells #[.int .i64 xi.f0, .int .i64 xi.f1, .int .i64 xi.f2, .int .i64 xi.f3, .int .i64 xi.f4, .int .i64 xi.f5, .int .i64 xi.f6, .slice pi ni ci] 60))).cell? ⟨wr.heap.size, 0, none⟩ = some (.int .i64 xi.f0) := cell_of_row _ _ 0 _ _ _ rQ8_.out
    have Q_1_ : ((wr.alloc (.cells #[.int .i64 xi.f0, .int .i64 xi.f1, .int .i64 xi.f2, .int .i64 xi.f3, .int .i64 xi.f4, .int .i64 xi.f5, .int .i64 xi.f6, .slice pi ni ci] 60))).cell? ⟨wr.heap.size, 1, none⟩ = some (.int .i64 xi.f1) := cell_of_row _ _ 1 _ _ _ rQ8_.out
    have Q_2_ : ((wr.alloc (.cells #[.int .i64 xi.f0, .int .i64 xi.f1, .int .i64 xi.f2, .int .i64 xi.f3, .int .i64 xi.f4, .int .i64 xi.f5, .int .i64 xi.f6, .slice pi ni ci] 60))).cell? ⟨wr.heap.size, 2, none⟩ = some (.int .i64 xi.f2) := cell_of_row _ _ 2 _ _ _ rQ8_.out
    have Q_3_ : ((wr.alloc (.cells #[.int .i64 xi.f0, .int .i64 xi.f1, .int .i64 xi.f2, .int .i64 xi.f3, .int .i64 xi.f4, .int .i64 xi.f5, .int .i64 xi.f6, .slice pi ni ci] 60))).cell? ⟨wr.heap.size, 3, none⟩ = some (.int .i64 xi.f3) := cell_of_row _ _ 3 _ _ _ rQ8_.out
    have Q_4_ : ((wr.alloc (.cells #[.int .i64 xi.f0, .int .i64 xi.f1, .int .i64 xi.f2, .int .i64 xi.f3, .int .i64 xi.f4, .int .i64 xi.f5, .int .i64 xi.f6, .slice pi ni ci] 60))).cell? ⟨wr.heap.size, 4, none⟩ = some (.int .i64 xi.f4) := cell_of_row _ _ 4 _ _ _ rQ8_.out
    have Q_5_ : ((wr.alloc (.cells #[.int .i64 xi.f0, .int .i64 xi.f1, .int .i64 xi.f2, .int .i64 xi.f3, .int .i64 xi.f4, .int .i64 xi.f5, .int .i64 xi.f6, .slice pi ni ci] 60))).cell? ⟨wr.heap.size, 5, none⟩ = some (.int .i64 xi.f5) := cell_of_row _ _ 5 _ _ _ rQ8_.out
    have Q_6_ : ((wr.alloc (.cells #[.int .i64 xi.f0, .int .i64 xi.f1, .int .i64 xi.f2, .int .i64 xi.f3, .int .i64 xi.f4, .int .i64 xi.f5, .int .i64 xi.f6, .slice pi ni ci] 60))).cell? ⟨wr.heap.size, 6, none⟩ = some (.int .i64 xi.f6) := cell_of_row _ _ 6 _ _ _ rQ8_.out
    have Q_7_ : ((wr.alloc (.cells #[.int .i64 xi.f0, .int .i64 xi.f1, .int .i64 xi.f2, .int .i64 xi.f3, .int .i64 xi.f4, .int .i64 xi.f5, .int .i64 xi.f6, .slice pi ni ci] 60))).cell? ⟨wr.heap.size, 7, none⟩ = some (.slice pi ni ci) := cell_of_row _ _ 7 _ _ _ rQ8_.out
    have ei0_ := (G6_.out).cell HEi0.out (by simp)
    have ei1_ := (G6_.out).cell HEi1.out (by simp)
    have ei2_ := (G6_.out).cell HEi2.out (by simp)
    have ei3_ := (G6_.out).cell HEi3.out (by simp)
    have ei4_ := (G6_.out).cell HEi4.out (by simp)
    have ei5_ := (G6_.out).cell HEi5.out (by simp)
    have ei6_ := (G6_.out).cell HEi6.out (by simp)
    have ei7_ := (G6_.out).cell HEi7.out (by simp)
    obtain ⟨oi_, hoi_⟩ : ∃ b, b = okP xi := ⟨_, rfl⟩
    have HOI := Lib.hid hoi_
    clear hoi_
    cases oi_
    · skip
      go_wp2_with fail
      go_at_call 107
      refine (implPkD _ xi _ (Ri.out.grow G6_.out) hzi_ false HOI.out).mono ?_
      rintro e w1 ⟨rfl, g⟩
      have szw1 := g.size
      try simp only [World.size_alloc] at szw1
      try simp only [World.size_setCell] at szw1
      clear A_0_ A_1_ A_2_ A_3_ A_4_ A_5_ A_6_ A_7_ Q_0_ Q_1_ Q_2_ Q_3_ Q_4_ Q_5_ Q_6_ Q_7_ ei0_ ei1_ ei2_ ei3_ ei4_ ei5_ ei6_ ei7_
      have rA9_ := Lib.hid (show (w1).heap[W.heap.size]? = some (.cells #[.int .i64 xp.f0, .int .i64 xp.f1, .int .i64 xp.f2, .int .i64 xp.f3, .int .i64 xp.f4, .int .i64 xp.f5, .int .i64 xp.f6, .slice pp np cp] 60 (0, 0)) from row_held g rA5_.out)
      clear rA5_
      have rQ10_ := Lib.hid (show (w1).heap[wr.heap.size]? = some (.cells #[.int .i64 xi.f0, .int .i64 xi.f1, .int .i64 xi.f2, .int .i64 xi.f3, .int .i64 xi.f4, .int .i64 xi.f5, .int .i64 xi.f6, .slice pi ni ci] 60 (0, 0)) from row_held g rQ8_.out)
      clear rQ8_
      have G11_ := Lib.hid (show (W).grownBy (w1) none from gby_trans G6_.out g)
      have HTI12_ := Lib.hid (show ((W.alloc (.cells #[.int .i64 xp.f0, .int .i64 xp.f1, .int .i64 xp.f2, .int .i64 xp.f3, .int .i64 xp.f4, .int .i64 xp.f5, .int .i64 xp.f6, .slice pp np cp] 60))).grownBy (w1) none from gby_trans HTI7_.out g)
      clear HTI7_
      clear g
      have A_0_ : (w1).cell? ⟨W.heap.size, 0, none⟩ = some (.int .i64 xp.f0) := cell_of_row _ _ 0 _ _ _ rA9_.out
      have A_1_ : (w1).cell? ⟨W.heap.size, 1, none⟩ = some (.int .i64 xp.f1) := cell_of_row _ _ 1 _ _ _ rA9_.out
      have A_2_ : (w1).cell? ⟨W.heap.size, 2, none⟩ = some (.int .i64 xp.f2) := cell_of_row _ _ 2 _ _ _ rA9_.out
      have A_3_ : (w1).cell? ⟨W.heap.size, 3, none⟩ = some (.int .i64 xp.f3) := cell_of_row _ _ 3 _ _ _ rA9_.out
      have A_4_ : (w1).cell? ⟨W.heap.size, 4, none⟩ = some (.int .i64 xp.f4) := cell_of_row _ _ 4 _ _ _ rA9_.out
      have A_5_ : (w1).cell? ⟨W.heap.size, 5, none⟩ = some (.int .i64 xp.f5) := cell_of_row _ _ 5 _ _ _ rA9_.out
      have A_6_ : (w1).cell? ⟨W.heap.size, 6, none⟩ = some (.int .i64 xp.f6) := cell_of_row _ _ 6 _ _ _ rA9_.out
      have A_7_ : (w1).cell? ⟨W.heap.size, 7, none⟩ = some (.slice pp np cp) := cell_of_row _ _ 7 _ _ _ rA9_.out
      have Q_0_ : (w1).cell? ⟨wr.heap.size, 0, none⟩ = some (.int .i64 xi.f0) := cell_of_row _ _ 0 _ _ _ rQ10_.out
      have Q_1_ : (w1).cell? ⟨wr.heap.size, 1, none⟩ = some (.int .i64 xi.f1) := cell_of_row _ _ 1 _ _ _ rQ10_.out
      have Q_2_ : (w1).cell? ⟨wr.heap.size, 2, none⟩ = some (.int .i64 xi.f2) := cell_of_row _ _ 2 _ _ _ rQ10_.out
      have Q_3_ : (w1).cell? ⟨wr.heap.size, 3, none⟩ = some (.int .i64 xi.f3) := cell_of_row _ _ 3 _ _ _ rQ10_.out
      have Q_4_ : (w1).cell? ⟨wr.heap.size, 4, none⟩ = some (.int .i64 xi.f4) := cell_of_row _ _ 4 _ _ _ rQ10_.out
      have Q_5_ : (w1).cell? ⟨wr.heap.size, 5, none⟩ = some (.int .i64 xi.f5) := cell_of_row _ _ 5 _ _ _ rQ10_.out
      have Q_6_ : (w1).cell? ⟨wr.heap.size, 6, none⟩ = some (.int .i64 xi.f6) := cell_of_row _ _ 6 _ _ _ rQ10_.out
      have Q_7_ : (w1).cell? ⟨wr.heap.size, 7, none⟩ = some (.slice pi ni ci) := cell_of_row _ _ 7 _ _ _ rQ10_.out
      have ei0_ := (G11_.out).cell HEi0.out (by simp)
      have ei1_ := (G11_.out).cell HEi1.out (by simp)
      have ei2_ := (G11_.out).cell HEi2.out (by simp)
      have ei3_ := (G11_.out).cell HEi3.out (by simp)
      have ei4_ := (G11_.out).cell HEi4.out (by simp)
      have ei5_ := (G11_.out).cell HEi5.out (by simp)
      have ei6_ := (G11_.out).cell HEi6.out (by simp)
      have ei7_ := (G11_.out).cell HEi7.out (by simp)
      go_wp2
      refine ⟨⟨m + 1, by go_num, by omega, ⟨_, rfl⟩, clear_next (a := false) HCL.out (by rw [← HXi.out]; exact HOI.out) rfl, HTI12_.out⟩, by simp [intOf]; omega⟩
    · skip
      obtain ⟨mb_, hmb_⟩ : ∃ b, b = mayD xp xi := ⟨_, rfl⟩
      have HMB := Lib.hid hmb_
      clear hmb_
      have HMAY := Lib.hid (show ∀ w : World, RdL shI w (.slice pp np cp) xp.f7 → RdL shI w (.slice pi ni ci) xi.f7 → Calls Try.prog 72 #[.agg #[.int .i64 xp.f0, .int .i64 xp.f1, .int .i64 xp.f2, .int .i64 xp.f3, .int .i64 xp.f4, .int .i64 xp.f5, .int .i64 xp.f6, .slice pp np cp], .agg #[.int .i64 xi.f0, .int .i64 xi.f1, .int .i64 xi.f2, .int .i64 xi.f3, .int .i64 xi.f4, .int .i64 xi.f5, .int .i64 xi.f6, .slice pi ni ci]] w (AnsN (.bool mb_) w) from by rw [HMB.out]; exact fun w h1 h2 => implMayD w xp xi _ _ h1 h2 hzp_ hzi_)
      cases mb_
      · skip
        go_wp2_with fail
        go_at_call 107
        refine (implPkD _ xi _ (Ri.out.grow G6_.out) hzi_ true HOI.out).mono ?_
        rintro e w1 ⟨rfl, g⟩
        have szw1 := g.size
        try simp only [World.size_alloc] at szw1
        try simp only [World.size_setCell] at szw1
        clear A_0_ A_1_ A_2_ A_3_ A_4_ A_5_ A_6_ A_7_ Q_0_ Q_1_ Q_2_ Q_3_ Q_4_ Q_5_ Q_6_ Q_7_ ei0_ ei1_ ei2_ ei3_ ei4_ ei5_ ei6_ ei7_
        have rA9_ := Lib.hid (show (w1).heap[W.heap.size]? = some (.cells #[.int .i64 xp.f0, .int .i64 xp.f1, .int .i64 xp.f2, .int .i64 xp.f3, .int .i64 xp.f4, .int .i64 xp.f5, .int .i64 xp.f6, .slice pp np cp] 60 (0, 0)) from row_held g rA5_.out)
        clear rA5_
        have rQ10_ := Lib.hid (show (w1).heap[wr.heap.size]? = some (.cells #[.int .i64 xi.f0, .int .i64 xi.f1, .int .i64 xi.f2, .int .i64 xi.f3, .int .i64 xi.f4, .int .i64 xi.f5, .int .i64 xi.f6, .slice pi ni ci] 60 (0, 0)) from row_held g rQ8_.out)
        clear rQ8_
        have G11_ := Lib.hid (show (W).grownBy (w1) none from gby_trans G6_.out g)
        have HTI12_ := Lib.hid (show ((W.alloc (.cells #[.int .i64 xp.f0, .int .i64 xp.f1, .int .i64 xp.f2, .int .i64 xp.f3, .int .i64 xp.f4, .int .i64 xp.f5, .int .i64 xp.f6, .slice pp np cp] 60))).grownBy (w1) none from gby_trans HTI7_.out g)
        clear HTI7_
        clear g
        have A_0_ : (w1).cell? ⟨W.heap.size, 0, none⟩ = some (.int .i64 xp.f0) := cell_of_row _ _ 0 _ _ _ rA9_.out
        have A_1_ : (w1).cell? ⟨W.heap.size, 1, none⟩ = some (.int .i64 xp.f1) := cell_of_row _ _ 1 _ _ _ rA9_.out
        have A_2_ : (w1).cell? ⟨W.heap.size, 2, none⟩ = some (.int .i64 xp.f2) := cell_of_row _ _ 2 _ _ _ rA9_.out
        have A_3_ : (w1).cell? ⟨W.heap.size, 3, none⟩ = some (.int .i64 xp.f3) := cell_of_row _ _ 3 _ _ _ rA9_.out
        have A_4_ : (w1).cell? ⟨W.heap.size, 4, none⟩ = some (.int .i64 xp.f4) := cell_of_row _ _ 4 _ _ _ rA9_.out
        have A_5_ : (w1).cell? ⟨W.heap.size, 5, none⟩ = some (.int .i64 xp.f5) := cell_of_row _ _ 5 _ _ _ rA9_.out
        have A_6_ : (w1).cell? ⟨W.heap.size, 6, none⟩ = some (.int .i64 xp.f6) := cell_of_row _ _ 6 _ _ _ rA9_.out
        have A_7_ : (w1).cell? ⟨W.heap.size, 7, none⟩ = some (.slice pp np cp) := cell_of_row _ _ 7 _ _ _ rA9_.out
        have Q_0_ : (w1).cell? ⟨wr.heap.size, 0, none⟩ = some (.int .i64 xi.f0) := cell_of_row _ _ 0 _ _ _ rQ10_.out
        have Q_1_ : (w1).cell? ⟨wr.heap.size, 1, none⟩ = some (.int .i64 xi.f1) := cell_of_row _ _ 1 _ _ _ rQ10_.out
        have Q_2_ : (w1).cell? ⟨wr.heap.size, 2, none⟩ = some (.int .i64 xi.f2) := cell_of_row _ _ 2 _ _ _ rQ10_.out
        have Q_3_ : (w1).cell? ⟨wr.heap.size, 3, none⟩ = some (.int .i64 xi.f3) := cell_of_row _ _ 3 _ _ _ rQ10_.out
        have Q_4_ : (w1).cell? ⟨wr.heap.size, 4, none⟩ = some (.int .i64 xi.f4) := cell_of_row _ _ 4 _ _ _ rQ10_.out
        have Q_5_ : (w1).cell? ⟨wr.heap.size, 5, none⟩ = some (.int .i64 xi.f5) := cell_of_row _ _ 5 _ _ _ rQ10_.out
        have Q_6_ : (w1).cell? ⟨wr.heap.size, 6, none⟩ = some (.int .i64 xi.f6) := cell_of_row _ _ 6 _ _ _ rQ10_.out
        have Q_7_ : (w1).cell? ⟨wr.heap.size, 7, none⟩ = some (.slice pi ni ci) := cell_of_row _ _ 7 _ _ _ rQ10_.out
        have ei0_ := (G11_.out).cell HEi0.out (by simp)
        have ei1_ := (G11_.out).cell HEi1.out (by simp)
        have ei2_ := (G11_.out).cell HEi2.out (by simp)
        have ei3_ := (G11_.out).cell HEi3.out (by simp)
        have ei4_ := (G11_.out).cell HEi4.out (by simp)
        have ei5_ := (G11_.out).cell HEi5.out (by simp)
        have ei6_ := (G11_.out).cell HEi6.out (by simp)
        have ei7_ := (G11_.out).cell HEi7.out (by simp)
        go_wp2_with fail
        go_at_call 72
        refine (HMAY.out _ (Rp.out.grow G11_.out) (Ri.out.grow G11_.out)).mono ?_
        rintro e w2 ⟨rfl, g⟩
        have szw2 := g.size
        try simp only [World.size_alloc] at szw2
        try simp only [World.size_setCell] at szw2
        clear A_0_ A_1_ A_2_ A_3_ A_4_ A_5_ A_6_ A_7_ Q_0_ Q_1_ Q_2_ Q_3_ Q_4_ Q_5_ Q_6_ Q_7_ ei0_ ei1_ ei2_ ei3_ ei4_ ei5_ ei6_ ei7_
        have rA13_ := Lib.hid (show (w2).heap[W.heap.size]? = some (.cells #[.int .i64 xp.f0, .int .i64 xp.f1, .int .i64 xp.f2, .int .i64 xp.f3, .int .i64 xp.f4, .int .i64 xp.f5, .int .i64 xp.f6, .slice pp np cp] 60 (0, 0)) from row_held g rA9_.out)
        clear rA9_
        have rQ14_ := Lib.hid (show (w2).heap[wr.heap.size]? = some (.cells #[.int .i64 xi.f0, .int .i64 xi.f1, .int .i64 xi.f2, .int .i64 xi.f3, .int .i64 xi.f4, .int .i64 xi.f5, .int .i64 xi.f6, .slice pi ni ci] 60 (0, 0)) from row_held g rQ10_.out)
        clear rQ10_
        have G15_ := Lib.hid (show (W).grownBy (w2) none from gby_trans G11_.out g)
        have HTI16_ := Lib.hid (show ((W.alloc (.cells #[.int .i64 xp.f0, .int .i64 xp.f1, .int .i64 xp.f2, .int .i64 xp.f3, .int .i64 xp.f4, .int .i64 xp.f5, .int .i64 xp.f6, .slice pp np cp] 60))).grownBy (w2) none from gby_trans HTI12_.out g)
        clear HTI12_
        clear g
        have A_0_ : (w2).cell? ⟨W.heap.size, 0, none⟩ = some (.int .i64 xp.f0) := cell_of_row _ _ 0 _ _ _ rA13_.out
        have A_1_ : (w2).cell? ⟨W.heap.size, 1, none⟩ = some (.int .i64 xp.f1) := cell_of_row _ _ 1 _ _ _ rA13_.out
        have A_2_ : (w2).cell? ⟨W.heap.size, 2, none⟩ = some (.int .i64 xp.f2) := cell_of_row _ _ 2 _ _ _ rA13_.out
        have A_3_ : (w2).cell? ⟨W.heap.size, 3, none⟩ = some (.int .i64 xp.f3) := cell_of_row _ _ 3 _ _ _ rA13_.out
        have A_4_ : (w2).cell? ⟨W.heap.size, 4, none⟩ = some (.int .i64 xp.f4) := cell_of_row _ _ 4 _ _ _ rA13_.out
        have A_5_ : (w2).cell? ⟨W.heap.size, 5, none⟩ = some (.int .i64 xp.f5) := cell_of_row _ _ 5 _ _ _ rA13_.out
        have A_6_ : (w2).cell? ⟨W.heap.size, 6, none⟩ = some (.int .i64 xp.f6) := cell_of_row _ _ 6 _ _ _ rA13_.out
        have A_7_ : (w2).cell? ⟨W.heap.size, 7, none⟩ = some (.slice pp np cp) := cell_of_row _ _ 7 _ _ _ rA13_.out
        have Q_0_ : (w2).cell? ⟨wr.heap.size, 0, none⟩ = some (.int .i64 xi.f0) := cell_of_row _ _ 0 _ _ _ rQ14_.out
        have Q_1_ : (w2).cell? ⟨wr.heap.size, 1, none⟩ = some (.int .i64 xi.f1) := cell_of_row _ _ 1 _ _ _ rQ14_.out
        have Q_2_ : (w2).cell? ⟨wr.heap.size, 2, none⟩ = some (.int .i64 xi.f2) := cell_of_row _ _ 2 _ _ _ rQ14_.out
        have Q_3_ : (w2).cell? ⟨wr.heap.size, 3, none⟩ = some (.int .i64 xi.f3) := cell_of_row _ _ 3 _ _ _ rQ14_.out
        have Q_4_ : (w2).cell? ⟨wr.heap.size, 4, none⟩ = some (.int .i64 xi.f4) := cell_of_row _ _ 4 _ _ _ rQ14_.out
        have Q_5_ : (w2).cell? ⟨wr.heap.size, 5, none⟩ = some (.int .i64 xi.f5) := cell_of_row _ _ 5 _ _ _ rQ14_.out
        have Q_6_ : (w2).cell? ⟨wr.heap.size, 6, none⟩ = some (.int .i64 xi.f6) := cell_of_row _ _ 6 _ _ _ rQ14_.out
        have Q_7_ : (w2).cell? ⟨wr.heap.size, 7, none⟩ = some (.slice pi ni ci) := cell_of_row _ _ 7 _ _ _ rQ14_.out
        have ei0_ := (G15_.out).cell HEi0.out (by simp)
        have ei1_ := (G15_.out).cell HEi1.out (by simp)
        have ei2_ := (G15_.out).cell HEi2.out (by simp)
        have ei3_ := (G15_.out).cell HEi3.out (by simp)
        have ei4_ := (G15_.out).cell HEi4.out (by simp)
        have ei5_ := (G15_.out).cell HEi5.out (by simp)
        have ei6_ := (G15_.out).cell HEi6.out (by simp)
        have ei7_ := (G15_.out).cell HEi7.out (by simp)
        go_wp2
        go_ret
        exact ⟨ret_bool (clear_halt (m := m) (by rw [← HXi.out]; exact HOI.out) (by rw [← HXi.out]; exact HMB.out) (by omega)), G15_.out⟩
      · skip
        go_wp2_with fail
        go_at_call 107
        refine (implPkD _ xi _ (Ri.out.grow G6_.out) hzi_ true HOI.out).mono ?_
        rintro e w1 ⟨rfl, g⟩
        have szw1 := g.size
        try simp only [World.size_alloc] at szw1
        try simp only [World.size_setCell] at szw1
        clear A_0_ A_1_ A_2_ A_3_ A_4_ A_5_ A_6_ A_7_ Q_0_ Q_1_ Q_2_ Q_3_ Q_4_ Q_5_ Q_6_ Q_7_ ei0_ ei1_ ei2_ ei3_ ei4_ ei5_ ei6_ ei7_
        have rA9_ := Lib.hid (show (w1).heap[W.heap.size]? = some (.cells #[.int .i64 xp.f0, .int .i64 xp.f1, .int .i64 xp.f2, .int .i64 xp.f3, .int .i64 xp.f4, .int .i64 xp.f5, .int .i64 xp.f6, .slice pp np cp] 60 (0, 0)) from row_held g rA5_.out)
        clear rA5_
        have rQ10_ := Lib.hid (show (w1).heap[wr.heap.size]? = some (.cells #[.int .i64 xi.f0, .int .i64 xi.f1, .int .i64 xi.f2, .int .i64 xi.f3, .int .i64 xi.f4, .int .i64 xi.f5, .int .i64 xi.f6, .slice pi ni ci] 60 (0, 0)) from row_held g rQ8_.out)
        clear rQ8_
        have G11_ := Lib.hid (show (W).grownBy (w1) none from gby_trans G6_.out g)
        have HTI12_ := Lib.hid (show ((W.alloc (.cells #[.int .i64 xp.f0, .int .i64 xp.f1, .int .i64 xp.f2, .int .i64 xp.f3, .int .i64 xp.f4, .int .i64 xp.f5, .int .i64 xp.f6, .slice pp np cp] 60))).grownBy (w1) none from gby_trans HTI7_.out g)
        clear HTI7_
        clear g
        have A_0_ : (w1).cell? ⟨W.heap.size, 0, none⟩ = some (.int .i64 xp.f0) := cell_of_row _ _ 0 _ _ _ rA9_.out
        have A_1_ : (w1).cell? ⟨W.heap.size, 1, none⟩ = some (.int .i64 xp.f1) := cell_of_row _ _ 1 _ _ _ rA9_.out
        have A_2_ : (w1).cell? ⟨W.heap.size, 2, none⟩ = some (.int .i64 xp.f2) := cell_of_row _ _ 2 _ _ _ rA9_.out
        have A_3_ : (w1).cell? ⟨W.heap.size, 3, none⟩ = some (.int .i64 xp.f3) := cell_of_row _ _ 3 _ _ _ rA9_.out
        have A_4_ : (w1).cell? ⟨W.heap.size, 4, none⟩ = some (.int .i64 xp.f4) := cell_of_row _ _ 4 _ _ _ rA9_.out
        have A_5_ : (w1).cell? ⟨W.heap.size, 5, none⟩ = some (.int .i64 xp.f5) := cell_of_row _ _ 5 _ _ _ rA9_.out
        have A_6_ : (w1).cell? ⟨W.heap.size, 6, none⟩ = some (.int .i64 xp.f6) := cell_of_row _ _ 6 _ _ _ rA9_.out
        have A_7_ : (w1).cell? ⟨W.heap.size, 7, none⟩ = some (.slice pp np cp) := cell_of_row _ _ 7 _ _ _ rA9_.out
        have Q_0_ : (w1).cell? ⟨wr.heap.size, 0, none⟩ = some (.int .i64 xi.f0) := cell_of_row _ _ 0 _ _ _ rQ10_.out
        have Q_1_ : (w1).cell? ⟨wr.heap.size, 1, none⟩ = some (.int .i64 xi.f1) := cell_of_row _ _ 1 _ _ _ rQ10_.out
        have Q_2_ : (w1).cell? ⟨wr.heap.size, 2, none⟩ = some (.int .i64 xi.f2) := cell_of_row _ _ 2 _ _ _ rQ10_.out
        have Q_3_ : (w1).cell? ⟨wr.heap.size, 3, none⟩ = some (.int .i64 xi.f3) := cell_of_row _ _ 3 _ _ _ rQ10_.out
        have Q_4_ : (w1).cell? ⟨wr.heap.size, 4, none⟩ = some (.int .i64 xi.f4) := cell_of_row _ _ 4 _ _ _ rQ10_.out
        have Q_5_ : (w1).cell? ⟨wr.heap.size, 5, none⟩ = some (.int .i64 xi.f5) := cell_of_row _ _ 5 _ _ _ rQ10_.out
        have Q_6_ : (w1).cell? ⟨wr.heap.size, 6, none⟩ = some (.int .i64 xi.f6) := cell_of_row _ _ 6 _ _ _ rQ10_.out
        have Q_7_ : (w1).cell? ⟨wr.heap.size, 7, none⟩ = some (.slice pi ni ci) := cell_of_row _ _ 7 _ _ _ rQ10_.out
        have ei0_ := (G11_.out).cell HEi0.out (by simp)
        have ei1_ := (G11_.out).cell HEi1.out (by simp)
        have ei2_ := (G11_.out).cell HEi2.out (by simp)
        have ei3_ := (G11_.out).cell HEi3.out (by simp)
        have ei4_ := (G11_.out).cell HEi4.out (by simp)
        have ei5_ := (G11_.out).cell HEi5.out (by simp)
        have ei6_ := (G11_.out).cell HEi6.out (by simp)
        have ei7_ := (G11_.out).cell HEi7.out (by simp)
        go_wp2_with fail
        go_at_call 72
        refine (HMAY.out _ (Rp.out.grow G11_.out) (Ri.out.grow G11_.out)).mono ?_
        rintro e w2 ⟨rfl, g⟩
        have szw2 := g.size
        try simp only [World.size_alloc] at szw2
        try simp only [World.size_setCell] at szw2
        clear A_0_ A_1_ A_2_ A_3_ A_4_ A_5_ A_6_ A_7_ Q_0_ Q_1_ Q_2_ Q_3_ Q_4_ Q_5_ Q_6_ Q_7_ ei0_ ei1_ ei2_ ei3_ ei4_ ei5_ ei6_ ei7_
        have rA13_ := Lib.hid (show (w2).heap[W.heap.size]? = some (.cells #[.int .i64 xp.f0, .int .i64 xp.f1, .int .i64 xp.f2, .int .i64 xp.f3, .int .i64 xp.f4, .int .i64 xp.f5, .int .i64 xp.f6, .slice pp np cp] 60 (0, 0)) from row_held g rA9_.out)
        clear rA9_
        have rQ14_ := Lib.hid (show (w2).heap[wr.heap.size]? = some (.cells #[.int .i64 xi.f0, .int .i64 xi.f1, .int .i64 xi.f2, .int .i64 xi.f3, .int .i64 xi.f4, .int .i64 xi.f5, .int .i64 xi.f6, .slice pi ni ci] 60 (0, 0)) from row_held g rQ10_.out)
        clear rQ10_
        have G15_ := Lib.hid (show (W).grownBy (w2) none from gby_trans G11_.out g)
        have HTI16_ := Lib.hid (show ((W.alloc (.cells #[.int .i64 xp.f0, .int .i64 xp.f1, .int .i64 xp.f2, .int .i64 xp.f3, .int .i64 xp.f4, .int .i64 xp.f5, .int .i64 xp.f6, .slice pp np cp] 60))).grownBy (w2) none from gby_trans HTI12_.out g)
        clear HTI12_
        clear g
        have A_0_ : (w2).cell? ⟨W.heap.size, 0, none⟩ = some (.int .i64 xp.f0) := cell_of_row _ _ 0 _ _ _ rA13_.out
        have A_1_ : (w2).cell? ⟨W.heap.size, 1, none⟩ = some (.int .i64 xp.f1) := cell_of_row _ _ 1 _ _ _ rA13_.out
        have A_2_ : (w2).cell? ⟨W.heap.size, 2, none⟩ = some (.int .i64 xp.f2) := cell_of_row _ _ 2 _ _ _ rA13_.out
        have A_3_ : (w2).cell? ⟨W.heap.size, 3, none⟩ = some (.int .i64 xp.f3) := cell_of_row _ _ 3 _ _ _ rA13_.out
        have A_4_ : (w2).cell? ⟨W.heap.size, 4, none⟩ = some (.int .i64 xp.f4) := cell_of_row _ _ 4 _ _ _ rA13_.out
        have A_5_ : (w2).cell? ⟨W.heap.size, 5, none⟩ = some (.int .i64 xp.f5) := cell_of_row _ _ 5 _ _ _ rA13_.out
        have A_6_ : (w2).cell? ⟨W.heap.size, 6, none⟩ = some (.int .i64 xp.f6) := cell_of_row _ _ 6 _ _ _ rA13_.out
        have A_7_ : (w2).cell? ⟨W.heap.size, 7, none⟩ = some (.slice pp np cp) := cell_of_row _ _ 7 _ _ _ rA13_.out
        have Q_0_ : (w2).cell? ⟨wr.heap.size, 0, none⟩ = some (.int .i64 xi.f0) := cell_of_row _ _ 0 _ _ _ rQ14_.out
        have Q_1_ : (w2).cell? ⟨wr.heap.size, 1, none⟩ = some (.int .i64 xi.f1) := cell_of_row _ _ 1 _ _ _ rQ14_.out
        have Q_2_ : (w2).cell? ⟨wr.heap.size, 2, none⟩ = some (.int .i64 xi.f2) := cell_of_row _ _ 2 _ _ _ rQ14_.out
        have Q_3_ : (w2).cell? ⟨wr.heap.size, 3, none⟩ = some (.int .i64 xi.f3) := cell_of_row _ _ 3 _ _ _ rQ14_.out
        have Q_4_ : (w2).cell? ⟨wr.heap.size, 4, none⟩ = some (.int .i64 xi.f4) := cell_of_row _ _ 4 _ _ _ rQ14_.out
        have Q_5_ : (w2).cell? ⟨wr.heap.size, 5, none⟩ = some (.int .i64 xi.f5) := cell_of_row _ _ 5 _ _ _ rQ14_.out
        have Q_6_ : (w2).cell? ⟨wr.heap.size, 6, none⟩ = some (.int .i64 xi.f6) := cell_of_row _ _ 6 _ _ _ rQ14_.out
        have Q_7_ : (w2).cell? ⟨wr.heap.size, 7, none⟩ = some (.slice pi ni ci) := cell_of_row _ _ 7 _ _ _ rQ14_.out
        have ei0_ := (G15_.out).cell HEi0.out (by simp)
        have ei1_ := (G15_.out).cell HEi1.out (by simp)
        have ei2_ := (G15_.out).cell HEi2.out (by simp)
        have ei3_ := (G15_.out).cell HEi3.out (by simp)
        have ei4_ := (G15_.out).cell HEi4.out (by simp)
        have ei5_ := (G15_.out).cell HEi5.out (by simp)
        have ei6_ := (G15_.out).cell HEi6.out (by simp)
        have ei7_ := (G15_.out).cell HEi7.out (by simp)
        go_wp2
        refine ⟨⟨m + 1, by go_num, by omega, ⟨_, rfl⟩, clear_next (a := true) HCL.out (by rw [← HXi.out]; exact HOI.out) (by rw [← HXi.out, ← HMB.out]; rfl), HTI16_.out⟩, by simp [intOf]; omega⟩

set_option maxRecDepth 8000 in
set_option maxHeartbeats 4000000 in
theorem implPassers_any (W : World) (v : Value) (xs : List DPacket) (H : RdL shPacket W v xs) (hl : szL shPacket xs ≤ 1048576) : Calls Try.prog 66 #[v] W (ResIPassersOf (passL xs xs.length) W) := by
  obtain ⟨i1_, hi1_, hz0_, hz1_, hz2_⟩ := info_parts infoInt
  have HS := Lib.hid hl
  have HRD := Lib.hid H
  obtain ⟨a0, cap0, rfl, hcap, _, H⟩ := H
  have HC := Lib.hid H
  have hcap2 := hcap.2
  obtain ⟨n0, hn0⟩ : ∃ n, n = xs.length := ⟨_, rfl⟩
  have HE := Lib.hid hn0
  have hlx : n0 ≤ 1048576 := by have := szL_len shPacket xs; omega
  rw [← hn0] at hcap2 ⊢
  rw [← hn0] at HRD HC
  clear H hcap hl hn0
  go_enter Try.func66, Try.ntmps66
  have HTM1_ := Lib.hid (gby_refl (W) none)
  have MG2_ := Lib.hid (show (W).grownBy (W) none from (gby_refl _ _))
  go_wp2
  go_loopw [3, 4, 5, 8] (fun v y4 y5 k wr => ∃ n : Nat, k = .int .i64 (n : Int) ∧ n ≤ n0 ∧ (∃ q, y4 = q) ∧ (∃ q, y5 = q) ∧ wr.ownsRow (W.heap.size) 3 1 v (passL xs n).length (i64s (passL xs n)) ∧ (W).grownBy wr none) (fun _ _ _ k _ => n0 - (intOf k).toNat)
  case atStart => exact ⟨0, rfl, by omega, ⟨_, rfl⟩, ⟨_, rfl⟩, World.ownsRow_nil _ _ _ _, HTM1_.out⟩
  case round =>
    clear HTM1_
    obtain ⟨n, rfl, hn, ⟨y4, rfl⟩, ⟨y5, rfl⟩, hown, hg⟩ := hrel
    have szr_ := hg.size
    try simp only [World.size_alloc] at szr_
    try simp only [World.size_setCell] at szr_
    have G3_ := Lib.hid (show (W).grownBy (wr) none from gby_trans MG2_.out hg)
    have HTM4_ := Lib.hid hg
    clear hg
    have HTR5_ := Lib.hid (gby_refl (wr) none)
    have MG6_ := Lib.hid (show (W).grownBy (wr) none from G3_.out)
    have HO := Lib.hid hown
    clear hown
    have hn0_ : (0 : Int) ≤ (n : Int) := by omega
    have htn : ((n : Int)).toNat = n := by omega
    by_cases hlt : n < n0
    rotate_left
    · obtain rfl : n = n0 := by omega
      have hki : ¬ (n : Int) < (n : Int) := by omega
      have ef_ : passL xs n = passL xs xs.length := by rw [HE.out]
      go_wp2
      go_ret
      exact ⟨_, rfl, OwU.one (OwL.wide (owI_out (by have := passL_len xs xs.length; have := HE.out; omega) (owI_row (by rw [← ef_]; exact HO.out))) (by have := gby_sizeP MG2_.out; (try simp only [World.size_alloc] at this); omega) (Nat.le_refl _)), G3_.out⟩
    have hki : (n : Int) < (n0 : Int) := by omega
    have hcn_ : n ≤ cap0 := by omega
    have hcn2_ : (n : Int) ≤ (cap0 : Int) := by omega
    obtain ⟨ab, ao, rfl, hcell_⟩ := HC.out.resolve_left (by omega)
    have HCE := Lib.hid hcell_
    clear hcell_
    have hq_ : n < n0 := hlt
    obtain ⟨cs_, hat_, hrd_⟩ := HCE.out n (by omega)
    obtain ⟨xk, hx_⟩ : ∃ x, x = xs.getD n default := ⟨_, rfl⟩
    rw [← hx_] at hrd_
    have hzk_ : szL shI xk.f7 ≤ 1048576 := by have q1 := szL_at shPacket xs n (by have := HE.out; omega); rw [← hx_] at q1; exact Nat.le_trans q1 HS.out
    have HXk := Lib.hid hx_
    obtain ⟨v7_, rfl, r7_⟩ := hrd_
    obtain ⟨pk, nk, ck, hv_⟩ := RdL.form r7_
    subst hv_
    have Rk := Lib.hid r7_
    have HEk0 := Lib.hid (show W.cell? ⟨ab, ao + n * 8, none⟩ = some (.int .i64 xk.f0) from at_cell (j := 0) hat_ rfl)
    have HEk1 := Lib.hid (show W.cell? ⟨ab, ao + n * 8 + 1, none⟩ = some (.int .i64 xk.f1) from at_cell (j := 1) hat_ rfl)
    have HEk2 := Lib.hid (show W.cell? ⟨ab, ao + n * 8 + 2, none⟩ = some (.int .i64 xk.f2) from at_cell (j := 2) hat_ rfl)
    have HEk3 := Lib.hid (show W.cell? ⟨ab, ao + n * 8 + 3, none⟩ = some (.int .i64 xk.f3) from at_cell (j := 3) hat_ rfl)
    have HEk4 := Lib.hid (show W.cell? ⟨ab, ao + n * 8 + 4, none⟩ = some (.int .i64 xk.f4) from at_cell (j := 4) hat_ rfl)
    have HEk5 := Lib.hid (show W.cell? ⟨ab, ao + n * 8 + 5, none⟩ = some (.int .i64 xk.f5) from at_cell (j := 5) hat_ rfl)
    have HEk6 := Lib.hid (show W.cell? ⟨ab, ao + n * 8 + 6, none⟩ = some (.int .i64 xk.f6) from at_cell (j := 6) hat_ rfl)
    have HEk7 := Lib.hid (show W.cell? ⟨ab, ao + n * 8 + 7, none⟩ = some (.slice pk nk ck) from at_cell (j := 7) hat_ rfl)
    clear hat_ r7_ hx_ hq_
    have ek0_ := (G3_.out).cell HEk0.out (by simp)
    have ek1_ := (G3_.out).cell HEk1.out (by simp)
    have ek2_ := (G3_.out).cell HEk2.out (by simp)
    have ek3_ := (G3_.out).cell HEk3.out (by simp)
    have ek4_ := (G3_.out).cell HEk4.out (by simp)
    have ek5_ := (G3_.out).cell HEk5.out (by simp)
    have ek6_ := (G3_.out).cell HEk6.out (by simp)
    have ek7_ := (G3_.out).cell HEk7.out (by simp)
    have al_ : (wr).grownBy ((wr).alloc (.cells #[.int .i64 xk.f0, .int .i64 xk.f1, .int .i64 xk.f2, .int .i64 xk.f3, .int .i64 xk.f4, .int .i64 xk.f5, .int .i64 xk.f6, .slice pk nk ck] 60)) none := gby_alloc (gby_refl _ _) _
    have G7_ := Lib.hid (show (W).grownBy ((wr.alloc (.cells #[.int .i64 xk.f0, .int .i64 xk.f1, .int .i64 xk.f2, .int .i64 xk.f3, .int .i64 xk.f4, .int .i64 xk.f5, .int .i64 xk.f6, .slice pk nk ck] 60))) none from gby_trans G3_.out al_)
    have HTM8_ := Lib.hid (show (W).grownBy ((wr.alloc (.cells #[.int .i64 xk.f0, .int .i64 xk.f1, .int .i64 xk.f2, .int .i64 xk.f3, .int .i64 xk.f4, .int .i64 xk.f5, .int .i64 xk.f6, .slice pk nk ck] 60))) none from gby_trans HTM4_.out al_)
    clear HTM4_
    have HTR9_ := Lib.hid (show (wr).grownBy ((wr.alloc (.cells #[.int .i64 xk.f0, .int .i64 xk.f1, .int .i64 xk.f2, .int .i64 xk.f3, .int .i64 xk.f4, .int .i64 xk.f5, .int .i64 xk.f6, .slice pk nk ck] 60))) none from gby_trans HTR5_.out al_)
    clear HTR5_
    have rQ10_ := Lib.hid (show ((wr.alloc (.cells #[.int .i64 xk.f0, .int .i64 xk.f1, .int .i64 xk.f2, .int .i64 xk.f3, .int .i64 xk.f4, .int .i64 xk.f5, .int .i64 xk.f6, .slice pk nk ck] 60))).heap[wr.heap.size]? = some (.cells #[.int .i64 xk.f0, .int .i64 xk.f1, .int .i64 xk.f2, .int .i64 xk.f3, .int .i64 xk.f4, .int .i64 xk.f5, .int .i64 xk.f6, .slice pk nk ck] 60 (0, 0)) from by first | exact heap_alloc_new _ _ | exact heap_pair _ _ _ | exact heap_trip _ _ _ _)
    clear al_
    have Q_0_ : ((wr.alloc (.cells #[.int .i64 xk.f0, .int .i64 xk.f1, .int .i64 xk.f2, .int .i64 xk.f3, .int .i64 xk.f4, .int .i64 xk.f5, .int .i64 xk.f6, .slice pk nk ck] 60))).cell? ⟨wr.heap.size, 0, none⟩ = some (.int .i64 xk.f0) := cell_of_row _ _ 0 _ _ _ rQ10_.out
    have Q_1_ : ((wr.alloc (.cells #[.int .i64 xk.f0, .int .i64 xk.f1, .int .i64 xk.f2, .int .i64 xk.f3, .int .i64 xk.f4, .int .i64 xk.f5, .int .i64 xk.f6, .slice pk nk ck] 60))).cell? ⟨wr.heap.size, 1, none⟩ = some (.int .i64 xk.f1) := cell_of_row _ _ 1 _ _ _ rQ10_.out
    have Q_2_ : ((wr.alloc (.cells #[.int .i64 xk.f0, .int .i64 xk.f1, .int .i64 xk.f2, .int .i64 xk.f3, .int .i64 xk.f4, .int .i64 xk.f5, .int .i64 xk.f6, .slice pk nk ck] 60))).cell? ⟨wr.heap.size, 2, none⟩ = some (.int .i64 xk.f2) := cell_of_row _ _ 2 _ _ _ rQ10_.out
    have Q_3_ : ((wr.alloc (.cells #[.int .i64 xk.f0, .int .i64 xk.f1, .int .i64 xk.f2, .int .i64 xk.f3, .int .i64 xk.f4, .int .i64 xk.f5, .int .i64 xk.f6, .slice pk nk ck] 60))).cell? ⟨wr.heap.size, 3, none⟩ = some (.int .i64 xk.f3) := cell_of_row _ _ 3 _ _ _ rQ10_.out
    have Q_4_ : ((wr.alloc (.cells #[.int .i64 xk.f0, .int .i64 xk.f1, .int .i64 xk.f2, .int .i64 xk.f3, .int .i64 xk.f4, .int .i64 xk.f5, .int .i64 xk.f6, .slice pk nk ck] 60))).cell? ⟨wr.heap.size, 4, none⟩ = some (.int .i64 xk.f4) := cell_of_row _ _ 4 _ _ _ rQ10_.out
    have Q_5_ : ((wr.alloc (.cells #[.int .i64 xk.f0, .int .i64 xk.f1, .int .i64 xk.f2, .int .i64 xk.f3, .int .i64 xk.f4, .int .i64 xk.f5, .int .i64 xk.f6, .slice pk nk ck] 60))).cell? ⟨wr.heap.size, 5, none⟩ = some (.int .i64 xk.f5) := cell_of_row _ _ 5 _ _ _ rQ10_.out
    have Q_6_ : ((wr.alloc (.cells #[.int .i64 xk.f0, .int .i64 xk.f1, .int .i64 xk.f2, .int .i64 xk.f3, .int .i64 xk.f4, .int .i64 xk.f5, .int .i64 xk.f6, .slice pk nk ck] 60))).cell? ⟨wr.heap.size, 6, none⟩ = some (.int .i64 xk.f6) := cell_of_row _ _ 6 _ _ _ rQ10_.out
    have Q_7_ : ((wr.alloc (.cells #[.int .i64 xk.f0, .int .i64 xk.f1, .int .i64 xk.f2, .int .i64 xk.f3, .int .i64 xk.f4, .int .i64 xk.f5, .int .i64 xk.f6, .slice pk nk ck] 60))).cell? ⟨wr.heap.size, 7, none⟩ = some (.slice pk nk ck) := cell_of_row _ _ 7 _ _ _ rQ10_.out
    have ek0_ := (G7_.out).cell HEk0.out (by simp)
    have ek1_ := (G7_.out).cell HEk1.out (by simp)
    have ek2_ := (G7_.out).cell HEk2.out (by simp)
    have ek3_ := (G7_.out).cell HEk3.out (by simp)
    have ek4_ := (G7_.out).cell HEk4.out (by simp)
    have ek5_ := (G7_.out).cell HEk5.out (by simp)
    have ek6_ := (G7_.out).cell HEk6.out (by simp)
    have ek7_ := (G7_.out).cell HEk7.out (by simp)
    obtain ⟨ok_, hok_⟩ : ∃ b, b = okP xk := ⟨_, rfl⟩
    have HOK := Lib.hid hok_
    clear hok_
    obtain ⟨gb_, hgb_⟩ : ∃ b, b = clearOf xk xs n := ⟨_, rfl⟩
    have HGB := Lib.hid hgb_
    clear hgb_
    have HALL := Lib.hid (show ∀ w : World, W.grownBy w none → Calls Try.prog 108 #[.agg #[.int .i64 xk.f0, .int .i64 xk.f1, .int .i64 xk.f2, .int .i64 xk.f3, .int .i64 xk.f4, .int .i64 xk.f5, .int .i64 xk.f6, .slice pk nk ck], .slice (some ⟨ab, ao, none⟩) n cap0] w (AnsN (.bool gb_) w) from fun w g => by
      have q := implAll_any w xk _ _ (xs.take n) (Rk.out.grow g) hzk_ ((rdL_take HRD.out n (by have := HE.out; omega)).grow g) (Nat.le_trans (szL_take_le _ _ _) HS.out)
      have e1 : (xs.take n).length = n := by rw [List.length_take]; have := HE.out; omega
      rw [e1, clear_take _ _ _ (by have := HE.out; omega) _ (Nat.le_refl _), ← HGB.out] at q
      exact q)
    have HGO := Lib.hid (show goesP xs n = (ok_ && gb_) from by unfold goesP; rw [← HXk.out, HGB.out, HOK.out])
    cases ok_
    · skip
      go_wp2_with fail
      refine wp_region_held_drew (S := fun w' => w'.cell? ⟨wr.heap.size, 0, none⟩ = some (.int .i64 xk.f0) ∧ w'.cell? ⟨wr.heap.size, 1, none⟩ = some (.int .i64 xk.f1) ∧ w'.cell? ⟨wr.heap.size, 2, none⟩ = some (.int .i64 xk.f2) ∧ w'.cell? ⟨wr.heap.size, 3, none⟩ = some (.int .i64 xk.f3) ∧ w'.cell? ⟨wr.heap.size, 4, none⟩ = some (.int .i64 xk.f4) ∧ w'.cell? ⟨wr.heap.size, 5, none⟩ = some (.int .i64 xk.f5) ∧ w'.cell? ⟨wr.heap.size, 6, none⟩ = some (.int .i64 xk.f6) ∧ w'.cell? ⟨wr.heap.size, 7, none⟩ = some (.slice pk nk ck)) (by kernel_rfl) (by (try dsimp only); exact ⟨Q_0_, Q_1_, Q_2_, Q_3_, Q_4_, Q_5_, Q_6_, Q_7_⟩) (fun hHeld => ?_)
      refine wpAnyH_take (i := 0) (oi := { dst := some 13, op := Op.load 60 (Operand.tmp 5), type := 60, pos := "l16_order.go:33", after := #[], guard := none }) (v := ?v0_r4_1) rfl (by kernel_rfl) (by kernel_rfl) (by kernel_rfl) (fun _ _ _ h => h) (Or.inl ⟨by rfl, ?y0_r4_1⟩) (by assumption) ?r0_r4_1
      case y0_r4_1 => (intro w hSw; (try dsimp only at hSw); go_simp; all_goals (with_reducible rfl))
      try simp only [Act.put, List.setIfInBounds_toArray, List.set_cons_zero, List.set_cons_succ]
      refine wpAnyH_ready (rs := [1]) (by kernel_rfl) (by simp) ?_
      refine AllReadyH.cons (o := { dst := some 14, op := Op.call { callee := Callee.value (Operand.func 107), args := #[Operand.tmp 13], argTypes := #[60] }, type := 4, pos := "l16_order.go:33", after := #[{ on := 0, ground := Ground.data }], guard := none }) rfl (fun K hK => ?_) AllReadyH.nil
      go_simp
      go_at_call 107
      refine (implPkD _ xk _ (Rk.out.grow (gby_trans G7_.out (gby_drew (gby_refl _ none)))) hzk_ false HOK.out).mono ?_
      rintro e wH2_r4 ⟨rfl, gH2_r4⟩
      have m2_Q_0_ : wH2_r4.cell? _ = some _ := gH2_r4.cell Q_0_ (by simp); have m2_Q_1_ : wH2_r4.cell? _ = some _ := gH2_r4.cell Q_1_ (by simp); have m2_Q_2_ : wH2_r4.cell? _ = some _ := gH2_r4.cell Q_2_ (by simp); have m2_Q_3_ : wH2_r4.cell? _ = some _ := gH2_r4.cell Q_3_ (by simp); have m2_Q_4_ : wH2_r4.cell? _ = some _ := gH2_r4.cell Q_4_ (by simp); have m2_Q_5_ : wH2_r4.cell? _ = some _ := gH2_r4.cell Q_5_ (by simp); have m2_Q_6_ : wH2_r4.cell? _ = some _ := gH2_r4.cell Q_6_ (by simp); have m2_Q_7_ : wH2_r4.cell? _ = some _ := gH2_r4.cell Q_7_ (by simp)
      go_wp2_with fail
      clear hHeld
      refine hK.out _ _ ?s1_r4_2 (fun hHeld => ?_)
      case s1_r4_2 => exact ⟨m2_Q_0_, m2_Q_1_, m2_Q_2_, m2_Q_3_, m2_Q_4_, m2_Q_5_, m2_Q_6_, m2_Q_7_⟩
      clear hK K
      try simp only [Act.put, List.setIfInBounds_toArray, List.set_cons_zero, List.set_cons_succ]
      refine wpAnyH_take (i := 2) (oi := { dst := some 15, op := Op.move (Operand.tmp 14), type := 4, pos := "l16_order.go:33", after := #[{ on := 1, ground := Ground.data }, { on := 1, ground := Ground.chain }], guard := none }) (v := ?v2_r4_3) rfl (by kernel_rfl) (by kernel_rfl) (by kernel_rfl) (fun _ _ _ h => h) (Or.inl ⟨by rfl, ?y2_r4_3⟩) (by assumption) ?r2_r4_3
      case y2_r4_3 => (intro w hSw; (try dsimp only at hSw); go_simp; all_goals (with_reducible rfl))
      try simp only [Act.put, List.setIfInBounds_toArray, List.set_cons_zero, List.set_cons_succ]
      refine wpAnyH_take (i := 3) (oi := { dst := some 16, op := Op.load 60 (Operand.tmp 5), type := 60, pos := "l16_order.go:33", after := #[{ on := 2, ground := Ground.guard }], guard := some (2, true) }) (v := undef) rfl (by kernel_rfl) (by kernel_rfl) (by kernel_rfl) (fun _ _ _ h => h) (Or.inr ⟨by rfl, rfl⟩) (by assumption) ?r3_r4_4
      try simp only [Act.put, List.setIfInBounds_toArray, List.set_cons_zero, List.set_cons_succ]
      refine wpAnyH_take (i := 4) (oi := { dst := some 17, op := Op.move (Operand.tmp 0), type := 30, pos := "l16_order.go:33", after := #[{ on := 2, ground := Ground.guard }], guard := some (2, true) }) (v := undef) rfl (by kernel_rfl) (by kernel_rfl) (by kernel_rfl) (fun _ _ _ h => h) (Or.inr ⟨by rfl, rfl⟩) (by assumption) ?r4_r4_5
      try simp only [Act.put, List.setIfInBounds_toArray, List.set_cons_zero, List.set_cons_succ]
      refine wpAnyH_take (i := 5) (oi := { dst := some 18, op := Op.move (Operand.tmp 4), type := 3, pos := "l16_order.go:33", after := #[{ on := 2, ground := Ground.guard }], guard := some (2, true) }) (v := undef) rfl (by kernel_rfl) (by kernel_rfl) (by kernel_rfl) (fun _ _ _ h => h) (Or.inr ⟨by rfl, rfl⟩) (by assumption) ?r5_r4_6
      try simp only [Act.put, List.setIfInBounds_toArray, List.set_cons_zero, List.set_cons_succ]
      refine wpAnyH_take (i := 6) (oi := { dst := some 19, op := Op.slice 30 (Operand.tmp 17) none (some (Operand.tmp 18)) none, type := 30, pos := "l16_order.go:33", after := #[{ on := 4, ground := Ground.data }, { on := 5, ground := Ground.data }, { on := 2, ground := Ground.guard }], guard := some (2, true) }) (v := undef) rfl (by kernel_rfl) (by kernel_rfl) (by kernel_rfl) (fun _ _ _ h => h) (Or.inr ⟨by rfl, rfl⟩) (by assumption) ?r6_r4_7
      try simp only [Act.put, List.setIfInBounds_toArray, List.set_cons_zero, List.set_cons_succ]
      refine wpAnyH_take (i := 7) (oi := { dst := some 20, op := Op.call { callee := Callee.value (Operand.func 108), args := #[Operand.tmp 16, Operand.tmp 19], argTypes := #[60, 30] }, type := 4, pos := "l16_order.go:33", after := #[{ on := 3, ground := Ground.data }, { on := 6, ground := Ground.data }, { on := 2, ground := Ground.chain }, { on := 2, ground := Ground.guard }], guard := some (2, true) }) (v := undef) rfl (by kernel_rfl) (by kernel_rfl) (by kernel_rfl) (fun _ _ _ h => h) (Or.inr ⟨by rfl, rfl⟩) (by assumption) ?r7_r4_8
      try simp only [Act.put, List.setIfInBounds_toArray, List.set_cons_zero, List.set_cons_succ]
      refine wpAnyH_take (i := 8) (oi := { dst := some 21, op := Op.pick (Operand.tmp 15) (Operand.tmp 20) (Operand.const (Value.bool false)), type := 4, pos := "l16_order.go:33", after := #[{ on := 2, ground := Ground.data }, { on := 7, ground := Ground.data }], guard := none }) (v := ?v8_r4_9) rfl (by kernel_rfl) (by kernel_rfl) (by kernel_rfl) (fun _ _ _ h => h) (Or.inl ⟨by rfl, ?y8_r4_9⟩) (by assumption) ?r8_r4_9
      case y8_r4_9 => (intro w hSw; (try dsimp only at hSw); go_simp; all_goals (with_reducible rfl))
      try simp only [Act.put, List.setIfInBounds_toArray, List.set_cons_zero, List.set_cons_succ]
      refine wpAnyH_done (by kernel_rfl) ?_ _
      have gR_ : ((wr.alloc (.cells #[.int .i64 xk.f0, .int .i64 xk.f1, .int .i64 xk.f2, .int .i64 xk.f3, .int .i64 xk.f4, .int .i64 xk.f5, .int .i64 xk.f6, .slice pk nk ck] 60))).grownBy (wH2_r4) none := (gby_trans (gby_drew (gby_refl _ none)) gH2_r4)
      have szwH2_r4 := gR_.size
      try simp only [World.size_alloc] at szwH2_r4
      clear Q_0_ Q_1_ Q_2_ Q_3_ Q_4_ Q_5_ Q_6_ Q_7_ ek0_ ek1_ ek2_ ek3_ ek4_ ek5_ ek6_ ek7_
      have rQ11_ := Lib.hid (show (wH2_r4).heap[wr.heap.size]? = some (.cells #[.int .i64 xk.f0, .int .i64 xk.f1, .int .i64 xk.f2, .int .i64 xk.f3, .int .i64 xk.f4, .int .i64 xk.f5, .int .i64 xk.f6, .slice pk nk ck] 60 (0, 0)) from row_held gR_ rQ10_.out)
      clear rQ10_
      have G12_ := Lib.hid (show (W).grownBy (wH2_r4) none from gby_trans G7_.out gR_)
      have HTM13_ := Lib.hid (show (W).grownBy (wH2_r4) none from gby_trans HTM8_.out gR_)
      clear HTM8_
      have HTR14_ := Lib.hid (show (wr).grownBy (wH2_r4) none from gby_trans HTR9_.out gR_)
      clear HTR9_
      clear gR_
      have ep_ : passL xs (n + 1) = passL xs n := by show (if _ then _ else _) = _; rw [if_neg (by rw [HGO.out]; simp)]
      go_wp2
      refine ⟨⟨n + 1, by go_num, by omega, ⟨_, rfl⟩, ⟨_, rfl⟩, by rw [ep_]; exact HO.out.grown HTR14_.out, HTM13_.out⟩, by simp [intOf]; omega⟩
    · cases gb_
      · skip
        go_wp2_with fail
        refine wp_region_held_drew (S := fun w' => w'.cell? ⟨wr.heap.size, 0, none⟩ = some (.int .i64 xk.f0) ∧ w'.cell? ⟨wr.heap.size, 1, none⟩ = some (.int .i64 xk.f1) ∧ w'.cell? ⟨wr.heap.size, 2, none⟩ = some (.int .i64 xk.f2) ∧ w'.cell? ⟨wr.heap.size, 3, none⟩ = some (.int .i64 xk.f3) ∧ w'.cell? ⟨wr.heap.size, 4, none⟩ = some (.int .i64 xk.f4) ∧ w'.cell? ⟨wr.heap.size, 5, none⟩ = some (.int .i64 xk.f5) ∧ w'.cell? ⟨wr.heap.size, 6, none⟩ = some (.int .i64 xk.f6) ∧ w'.cell? ⟨wr.heap.size, 7, none⟩ = some (.slice pk nk ck)) (by kernel_rfl) (by (try dsimp only); exact ⟨Q_0_, Q_1_, Q_2_, Q_3_, Q_4_, Q_5_, Q_6_, Q_7_⟩) (fun hHeld => ?_)
        refine wpAnyH_take (i := 0) (oi := { dst := some 13, op := Op.load 60 (Operand.tmp 5), type := 60, pos := "l16_order.go:33", after := #[], guard := none }) (v := ?v0_r5_1) rfl (by kernel_rfl) (by kernel_rfl) (by kernel_rfl) (fun _ _ _ h => h) (Or.inl ⟨by rfl, ?y0_r5_1⟩) (by assumption) ?r0_r5_1
        case y0_r5_1 => (intro w hSw; (try dsimp only at hSw); go_simp; all_goals (with_reducible rfl))
        try simp only [Act.put, List.setIfInBounds_toArray, List.set_cons_zero, List.set_cons_succ]
        refine wpAnyH_ready (rs := [1]) (by kernel_rfl) (by simp) ?_
        refine AllReadyH.cons (o := { dst := some 14, op := Op.call { callee := Callee.value (Operand.func 107), args := #[Operand.tmp 13], argTypes := #[60] }, type := 4, pos := "l16_order.go:33", after := #[{ on := 0, ground := Ground.data }], guard := none }) rfl (fun K hK => ?_) AllReadyH.nil
        go_simp
        go_at_call 107
        refine (implPkD _ xk _ (Rk.out.grow (gby_trans G7_.out (gby_drew (gby_refl _ none)))) hzk_ true HOK.out).mono ?_
        rintro e wH2_r5 ⟨rfl, gH2_r5⟩
        have m2_Q_0_ : wH2_r5.cell? _ = some _ := gH2_r5.cell Q_0_ (by simp); have m2_Q_1_ : wH2_r5.cell? _ = some _ := gH2_r5.cell Q_1_ (by simp); have m2_Q_2_ : wH2_r5.cell? _ = some _ := gH2_r5.cell Q_2_ (by simp); have m2_Q_3_ : wH2_r5.cell? _ = some _ := gH2_r5.cell Q_3_ (by simp); have m2_Q_4_ : wH2_r5.cell? _ = some _ := gH2_r5.cell Q_4_ (by simp); have m2_Q_5_ : wH2_r5.cell? _ = some _ := gH2_r5.cell Q_5_ (by simp); have m2_Q_6_ : wH2_r5.cell? _ = some _ := gH2_r5.cell Q_6_ (by simp); have m2_Q_7_ : wH2_r5.cell? _ = some _ := gH2_r5.cell Q_7_ (by simp)
        go_wp2_with fail
        clear hHeld
        refine hK.out _ _ ?s1_r5_2 (fun hHeld => ?_)
        case s1_r5_2 => exact ⟨m2_Q_0_, m2_Q_1_, m2_Q_2_, m2_Q_3_, m2_Q_4_, m2_Q_5_, m2_Q_6_, m2_Q_7_⟩
        clear hK K
        try simp only [Act.put, List.setIfInBounds_toArray, List.set_cons_zero, List.set_cons_succ]
        refine wpAnyH_take (i := 2) (oi := { dst := some 15, op := Op.move (Operand.tmp 14), type := 4, pos := "l16_order.go:33", after := #[{ on := 1, ground := Ground.data }, { on := 1, ground := Ground.chain }], guard := none }) (v := ?v2_r5_3) rfl (by kernel_rfl) (by kernel_rfl) (by kernel_rfl) (fun _ _ _ h => h) (Or.inl ⟨by rfl, ?y2_r5_3⟩) (by assumption) ?r2_r5_3
        case y2_r5_3 => (intro w hSw; (try dsimp only at hSw); go_simp; all_goals (with_reducible rfl))
        try simp only [Act.put, List.setIfInBounds_toArray, List.set_cons_zero, List.set_cons_succ]
        refine wpAnyH_take (i := 3) (oi := { dst := some 16, op := Op.load 60 (Operand.tmp 5), type := 60, pos := "l16_order.go:33", after := #[{ on := 2, ground := Ground.guard }], guard := some (2, true) }) (v := ?v3_r5_4) rfl (by kernel_rfl) (by kernel_rfl) (by kernel_rfl) (fun _ _ _ h => h) (Or.inl ⟨by rfl, ?y3_r5_4⟩) (by assumption) ?r3_r5_4
        case y3_r5_4 => (intro w hSw; (try dsimp only at hSw); go_simp; all_goals (with_reducible rfl))
        try simp only [Act.put, List.setIfInBounds_toArray, List.set_cons_zero, List.set_cons_succ]
        refine wpAnyH_take (i := 4) (oi := { dst := some 17, op := Op.move (Operand.tmp 0), type := 30, pos := "l16_order.go:33", after := #[{ on := 2, ground := Ground.guard }], guard := some (2, true) }) (v := ?v4_r5_5) rfl (by kernel_rfl) (by kernel_rfl) (by kernel_rfl) (fun _ _ _ h => h) (Or.inl ⟨by rfl, ?y4_r5_5⟩) (by assumption) ?r4_r5_5
        case y4_r5_5 => (intro w hSw; (try dsimp only at hSw); go_simp; all_goals (with_reducible rfl))
        try simp only [Act.put, List.setIfInBounds_toArray, List.set_cons_zero, List.set_cons_succ]
        refine wpAnyH_take (i := 5) (oi := { dst := some 18, op := Op.move (Operand.tmp 4), type := 3, pos := "l16_order.go:33", after := #[{ on := 2, ground := Ground.guard }], guard := some (2, true) }) (v := ?v5_r5_6) rfl (by kernel_rfl) (by kernel_rfl) (by kernel_rfl) (fun _ _ _ h => h) (Or.inl ⟨by rfl, ?y5_r5_6⟩) (by assumption) ?r5_r5_6
        case y5_r5_6 => (intro w hSw; (try dsimp only at hSw); go_simp; all_goals (with_reducible rfl))
        try simp only [Act.put, List.setIfInBounds_toArray, List.set_cons_zero, List.set_cons_succ]
        refine wpAnyH_take (i := 6) (oi := { dst := some 19, op := Op.slice 30 (Operand.tmp 17) none (some (Operand.tmp 18)) none, type := 30, pos := "l16_order.go:33", after := #[{ on := 4, ground := Ground.data }, { on := 5, ground := Ground.data }, { on := 2, ground := Ground.guard }], guard := some (2, true) }) (v := ?v6_r5_7) rfl (by kernel_rfl) (by kernel_rfl) (by kernel_rfl) (fun _ _ _ h => h) (Or.inl ⟨by rfl, ?y6_r5_7⟩) (by assumption) ?r6_r5_7
        case y6_r5_7 => (intro w hSw; (try dsimp only at hSw); go_simp; all_goals (with_reducible rfl))
        try simp only [Act.put, List.setIfInBounds_toArray, List.set_cons_zero, List.set_cons_succ]
        refine wpAnyH_ready (rs := [7]) (by kernel_rfl) (by simp) ?_
        refine AllReadyH.cons (o := { dst := some 20, op := Op.call { callee := Callee.value (Operand.func 108), args := #[Operand.tmp 16, Operand.tmp 19], argTypes := #[60, 30] }, type := 4, pos := "l16_order.go:33", after := #[{ on := 3, ground := Ground.data }, { on := 6, ground := Ground.data }, { on := 2, ground := Ground.chain }, { on := 2, ground := Ground.guard }], guard := some (2, true) }) rfl (fun K hK => ?_) AllReadyH.nil
        go_simp
        go_at_call 108
        refine (HALL.out _ (gby_trans G7_.out (gby_trans (gby_drew (gby_refl _ none)) gH2_r5))).mono ?_
        rintro e wH8_r5 ⟨rfl, gH8_r5⟩
        have m8_Q_0_ : wH8_r5.cell? _ = some _ := gH8_r5.cell m2_Q_0_ (by simp); have m8_Q_1_ : wH8_r5.cell? _ = some _ := gH8_r5.cell m2_Q_1_ (by simp); have m8_Q_2_ : wH8_r5.cell? _ = some _ := gH8_r5.cell m2_Q_2_ (by simp); have m8_Q_3_ : wH8_r5.cell? _ = some _ := gH8_r5.cell m2_Q_3_ (by simp); have m8_Q_4_ : wH8_r5.cell? _ = some _ := gH8_r5.cell m2_Q_4_ (by simp); have m8_Q_5_ : wH8_r5.cell? _ = some _ := gH8_r5.cell m2_Q_5_ (by simp); have m8_Q_6_ : wH8_r5.cell? _ = some _ := gH8_r5.cell m2_Q_6_ (by simp); have m8_Q_7_ : wH8_r5.cell? _ = some _ := gH8_r5.cell m2_Q_7_ (by simp)
        go_wp2_with fail
        clear hHeld
        refine hK.out _ _ ?s7_r5_8 (fun hHeld => ?_)
        case s7_r5_8 => exact ⟨m8_Q_0_, m8_Q_1_, m8_Q_2_, m8_Q_3_, m8_Q_4_, m8_Q_5_, m8_Q_6_, m8_Q_7_⟩
        clear hK K
        try simp only [Act.put, List.setIfInBounds_toArray, List.set_cons_zero, List.set_cons_succ]
        refine wpAnyH_take (i := 8) (oi := { dst := some 21, op := Op.pick (Operand.tmp 15) (Operand.tmp 20) (Operand.const (Value.bool false)), type := 4, pos := "l16_order.go:33", after := #[{ on := 2, ground := Ground.data }, { on := 7, ground := Ground.data }], guard := none }) (v := ?v8_r5_9) rfl (by kernel_rfl) (by kernel_rfl) (by kernel_rfl) (fun _ _ _ h => h) (Or.inl ⟨by rfl, ?y8_r5_9⟩) (by assumption) ?r8_r5_9
        case y8_r5_9 => (intro w hSw; (try dsimp only at hSw); go_simp; all_goals (with_reducible rfl))
        try simp only [Act.put, List.setIfInBounds_toArray, List.set_cons_zero, List.set_cons_succ]
        refine wpAnyH_done (by kernel_rfl) ?_ _
        have gR_ : ((wr.alloc (.cells #[.int .i64 xk.f0, .int .i64 xk.f1, .int .i64 xk.f2, .int .i64 xk.f3, .int .i64 xk.f4, .int .i64 xk.f5, .int .i64 xk.f6, .slice pk nk ck] 60))).grownBy (wH8_r5) none := (gby_trans (gby_trans (gby_drew (gby_refl _ none)) gH2_r5) gH8_r5)
        have szwH8_r5 := gR_.size
        try simp only [World.size_alloc] at szwH8_r5
        clear Q_0_ Q_1_ Q_2_ Q_3_ Q_4_ Q_5_ Q_6_ Q_7_ ek0_ ek1_ ek2_ ek3_ ek4_ ek5_ ek6_ ek7_
        have rQ11_ := Lib.hid (show (wH8_r5).heap[wr.heap.size]? = some (.cells #[.int .i64 xk.f0, .int .i64 xk.f1, .int .i64 xk.f2, .int .i64 xk.f3, .int .i64 xk.f4, .int .i64 xk.f5, .int .i64 xk.f6, .slice pk nk ck] 60 (0, 0)) from row_held gR_ rQ10_.out)
        clear rQ10_
        have G12_ := Lib.hid (show (W).grownBy (wH8_r5) none from gby_trans G7_.out gR_)
        have HTM13_ := Lib.hid (show (W).grownBy (wH8_r5) none from gby_trans HTM8_.out gR_)
        clear HTM8_
        have HTR14_ := Lib.hid (show (wr).grownBy (wH8_r5) none from gby_trans HTR9_.out gR_)
        clear HTR9_
        clear gR_
        have ep_ : passL xs (n + 1) = passL xs n := by show (if _ then _ else _) = _; rw [if_neg (by rw [HGO.out]; simp)]
        go_wp2
        refine ⟨⟨n + 1, by go_num, by omega, ⟨_, rfl⟩, ⟨_, rfl⟩, by rw [ep_]; exact HO.out.grown HTR14_.out, HTM13_.out⟩, by simp [intOf]; omega⟩
      · skip
        go_wp2_with fail
        refine wp_region_held_drew (S := fun w' => w'.cell? ⟨wr.heap.size, 0, none⟩ = some (.int .i64 xk.f0) ∧ w'.cell? ⟨wr.heap.size, 1, none⟩ = some (.int .i64 xk.f1) ∧ w'.cell? ⟨wr.heap.size, 2, none⟩ = some (.int .i64 xk.f2) ∧ w'.cell? ⟨wr.heap.size, 3, none⟩ = some (.int .i64 xk.f3) ∧ w'.cell? ⟨wr.heap.size, 4, none⟩ = some (.int .i64 xk.f4) ∧ w'.cell? ⟨wr.heap.size, 5, none⟩ = some (.int .i64 xk.f5) ∧ w'.cell? ⟨wr.heap.size, 6, none⟩ = some (.int .i64 xk.f6) ∧ w'.cell? ⟨wr.heap.size, 7, none⟩ = some (.slice pk nk ck)) (by kernel_rfl) (by (try dsimp only); exact ⟨Q_0_, Q_1_, Q_2_, Q_3_, Q_4_, Q_5_, Q_6_, Q_7_⟩) (fun hHeld => ?_)
        refine wpAnyH_take (i := 0) (oi := { dst := some 13, op := Op.load 60 (Operand.tmp 5), type := 60, pos := "l16_order.go:33", after := #[], guard := none }) (v := ?v0_r6_1) rfl (by kernel_rfl) (by kernel_rfl) (by kernel_rfl) (fun _ _ _ h => h) (Or.inl ⟨by rfl, ?y0_r6_1⟩) (by assumption) ?r0_r6_1
        case y0_r6_1 => (intro w hSw; (try dsimp only at hSw); go_simp; all_goals (with_reducible rfl))
        try simp only [Act.put, List.setIfInBounds_toArray, List.set_cons_zero, List.set_cons_succ]
        refine wpAnyH_ready (rs := [1]) (by kernel_rfl) (by simp) ?_
        refine AllReadyH.cons (o := { dst := some 14, op := Op.call { callee := Callee.value (Operand.func 107), args := #[Operand.tmp 13], argTypes := #[60] }, type := 4, pos := "l16_order.go:33", after := #[{ on := 0, ground := Ground.data }], guard := none }) rfl (fun K hK => ?_) AllReadyH.nil
        go_simp
        go_at_call 107
        refine (implPkD _ xk _ (Rk.out.grow (gby_trans G7_.out (gby_drew (gby_refl _ none)))) hzk_ true HOK.out).mono ?_
        rintro e wH2_r6 ⟨rfl, gH2_r6⟩
        have m2_Q_0_ : wH2_r6.cell? _ = some _ := gH2_r6.cell Q_0_ (by simp); have m2_Q_1_ : wH2_r6.cell? _ = some _ := gH2_r6.cell Q_1_ (by simp); have m2_Q_2_ : wH2_r6.cell? _ = some _ := gH2_r6.cell Q_2_ (by simp); have m2_Q_3_ : wH2_r6.cell? _ = some _ := gH2_r6.cell Q_3_ (by simp); have m2_Q_4_ : wH2_r6.cell? _ = some _ := gH2_r6.cell Q_4_ (by simp); have m2_Q_5_ : wH2_r6.cell? _ = some _ := gH2_r6.cell Q_5_ (by simp); have m2_Q_6_ : wH2_r6.cell? _ = some _ := gH2_r6.cell Q_6_ (by simp); have m2_Q_7_ : wH2_r6.cell? _ = some _ := gH2_r6.cell Q_7_ (by simp)
        go_wp2_with fail
        clear hHeld
        refine hK.out _ _ ?s1_r6_2 (fun hHeld => ?_)
        case s1_r6_2 => exact ⟨m2_Q_0_, m2_Q_1_, m2_Q_2_, m2_Q_3_, m2_Q_4_, m2_Q_5_, m2_Q_6_, m2_Q_7_⟩
        clear hK K
        try simp only [Act.put, List.setIfInBounds_toArray, List.set_cons_zero, List.set_cons_succ]
        refine wpAnyH_take (i := 2) (oi := { dst := some 15, op := Op.move (Operand.tmp 14), type := 4, pos := "l16_order.go:33", after := #[{ on := 1, ground := Ground.data }, { on := 1, ground := Ground.chain }], guard := none }) (v := ?v2_r6_3) rfl (by kernel_rfl) (by kernel_rfl) (by kernel_rfl) (fun _ _ _ h => h) (Or.inl ⟨by rfl, ?y2_r6_3⟩) (by assumption) ?r2_r6_3
        case y2_r6_3 => (intro w hSw; (try dsimp only at hSw); go_simp; all_goals (with_reducible rfl))
        try simp only [Act.put, List.setIfInBounds_toArray, List.set_cons_zero, List.set_cons_succ]
        refine wpAnyH_take (i := 3) (oi := { dst := some 16, op := Op.load 60 (Operand.tmp 5), type := 60, pos := "l16_order.go:33", after := #[{ on := 2, ground := Ground.guard }], guard := some (2, true) }) (v := ?v3_r6_4) rfl (by kernel_rfl) (by kernel_rfl) (by kernel_rfl) (fun _ _ _ h => h) (Or.inl ⟨by rfl, ?y3_r6_4⟩) (by assumption) ?r3_r6_4
        case y3_r6_4 => (intro w hSw; (try dsimp only at hSw); go_simp; all_goals (with_reducible rfl))
        try simp only [Act.put, List.setIfInBounds_toArray, List.set_cons_zero, List.set_cons_succ]
        refine wpAnyH_take (i := 4) (oi := { dst := some 17, op := Op.move (Operand.tmp 0), type := 30, pos := "l16_order.go:33", after := #[{ on := 2, ground := Ground.guard }], guard := some (2, true) }) (v := ?v4_r6_5) rfl (by kernel_rfl) (by kernel_rfl) (by kernel_rfl) (fun _ _ _ h => h) (Or.inl ⟨by rfl, ?y4_r6_5⟩) (by assumption) ?r4_r6_5
        case y4_r6_5 => (intro w hSw; (try dsimp only at hSw); go_simp; all_goals (with_reducible rfl))
        try simp only [Act.put, List.setIfInBounds_toArray, List.set_cons_zero, List.set_cons_succ]
        refine wpAnyH_take (i := 5) (oi := { dst := some 18, op := Op.move (Operand.tmp 4), type := 3, pos := "l16_order.go:33", after := #[{ on := 2, ground := Ground.guard }], guard := some (2, true) }) (v := ?v5_r6_6) rfl (by kernel_rfl) (by kernel_rfl) (by kernel_rfl) (fun _ _ _ h => h) (Or.inl ⟨by rfl, ?y5_r6_6⟩) (by assumption) ?r5_r6_6
        case y5_r6_6 => (intro w hSw; (try dsimp only at hSw); go_simp; all_goals (with_reducible rfl))
        try simp only [Act.put, List.setIfInBounds_toArray, List.set_cons_zero, List.set_cons_succ]
        refine wpAnyH_take (i := 6) (oi := { dst := some 19, op := Op.slice 30 (Operand.tmp 17) none (some (Operand.tmp 18)) none, type := 30, pos := "l16_order.go:33", after := #[{ on := 4, ground := Ground.data }, { on := 5, ground := Ground.data }, { on := 2, ground := Ground.guard }], guard := some (2, true) }) (v := ?v6_r6_7) rfl (by kernel_rfl) (by kernel_rfl) (by kernel_rfl) (fun _ _ _ h => h) (Or.inl ⟨by rfl, ?y6_r6_7⟩) (by assumption) ?r6_r6_7
        case y6_r6_7 => (intro w hSw; (try dsimp only at hSw); go_simp; all_goals (with_reducible rfl))
        try simp only [Act.put, List.setIfInBounds_toArray, List.set_cons_zero, List.set_cons_succ]
        refine wpAnyH_ready (rs := [7]) (by kernel_rfl) (by simp) ?_
        refine AllReadyH.cons (o := { dst := some 20, op := Op.call { callee := Callee.value (Operand.func 108), args := #[Operand.tmp 16, Operand.tmp 19], argTypes := #[60, 30] }, type := 4, pos := "l16_order.go:33", after := #[{ on := 3, ground := Ground.data }, { on := 6, ground := Ground.data }, { on := 2, ground := Ground.chain }, { on := 2, ground := Ground.guard }], guard := some (2, true) }) rfl (fun K hK => ?_) AllReadyH.nil
        go_simp
        go_at_call 108
        refine (HALL.out _ (gby_trans G7_.out (gby_trans (gby_drew (gby_refl _ none)) gH2_r6))).mono ?_
        rintro e wH8_r6 ⟨rfl, gH8_r6⟩
        have m8_Q_0_ : wH8_r6.cell? _ = some _ := gH8_r6.cell m2_Q_0_ (by simp); have m8_Q_1_ : wH8_r6.cell? _ = some _ := gH8_r6.cell m2_Q_1_ (by simp); have m8_Q_2_ : wH8_r6.cell? _ = some _ := gH8_r6.cell m2_Q_2_ (by simp); have m8_Q_3_ : wH8_r6.cell? _ = some _ := gH8_r6.cell m2_Q_3_ (by simp); have m8_Q_4_ : wH8_r6.cell? _ = some _ := gH8_r6.cell m2_Q_4_ (by simp); have m8_Q_5_ : wH8_r6.cell? _ = some _ := gH8_r6.cell m2_Q_5_ (by simp); have m8_Q_6_ : wH8_r6.cell? _ = some _ := gH8_r6.cell m2_Q_6_ (by simp); have m8_Q_7_ : wH8_r6.cell? _ = some _ := gH8_r6.cell m2_Q_7_ (by simp)
        go_wp2_with fail
        clear hHeld
        refine hK.out _ _ ?s7_r6_8 (fun hHeld => ?_)
        case s7_r6_8 => exact ⟨m8_Q_0_, m8_Q_1_, m8_Q_2_, m8_Q_3_, m8_Q_4_, m8_Q_5_, m8_Q_6_, m8_Q_7_⟩
        clear hK K
        try simp only [Act.put, List.setIfInBounds_toArray, List.set_cons_zero, List.set_cons_succ]
        refine wpAnyH_take (i := 8) (oi := { dst := some 21, op := Op.pick (Operand.tmp 15) (Operand.tmp 20) (Operand.const (Value.bool false)), type := 4, pos := "l16_order.go:33", after := #[{ on := 2, ground := Ground.data }, { on := 7, ground := Ground.data }], guard := none }) (v := ?v8_r6_9) rfl (by kernel_rfl) (by kernel_rfl) (by kernel_rfl) (fun _ _ _ h => h) (Or.inl ⟨by rfl, ?y8_r6_9⟩) (by assumption) ?r8_r6_9
        case y8_r6_9 => (intro w hSw; (try dsimp only at hSw); go_simp; all_goals (with_reducible rfl))
        try simp only [Act.put, List.setIfInBounds_toArray, List.set_cons_zero, List.set_cons_succ]
        refine wpAnyH_done (by kernel_rfl) ?_ _
        have gR_ : ((wr.alloc (.cells #[.int .i64 xk.f0, .int .i64 xk.f1, .int .i64 xk.f2, .int .i64 xk.f3, .int .i64 xk.f4, .int .i64 xk.f5, .int .i64 xk.f6, .slice pk nk ck] 60))).grownBy (wH8_r6) none := (gby_trans (gby_trans (gby_drew (gby_refl _ none)) gH2_r6) gH8_r6)
        have szwH8_r6 := gR_.size
        try simp only [World.size_alloc] at szwH8_r6
        clear Q_0_ Q_1_ Q_2_ Q_3_ Q_4_ Q_5_ Q_6_ Q_7_ ek0_ ek1_ ek2_ ek3_ ek4_ ek5_ ek6_ ek7_
        have rQ11_ := Lib.hid (show (wH8_r6).heap[wr.heap.size]? = some (.cells #[.int .i64 xk.f0, .int .i64 xk.f1, .int .i64 xk.f2, .int .i64 xk.f3, .int .i64 xk.f4, .int .i64 xk.f5, .int .i64 xk.f6, .slice pk nk ck] 60 (0, 0)) from row_held gR_ rQ10_.out)
        clear rQ10_
        have G12_ := Lib.hid (show (W).grownBy (wH8_r6) none from gby_trans G7_.out gR_)
        have HTM13_ := Lib.hid (show (W).grownBy (wH8_r6) none from gby_trans HTM8_.out gR_)
        clear HTM8_
        have HTR14_ := Lib.hid (show (wr).grownBy (wH8_r6) none from gby_trans HTR9_.out gR_)
        clear HTR9_
        clear gR_
        have HO2_ := Lib.hid (HO.out.grown HTR14_.out)
        have hb_ : (passL xs n).length ≤ 1048576 := by have := passL_len xs n; omega
        have ep_ : passL xs (n + 1) = passL xs n ++ [(n : Int)] := by show (if _ then _ else _) = _; rw [if_pos (show goesP xs n = true from HGO.out)]
        obtain ⟨m15, hm15⟩ : ∃ ml_, ml_ = (passL xs n).length := ⟨_, rfl⟩
        have HO15 := Lib.hid (show (wH8_r6).ownsRow (W.heap.size) 3 1 _ m15 (i64s (passL xs n)) from by rw [hm15]; exact HO2_.out)
        have hb15 : m15 ≤ 1048576 := by rw [hm15]; exact hb_
        have HM15 := Lib.hid hm15
        clear hm15 hb_
        go_wp2_with (at_builtin; refine wpList_append_lies _ (by rfl) _ _ _ (by rfl) (W.heap.size) 3 i1_ _ 1 8 Try.underlying23 hi1_ hz0_ hz1_ hz2_ rfl (by omega) _ m15 (i64s (passL xs n)) (by rfl) (HO15.out.alloc _) ⟨(wH8_r6).heap.size, 0, none⟩ 1 1 _ (by rfl) (by rfl) (World.news_of_block (t := 3) (fr := (0, 0)) (heap_alloc_new (wH8_r6) _)) (by simp [Value.oneCell']) (by omega) (by unfold maxLen; omega) (by omega) (by simp; omega) ((wH8_r6).heap.size + 1) (by simp) ?_; intro gg15 cap15 wa15 hown_ hgr_ hat_ hlt_; have HP15 := Lib.hid hown_; have HQ15 := Lib.hid hgr_; clear hown_ hgr_ hat_ hlt_)
        refine ⟨⟨n + 1, by go_num, by omega, ⟨_, rfl⟩, ⟨_, rfl⟩, ?_, ?_⟩, by simp [intOf]; omega⟩
        · rw [ep_, List.length_append, List.length_singleton, ← HM15.out, i64s_append]; exact HP15.out
        · exact gby_new (gby_alloc HTM13_.out _) HQ15.out (fun b hb => by have := own_from HO15.out b hb; have := gby_sizeP MG2_.out; (try simp only [World.size_alloc] at *); omega)

end Go.Proofs.Ytnighnkkeiegnaa
