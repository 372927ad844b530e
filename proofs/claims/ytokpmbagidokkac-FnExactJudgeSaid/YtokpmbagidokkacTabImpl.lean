/-
  Contracts of the program's checksum: the table of remainders, CheckOf.
-/
import Derived.Test.YtokpmbagidokkacCrcTab
import Derived.Test.YtokpmbagidokkacChg
import Derived.Test.YtokpmbagidokkacWireImpl
namespace Go.Proofs.Ytokpmbagidokkac
open Go Go.RowKit

theorem double_any (z : Nat) (W : World) (hz : z < 65536) : Calls Try.prog 127 #[.int .i64 (z : Int)] W (Ans (.int .i64 (cbit z : Int)) W) := by
  by_cases hbig : 65535 < z * 2
  · have hbi : (65535 : Int) < (z : Int) * 2 := by omega
    have hx3 : bits .xor .i64 ((z : Int) * 2) 69665 = ((cbit z : Nat) : Int) := by
      have q := xor_nat (z * 2) 69665 (by omega) (by decide)
      rw [Int.natCast_mul] at q
      rw [show cbit z = z * 2 ^^^ 69665 from if_pos hbig]
      exact q
    go_enter Try.func127, Try.ntmps127
    go_wp2
    go_ret
    exact ⟨rfl, Drew.refl _⟩
  · have hbi : ¬ (65535 : Int) < (z : Int) * 2 := by omega
    have hx3 : cbit z = z * 2 := if_neg hbig
    have HX := Lib.hid hx3
    clear hx3
    go_enter Try.func127, Try.ntmps127
    go_wp2
    go_ret
    exact ⟨ret_i64 (by rw [HX.out]; simp), Drew.refl _⟩

/-- the table of remainders -/
def tabV : Array Value := ((List.range 256).map fun b => Value.int .i64 (tab b : Int)).toArray
theorem tabV_size : tabV.size = 256 := by simp [tabV]
theorem tabV_at (k : Nat) (hk : k < 256) : tabV[k]? = some (.int .i64 (tab k : Int)) := by simp [tabV, hk]

theorem zeros_at : Try.zeroCells130[0]? = some (.int .i64 0) := by kernel_rfl
theorem zeros_size : Try.zeroCells130.size = 256 := by kernel_rfl
theorem info256 : (Try.prog.info? 130).map (·.size) = some 256 := by kernel_rfl

/-- the table, begun -/
def Begun (W wr : World) (k : Nat) : Prop := ∃ C : Array Value, wr.heap[W.heap.size + 1]? = some (.cells C 130 (0, 0)) ∧ wr.heap[W.heap.size]? = some (.cells Try.zeroCells130 130 (0, 0)) ∧ C.size = 256 ∧ (∀ j, j < k ∨ j = 0 → C[j]? = some (.int .i64 (tab j : Int))) ∧ W.grownBy wr none

theorem begun_full {W wr : World} (h : Begun W wr 256) : wr.heap[W.heap.size + 1]? = some (.cells tabV 130 (0, 0)) := by
  obtain ⟨C, h1, _, h3, h4, _⟩ := h
  have : C = tabV := by
    apply Array.ext_getElem?
    intro j
    rcases Nat.lt_or_ge j 256 with q | q
    · rw [h4 j (.inl q), tabV_at j q]
    · rw [Array.getElem?_eq_none (by omega), Array.getElem?_eq_none (by rw [tabV_size]; exact q)]
  rw [this] at h1; exact h1

set_option maxRecDepth 20000 in
set_option maxHeartbeats 2000000 in
theorem remainders_any (W : World) : Calls Try.prog 114 #[] W (AnsN (.agg tabV) W) := by
  go_enter Try.func114, Try.ntmps114
  go_wp2_with fail
  go_loopw [4] (fun i wr => ∃ k : Nat, k ≤ 256 ∧ i = .int .i64 (k : Int) ∧ Begun W wr k) (fun i _ => 256 - (intOf i).toNat)
  case atStart =>
    refine ⟨0, Nat.zero_le _, rfl, Try.zeroCells130, ?_, ?_, zeros_size, ?_, gby_alloc (gby_alloc (gby_refl _ _) _) _⟩
    · exact heap_two W _ _
    · rw [heap_alloc_old _ _ (by simp)]; exact heap_alloc_new W _
    · intro j hj
      obtain rfl : j = 0 := by omega
      exact zeros_at
  case round =>
    obtain ⟨k, hk, rfl, C, hC, hZ, hs, hall, hg⟩ := hrel
    by_cases hlt : k < 256
    · have hki : (k : Int) < 256 := by omega
      have hk0 : (0 : Int) ≤ (k : Int) := by omega
      have htn : ((k : Int)).toNat = k := by omega
      have i0 : (0 : Int) ≤ (k : Int) / 2 := by omega
      have i1 : (k : Int) / 2 < 256 := by omega
      have i2 : ((k : Int) / 2).toNat = k / 2 := by omega
      have iw : IntKind.i64.wrap ((k : Int) / 2) = (k : Int) / 2 := wrap_small _ (by omega) (by omega)
      have im : (k : Int).tmod 2 = (k : Int) % 2 := Int.tmod_eq_emod_of_nonneg (by omega)
      have hc := cell_of_row wr _ (k / 2) C _ _ hC
      rw [hall (k / 2) (by omega)] at hc
      obtain ⟨y, hy⟩ : ∃ y, C[k]? = some y := ⟨_, Array.getElem?_eq_getElem (by rw [hs]; exact hlt)⟩
      have hcy := cell_of_row wr _ k C _ _ hC
      rw [hy] at hcy
      have hf := frozen_of_row wr _ k C _ hC
      have htl := tab_lt (k / 2) (by omega)
      have hst := tab_step k hlt
      obtain ⟨z, hz⟩ : ∃ z, z = tab (k / 2) := ⟨_, rfl⟩
      rw [← hz] at hc htl hst
      have HC := Lib.hid hC
      have HZ := Lib.hid hZ
      have HS := Lib.hid hs
      have HA := Lib.hid hall
      have HG := Lib.hid hg
      have hcz := cbit_lt z htl
      have fin : ∀ (n x : Nat), tab k = x → Begun W ((wr.drewN n).setCell ⟨W.heap.size + 1, k, none⟩ (.int .i64 (x : Int))) (k + 1) := by
        intro n x hx
        refine ⟨C.setIfInBounds k (.int .i64 (x : Int)), heap_setCell_same _ _ _ _ _ _ (heap_behind_draws n HC.out), ?_, by simp [HS.out], ?_, gby_setnew (gby_drewN HG.out n) _ (by simp) _⟩
        · rw [Below.heap_setCell _ _ _ _ (by simp)]; exact heap_behind_draws n HZ.out
        · intro j hj
          rw [Array.getElem?_setIfInBounds]
          by_cases e : k = j
          · subst e; rw [if_pos rfl, if_pos (by rw [HS.out]; exact hlt), hx]
          · rw [if_neg e]; exact HA.out j (by omega)
      have FIN := Lib.hid fin
      clear hC hZ hs hall hg fin hz hy
      by_cases hpar : k % 2 = 1
      · have he : ((k : Int) % 2 == 1) = true := by simp; omega
        rw [if_pos hpar] at hst
        have hx3 : bits .xor .i64 ((cbit z : Nat) : Int) 4129 = ((cbit z ^^^ 4129 : Nat) : Int) := xor_nat (cbit z) 4129 (by omega) (by decide)
        have HST := Lib.hid hst
        clear hst hpar
        go_wp2_with fail
        go_at_call 127
        refine (double_any z _ htl).mono ?_
        rintro e w2 ⟨rfl, n, rfl⟩
        go_wp2_with fail
        exact ⟨⟨k + 1, by omega, by go_num, FIN.out n _ HST.out⟩, by simp [intOf]; omega⟩
      · have he : ((k : Int) % 2 == 1) = false := by simp; omega
        rw [if_neg hpar] at hst
        have HST := Lib.hid hst
        clear hst hpar
        go_wp2_with fail
        go_at_call 127
        refine (double_any z _ htl).mono ?_
        rintro e w2 ⟨rfl, n, rfl⟩
        go_wp2_with fail
        exact ⟨⟨k + 1, by omega, by go_num, FIN.out n _ HST.out⟩, by simp [intOf]; omega⟩
    · have hki : ¬ (k : Int) < 256 := by omega
      obtain rfl : k = 256 := by omega
      have hfull := begun_full ⟨C, hC, hZ, hs, hall, hg⟩
      have HF := Lib.hid hfull
      have HZ := Lib.hid hZ
      have HG := Lib.hid hg
      clear hall hC hfull hZ hg hs
      go_upto_region 10 with fail
      apply wp_region_lit
      refine wpList_load_row rfl 130 (.tmp 1) rfl (W.heap.size + 1) rfl 130 tabV (0, 0) _ HF.out Try.underlying130 rfl (by rw [tabV_size]; exact info256) ?_
      refine wpList_store_row rfl 130 (.tmp 0) (.tmp 21) rfl W.heap.size tabV rfl rfl 130 Try.zeroCells130 HZ.out (by rw [tabV_size]; exact info256) (by rw [tabV_size, zeros_size]) (by simp [tabV, Value.oneCell']) ?_
      go_wp2
      refine bodyPost_ret (v := .agg tabV) (results_cell_row rfl _ _ W.heap.size 130 tabV (0, 0) _ rfl (setRow_heap wr W.heap.size _ _ 130 _ HZ.out) Try.underlying130 rfl (by rw [tabV_size]; exact info256)) rfl ⟨rfl, ?_⟩
      exact ⟨HG.out.os, HG.out.tape, HG.out.output, by simpa [World.setRow] using HG.out.size, fun k hk hn => (setRow_other wr W.heap.size k _ (by omega)).trans (HG.out.block k hk hn)⟩

end Go.Proofs.Ytokpmbagidokkac
