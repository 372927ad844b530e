/-
  Slices of Node, on the law's side: measured, copied, compared, marked, held.
-/
import Derived.Test.YtnighnkkeiegnabShpI
import Derived.Test.YtnighnkkeiegnabQNode
import Derived.Test.YtnighnkkeiegnabDNode
import Derived.Test.YtnighnkkeiegnabGreg
import Derived.Deep.RegionHeld3
namespace Go.Proofs.Ytnighnkkeiegnab
open Go Go.RowKit
set_option linter.unusedVariables false

set_option maxRecDepth 100000 in
theorem infoNodeS : (Try.prog.info? 112).map (fun i => (i.zero, i.size, i.bytes)) = some (some (.agg #[.int .i64 0, .int .i64 0, .int .i64 0]), 3, 24) := by kernel_rfl

set_option maxRecDepth 8000 in
set_option maxHeartbeats 4000000 in
theorem toNodeS_d (W : World) (v : Value) (xs : List DNode) (H : RdL shNode W v xs) (hl : szL shNode xs ≤ 1048576) :
    Calls Try.prog 50 #[v] W (fun e w' => ∃ v', e = .returned v' ∧ OwL shNode w' W.heap.size w'.heap.size v' xs ∧ W.grownBy w' none) := by
  have hmx := H.max
  have HM := Lib.hid hmx
  clear hmx
  obtain ⟨a, cap, rfl, hcap, _, H2⟩ := H
  have HC := Lib.hid H2
  have HS := Lib.hid hl
  have HK := Lib.hid hcap
  obtain ⟨len, hlen⟩ : ∃ len, len = xs.length := ⟨_, rfl⟩
  have HE := Lib.hid hlen
  have hl1 : len ≤ 1048576 := by have := szL_len shNode xs; omega
  rw [← hlen]
  clear H2 hl hlen hcap
  obtain ⟨i0, hi0, hz0, hz1, hz2⟩ := info_parts infoNodeS
  go_enter Try.func50, Try.ntmps50
  go_wp2_with (at_make; refine wpList_make_full _ rfl _ _ 33 rfl W.heap.size 112 i0 (.agg #[.int .i64 0, .int .i64 0, .int .i64 0]) 3 Try.underlying33 hi0 hz0 hz1 .i64 .i64 _ _ len rfl rfl rfl rfl (by rw [hz2]; omega) (by unfold maxLen; omega) (Nat.le_refl _) ?_; intro w0 hown0 hgrow0; have HO0 := Lib.hid hown0; have HG0 := Lib.hid hgrow0; clear hown0 hgrow0)
  go_loopw [4] (fun i wr => ∃ (k : Nat) (C : Array Value) (P : Nat → Nat), k ≤ len ∧ i = .int .i64 (k : Int) ∧ C.size = len * 3 ∧ wr.heap[W.heap.size]? = some (.cells C 112 (0, 0)) ∧ Copd shNode W.heap.size wr xs C P k ∧ W.grownBy wr none) (fun i _ => len - (intOf i).toNat)
  case atStart =>
    obtain ⟨C, hC, hs⟩ := row_of_own HO0.out
    exact ⟨0, C, fun _ => w0.heap.size, Nat.zero_le _, rfl, hs, hC, ⟨block_in hC, rfl, fun j hj => absurd hj (Nat.not_lt_zero _), fun j hj => absurd hj (Nat.not_lt_zero _)⟩, HG0.out⟩
  case round =>
    obtain ⟨k, C, P, hk, rfl, hCs, hrow, hcp, hg⟩ := hrel
    have HR := Lib.hid hrow
    have HG := Lib.hid hg
    have HP := Lib.hid hcp
    have HCS := Lib.hid hCs
    clear hrow hg hcp hCs
    by_cases hlt : k < len
    · have hki : (k : Int) < (len : Int) := by omega
      have hk0 : (0 : Int) ≤ (k : Int) := by omega
      have htn : ((k : Int)).toNat = k := by omega
      have hke : k < xs.length := by have := HE.out; omega
      obtain ⟨b, off, rfl, hcell⟩ := HC.out.resolve_left (by omega)
      obtain ⟨cs, hat, hrd⟩ := hcell k hke
      obtain ⟨x, hx⟩ : ∃ x, x = xs.getD k default := ⟨_, rfl⟩
      rw [← hx] at hrd
      have HX := Lib.hid hx
      have hzx : shNode.size x ≤ 1048576 := by have q1 := szL_at shNode xs k hke; have q2 := HS.out; rw [hx]; omega
      clear hcell hx
      obtain rfl := hrd
      have c0_ : (wr).cell? ⟨b, off + k * 3, none⟩ = some (.int .i64 x.f0) := HG.out.cell (at_cell (j := 0) hat rfl) (by simp)
      have c1_ : (wr).cell? ⟨b, off + k * 3 + 1, none⟩ = some (.int .i64 x.f1) := HG.out.cell (at_cell (j := 1) hat rfl) (by simp)
      have c2_ : (wr).cell? ⟨b, off + k * 3 + 2, none⟩ = some (.int .i64 x.f2) := HG.out.cell (at_cell (j := 2) hat rfl) (by simp)
      go_wp2_with fail
      go_at_call 89
      refine (toNode_d _ x.f0 x.f1 x.f2  ).mono ?_
      rintro e w1 ⟨rfl, g1⟩
      try unfold vNode
      have R1 := Lib.hid (row_held g1 HR.out)
      have G1 := Lib.hid g1
      clear g1
      obtain ⟨y0, hy0⟩ : ∃ y, C[k * 3]? = some y := ⟨_, Array.getElem?_eq_getElem (by have := HCS.out; omega)⟩
      have t0_ : w1.cell? ⟨W.heap.size, k * 3, none⟩ = some y0 := (cell_of_row w1 _ _ _ _ _ R1.out).trans hy0
      have u0_ : w1.frozen? ⟨W.heap.size, k * 3, none⟩ = false := frozen_of_row w1 _ _ _ _ R1.out
      clear hy0
      obtain ⟨y1, hy1⟩ : ∃ y, C[k * 3 + 1]? = some y := ⟨_, Array.getElem?_eq_getElem (by have := HCS.out; omega)⟩
      have t1_ : w1.cell? ⟨W.heap.size, k * 3 + 1, none⟩ = some y1 := (cell_of_row w1 _ _ _ _ _ R1.out).trans hy1
      have u1_ : w1.frozen? ⟨W.heap.size, k * 3 + 1, none⟩ = false := frozen_of_row w1 _ _ _ _ R1.out
      clear hy1
      obtain ⟨y2, hy2⟩ : ∃ y, C[k * 3 + 2]? = some y := ⟨_, Array.getElem?_eq_getElem (by have := HCS.out; omega)⟩
      have t2_ : w1.cell? ⟨W.heap.size, k * 3 + 2, none⟩ = some y2 := (cell_of_row w1 _ _ _ _ _ R1.out).trans hy2
      have u2_ : w1.frozen? ⟨W.heap.size, k * 3 + 2, none⟩ = false := frozen_of_row w1 _ _ _ _ R1.out
      clear hy2
      go_wp2
      have hn := copd_next (m := len) (cs := [.int .i64 x.f0, .int .i64 x.f1, .int .i64 x.f2]) HP.out hlt HCS.out G1.out (show shNode.ow _ _ _ _ _ from by rw [← HX.out]; exact rfl)
      refine ⟨⟨k + 1, putC C (k * shNode.n) [.int .i64 x.f0, .int .i64 x.f1, .int .i64 x.f2], (fun j => if j = k + 1 then w1.heap.size else P j), by omega, by go_num, by rw [putC_size]; exact HCS.out, ?_, ?_, ?_⟩, by simp [intOf]; omega⟩
      rotate_left
      · exact hn
      · repeat (with_reducible refine gby_setnew ?_ _ (by dsimp only; omega) _)
        exact gby_trans HG.out G1.out
      · exact putW_heap [.int .i64 x.f0, .int .i64 x.f1, .int .i64 x.f2] R1.out
    · have hki : ¬ (k : Int) < (len : Int) := by omega
      obtain rfl : k = len := by omega
      go_wp2
      go_ret
      have e1 := HE.out
      have hp := HP.out
      rw [e1] at hp ⊢
      exact ⟨_, rfl, copd_all hp (Nat.le_refl _) (Nat.le_refl _) HM.out HR.out, HG.out⟩

set_option maxHeartbeats 1000000 in
theorem szNodeS_d (W : World) (n : Int) (v : Value) (xs : List DNode) (H : RdL shNode W v xs) (hn : n ≤ 1048576) (h0 : 0 ≤ n) :
    Calls Try.prog 44 #[v, .int .i64 n] W (AnsN (.int .i64 (lessN n (szL shNode xs))) W) := by
  have hs : szL shNode xs = xs.length := by
    unfold szL
    have : ∀ xs : List DNode, (xs.map shNode.size).sum = 0 := by intro xs; induction xs with | nil => rfl | cons x xs ih => simpa [shNode] using ih
    have := this xs
    omega
  rw [hs]
  have hc := H.max
  obtain ⟨a, cap, rfl, _⟩ := H
  generalize xs.length = len at hc
  by_cases h1 : n - (len : Int) < 0
  · rw [show lessN n len = -1 from if_pos (by omega)]
    go_enter Try.func44, Try.ntmps44
    go_wp2
    go_ret
    exact ⟨rfl, gby_refl _ _⟩
  · rw [show lessN n len = n - (len : Int) from (if_neg (by omega)).trans (by omega)]
    go_enter Try.func44, Try.ntmps44
    go_wp2
    go_ret
    exact ⟨rfl, gby_refl _ _⟩

set_option maxRecDepth 8000 in
set_option maxHeartbeats 4000000 in
theorem eqNodeS_d (W : World) (v1 v2 : Value) (xs : List DNode) (H1 : RdL shNode W v1 xs) (H2 : RdL shNode W v2 xs) (hl : szL shNode xs ≤ 1048576) :
    Calls Try.prog 58 #[v1, v2] W (AnsN (.bool true) W) := by
  obtain ⟨a, cap, rfl, hcap, _, H1⟩ := H1
  obtain ⟨a', cap', rfl, hcap', _, H2⟩ := H2
  have HC := Lib.hid H1
  have HC' := Lib.hid H2
  have HS := Lib.hid hl
  obtain ⟨len, hlen⟩ : ∃ len, len = xs.length := ⟨_, rfl⟩
  have HE := Lib.hid hlen
  have hl1 : len ≤ 1048576 := by have := szL_len shNode xs; omega
  rw [← hlen]
  clear H1 H2 hl hlen hcap hcap'
  have hz : ((len : Int) != (len : Int)) = false := by simp
  go_enter Try.func58, Try.ntmps58
  go_wp2
  go_loopw [5] (fun i wr => ∃ k : Nat, k ≤ len ∧ i = .int .i64 (k : Int) ∧ W.grownBy wr none) (fun i _ => len - (intOf i).toNat)
  case atStart => exact ⟨0, Nat.zero_le _, rfl, gby_refl _ _⟩
  case round =>
    obtain ⟨k, hk, rfl, hg⟩ := hrel
    have HG := Lib.hid hg
    clear hg
    by_cases hlt : k < len
    · have hki : (k : Int) < (len : Int) := by omega
      have hk0 : (0 : Int) ≤ (k : Int) := by omega
      have htn : ((k : Int)).toNat = k := by omega
      have hke : k < xs.length := by have := HE.out; omega
      obtain ⟨b, off, rfl, hcell⟩ := HC.out.resolve_left (by omega)
      obtain ⟨cs, hat, hrd⟩ := hcell k hke
      obtain ⟨x, hx⟩ : ∃ x, x = xs.getD k default := ⟨_, rfl⟩
      rw [← hx] at hrd
      have HX := Lib.hid hx
      have hzx : shNode.size x ≤ 1048576 := by have q1 := szL_at shNode xs k hke; have q2 := HS.out; rw [hx]; omega
      clear hcell
      obtain rfl := hrd
      obtain ⟨b', off', rfl, hcell'⟩ := HC'.out.resolve_left (by omega)
      obtain ⟨cs', hat', hrd'⟩ := hcell' k hke
      rw [← hx] at hrd'
      clear hcell' hx
      obtain rfl := hrd'
      have c0_ : (wr).cell? ⟨b, off + k * 3, none⟩ = some (.int .i64 x.f0) := HG.out.cell (at_cell (j := 0) hat rfl) (by simp)
      have c1_ : (wr).cell? ⟨b, off + k * 3 + 1, none⟩ = some (.int .i64 x.f1) := HG.out.cell (at_cell (j := 1) hat rfl) (by simp)
      have c2_ : (wr).cell? ⟨b, off + k * 3 + 2, none⟩ = some (.int .i64 x.f2) := HG.out.cell (at_cell (j := 2) hat rfl) (by simp)
      have d0_ : (wr).cell? ⟨b', off' + k * 3, none⟩ = some (.int .i64 x.f0) := HG.out.cell (at_cell (j := 0) hat' rfl) (by simp)
      have d1_ : (wr).cell? ⟨b', off' + k * 3 + 1, none⟩ = some (.int .i64 x.f1) := HG.out.cell (at_cell (j := 1) hat' rfl) (by simp)
      have d2_ : (wr).cell? ⟨b', off' + k * 3 + 2, none⟩ = some (.int .i64 x.f2) := HG.out.cell (at_cell (j := 2) hat' rfl) (by simp)
      go_wp2_with fail
      refine wp_region_grow (by kernel_rfl) (by kernel_rfl) ?_
      repeat (first
        | (refine gq_no (by rfl) ?_; (try simp only [Act.put, List.setIfInBounds_toArray, List.set_cons_zero, List.set_cons_succ]))
        | (refine gq_yes (by rfl) ?_ (fun wq hq => ?_) ?_; rotate_left; (· (go_simp; go_at_call 93; refine ((show Calls Try.prog 93 #[.agg #[.int .i64 x.f0, .int .i64 x.f1, .int .i64 x.f2], .agg #[.int .i64 x.f0, .int .i64 x.f1, .int .i64 x.f2]] _ (AnsN (.bool true) _) from eqNode_d _ x.f0 x.f1 x.f2   )).mono ?_; rintro e wr ⟨rfl, gr⟩; refine And.intro ?_ (gby_trans hq gr); rfl)); (try simp only [Act.put, List.setIfInBounds_toArray, List.set_cons_zero, List.set_cons_succ]))
        | (refine gq_yes (by rfl) ?_ (fun wq hq => ?_) ?_; rotate_left; (· (have y0 := hq.cell c0_ (by simp); have y1 := hq.cell c1_ (by simp); have y2 := hq.cell c2_ (by simp); have y3 := hq.cell d0_ (by simp); have y4 := hq.cell d1_ (by simp); have y5 := hq.cell d2_ (by simp); go_simp; (try rfl))); (try simp only [Act.put, List.setIfInBounds_toArray, List.set_cons_zero, List.set_cons_succ])))
      refine gq_nil ?_
      intro w1 g1
      have G1 := Lib.hid (gby_trans HG.out g1)
      clear g1
      go_wp2
      exact ⟨⟨k + 1, by omega, by go_num, G1.out⟩, by simp [intOf]; omega⟩
    · have hki : ¬ (k : Int) < (len : Int) := by omega
      go_wp2
      go_ret
      exact ⟨rfl, HG.out⟩

end Go.Proofs.Ytnighnkkeiegnab
