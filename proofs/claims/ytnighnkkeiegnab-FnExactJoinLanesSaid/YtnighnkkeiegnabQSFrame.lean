/-
  Slices of Frame, on the law's side: measured, copied, compared, marked, held.
-/
import Derived.Test.YtnighnkkeiegnabShpI
import Derived.Test.YtnighnkkeiegnabQFrame
import Derived.Test.YtnighnkkeiegnabDFrame
import Derived.Test.YtnighnkkeiegnabGreg
import Derived.Deep.RegionHeld3
namespace Go.Proofs.Ytnighnkkeiegnab
open Go Go.RowKit
set_option linter.unusedVariables false

set_option maxRecDepth 100000 in
theorem infoFrameS : (Try.prog.info? 104).map (fun i => (i.zero, i.size, i.bytes)) = some (some (.agg #[.int .i64 0, .slice none 0 0]), 2, 32) := by kernel_rfl

set_option maxRecDepth 8000 in
set_option maxHeartbeats 4000000 in
theorem toFrameS_d (W : World) (v : Value) (xs : List DFrame) (H : RdL shFrame W v xs) (hl : szL shFrame xs ≤ 1048576) :
    Calls Try.prog 98 #[v] W (fun e w' => ∃ v', e = .returned v' ∧ OwL shFrame w' W.heap.size w'.heap.size v' xs ∧ W.grownBy w' none) := by
  have hmx := H.max
  have HM := Lib.hid hmx
  clear hmx
  obtain ⟨a, cap, rfl, hcap, _, H2⟩ := H
  have HC := Lib.hid H2
  have HS := Lib.hid hl
  have HK := Lib.hid hcap
  obtain ⟨len, hlen⟩ : ∃ len, len = xs.length := ⟨_, rfl⟩
  have HE := Lib.hid hlen
  have hl1 : len ≤ 1048576 := by have := szL_len shFrame xs; omega
  rw [← hlen]
  clear H2 hl hlen hcap
  obtain ⟨i0, hi0, hz0, hz1, hz2⟩ := info_parts infoFrameS
  go_enter Try.func98, Try.ntmps98
  go_wp2_with (at_make; refine wpList_make_full _ rfl _ _ 49 rfl W.heap.size 104 i0 (.agg #[.int .i64 0, .slice none 0 0]) 2 Try.underlying49 hi0 hz0 hz1 .i64 .i64 _ _ len rfl rfl rfl rfl (by rw [hz2]; omega) (by unfold maxLen; omega) (Nat.le_refl _) ?_; intro w0 hown0 hgrow0; have HO0 := Lib.hid hown0; have HG0 := Lib.hid hgrow0; clear hown0 hgrow0)
  go_loopw [4] (fun i wr => ∃ (k : Nat) (C : Array Value) (P : Nat → Nat), k ≤ len ∧ i = .int .i64 (k : Int) ∧ C.size = len * 2 ∧ wr.heap[W.heap.size]? = some (.cells C 104 (0, 0)) ∧ Copd shFrame W.heap.size wr xs C P k ∧ W.grownBy wr none) (fun i _ => len - (intOf i).toNat)
  case atStart =>
    obtain ⟨C, hC, hs⟩ := row_of_own HO0.out
    exact ⟨0, C, fun _ => w0.heap.size, Nat.zero_le _, rfl, hs, hC, ⟨block_in hC, rfl, fun j hj => absurd hj (Nat.not_lt_zero _), fun j hj => absurd hj (Nat.not_lt_zero _)⟩, HG0.out⟩
  case round =>
    obtain ⟨k, C, P, hk, rfl, hCs, hrow, hcp, hg⟩ := hrel
    have HR := Lib.hid hrow
    have HG := Lib.hid hg
    have HP := Lib.hid hcp
    have HCS := Lib.hid hCs
    clear hrow hg hcp hCs
    by_cases hlt : k < len
    · have hki : (k : Int) < (len : Int) := by omega
      have hk0 : (0 : Int) ≤ (k : Int) := by omega
      have htn : ((k : Int)).toNat = k := by omega
      have hke : k < xs.length := by have := HE.out; omega
      obtain ⟨b, off, rfl, hcell⟩ := HC.out.resolve_left (by omega)
      obtain ⟨cs, hat, hrd⟩ := hcell k hke
      obtain ⟨x, hx⟩ : ∃ x, x = xs.getD k default := ⟨_, rfl⟩
      rw [← hx] at hrd
      have HX := Lib.hid hx
      have hzx : shFrame.size x ≤ 1048576 := by have q1 := szL_at shFrame xs k hke; have q2 := HS.out; rw [hx]; omega
      clear hcell hx
      obtain ⟨v1, rfl, r1⟩ := hrd
      have hz1 : szL shI x.f1 ≤ 1048576 := by have q : shFrame.size x ≤ 1048576 := hzx; simp only [shFrame] at q; omega
      have c0_ : (wr).cell? ⟨b, off + k * 2, none⟩ = some (.int .i64 x.f0) := HG.out.cell (at_cell (j := 0) hat rfl) (by simp)
      have c1_ : (wr).cell? ⟨b, off + k * 2 + 1, none⟩ = some (v1) := HG.out.cell (at_cell (j := 1) hat rfl) (by simp)
      go_wp2_with fail
      go_at_call 109
      refine (toFrame_d _ x.f0 v1 x.f1 (r1.grow HG.out) hz1).mono ?_
      rintro e w1 ⟨d1, rfl, o, g1⟩
      try unfold vFrame
      have R1 := Lib.hid (row_held g1 HR.out)
      obtain ⟨p1_, n1_, c1_, hv1_⟩ := RdL.form (OwU.rd o)
      subst hv1_
      have O1 := Lib.hid (show OwU w1 wr.heap.size w1.heap.size [] [own shI (.slice p1_ n1_ c1_) x.f1] from o)
      clear o
      have G1 := Lib.hid g1
      clear g1
      obtain ⟨y0, hy0⟩ : ∃ y, C[k * 2]? = some y := ⟨_, Array.getElem?_eq_getElem (by have := HCS.out; omega)⟩
      have t0_ : w1.cell? ⟨W.heap.size, k * 2, none⟩ = some y0 := (cell_of_row w1 _ _ _ _ _ R1.out).trans hy0
      have u0_ : w1.frozen? ⟨W.heap.size, k * 2, none⟩ = false := frozen_of_row w1 _ _ _ _ R1.out
      clear hy0
      obtain ⟨y1, hy1⟩ : ∃ y, C[k * 2 + 1]? = some y := ⟨_, Array.getElem?_eq_getElem (by have := HCS.out; omega)⟩
      have t1_ : w1.cell? ⟨W.heap.size, k * 2 + 1, none⟩ = some y1 := (cell_of_row w1 _ _ _ _ _ R1.out).trans hy1
      have u1_ : w1.frozen? ⟨W.heap.size, k * 2 + 1, none⟩ = false := frozen_of_row w1 _ _ _ _ R1.out
      clear hy1
      go_wp2
      have hn := copd_next (m := len) (cs := [.int .i64 x.f0, (.slice p1_ n1_ c1_)]) HP.out hlt HCS.out G1.out (show shFrame.ow _ _ _ _ _ from by rw [← HX.out]; exact ⟨(.slice p1_ n1_ c1_), rfl, O1.out⟩)
      refine ⟨⟨k + 1, putC C (k * shFrame.n) [.int .i64 x.f0, (.slice p1_ n1_ c1_)], (fun j => if j = k + 1 then w1.heap.size else P j), by omega, by go_num, by rw [putC_size]; exact HCS.out, ?_, ?_, ?_⟩, by simp [intOf]; omega⟩
      rotate_left
      · exact hn
      · repeat (with_reducible refine gby_setnew ?_ _ (by dsimp only; omega) _)
        exact gby_trans HG.out G1.out
      · exact putW_heap [.int .i64 x.f0, (.slice p1_ n1_ c1_)] R1.out
    · have hki : ¬ (k : Int) < (len : Int) := by omega
      obtain rfl : k = len := by omega
      go_wp2
      go_ret
      have e1 := HE.out
      have hp := HP.out
      rw [e1] at hp ⊢
      exact ⟨_, rfl, copd_all hp (Nat.le_refl _) (Nat.le_refl _) HM.out HR.out, HG.out⟩

/-- what the first k measure, their number left out -/
def szTFrameS (xs : List DFrame) (k : Nat) : Nat := ((xs.take k).map shFrame.size).sum
theorem szTFrameS_succ (xs : List DFrame) (k : Nat) (hk : k < xs.length) : szTFrameS xs (k + 1) = szTFrameS xs k + shFrame.size (xs.getD k default) := by
  unfold szTFrameS
  rw [List.take_succ_eq_append_getElem hk, List.getD_eq_getElem?_getD, List.getElem?_eq_getElem hk]
  simp only [List.map_append, List.sum_append_nat, List.map_cons, List.map_nil, List.sum_cons, List.sum_nil, Option.getD_some]; omega
theorem szTFrameS_le (xs : List DFrame) (k : Nat) : szTFrameS xs k ≤ szTFrameS xs xs.length := by
  unfold szTFrameS
  rw [List.take_length]
  exact sum_take_le _ _ _
theorem szTFrameS_all (xs : List DFrame) : szL shFrame xs = xs.length + szTFrameS xs xs.length := by unfold szTFrameS szL; rw [List.take_length]

set_option maxRecDepth 8000 in
set_option maxHeartbeats 4000000 in
theorem szFrameS_d (W : World) (n : Int) (v : Value) (xs : List DFrame) (H : RdL shFrame W v xs) (hn : n ≤ 1048576) (h0 : 0 ≤ n) :
    Calls Try.prog 96 #[v, .int .i64 n] W (AnsN (.int .i64 (lessN n (szL shFrame xs))) W) := by
  have hc := H.max
  obtain ⟨a, cap, rfl, hcap, _, H2⟩ := H
  have HC := Lib.hid H2
  rw [szTFrameS_all]
  obtain ⟨len, hlen⟩ : ∃ len, len = xs.length := ⟨_, rfl⟩
  have HE := Lib.hid hlen
  rw [← hlen] at hc ⊢
  obtain ⟨T, hT⟩ : ∃ T, T = szTFrameS xs len := ⟨_, rfl⟩
  have HT := Lib.hid hT
  rw [← hT]
  have HL := Lib.hid (fun k => szTFrameS_le xs k)
  clear H2 hlen hcap hT
  by_cases h1 : n - (len : Int) < 0
  · rw [show lessN n (len + T) = -1 from if_pos (by omega)]
    go_enter Try.func96, Try.ntmps96
    go_wp2
    go_ret
    exact ⟨rfl, gby_refl _ _⟩
  obtain ⟨res, hres⟩ : ∃ r, r = lessN n (len + T) := ⟨_, rfl⟩
  have HRES := Lib.hid hres
  rw [← hres]
  clear hres
  go_enter Try.func96, Try.ntmps96
  go_wp2
  go_loopw [1, 5] (fun q i wr => ∃ (k : Nat) (r : Int), k ≤ len ∧ i = .int .i64 (k : Int) ∧ q = .int .i64 r ∧ 0 ≤ r ∧ r + (szTFrameS xs k : Int) = n - (len : Int) ∧ W.grownBy wr none) (fun _ i _ => len - (intOf i).toNat)
  case atStart => exact ⟨0, _, Nat.zero_le _, rfl, rfl, by omega, by simp [szTFrameS], gby_refl _ _⟩
  case round =>
    obtain ⟨k, r, hk, rfl, rfl, hr0, hrk, hg⟩ := hrel
    have HG := Lib.hid hg
    have HRK := Lib.hid hrk
    clear hg hrk
    have hrn : r ≤ 1048576 := by have := HRK.out; omega
    by_cases hlt : k < len
    · have hki : (k : Int) < (len : Int) := by omega
      have hk0 : (0 : Int) ≤ (k : Int) := by omega
      have htn : ((k : Int)).toNat = k := by omega
      have hke : k < xs.length := by have := HE.out; omega
      obtain ⟨b, off, rfl, hcell⟩ := HC.out.resolve_left (by omega)
      obtain ⟨cs, hat, hrd⟩ := hcell k hke
      obtain ⟨x, hx⟩ : ∃ x, x = xs.getD k default := ⟨_, rfl⟩
      rw [← hx] at hrd
      have HX := Lib.hid hx
      have hsx := szTFrameS_succ xs k hke
      rw [← hx] at hsx
      have HSX := Lib.hid hsx
      clear hsx
      clear hcell hx
      obtain ⟨v1, rfl, r1⟩ := hrd
      have c0_ : (wr).cell? ⟨b, off + k * 2, none⟩ = some (.int .i64 x.f0) := HG.out.cell (at_cell (j := 0) hat rfl) (by simp)
      have c1_ : (wr).cell? ⟨b, off + k * 2 + 1, none⟩ = some (v1) := HG.out.cell (at_cell (j := 1) hat rfl) (by simp)
      obtain ⟨z, hz⟩ : ∃ z, z = shFrame.size x := ⟨_, rfl⟩
      have HZ := Lib.hid hz
      clear hz
      by_cases hfit : r < (z : Int)
      · have hm1 : (-1 : Int) < 0 := by omega
        have he0 : lessN r z = -1 := if_pos hfit
        have HQ := Lib.hid he0
        clear he0
        go_wp2_with fail
        go_at_call 108
        refine (szFrame_d _ _ x.f0 v1 x.f1 (r1.grow HG.out) (by omega) (by omega)).mono ?_
        rintro e w1 ⟨he, g1⟩
        rw [show lessN r (szL shI x.f1) = -1 from by rw [← HQ.out, HZ.out]; simp only [shFrame]] at he
        subst he
        have G1 := Lib.hid g1
        clear g1
        go_wp2
        go_ret
        refine ⟨?_, gby_trans HG.out G1.out⟩
        have q1 := HRES.out
        have q2 := HSX.out
        have q3 := HL.out (k + 1)
        have q4 := HT.out
        have q5 := HRK.out
        have q6 := HZ.out
        have q7 := HE.out
        rw [← q7] at q3
        rw [q1, show lessN n (len + T) = -1 from if_pos (by omega)]
        rfl
      · have hnn : ¬ r - (z : Int) < 0 := by omega
        have he0 : lessN r z = r - (z : Int) := if_neg hfit
        have HQ := Lib.hid he0
        clear he0
        go_wp2_with fail
        go_at_call 108
        refine (szFrame_d _ _ x.f0 v1 x.f1 (r1.grow HG.out) (by omega) (by omega)).mono ?_
        rintro e w1 ⟨he, g1⟩
        rw [show lessN r (szL shI x.f1) = r - (z : Int) from by rw [← HQ.out, HZ.out]; simp only [shFrame]] at he
        subst he
        have G1 := Lib.hid g1
        clear g1
        go_wp2
        refine ⟨⟨k + 1, _, by omega, by go_num, rfl, by omega, ?_, gby_trans HG.out G1.out⟩, by simp [intOf]; omega⟩
        have q2 := HSX.out
        have q5 := HRK.out
        have q6 := HZ.out
        rw [q2]; omega
    · have hki : ¬ (k : Int) < (len : Int) := by omega
      go_wp2
      go_ret
      refine ⟨?_, HG.out⟩
      have q1 := HRES.out
      have q4 := HT.out
      have q5 := HRK.out
      have e2 : k = len := by omega
      rw [e2] at q5
      rw [q1, show lessN n (len + T) = r from (if_neg (by omega)).trans (by omega)]
      rfl

set_option maxRecDepth 8000 in
set_option maxHeartbeats 4000000 in
theorem eqFrameS_d (W : World) (v1 v2 : Value) (xs : List DFrame) (H1 : RdL shFrame W v1 xs) (H2 : RdL shFrame W v2 xs) (hl : szL shFrame xs ≤ 1048576) :
    Calls Try.prog 101 #[v1, v2] W (AnsN (.bool true) W) := by
  obtain ⟨a, cap, rfl, hcap, _, H1⟩ := H1
  obtain ⟨a', cap', rfl, hcap', _, H2⟩ := H2
  have HC := Lib.hid H1
  have HC' := Lib.hid H2
  have HS := Lib.hid hl
  obtain ⟨len, hlen⟩ : ∃ len, len = xs.length := ⟨_, rfl⟩
  have HE := Lib.hid hlen
  have hl1 : len ≤ 1048576 := by have := szL_len shFrame xs; omega
  rw [← hlen]
  clear H1 H2 hl hlen hcap hcap'
  have hz : ((len : Int) != (len : Int)) = false := by simp
  go_enter Try.func101, Try.ntmps101
  go_wp2
  go_loopw [5] (fun i wr => ∃ k : Nat, k ≤ len ∧ i = .int .i64 (k : Int) ∧ W.grownBy wr none) (fun i _ => len - (intOf i).toNat)
  case atStart => exact ⟨0, Nat.zero_le _, rfl, gby_refl _ _⟩
  case round =>
    obtain ⟨k, hk, rfl, hg⟩ := hrel
    have HG := Lib.hid hg
    clear hg
    by_cases hlt : k < len
    · have hki : (k : Int) < (len : Int) := by omega
      have hk0 : (0 : Int) ≤ (k : Int) := by omega
      have htn : ((k : Int)).toNat = k := by omega
      have hke : k < xs.length := by have := HE.out; omega
      obtain ⟨b, off, rfl, hcell⟩ := HC.out.resolve_left (by omega)
      obtain ⟨cs, hat, hrd⟩ := hcell k hke
      obtain ⟨x, hx⟩ : ∃ x, x = xs.getD k default := ⟨_, rfl⟩
      rw [← hx] at hrd
      have HX := Lib.hid hx
      have hzx : shFrame.size x ≤ 1048576 := by have q1 := szL_at shFrame xs k hke; have q2 := HS.out; rw [hx]; omega
      clear hcell
      obtain ⟨v1, rfl, r1⟩ := hrd
      obtain ⟨b', off', rfl, hcell'⟩ := HC'.out.resolve_left (by omega)
      obtain ⟨cs', hat', hrd'⟩ := hcell' k hke
      rw [← hx] at hrd'
      clear hcell' hx
      obtain ⟨v1', rfl, r1'⟩ := hrd'
      have hz1 : szL shI x.f1 ≤ 1048576 := by have q : shFrame.size x ≤ 1048576 := hzx; simp only [shFrame] at q; omega
      have c0_ : (wr).cell? ⟨b, off + k * 2, none⟩ = some (.int .i64 x.f0) := HG.out.cell (at_cell (j := 0) hat rfl) (by simp)
      have c1_ : (wr).cell? ⟨b, off + k * 2 + 1, none⟩ = some (v1) := HG.out.cell (at_cell (j := 1) hat rfl) (by simp)
      have d0_ : (wr).cell? ⟨b', off' + k * 2, none⟩ = some (.int .i64 x.f0) := HG.out.cell (at_cell (j := 0) hat' rfl) (by simp)
      have d1_ : (wr).cell? ⟨b', off' + k * 2 + 1, none⟩ = some (v1') := HG.out.cell (at_cell (j := 1) hat' rfl) (by simp)
      go_wp2_with fail
      refine wp_region_grow (by kernel_rfl) (by kernel_rfl) ?_
      repeat (first
        | (refine gq_no (by rfl) ?_; (try simp only [Act.put, List.setIfInBounds_toArray, List.set_cons_zero, List.set_cons_succ]))
        | (refine gq_yes (by rfl) ?_ (fun wq hq => ?_) ?_; rotate_left; (· (go_simp; go_at_call 111; refine ((show Calls Try.prog 111 #[.agg #[.int .i64 x.f0, v1], .agg #[.int .i64 x.f0, v1']] _ (AnsN (.bool true) _) from eqFrame_d _ x.f0 v1 v1' x.f1 (r1.grow (gby_trans HG.out hq)) (r1'.grow (gby_trans HG.out hq)) hz1)).mono ?_; rintro e wr ⟨rfl, gr⟩; refine And.intro ?_ (gby_trans hq gr); rfl)); (try simp only [Act.put, List.setIfInBounds_toArray, List.set_cons_zero, List.set_cons_succ]))
        | (refine gq_yes (by rfl) ?_ (fun wq hq => ?_) ?_; rotate_left; (· (have y0 := hq.cell c0_ (by simp); have y1 := hq.cell c1_ (by simp); have y2 := hq.cell d0_ (by simp); have y3 := hq.cell d1_ (by simp); go_simp; (try rfl))); (try simp only [Act.put, List.setIfInBounds_toArray, List.set_cons_zero, List.set_cons_succ])))
      refine gq_nil ?_
      intro w1 g1
      have G1 := Lib.hid (gby_trans HG.out g1)
      clear g1
      go_wp2
      exact ⟨⟨k + 1, by omega, by go_num, G1.out⟩, by simp [intOf]; omega⟩
    · have hki : ¬ (k : Int) < (len : Int) := by omega
      go_wp2
      go_ret
      exact ⟨rfl, HG.out⟩

theorem mkInFrameS (v1 : Value) (z k off : Nat) (C : Array Value) (h : off + (k + 1) * 2 ≤ C.size) (hc : C[off + k * 2 + 1]? = some v1) : ∀ i, i < 2 → (putC C (off + k * 2) [.int .i64 ((z : Nat) : Int)])[off + k * 2 + i]? = ([.int .i64 ((z : Nat) : Int), v1] : List Value)[i]? := by
  intro i hi
  by_cases hi7 : i < 1
  · rw [putC_in [.int .i64 ((z : Nat) : Int)] C (off + k * 2) i (by simpa using hi7) (by simp only [List.length_cons, List.length_nil]; omega)]
    exact (List.getElem?_append_left (l₁ := [.int .i64 ((z : Nat) : Int)]) (l₂ := [v1]) (by simpa using hi7)).symm
  · rw [putC_out [.int .i64 ((z : Nat) : Int)] C (off + k * 2) (off + k * 2 + i) (by simp only [List.length_cons, List.length_nil]; omega)]
    obtain rfl : i = 1 := by omega
    exact hc
theorem mkOutFrameS (z k off : Nat) (C : Array Value) : ∀ p, p < off + k * 2 ∨ off + (k + 1) * 2 ≤ p → (putC C (off + k * 2) [.int .i64 ((z : Nat) : Int)])[p]? = C[p]? :=
  fun p hp => putC_out [.int .i64 ((z : Nat) : Int)] C (off + k * 2) p (by simp only [List.length_cons, List.length_nil]; omega)

end Go.Proofs.Ytnighnkkeiegnab
