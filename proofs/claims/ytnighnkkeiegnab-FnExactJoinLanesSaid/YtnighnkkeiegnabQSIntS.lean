/-
  Slices of []int, on the law's side: measured, copied, compared, marked, held.
-/
import Derived.Test.YtnighnkkeiegnabShpI
import Derived.Test.YtnighnkkeiegnabGreg
import Derived.Deep.RegionHeld3
namespace Go.Proofs.Ytnighnkkeiegnab
open Go Go.RowKit
set_option linter.unusedVariables false

set_option maxRecDepth 100000 in
theorem infoIntSS : (Try.prog.info? 23).map (fun i => (i.zero, i.size, i.bytes)) = some (some (.slice none 0 0), 1, 24) := by kernel_rfl

set_option maxRecDepth 8000 in
set_option maxHeartbeats 4000000 in
theorem toIntSS_d (W : World) (v : Value) (xs : List (List Int)) (H : RdL (shL shI) W v xs) (hl : szL (shL shI) xs ≤ 1048576) :
    Calls Try.prog 22 #[v] W (fun e w' => ∃ v', e = .returned v' ∧ OwL (shL shI) w' W.heap.size w'.heap.size v' xs ∧ W.grownBy w' none) := by
  have hmx := H.max
  have HM := Lib.hid hmx
  clear hmx
  obtain ⟨a, cap, rfl, hcap, _, H2⟩ := H
  have HC := Lib.hid H2
  have HS := Lib.hid hl
  have HK := Lib.hid hcap
  obtain ⟨len, hlen⟩ : ∃ len, len = xs.length := ⟨_, rfl⟩
  have HE := Lib.hid hlen
  have hl1 : len ≤ 1048576 := by have := szL_len (shL shI) xs; omega
  rw [← hlen]
  clear H2 hl hlen hcap
  obtain ⟨i0, hi0, hz0, hz1, hz2⟩ := info_parts infoIntSS
  go_enter Try.func22, Try.ntmps22
  go_wp2_with (at_make; refine wpList_make_full _ rfl _ _ 25 rfl W.heap.size 23 i0 (.slice none 0 0) 1 Try.underlying25 hi0 hz0 hz1 .i64 .i64 _ _ len rfl rfl rfl rfl (by rw [hz2]; omega) (by unfold maxLen; omega) (Nat.le_refl _) ?_; intro w0 hown0 hgrow0; have HO0 := Lib.hid hown0; have HG0 := Lib.hid hgrow0; clear hown0 hgrow0)
  go_loopw [4] (fun i wr => ∃ (k : Nat) (C : Array Value) (P : Nat → Nat), k ≤ len ∧ i = .int .i64 (k : Int) ∧ C.size = len * 1 ∧ wr.heap[W.heap.size]? = some (.cells C 23 (0, 0)) ∧ Copd (shL shI) W.heap.size wr xs C P k ∧ W.grownBy wr none) (fun i _ => len - (intOf i).toNat)
  case atStart =>
    obtain ⟨C, hC, hs⟩ := row_of_own HO0.out
    exact ⟨0, C, fun _ => w0.heap.size, Nat.zero_le _, rfl, hs, hC, ⟨block_in hC, rfl, fun j hj => absurd hj (Nat.not_lt_zero _), fun j hj => absurd hj (Nat.not_lt_zero _)⟩, HG0.out⟩
  case round =>
    obtain ⟨k, C, P, hk, rfl, hCs, hrow, hcp, hg⟩ := hrel
    have HR := Lib.hid hrow
    have HG := Lib.hid hg
    have HP := Lib.hid hcp
    have HCS := Lib.hid hCs
    clear hrow hg hcp hCs
    by_cases hlt : k < len
    · have hki : (k : Int) < (len : Int) := by omega
      have hk0 : (0 : Int) ≤ (k : Int) := by omega
      have htn : ((k : Int)).toNat = k := by omega
      have hke : k < xs.length := by have := HE.out; omega
      obtain ⟨b, off, rfl, hcell⟩ := HC.out.resolve_left (by omega)
      obtain ⟨cs, hat, hrd⟩ := hcell k hke
      obtain ⟨x, hx⟩ : ∃ x, x = xs.getD k default := ⟨_, rfl⟩
      rw [← hx] at hrd
      have HX := Lib.hid hx
      have hzx : (shL shI).size x ≤ 1048576 := by have q1 := szL_at (shL shI) xs k hke; have q2 := HS.out; rw [hx]; omega
      clear hcell hx
      obtain ⟨v0, rfl, r0⟩ := hrd
      have hz0 : szL shI x ≤ 1048576 := by have q : (shL shI).size x ≤ 1048576 := hzx; simp only [shL] at q; omega
      have c0_ : (wr).cell? ⟨b, off + k, none⟩ = some (v0) := by have q := HG.out.cell (at_cell (j := 0) hat rfl) (by simp); rwa [Nat.add_zero, show (shL shI).n = 1 from rfl, Nat.mul_one] at q
      go_wp2_with fail
      go_at_call 35
      refine (toIntS_d _ v0 x (r0.grow HG.out) hz0).mono ?_
      rintro e w1 ⟨d0, rfl, o, g1⟩
      have R1 := Lib.hid (row_held g1 HR.out)
      obtain ⟨p0_, n0_, c0_, hv0_⟩ := RdL.form (OwL.rd o)
      subst hv0_
      have O1 := Lib.hid (show OwL shI w1 wr.heap.size w1.heap.size (.slice p0_ n0_ c0_) x from o)
      clear o
      have G1 := Lib.hid g1
      clear g1
      obtain ⟨y0, hy0⟩ : ∃ y, C[k]? = some y := ⟨_, Array.getElem?_eq_getElem (by have := HCS.out; omega)⟩
      have t0_ : w1.cell? ⟨W.heap.size, k, none⟩ = some y0 := (cell_of_row w1 _ _ _ _ _ R1.out).trans hy0
      have u0_ : w1.frozen? ⟨W.heap.size, k, none⟩ = false := frozen_of_row w1 _ _ _ _ R1.out
      clear hy0
      go_wp2
      have hn := copd_next (m := len) (cs := [(.slice p0_ n0_ c0_)]) HP.out hlt HCS.out G1.out (show (shL shI).ow _ _ _ _ _ from by rw [← HX.out]; exact ⟨(.slice p0_ n0_ c0_), rfl, O1.out⟩)
      rw [show k * (shL shI).n = k from Nat.mul_one k] at hn
      refine ⟨⟨k + 1, putC C (k) [(.slice p0_ n0_ c0_)], (fun j => if j = k + 1 then w1.heap.size else P j), by omega, by go_num, by rw [putC_size]; exact HCS.out, ?_, ?_, ?_⟩, by simp [intOf]; omega⟩
      rotate_left
      · exact hn
      · repeat (with_reducible refine gby_setnew ?_ _ (by dsimp only; omega) _)
        exact gby_trans HG.out G1.out
      · exact putW_heap [(.slice p0_ n0_ c0_)] R1.out
    · have hki : ¬ (k : Int) < (len : Int) := by omega
      obtain rfl : k = len := by omega
      go_wp2
      go_ret
      have e1 := HE.out
      have hp := HP.out
      rw [e1] at hp ⊢
      exact ⟨_, rfl, copd_all hp (Nat.le_refl _) (Nat.le_refl _) HM.out HR.out, HG.out⟩

/-- what the first k measure, their number left out -/
def szTIntSS (xs : List (List Int)) (k : Nat) : Nat := ((xs.take k).map (shL shI).size).sum
theorem szTIntSS_succ (xs : List (List Int)) (k : Nat) (hk : k < xs.length) : szTIntSS xs (k + 1) = szTIntSS xs k + (shL shI).size (xs.getD k default) := by
  unfold szTIntSS
  rw [List.take_succ_eq_append_getElem hk, List.getD_eq_getElem?_getD, List.getElem?_eq_getElem hk]
  simp only [List.map_append, List.sum_append_nat, List.map_cons, List.map_nil, List.sum_cons, List.sum_nil, Option.getD_some]; omega
theorem szTIntSS_le (xs : List (List Int)) (k : Nat) : szTIntSS xs k ≤ szTIntSS xs xs.length := by
  unfold szTIntSS
  rw [List.take_length]
  exact sum_take_le _ _ _
theorem szTIntSS_all (xs : List (List Int)) : szL (shL shI) xs = xs.length + szTIntSS xs xs.length := by unfold szTIntSS szL; rw [List.take_length]

set_option maxRecDepth 8000 in
set_option maxHeartbeats 4000000 in
theorem szIntSS_d (W : World) (n : Int) (v : Value) (xs : List (List Int)) (H : RdL (shL shI) W v xs) (hn : n ≤ 1048576) (h0 : 0 ≤ n) :
    Calls Try.prog 20 #[v, .int .i64 n] W (AnsN (.int .i64 (lessN n (szL (shL shI) xs))) W) := by
  have hc := H.max
  obtain ⟨a, cap, rfl, hcap, _, H2⟩ := H
  have HC := Lib.hid H2
  rw [szTIntSS_all]
  obtain ⟨len, hlen⟩ : ∃ len, len = xs.length := ⟨_, rfl⟩
  have HE := Lib.hid hlen
  rw [← hlen] at hc ⊢
  obtain ⟨T, hT⟩ : ∃ T, T = szTIntSS xs len := ⟨_, rfl⟩
  have HT := Lib.hid hT
  rw [← hT]
  have HL := Lib.hid (fun k => szTIntSS_le xs k)
  clear H2 hlen hcap hT
  by_cases h1 : n - (len : Int) < 0
  · rw [show lessN n (len + T) = -1 from if_pos (by omega)]
    go_enter Try.func20, Try.ntmps20
    go_wp2
    go_ret
    exact ⟨rfl, gby_refl _ _⟩
  obtain ⟨res, hres⟩ : ∃ r, r = lessN n (len + T) := ⟨_, rfl⟩
  have HRES := Lib.hid hres
  rw [← hres]
  clear hres
  go_enter Try.func20, Try.ntmps20
  go_wp2
  go_loopw [1, 5] (fun q i wr => ∃ (k : Nat) (r : Int), k ≤ len ∧ i = .int .i64 (k : Int) ∧ q = .int .i64 r ∧ 0 ≤ r ∧ r + (szTIntSS xs k : Int) = n - (len : Int) ∧ W.grownBy wr none) (fun _ i _ => len - (intOf i).toNat)
  case atStart => exact ⟨0, _, Nat.zero_le _, rfl, rfl, by omega, by simp [szTIntSS], gby_refl _ _⟩
  case round =>
    obtain ⟨k, r, hk, rfl, rfl, hr0, hrk, hg⟩ := hrel
    have HG := Lib.hid hg
    have HRK := Lib.hid hrk
    clear hg hrk
    have hrn : r ≤ 1048576 := by have := HRK.out; omega
    by_cases hlt : k < len
    · have hki : (k : Int) < (len : Int) := by omega
      have hk0 : (0 : Int) ≤ (k : Int) := by omega
      have htn : ((k : Int)).toNat = k := by omega
      have hke : k < xs.length := by have := HE.out; omega
      obtain ⟨b, off, rfl, hcell⟩ := HC.out.resolve_left (by omega)
      obtain ⟨cs, hat, hrd⟩ := hcell k hke
      obtain ⟨x, hx⟩ : ∃ x, x = xs.getD k default := ⟨_, rfl⟩
      rw [← hx] at hrd
      have HX := Lib.hid hx
      have hsx := szTIntSS_succ xs k hke
      rw [← hx] at hsx
      have HSX := Lib.hid hsx
      clear hsx
      clear hcell hx
      obtain ⟨v0, rfl, r0⟩ := hrd
      have c0_ : (wr).cell? ⟨b, off + k, none⟩ = some (v0) := by have q := HG.out.cell (at_cell (j := 0) hat rfl) (by simp); rwa [Nat.add_zero, show (shL shI).n = 1 from rfl, Nat.mul_one] at q
      obtain ⟨z, hz⟩ : ∃ z, z = (shL shI).size x := ⟨_, rfl⟩
      have HZ := Lib.hid hz
      clear hz
      by_cases hfit : r < (z : Int)
      · have hm1 : (-1 : Int) < 0 := by omega
        have he0 : lessN r z = -1 := if_pos hfit
        have HQ := Lib.hid he0
        clear he0
        go_wp2_with fail
        go_at_call 45
        refine (szIntS_d _ _ v0 x (r0.grow HG.out) (by omega) (by omega)).mono ?_
        rintro e w1 ⟨he, g1⟩
        rw [show lessN r (szL shI x) = -1 from by rw [← HQ.out, HZ.out]; simp only [shL]] at he
        subst he
        have G1 := Lib.hid g1
        clear g1
        go_wp2
        go_ret
        refine ⟨?_, gby_trans HG.out G1.out⟩
        have q1 := HRES.out
        have q2 := HSX.out
        have q3 := HL.out (k + 1)
        have q4 := HT.out
        have q5 := HRK.out
        have q6 := HZ.out
        have q7 := HE.out
        rw [← q7] at q3
        rw [q1, show lessN n (len + T) = -1 from if_pos (by omega)]
        rfl
      · have hnn : ¬ r - (z : Int) < 0 := by omega
        have he0 : lessN r z = r - (z : Int) := if_neg hfit
        have HQ := Lib.hid he0
        clear he0
        go_wp2_with fail
        go_at_call 45
        refine (szIntS_d _ _ v0 x (r0.grow HG.out) (by omega) (by omega)).mono ?_
        rintro e w1 ⟨he, g1⟩
        rw [show lessN r (szL shI x) = r - (z : Int) from by rw [← HQ.out, HZ.out]; simp only [shL]] at he
        subst he
        have G1 := Lib.hid g1
        clear g1
        go_wp2
        refine ⟨⟨k + 1, _, by omega, by go_num, rfl, by omega, ?_, gby_trans HG.out G1.out⟩, by simp [intOf]; omega⟩
        have q2 := HSX.out
        have q5 := HRK.out
        have q6 := HZ.out
        rw [q2]; omega
    · have hki : ¬ (k : Int) < (len : Int) := by omega
      go_wp2
      go_ret
      refine ⟨?_, HG.out⟩
      have q1 := HRES.out
      have q4 := HT.out
      have q5 := HRK.out
      have e2 : k = len := by omega
      rw [e2] at q5
      rw [q1, show lessN n (len + T) = r from (if_neg (by omega)).trans (by omega)]
      rfl

set_option maxRecDepth 8000 in
set_option maxHeartbeats 4000000 in
theorem eqIntSS_d (W : World) (v1 v2 : Value) (xs : List (List Int)) (H1 : RdL (shL shI) W v1 xs) (H2 : RdL (shL shI) W v2 xs) (hl : szL (shL shI) xs ≤ 1048576) :
    Calls Try.prog 25 #[v1, v2] W (AnsN (.bool true) W) := by
  obtain ⟨a, cap, rfl, hcap, _, H1⟩ := H1
  obtain ⟨a', cap', rfl, hcap', _, H2⟩ := H2
  have HC := Lib.hid H1
  have HC' := Lib.hid H2
  have HS := Lib.hid hl
  obtain ⟨len, hlen⟩ : ∃ len, len = xs.length := ⟨_, rfl⟩
  have HE := Lib.hid hlen
  have hl1 : len ≤ 1048576 := by have := szL_len (shL shI) xs; omega
  rw [← hlen]
  clear H1 H2 hl hlen hcap hcap'
  have hz : ((len : Int) != (len : Int)) = false := by simp
  go_enter Try.func25, Try.ntmps25
  go_wp2
  go_loopw [5] (fun i wr => ∃ k : Nat, k ≤ len ∧ i = .int .i64 (k : Int) ∧ W.grownBy wr none) (fun i _ => len - (intOf i).toNat)
  case atStart => exact ⟨0, Nat.zero_le _, rfl, gby_refl _ _⟩
  case round =>
    obtain ⟨k, hk, rfl, hg⟩ := hrel
    have HG := Lib.hid hg
    clear hg
    by_cases hlt : k < len
    · have hki : (k : Int) < (len : Int) := by omega
      have hk0 : (0 : Int) ≤ (k : Int) := by omega
      have htn : ((k : Int)).toNat = k := by omega
      have hke : k < xs.length := by have := HE.out; omega
      obtain ⟨b, off, rfl, hcell⟩ := HC.out.resolve_left (by omega)
      obtain ⟨cs, hat, hrd⟩ := hcell k hke
      obtain ⟨x, hx⟩ : ∃ x, x = xs.getD k default := ⟨_, rfl⟩
      rw [← hx] at hrd
      have HX := Lib.hid hx
      have hzx : (shL shI).size x ≤ 1048576 := by have q1 := szL_at (shL shI) xs k hke; have q2 := HS.out; rw [hx]; omega
      clear hcell
      obtain ⟨v0, rfl, r0⟩ := hrd
      obtain ⟨b', off', rfl, hcell'⟩ := HC'.out.resolve_left (by omega)
      obtain ⟨cs', hat', hrd'⟩ := hcell' k hke
      rw [← hx] at hrd'
      clear hcell' hx
      obtain ⟨v0', rfl, r0'⟩ := hrd'
      have hz0 : szL shI x ≤ 1048576 := by have q : (shL shI).size x ≤ 1048576 := hzx; simp only [shL] at q; omega
      have c0_ : (wr).cell? ⟨b, off + k, none⟩ = some (v0) := by have q := HG.out.cell (at_cell (j := 0) hat rfl) (by simp); rwa [Nat.add_zero, show (shL shI).n = 1 from rfl, Nat.mul_one] at q
      have d0_ : (wr).cell? ⟨b', off' + k, none⟩ = some (v0') := by have q := HG.out.cell (at_cell (j := 0) hat' rfl) (by simp); rwa [Nat.add_zero, show (shL shI).n = 1 from rfl, Nat.mul_one] at q
      go_wp2_with fail
      refine wp_region_grow (by kernel_rfl) (by kernel_rfl) ?_
      repeat (first
        | (refine gq_no (by rfl) ?_; (try simp only [Act.put, List.setIfInBounds_toArray, List.set_cons_zero, List.set_cons_succ]))
        | (refine gq_yes (by rfl) ?_ (fun wq hq => ?_) ?_; rotate_left; (· (go_simp; go_at_call 24; refine ((show Calls Try.prog 24 #[v0, v0'] _ (AnsN (.bool true) _) from eqIntS_d _ v0 v0' x (r0.grow (gby_trans HG.out hq)) (r0'.grow (gby_trans HG.out hq)) hz0)).mono ?_; rintro e wr ⟨rfl, gr⟩; refine And.intro ?_ (gby_trans hq gr); rfl)); (try simp only [Act.put, List.setIfInBounds_toArray, List.set_cons_zero, List.set_cons_succ]))
        | (refine gq_yes (by rfl) ?_ (fun wq hq => ?_) ?_; rotate_left; (· (have y0 := hq.cell c0_ (by simp); have y1 := hq.cell d0_ (by simp); go_simp; (try rfl))); (try simp only [Act.put, List.setIfInBounds_toArray, List.set_cons_zero, List.set_cons_succ])))
      refine gq_nil ?_
      intro w1 g1
      have G1 := Lib.hid (gby_trans HG.out g1)
      clear g1
      go_wp2
      exact ⟨⟨k + 1, by omega, by go_num, G1.out⟩, by simp [intOf]; omega⟩
    · have hki : ¬ (k : Int) < (len : Int) := by omega
      go_wp2
      go_ret
      exact ⟨rfl, HG.out⟩

set_option maxRecDepth 8000 in
set_option maxHeartbeats 4000000 in
theorem markIntSS_d (w : World) (lo hi m : Nat) (v : Value) (xs : List (List Int)) (h1 : OwL (shL shI) w lo hi v xs) (hl : szL (shL shI) xs ≤ 1048576) (hm2 : m + ecL (shL shI) xs ≤ 900000000) :
    Calls Try.prog 26 #[v, .int .i64 (m : Int)] w (fun e w' => e = .returned (.int .i64 ((m + ecL (shL shI) xs : Nat) : Int)) ∧ OwL (shL shI) w' lo hi v (emL (shL shI) m xs) ∧ Chg w w' lo hi) := by
  obtain ⟨a, cap, rfl, hcap, hmx, hp, H⟩ := h1
  have hl1 : xs.length ≤ 1048576 := by have := szL_len (shL shI) xs; omega
  by_cases h0 : xs.length = 0
  · have hnil : xs = [] := List.length_eq_zero_iff.1 h0
    subst hnil
    have HP := Lib.hid hp
    have HK := Lib.hid hcap
    clear H hp hcap h0 hl hm2 hmx hl1
    have hm0 : ((m + ecL (shL shI) [] : Nat) : Int) = (m : Int) := by simp [ecL]
    rw [hm0]
    clear hm0
    go_enter Try.func26, Try.ntmps26
    go_wp2
    go_loopw [1, 5] (fun q i wr => i = .int .i64 0 ∧ q = .int .i64 (m : Int) ∧ w = wr) (fun _ _ _ => 0)
    case atStart => exact ⟨rfl, rfl, rfl⟩
    case round =>
      obtain ⟨rfl, rfl, rfl⟩ := hrel
      go_wp2
      go_ret
      exact ⟨rfl, ⟨a, cap, rfl, HK.out, Nat.zero_le _, HP.out, .inl rfl⟩, chg_gby (gby_refl _ _) _ _⟩
  obtain ⟨b, off, P, Q, C, t, rfl, hrow, hel, hdis⟩ := H.resolve_left h0
  have hbl := hp _ rfl
  have HQ := Lib.hid (fun k hk => (⟨(hel k hk).1, (hel k hk).2.1, (hel k hk).2.2.1⟩ : lo ≤ P k ∧ Q k ≤ hi ∧ (b < P k ∨ Q k ≤ b)))
  have hM0 : Mkd (shL shI) w b off C P Q xs m 0 := fun j hj => by
    obtain ⟨_, _, _, cs, q1, q2⟩ := hel j hj
    exact ⟨cs, (shL shI).len ((shL shI).read q2), q1, by rw [if_neg (Nat.not_lt_zero _)]; exact q2⟩
  have HM0 := Lib.hid hM0
  have HD := Lib.hid hdis
  have HR0 := Lib.hid hrow
  have HK := Lib.hid hcap
  have HMX := Lib.hid hmx
  have HT := Lib.hid hm2
  have HBL := Lib.hid hbl
  have HS := Lib.hid hl
  obtain ⟨len, hlen⟩ : ∃ len, len = xs.length := ⟨_, rfl⟩
  have HE := Lib.hid hlen
  rw [← hlen] at hl1 ⊢
  clear hM0 hdis hrow hcap hmx hm2 hbl hel hp H h0 hl hlen
  go_enter Try.func26, Try.ntmps26
  go_wp2
  go_loopw [1, 5] (fun q i wr => ∃ k : Nat, k ≤ len ∧ i = .int .i64 (k : Int) ∧ q = .int .i64 ((m + ecL (shL shI) (xs.take k) : Nat) : Int) ∧ wr.heap[b]? = some (.cells C t (0, 0)) ∧ Mkd (shL shI) wr b off C P Q xs m k ∧ Chg w wr lo hi) (fun _ i _ => len - (intOf i).toNat)
  case atStart => exact ⟨0, Nat.zero_le _, rfl, by simp [ecL], HR0.out, HM0.out, chg_gby (gby_refl _ _) _ _⟩
  case round =>
    obtain ⟨k, hk, rfl, rfl, hrow, hM, hG⟩ := hrel
    have HR := Lib.hid hrow
    have HM := Lib.hid hM
    have HG := Lib.hid hG
    clear hrow hM hG
    by_cases hlt : k < len
    · have hki : (k : Int) < (len : Int) := by omega
      have hk0 : (0 : Int) ≤ (k : Int) := by omega
      have htn : ((k : Int)).toNat = k := by omega
      have hke : k < xs.length := by have := HE.out; omega
      obtain ⟨cs, hcl, hcc, how⟩ := HM.out k hke
      rw [if_neg (Nat.lt_irrefl _)] at how
      obtain ⟨x, hx⟩ : ∃ x, x = xs.getD k default := ⟨_, rfl⟩
      rw [← hx] at how
      have hec := ecL_take_succ (shL shI) xs k hke
      have hecl := ecL_take_le (shL shI) xs (k + 1)
      rw [← hx] at hec
      obtain ⟨z, hz⟩ : ∃ z, z = m + ecL (shL shI) (xs.take k) := ⟨_, rfl⟩
      rw [← hz]
      have hzb : z + ecL shI x ≤ 900000000 := by have := HT.out; have q : (shL shI).ec x = ecL shI x := rfl; omega
      have HZ := Lib.hid hz
      have HEC := Lib.hid hec
      have HX := Lib.hid hx
      have hzx : szL shI x ≤ 1048576 := by have q1 := szL_at (shL shI) xs k hke; have q2 := HS.out; rw [← hx] at q1; exact Nat.le_trans q1 q2
      obtain ⟨v0, rfl, oo⟩ := how
      have HCC := Lib.hid hcc
      have OO := Lib.hid oo
      have t0_ : wr.cell? ⟨b, off + k, none⟩ = some v0 := (cell_of_row wr _ _ _ _ _ HR.out).trans (by have q := hcc 0 (by simp); rwa [Nat.add_zero, show ((shL shI)).n = 1 from rfl, Nat.mul_one] at q)
      clear hec hecl hz hx hcc hcl oo
      have hqk := (HQ.out k hke).2.2
      have hpk := (HQ.out k hke).1
      have hpq := (HQ.out k hke).2.1
      have hbl1 := HBL.out.1
      have hbl2 := HBL.out.2
      go_wp2_with fail
      go_at_call 27
      refine (markIntS_d wr (P k) (Q k) z v0 x OO.out hzx hzb).mono ?_
      rintro e w1 ⟨rfl, o, c⟩
      have CH := Lib.hid c
      have RR := Lib.hid (Chg.keep c HR.out (by omega))
      have V := Lib.hid o
      clear o c
      have hn := mkd_next (m := m) (cs := [v0]) (C' := C) HM.out (mkd_kept (fun j hj => (HQ.out j hj).2.2) HD.out hke (chg_gby (gby_refl wr none) b (b + 1)) CH.out (Nat.le_refl _) (Nat.le_refl _)) (fun i hi => HCC.out i hi) (fun p hp => rfl) (show (shL shI).ow _ _ _ _ _ from by rw [← HX.out, ← HZ.out]; exact ⟨v0, rfl, V.out⟩)
      have HN := Lib.hid hn
      have HF := Lib.hid (show z + ecL shI x = m + ecL (shL shI) (xs.take (k + 1)) from by
        have q1 := HZ.out
        have q2 := HEC.out
        have q3 : (shL shI).ec x = ecL shI x := rfl
        omega)
      clear hn
      go_wp2
      exact ⟨⟨k + 1, by omega, by go_num, congrArg (fun y : Nat => Value.int .i64 (y : Int)) HF.out, RR.out, HN.out, chg_trans HG.out (chg_wide CH.out hpk hpq)⟩, by simp [intOf]; omega⟩
    · have hki : ¬ (k : Int) < (len : Int) := by omega
      obtain rfl : k = len := by omega
      go_wp2
      go_ret
      have e1 := HE.out
      have hM := HM.out
      rw [e1] at hM ⊢
      exact ⟨by rw [List.take_length]; rfl, mkd_all hM HBL.out.1 HBL.out.2 HR.out (by have := HK.out.2; omega) HMX.out (fun j hj => HQ.out j hj) HD.out, HG.out⟩

set_option maxRecDepth 8000 in
set_option maxHeartbeats 4000000 in
theorem heldIntSS_d (w : World) (m : Nat) (v : Value) (xs : List (List Int)) (H : RdL (shL shI) w v (emL (shL shI) m xs)) (hl : szL (shL shI) xs ≤ 1048576) (hm2 : m + ecL (shL shI) xs ≤ 900000000) :
    Calls Try.prog 31 #[v, .int .i64 (m : Int)] w (AnsN (.int .i64 ((m + ecL (shL shI) xs : Nat) : Int)) w) := by
  obtain ⟨a, cap, rfl, _, _, H⟩ := H
  have hl1 : xs.length ≤ 1048576 := by have := szL_len (shL shI) xs; omega
  rw [emL_length] at H ⊢
  have HC := Lib.hid H
  have HT := Lib.hid hm2
  have HS := Lib.hid hl
  obtain ⟨len, hlen⟩ : ∃ len, len = xs.length := ⟨_, rfl⟩
  have HE := Lib.hid hlen
  rw [← hlen] at hl1 ⊢
  clear H hm2 hl hlen
  go_enter Try.func31, Try.ntmps31
  go_wp2
  go_loopw [1, 5] (fun q i wr => ∃ k : Nat, k ≤ len ∧ i = .int .i64 (k : Int) ∧ q = .int .i64 ((m + ecL (shL shI) (xs.take k) : Nat) : Int) ∧ w.grownBy wr none) (fun _ i _ => len - (intOf i).toNat)
  case atStart => exact ⟨0, Nat.zero_le _, rfl, by simp [ecL], gby_refl _ _⟩
  case round =>
    obtain ⟨k, hk, rfl, rfl, hg⟩ := hrel
    have HG := Lib.hid hg
    clear hg
    by_cases hlt : k < len
    · have hki : (k : Int) < (len : Int) := by omega
      have hk0 : (0 : Int) ≤ (k : Int) := by omega
      have htn : ((k : Int)).toNat = k := by omega
      have hke : k < xs.length := by have := HE.out; omega
      obtain ⟨b, off, rfl, hcell⟩ := HC.out.resolve_left (by omega)
      obtain ⟨cs, hat, hrd⟩ := hcell k hke
      rw [emL_getD (shL shI) m xs k hke] at hrd
      obtain ⟨x, hx⟩ : ∃ x, x = xs.getD k default := ⟨_, rfl⟩
      rw [← hx] at hrd
      have hec := ecL_take_succ (shL shI) xs k hke
      have hecl := ecL_take_le (shL shI) xs (k + 1)
      rw [← hx] at hec
      obtain ⟨z, hz⟩ : ∃ z, z = m + ecL (shL shI) (xs.take k) := ⟨_, rfl⟩
      rw [← hz] at hrd ⊢
      have hzb : z + ecL shI x ≤ 900000000 := by have := HT.out; have q : (shL shI).ec x = ecL shI x := rfl; omega
      have hzx : szL shI x ≤ 1048576 := by have q1 := szL_at (shL shI) xs k hke; have q2 := HS.out; rw [← hx] at q1; exact Nat.le_trans q1 q2
      have HF := Lib.hid (show z + ecL shI x = m + ecL (shL shI) (xs.take (k + 1)) from by
        have q3 : (shL shI).ec x = ecL shI x := rfl
        omega)
      obtain ⟨v0, rfl, r0⟩ := hrd
      have R0 := Lib.hid (show RdL shI w v0 (emL shI z x) from r0)
      have c0_ : wr.cell? ⟨b, off + k, none⟩ = some v0 := by have q := HG.out.cell (at_cell (j := 0) hat rfl) (by simp); rwa [Nat.add_zero, show ((shL shI)).n = 1 from rfl, Nat.mul_one] at q
      clear hec hecl hz hx hat hcell r0
      have ng : ¬ (((z + ecL shI x : Nat) : Int) < 0) := by omega
      go_wp2_with fail
      go_at_call 28
      refine (heldIntS_d wr z v0 x (R0.out.grow HG.out) hzx hzb).mono ?_
      rintro e w1 ⟨rfl, g⟩
      have G1 := Lib.hid (gby_trans HG.out g)
      clear g
      go_wp2
      exact ⟨⟨k + 1, by omega, by go_num, congrArg (fun y : Nat => Value.int .i64 (y : Int)) HF.out, G1.out⟩, by simp [intOf]; omega⟩
    · have hki : ¬ (k : Int) < (len : Int) := by omega
      obtain rfl : k = len := by omega
      go_wp2
      go_ret
      have e1 := HE.out
      rw [e1, List.take_length]
      exact ⟨rfl, HG.out⟩

end Go.Proofs.Ytnighnkkeiegnab
