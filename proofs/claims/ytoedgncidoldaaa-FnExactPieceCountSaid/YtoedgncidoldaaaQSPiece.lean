/-
  Slices of Piece, on the law's side: measured, copied, compared, marked, held.
-/
import Derived.Test.YtoedgncidoldaaaShpI
import Derived.Test.YtoedgncidoldaaaQPiece
import Derived.Test.YtoedgncidoldaaaDPiece
import Derived.Test.YtoedgncidoldaaaGreg
import Derived.Deep.RegionHeld3
namespace Go.Proofs.Ytoedgncidoldaaa
open Go Go.RowKit
set_option linter.unusedVariables false

set_option maxRecDepth 100000 in
theorem infoPieceS : (Try.prog.info? 62).map (fun i => (i.zero, i.size, i.bytes)) = some (some (.agg #[.int .i64 0, .int .i64 0]), 2, 16) := by kernel_rfl

set_option maxRecDepth 8000 in
set_option maxHeartbeats 4000000 in
theorem eqPieceS_d (W : World) (v1 v2 : Value) (xs : List DPiece) (H1 : RdL shPiece W v1 xs) (H2 : RdL shPiece W v2 xs) (hl : szL shPiece xs ≤ 1048576) :
    Calls Try.prog 47 #[v1, v2] W (AnsN (.bool true) W) := by
  obtain ⟨a, cap, rfl, hcap, _, H1⟩ := H1
  obtain ⟨a', cap', rfl, hcap', _, H2⟩ := H2
  have HC := Lib.hid H1
  have HC' := Lib.hid H2
  have HS := Lib.hid hl
  obtain ⟨len, hlen⟩ : ∃ len, len = xs.length := ⟨_, rfl⟩
  have HE := Lib.hid hlen
  have hl1 : len ≤ 1048576 := by have := szL_len shPiece xs; omega
  rw [← hlen]
  clear H1 H2 hl hlen hcap hcap'
  have hz : ((len : Int) != (len : Int)) = false := by simp
  go_enter Try.func47, Try.ntmps47
  go_wp2
  go_loopw [5] (fun i wr => ∃ k : Nat, k ≤ len ∧ i = .int .i64 (k : Int) ∧ W.grownBy wr none) (fun i _ => len - (intOf i).toNat)
  case atStart => exact ⟨0, Nat.zero_le _, rfl, gby_refl _ _⟩
  case round =>
    obtain ⟨k, hk, rfl, hg⟩ := hrel
    have HG := Lib.hid hg
    clear hg
    by_cases hlt : k < len
    · have hki : (k : Int) < (len : Int) := by omega
      have hk0 : (0 : Int) ≤ (k : Int) := by omega
      have htn : ((k : Int)).toNat = k := by omega
      have hke : k < xs.length := by have := HE.out; omega
      obtain ⟨b, off, rfl, hcell⟩ := HC.out.resolve_left (by omega)
      obtain ⟨cs, hat, hrd⟩ := hcell k hke
      obtain ⟨x, hx⟩ : ∃ x, x = xs.getD k default := ⟨_, rfl⟩
      rw [← hx] at hrd
      have HX := Lib.hid hx
      have hzx : shPiece.size x ≤ 1048576 := by have q1 := szL_at shPiece xs k hke; have q2 := HS.out; rw [hx]; omega
      clear hcell
      obtain rfl := hrd
      obtain ⟨b', off', rfl, hcell'⟩ := HC'.out.resolve_left (by omega)
      obtain ⟨cs', hat', hrd'⟩ := hcell' k hke
      rw [← hx] at hrd'
      clear hcell' hx
      obtain rfl := hrd'
      have c0_ : (wr).cell? ⟨b, off + k * 2, none⟩ = some (.int .i64 x.f0) := HG.out.cell (at_cell (j := 0) hat rfl) (by simp)
      have c1_ : (wr).cell? ⟨b, off + k * 2 + 1, none⟩ = some (.int .i64 x.f1) := HG.out.cell (at_cell (j := 1) hat rfl) (by simp)
      have d0_ : (wr).cell? ⟨b', off' + k * 2, none⟩ = some (.int .i64 x.f0) := HG.out.cell (at_cell (j := 0) hat' rfl) (by simp)
      have d1_ : (wr).cell? ⟨b', off' + k * 2 + 1, none⟩ = some (.int .i64 x.f1) := HG.out.cell (at_cell (j := 1) hat' rfl) (by simp)
      go_wp2_with fail
      refine wp_region_grow (by kernel_rfl) (by kernel_rfl) ?_
      repeat (first
        | (refine gq_no (by rfl) ?_; (try simp only [Act.put, List.setIfInBounds_toArray, List.set_cons_zero, List.set_cons_succ]))
        | (refine gq_yes (by rfl) ?_ (fun wq hq => ?_) ?_; rotate_left; (· (go_simp; go_at_call 63; refine ((show Calls Try.prog 63 #[.agg #[.int .i64 x.f0, .int .i64 x.f1], .agg #[.int .i64 x.f0, .int .i64 x.f1]] _ (AnsN (.bool true) _) from eqPiece_d _ x.f0 x.f1   )).mono ?_; rintro e wr ⟨rfl, gr⟩; refine And.intro ?_ (gby_trans hq gr); rfl)); (try simp only [Act.put, List.setIfInBounds_toArray, List.set_cons_zero, List.set_cons_succ]))
        | (refine gq_yes (by rfl) ?_ (fun wq hq => ?_) ?_; rotate_left; (· (have y0 := hq.cell c0_ (by simp); have y1 := hq.cell c1_ (by simp); have y2 := hq.cell d0_ (by simp); have y3 := hq.cell d1_ (by simp); go_simp; (try rfl))); (try simp only [Act.put, List.setIfInBounds_toArray, List.set_cons_zero, List.set_cons_succ])))
      refine gq_nil ?_
      intro w1 g1
      have G1 := Lib.hid (gby_trans HG.out g1)
      clear g1
      go_wp2
      exact ⟨⟨k + 1, by omega, by go_num, G1.out⟩, by simp [intOf]; omega⟩
    · have hki : ¬ (k : Int) < (len : Int) := by omega
      go_wp2
      go_ret
      exact ⟨rfl, HG.out⟩

set_option maxRecDepth 8000 in
set_option maxHeartbeats 4000000 in
theorem markPieceS_d (w : World) (lo hi m : Nat) (v : Value) (xs : List DPiece) (h1 : OwL shPiece w lo hi v xs) (hl : szL shPiece xs ≤ 1048576) (hm2 : m + ecL shPiece xs ≤ 900000000) :
    Calls Try.prog 48 #[v, .int .i64 (m : Int)] w (fun e w' => e = .returned (.int .i64 ((m + ecL shPiece xs : Nat) : Int)) ∧ OwL shPiece w' lo hi v (emL shPiece m xs) ∧ Chg w w' lo hi) := by
  obtain ⟨a, cap, rfl, hcap, hmx, hp, H⟩ := h1
  have hl1 : xs.length ≤ 1048576 := by have := szL_len shPiece xs; omega
  by_cases h0 : xs.length = 0
  · have hnil : xs = [] := List.length_eq_zero_iff.1 h0
    subst hnil
    have HP := Lib.hid hp
    have HK := Lib.hid hcap
    clear H hp hcap h0 hl hm2 hmx hl1
    have hm0 : ((m + ecL shPiece [] : Nat) : Int) = (m : Int) := by simp [ecL]
    rw [hm0]
    clear hm0
    go_enter Try.func48, Try.ntmps48
    go_wp2
    go_loopw [1, 5] (fun q i wr => i = .int .i64 0 ∧ q = .int .i64 (m : Int) ∧ w = wr) (fun _ _ _ => 0)
    case atStart => exact ⟨rfl, rfl, rfl⟩
    case round =>
      obtain ⟨rfl, rfl, rfl⟩ := hrel
      go_wp2
      go_ret
      exact ⟨rfl, ⟨a, cap, rfl, HK.out, Nat.zero_le _, HP.out, .inl rfl⟩, chg_gby (gby_refl _ _) _ _⟩
  obtain ⟨b, off, P, Q, C0, t, rfl, hrow, hel, hdis⟩ := H.resolve_left h0
  have hbl := hp _ rfl
  have HQ := Lib.hid (fun k hk => (⟨(hel k hk).1, (hel k hk).2.1, (hel k hk).2.2.1⟩ : lo ≤ P k ∧ Q k ≤ hi ∧ (b < P k ∨ Q k ≤ b)))
  have hM0 : Mkd shPiece w b off C0 P Q xs m 0 := fun j hj => by
    obtain ⟨_, _, _, cs, q1, q2⟩ := hel j hj
    exact ⟨cs, shPiece.len (shPiece.read q2), q1, by rw [if_neg (Nat.not_lt_zero _)]; exact q2⟩
  have HM0 := Lib.hid hM0
  have HD := Lib.hid hdis
  have HR0 := Lib.hid hrow
  have HK := Lib.hid hcap
  have HMX := Lib.hid hmx
  have HT := Lib.hid hm2
  have HBL := Lib.hid hbl
  have HS := Lib.hid hl
  obtain ⟨len, hlen⟩ : ∃ len, len = xs.length := ⟨_, rfl⟩
  have HE := Lib.hid hlen
  rw [← hlen] at hl1 ⊢
  clear hM0 hdis hrow hcap hmx hm2 hbl hel hp H h0 hl hlen
  go_enter Try.func48, Try.ntmps48
  go_wp2
  go_loopw [1, 5] (fun q i wr => ∃ (k : Nat) (C : Array Value), k ≤ len ∧ i = .int .i64 (k : Int) ∧ q = .int .i64 ((m + ecL shPiece (xs.take k) : Nat) : Int) ∧ wr.heap[b]? = some (.cells C t (0, 0)) ∧ Mkd shPiece wr b off C P Q xs m k ∧ Chg w wr lo hi) (fun _ i _ => len - (intOf i).toNat)
  case atStart => exact ⟨0, C0, Nat.zero_le _, rfl, by simp [ecL], HR0.out, HM0.out, chg_gby (gby_refl _ _) _ _⟩
  case round =>
    obtain ⟨k, C, hk, rfl, rfl, hrow, hM, hG⟩ := hrel
    have HR := Lib.hid hrow
    have HM := Lib.hid hM
    have HG := Lib.hid hG
    clear hrow hM hG
    by_cases hlt : k < len
    · have hki : (k : Int) < (len : Int) := by omega
      have hk0 : (0 : Int) ≤ (k : Int) := by omega
      have htn : ((k : Int)).toNat = k := by omega
      have hke : k < xs.length := by have := HE.out; omega
      obtain ⟨cs, hcl, hcc, how⟩ := HM.out k hke
      rw [if_neg (Nat.lt_irrefl _)] at how
      obtain ⟨x, hx⟩ : ∃ x, x = xs.getD k default := ⟨_, rfl⟩
      rw [← hx] at how
      have hec := ecL_take_succ shPiece xs k hke
      have hecl := ecL_take_le shPiece xs (k + 1)
      rw [← hx] at hec
      obtain ⟨z, hz⟩ : ∃ z, z = m + ecL shPiece (xs.take k) := ⟨_, rfl⟩
      rw [← hz]
      have hzb : z + shPiece.ec x ≤ 900000000 := by have := HT.out; omega
      have HZ := Lib.hid hz
      have HEC := Lib.hid hec
      have HX := Lib.hid hx
      have hzx : shPiece.size x ≤ 1048576 := by have q1 := szL_at shPiece xs k hke; have q2 := HS.out; rw [hx]; omega
      obtain rfl := how
      have hin : off + (k + 1) * 2 ≤ C.size := by
        have q := hcc 1 (by simp)
        have q2 : off + k * 2 + 1 < C.size := (Array.getElem?_eq_some_iff.1 (q.trans rfl)).1
        omega
      simp only [shPiece] at hzb hzx
      have HIN := Lib.hid hin
      clear hec hecl hz hx hin
      have t0_ : wr.cell? ⟨b, off + k * 2, none⟩ = some (.int .i64 x.f0) := (cell_of_row wr _ _ _ _ _ HR.out).trans (hcc 0 (by simp))
      have u0_ : wr.frozen? ⟨b, off + k * 2, none⟩ = false := frozen_of_row wr _ _ _ _ HR.out
      have t1_ : wr.cell? ⟨b, off + k * 2 + 1, none⟩ = some (.int .i64 x.f1) := (cell_of_row wr _ _ _ _ _ HR.out).trans (hcc 1 (by simp))
      have u1_ : wr.frozen? ⟨b, off + k * 2 + 1, none⟩ = false := frozen_of_row wr _ _ _ _ HR.out
      clear hcc hcl
      have hqk := (HQ.out k hke).2.2
      have hpk := (HQ.out k hke).1
      have hpq := (HQ.out k hke).2.1
      have hbl1 := HBL.out.1
      have hbl2 := HBL.out.2
      go_wp2
      have hn := mkd_next (m := m) (cs := [.int .i64 ((z : Nat) : Int), .int .i64 ((z + 1 : Nat) : Int)]) (C' := putC C (off + k * 2) [.int .i64 ((z : Nat) : Int), .int .i64 ((z + 1 : Nat) : Int)]) HM.out (fun j hj e ds y o => o) (fun i hi => ?hin) (fun p hp => ?hout) (show shPiece.ow _ _ _ _ _ from by rw [← HX.out, ← HZ.out]; rfl)
      case hin => exact putC_in [.int .i64 ((z : Nat) : Int), .int .i64 ((z + 1 : Nat) : Int)] C (off + k * 2) i hi (by have := HIN.out; simp only [List.length_cons, List.length_nil]; omega)
      case hout =>
        have hp' : p < off + k * 2 ∨ off + (k + 1) * 2 ≤ p := hp
        exact putC_out [.int .i64 ((z : Nat) : Int), .int .i64 ((z + 1 : Nat) : Int)] C (off + k * 2) p (by simp only [List.length_cons, List.length_nil]; omega)
      refine ⟨⟨k + 1, putC C (off + k * 2) [.int .i64 ((z : Nat) : Int), .int .i64 ((z + 1 : Nat) : Int)], by omega, by go_num, ?_, ?_, ?_, ?_⟩, by simp [intOf]; omega⟩
      · have q1 := HZ.out
        have q2 := HEC.out
        rw [q2, ← Nat.add_assoc, ← q1]
        simp only [shPiece]
        congr 1
      · exact putW_heap [.int .i64 ((z : Nat) : Int), .int .i64 ((z + 1 : Nat) : Int)] HR.out
      · exact hn
      · exact chg_trans HG.out (chg_wide (putW_chg [.int .i64 ((z : Nat) : Int), .int .i64 ((z + 1 : Nat) : Int)] wr b (off + k * 2)) hbl1 hbl2)
    · have hki : ¬ (k : Int) < (len : Int) := by omega
      obtain rfl : k = len := by omega
      go_wp2
      go_ret
      have e1 := HE.out
      have hM := HM.out
      rw [e1] at hM ⊢
      exact ⟨by rw [List.take_length]; rfl, mkd_all hM HBL.out.1 HBL.out.2 HR.out (by have := HK.out.2; omega) HMX.out (fun j hj => HQ.out j hj) HD.out, HG.out⟩

set_option maxRecDepth 8000 in
set_option maxHeartbeats 4000000 in
theorem heldPieceS_d (w : World) (m : Nat) (v : Value) (xs : List DPiece) (H : RdL shPiece w v (emL shPiece m xs)) (hl : szL shPiece xs ≤ 1048576) (hm2 : m + ecL shPiece xs ≤ 900000000) :
    Calls Try.prog 49 #[v, .int .i64 (m : Int)] w (AnsN (.int .i64 ((m + ecL shPiece xs : Nat) : Int)) w) := by
  obtain ⟨a, cap, rfl, _, _, H⟩ := H
  have hl1 : xs.length ≤ 1048576 := by have := szL_len shPiece xs; omega
  rw [emL_length] at H ⊢
  have HC := Lib.hid H
  have HT := Lib.hid hm2
  have HS := Lib.hid hl
  obtain ⟨len, hlen⟩ : ∃ len, len = xs.length := ⟨_, rfl⟩
  have HE := Lib.hid hlen
  rw [← hlen] at hl1 ⊢
  clear H hm2 hl hlen
  go_enter Try.func49, Try.ntmps49
  go_wp2
  go_loopw [1, 5] (fun q i wr => ∃ k : Nat, k ≤ len ∧ i = .int .i64 (k : Int) ∧ q = .int .i64 ((m + ecL shPiece (xs.take k) : Nat) : Int) ∧ w.grownBy wr none) (fun _ i _ => len - (intOf i).toNat)
  case atStart => exact ⟨0, Nat.zero_le _, rfl, by simp [ecL], gby_refl _ _⟩
  case round =>
    obtain ⟨k, hk, rfl, rfl, hg⟩ := hrel
    have HG := Lib.hid hg
    clear hg
    by_cases hlt : k < len
    · have hki : (k : Int) < (len : Int) := by omega
      have hk0 : (0 : Int) ≤ (k : Int) := by omega
      have htn : ((k : Int)).toNat = k := by omega
      have hke : k < xs.length := by have := HE.out; omega
      obtain ⟨b, off, rfl, hcell⟩ := HC.out.resolve_left (by omega)
      obtain ⟨cs, hat, hrd⟩ := hcell k hke
      rw [emL_getD shPiece m xs k hke] at hrd
      obtain ⟨x, hx⟩ : ∃ x, x = xs.getD k default := ⟨_, rfl⟩
      rw [← hx] at hrd
      have hec := ecL_take_succ shPiece xs k hke
      have hecl := ecL_take_le shPiece xs (k + 1)
      rw [← hx] at hec
      obtain ⟨z, hz⟩ : ∃ z, z = m + ecL shPiece (xs.take k) := ⟨_, rfl⟩
      rw [← hz] at hrd ⊢
      have hzb : z + shPiece.ec x ≤ 900000000 := by have := HT.out; omega
      have hzx : shPiece.size x ≤ 1048576 := by have q1 := szL_at shPiece xs k hke; have q2 := HS.out; rw [hx]; omega
      have HF := Lib.hid (show z + 2 = m + ecL shPiece (xs.take (k + 1)) from by
        have q3 : shPiece.ec x = 2 := rfl
        omega)
      obtain rfl := hrd
      have c0_ : wr.cell? ⟨b, off + k * 2, none⟩ = some (.int .i64 ((z : Int))) := by
        have q : wr.cell? ⟨b, off + k * 2, none⟩ = some (.int .i64 ((z : Nat) : Int)) := HG.out.cell (at_cell (j := 0) hat rfl) (by simp)
        exact q.trans (by first | rfl | (congr 2; omega))
      have c1_ : wr.cell? ⟨b, off + k * 2 + 1, none⟩ = some (.int .i64 ((z : Int) + 1)) := by
        have q : wr.cell? ⟨b, off + k * 2 + 1, none⟩ = some (.int .i64 ((z + 1 : Nat) : Int)) := HG.out.cell (at_cell (j := 1) hat rfl) (by simp)
        exact q.trans (by first | rfl | (congr 2; omega))
      simp only [shPiece] at hzb hzx
      clear hec hecl hz hx hat hcell
      go_wp2
      exact ⟨⟨k + 1, by omega, by go_num, (by rw [← HF.out]; go_num), HG.out⟩, by simp [intOf]; omega⟩
    · have hki : ¬ (k : Int) < (len : Int) := by omega
      obtain rfl : k = len := by omega
      go_wp2
      go_ret
      have e1 := HE.out
      rw [e1, List.take_length]
      exact ⟨rfl, HG.out⟩

end Go.Proofs.Ytoedgncidoldaaa
