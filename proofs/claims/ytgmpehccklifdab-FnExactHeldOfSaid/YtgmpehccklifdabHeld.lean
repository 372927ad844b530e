/-
  HeldOf on both sides.
-/
import Derived.Test.YtgmpehccklifdabPkD
import Derived.Test.YtgmpehccklifdabQChannel
import Derived.Test.YtgmpehccklifdabQSPacket
import Derived.Test.YtgmpehccklifdabGreg
import Derived.Test.YtgmpehccklifdabRHeldOf
import Derived.Deep.RegionHeld3
namespace Go.Proofs.Ytgmpehccklifdab
open Go Go.RowKit
set_option linter.unusedVariables false

/-- how many of the first k packets are of a class -/
def cntD (xs : List DPacket) (c : Int) (k : Nat) : Nat := ((xs.take k).filter fun p => decide (0 ≤ clsD p ∧ clsD p = c)).length
theorem cntD_succ (xs : List DPacket) (c : Int) (k : Nat) (hk : k < xs.length) : cntD xs c (k + 1) = cntD xs c k + if 0 ≤ clsD (xs.getD k default) ∧ clsD (xs.getD k default) = c then 1 else 0 := by
  unfold cntD
  rw [List.take_succ_eq_append_getElem hk, List.filter_append, List.length_append, List.getD_eq_getElem?_getD, List.getElem?_eq_getElem hk, Option.getD_some]
  by_cases h : 0 ≤ clsD xs[k] ∧ clsD xs[k] = c
  · rw [if_pos h, List.filter_cons, if_pos (by simpa using h)]; rfl
  · rw [if_neg h, List.filter_cons, if_neg (by simpa using h)]; rfl
theorem cntD_le (xs : List DPacket) (c : Int) (k : Nat) : cntD xs c k ≤ k := by
  unfold cntD
  exact Nat.le_trans (List.length_filter_le _ _) (List.length_take_le _ _)

set_option maxRecDepth 8000 in
set_option maxHeartbeats 4000000 in
theorem specHeld_any (W : World) (v0 v1 v2 v3 v4 v5 : Value) (xs : List DPacket) (c : Int) (H4 : RdL shPacket W v4 xs) (hl4 : szL shPacket xs ≤ 1048576) :
    Calls Try.prog 46 #[vChannel v0 v1 v2 v3 v4 v5, .int .i64 c] W (AnsN (.int .i64 ((cntD xs c xs.length : Nat) : Int)) W) := by
  obtain ⟨a, cap, rfl, hcap, _, H⟩ := H4
  have HC := Lib.hid H
  have HS := Lib.hid hl4
  obtain ⟨len, hlen⟩ : ∃ len, len = xs.length := ⟨_, rfl⟩
  have HE := Lib.hid hlen
  have hl1 : len ≤ 1048576 := by have := szL_len shPacket xs; omega
  rw [← hlen]
  clear H hcap hl4 hlen
  unfold vChannel
  have HC0 := Lib.hid (heap_alloc_new W (.cells #[v0, v1, v2, v3, .slice a len cap, v5] 61))
  go_enter Try.func46, Try.ntmps46
  go_wp2
  go_loopw [5, 6] (fun q i wr => ∃ k : Nat, k ≤ len ∧ i = .int .i64 (k : Int) ∧ q = .int .i64 ((cntD xs c k : Nat) : Int) ∧ (W.alloc (.cells #[v0, v1, v2, v3, .slice a len cap, v5] 61)).grownBy wr none) (fun _ i _ => len - (intOf i).toNat)
  case atStart => exact ⟨0, Nat.zero_le _, rfl, by simp [cntD], gby_refl _ _⟩
  case round =>
    obtain ⟨k, hk, rfl, rfl, hg⟩ := hrel
    have HG := Lib.hid hg
    have GW := Lib.hid (gby_trans (gby_alloc (gby_refl W none) _) hg)
    have hr := row_held hg HC0.out
    have b4_ : wr.cell? ⟨W.heap.size, 4, none⟩ = some (.slice a len cap) := cell_of_row _ _ 4 _ _ _ hr
    clear hg hr
    by_cases hlt : k < len
    · have hki : (k : Int) < (len : Int) := by omega
      have hk0 : (0 : Int) ≤ (k : Int) := by omega
      have htn : ((k : Int)).toNat = k := by omega
      have hke : k < xs.length := by have := HE.out; omega
      obtain ⟨b, off, rfl, hcell⟩ := HC.out.resolve_left (by omega)
      obtain ⟨cs, hat, hrd⟩ := hcell k hke
      obtain ⟨x, hx⟩ : ∃ x, x = xs.getD k default := ⟨_, rfl⟩
      rw [← hx] at hrd
      have HX := Lib.hid hx
      have hzx : shPacket.size x ≤ 1048576 := by have q1 := szL_at shPacket xs k hke; have q2 := HS.out; rw [hx]; omega
      have hcn := cntD_succ xs c k hke
      rw [← hx] at hcn
      have HN := Lib.hid hcn
      have hcl := cntD_le xs c k
      clear hcell hx hcn
      obtain ⟨v7, rfl, r7⟩ := hrd
      obtain ⟨p7, n7, c7, hv7⟩ := RdL.form r7
      subst hv7
      have hz7 : szL shI x.f7 ≤ 1048576 := hzx
      have R7 := Lib.hid r7
      clear r7
      have c0_ : wr.cell? ⟨b, off + k * 8, none⟩ = some (.int .i64 x.f0) := GW.out.cell (at_cell (j := 0) hat rfl) (by simp)
      have c1_ : wr.cell? ⟨b, off + k * 8 + 1, none⟩ = some (.int .i64 x.f1) := GW.out.cell (at_cell (j := 1) hat rfl) (by simp)
      have c2_ : wr.cell? ⟨b, off + k * 8 + 2, none⟩ = some (.int .i64 x.f2) := GW.out.cell (at_cell (j := 2) hat rfl) (by simp)
      have c3_ : wr.cell? ⟨b, off + k * 8 + 3, none⟩ = some (.int .i64 x.f3) := GW.out.cell (at_cell (j := 3) hat rfl) (by simp)
      have c4_ : wr.cell? ⟨b, off + k * 8 + 4, none⟩ = some (.int .i64 x.f4) := GW.out.cell (at_cell (j := 4) hat rfl) (by simp)
      have c5_ : wr.cell? ⟨b, off + k * 8 + 5, none⟩ = some (.int .i64 x.f5) := GW.out.cell (at_cell (j := 5) hat rfl) (by simp)
      have c6_ : wr.cell? ⟨b, off + k * 8 + 6, none⟩ = some (.int .i64 x.f6) := GW.out.cell (at_cell (j := 6) hat rfl) (by simp)
      have c7_ : wr.cell? ⟨b, off + k * 8 + 7, none⟩ = some (.slice p7 n7 c7) := GW.out.cell (at_cell (j := 7) hat rfl) (by simp)
      clear hat
      obtain ⟨y, hy⟩ : ∃ y, y = cntD xs c k := ⟨_, rfl⟩
      rw [← hy] at hcl ⊢
      have HY := Lib.hid hy
      clear hy
      obtain ⟨ca, hca⟩ : ∃ ca, ca = clsD x := ⟨_, rfl⟩
      have HCA := Lib.hid hca
      clear hca
      by_cases hc : 0 ≤ c
      · by_cases he : ca = c
        · have hb : (ca == c) = true := by simpa using he
          have HB := Lib.hid he
          clear he
          go_wp2_with fail
          go_at_call 62
          have con := specClsD wr x (.slice p7 n7 c7) (R7.out.grow GW.out) hz7
          rw [← HCA.out] at con
          refine con.mono ?_
          rintro e w1 ⟨rfl, g1⟩
          have G1 := Lib.hid g1
          clear g1 con
          go_wp2
          refine ⟨⟨k + 1, by omega, by go_num, ?_, ?_⟩, by simp [intOf]; omega⟩
          · have q1 := HN.out
            have q2 := HY.out
            rw [q1, if_pos ⟨by have := HCA.out; have := HB.out; omega, by have := HCA.out; have := HB.out; omega⟩, ← q2]
            go_num
          · exact gby_trans HG.out G1.out
        · have hb : (ca == c) = false := by simpa using he
          go_wp2_with fail
          go_at_call 62
          have con := specClsD wr x (.slice p7 n7 c7) (R7.out.grow GW.out) hz7
          rw [← HCA.out] at con
          refine con.mono ?_
          rintro e w1 ⟨rfl, g1⟩
          have G1 := Lib.hid g1
          clear g1 con
          go_wp2
          refine ⟨⟨k + 1, by omega, by go_num, ?_, ?_⟩, by simp [intOf]; omega⟩
          · have q1 := HN.out
            have q2 := HY.out
            rw [q1, if_neg (by have := HCA.out; omega), ← q2]
            rfl
          · exact gby_trans HG.out G1.out
      · have hd : decide (0 ≤ c) = false := decide_eq_false hc
        go_wp2
        refine ⟨⟨k + 1, by omega, by go_num, ?_, ?_⟩, by simp [intOf]; omega⟩
        · have q1 := HN.out
          have q2 := HY.out
          rw [q1, if_neg (by have := HCA.out; omega), ← q2]
          rfl
        · exact HG.out
    · have hki : ¬ (k : Int) < (len : Int) := by omega
      obtain rfl : k = len := by omega
      go_wp2
      go_ret
      exact ⟨rfl, GW.out⟩

set_option maxRecDepth 8000 in
set_option maxHeartbeats 4000000 in
theorem implHeld_any (W : World) (v0 v1 v2 v3 v4 v5 : Value) (xs : List DPacket) (c : Int) (H4 : RdL shPacket W v4 xs) (hl4 : szL shPacket xs ≤ 1048576) :
    Calls Try.prog 48 #[vChannel v0 v1 v2 v3 v4 v5, .int .i64 c] W (AnsN (.int .i64 ((cntD xs c xs.length : Nat) : Int)) W) := by
  obtain ⟨a, cap, rfl, hcap, _, H⟩ := H4
  have HC := Lib.hid H
  have HS := Lib.hid hl4
  obtain ⟨len, hlen⟩ : ∃ len, len = xs.length := ⟨_, rfl⟩
  have HE := Lib.hid hlen
  have hl1 : len ≤ 1048576 := by have := szL_len shPacket xs; omega
  rw [← hlen]
  clear H hcap hl4 hlen
  unfold vChannel
  have HC0 := Lib.hid (heap_alloc_new W (.cells #[v0, v1, v2, v3, .slice a len cap, v5] 61))
  go_enter Try.func48, Try.ntmps48
  go_wp2
  go_loopw [5, 11] (fun q i wr => ∃ k : Nat, k ≤ len ∧ i = .int .i64 (k : Int) ∧ q = .int .i64 ((cntD xs c k : Nat) : Int) ∧ (W.alloc (.cells #[v0, v1, v2, v3, .slice a len cap, v5] 61)).grownBy wr none) (fun _ i _ => len - (intOf i).toNat)
  case atStart => exact ⟨0, Nat.zero_le _, rfl, by simp [cntD], gby_refl _ _⟩
  case round =>
    obtain ⟨k, hk, rfl, rfl, hg⟩ := hrel
    have HG := Lib.hid hg
    have GW := Lib.hid (gby_trans (gby_alloc (gby_refl W none) _) hg)
    clear hg
    by_cases hlt : k < len
    · have hki : (k : Int) < (len : Int) := by omega
      have hk0 : (0 : Int) ≤ (k : Int) := by omega
      have htn : ((k : Int)).toNat = k := by omega
      have hke : k < xs.length := by have := HE.out; omega
      obtain ⟨b, off, rfl, hcell⟩ := HC.out.resolve_left (by omega)
      obtain ⟨cs, hat, hrd⟩ := hcell k hke
      obtain ⟨x, hx⟩ : ∃ x, x = xs.getD k default := ⟨_, rfl⟩
      rw [← hx] at hrd
      have HX := Lib.hid hx
      have hzx : shPacket.size x ≤ 1048576 := by have q1 := szL_at shPacket xs k hke; have q2 := HS.out; rw [hx]; omega
      have hcn := cntD_succ xs c k hke
      rw [← hx] at hcn
      have HN := Lib.hid hcn
      have hcl := cntD_le xs c k
      clear hcell hx hcn
      obtain ⟨v7, rfl, r7⟩ := hrd
      obtain ⟨p7, n7, c7, hv7⟩ := RdL.form r7
      subst hv7
      have hz7 : szL shI x.f7 ≤ 1048576 := hzx
      have R7 := Lib.hid r7
      clear r7
      have c0_ : wr.cell? ⟨b, off + k * 8, none⟩ = some (.int .i64 x.f0) := GW.out.cell (at_cell (j := 0) hat rfl) (by simp)
      have c1_ : wr.cell? ⟨b, off + k * 8 + 1, none⟩ = some (.int .i64 x.f1) := GW.out.cell (at_cell (j := 1) hat rfl) (by simp)
      have c2_ : wr.cell? ⟨b, off + k * 8 + 2, none⟩ = some (.int .i64 x.f2) := GW.out.cell (at_cell (j := 2) hat rfl) (by simp)
      have c3_ : wr.cell? ⟨b, off + k * 8 + 3, none⟩ = some (.int .i64 x.f3) := GW.out.cell (at_cell (j := 3) hat rfl) (by simp)
      have c4_ : wr.cell? ⟨b, off + k * 8 + 4, none⟩ = some (.int .i64 x.f4) := GW.out.cell (at_cell (j := 4) hat rfl) (by simp)
      have c5_ : wr.cell? ⟨b, off + k * 8 + 5, none⟩ = some (.int .i64 x.f5) := GW.out.cell (at_cell (j := 5) hat rfl) (by simp)
      have c6_ : wr.cell? ⟨b, off + k * 8 + 6, none⟩ = some (.int .i64 x.f6) := GW.out.cell (at_cell (j := 6) hat rfl) (by simp)
      have c7_ : wr.cell? ⟨b, off + k * 8 + 7, none⟩ = some (.slice p7 n7 c7) := GW.out.cell (at_cell (j := 7) hat rfl) (by simp)
      clear hat
      obtain ⟨y, hy⟩ : ∃ y, y = cntD xs c k := ⟨_, rfl⟩
      rw [← hy] at hcl ⊢
      have HY := Lib.hid hy
      clear hy
      obtain ⟨ca, hca⟩ : ∃ ca, ca = clsD x := ⟨_, rfl⟩
      have HCA := Lib.hid hca
      clear hca
      by_cases hc : 0 ≤ ca
      · by_cases he : ca = c
        · have hb : (ca == c) = true := by simpa using he
          have HB := Lib.hid he
          clear he
          go_wp2_with fail
          go_at_call 63
          have gb := gby_alloc GW.out (.cells #[.int .i64 x.f0, .int .i64 x.f1, .int .i64 x.f2, .int .i64 x.f3, .int .i64 x.f4, .int .i64 x.f5, .int .i64 x.f6, .slice p7 n7 c7] 27)
          have con := implPkD (wr.alloc (.cells #[.int .i64 x.f0, .int .i64 x.f1, .int .i64 x.f2, .int .i64 x.f3, .int .i64 x.f4, .int .i64 x.f5, .int .i64 x.f6, .slice p7 n7 c7] 27)) x (.slice p7 n7 c7) (R7.out.grow gb) hz7 true (by have := HCA.out; rw [← this]; exact (decide_eq_true (by omega)).symm)
          refine con.mono ?_
          rintro e w1 ⟨rfl, g1⟩
          have G1 := Lib.hid (gby_trans gb g1)
          have hrp := row_held g1 (heap_alloc_new wr (.cells #[.int .i64 x.f0, .int .i64 x.f1, .int .i64 x.f2, .int .i64 x.f3, .int .i64 x.f4, .int .i64 x.f5, .int .i64 x.f6, .slice p7 n7 c7] 27))
          have p0_ : w1.cell? ⟨wr.heap.size, 0, none⟩ = some (.int .i64 x.f0) := cell_of_row _ _ 0 _ _ _ hrp
          have p1_ : w1.cell? ⟨wr.heap.size, 1, none⟩ = some (.int .i64 x.f1) := cell_of_row _ _ 1 _ _ _ hrp
          have p2_ : w1.cell? ⟨wr.heap.size, 2, none⟩ = some (.int .i64 x.f2) := cell_of_row _ _ 2 _ _ _ hrp
          have p3_ : w1.cell? ⟨wr.heap.size, 3, none⟩ = some (.int .i64 x.f3) := cell_of_row _ _ 3 _ _ _ hrp
          have p4_ : w1.cell? ⟨wr.heap.size, 4, none⟩ = some (.int .i64 x.f4) := cell_of_row _ _ 4 _ _ _ hrp
          have p5_ : w1.cell? ⟨wr.heap.size, 5, none⟩ = some (.int .i64 x.f5) := cell_of_row _ _ 5 _ _ _ hrp
          have p6_ : w1.cell? ⟨wr.heap.size, 6, none⟩ = some (.int .i64 x.f6) := cell_of_row _ _ 6 _ _ _ hrp
          have p7_ : w1.cell? ⟨wr.heap.size, 7, none⟩ = some (.slice p7 n7 c7) := cell_of_row _ _ 7 _ _ _ hrp
          have G1b := Lib.hid (gby_trans HG.out (gby_trans (gby_alloc (gby_refl wr none) _) g1))
          clear gb con g1 hrp
          go_wp2_with fail
          go_at_call 25
          have con := implClsD w1 x (.slice p7 n7 c7) (R7.out.grow G1.out) hz7
          rw [← HCA.out] at con
          refine con.mono ?_
          rintro e w2 ⟨rfl, g2⟩
          have G2 := Lib.hid (gby_trans G1b.out g2)
          clear g2 con p0_ p1_ p2_ p3_ p4_ p5_ p6_ p7_
          go_wp2
          refine ⟨⟨k + 1, by omega, by go_num, ?_, ?_⟩, by simp [intOf]; omega⟩
          · have q1 := HN.out
            have q2 := HY.out
            rw [q1, if_pos ⟨by have := HCA.out; have := HB.out; omega, by have := HCA.out; have := HB.out; omega⟩, ← q2]
            go_num
          · exact G2.out
        · have hb : (ca == c) = false := by simpa using he
          go_wp2_with fail
          go_at_call 63
          have gb := gby_alloc GW.out (.cells #[.int .i64 x.f0, .int .i64 x.f1, .int .i64 x.f2, .int .i64 x.f3, .int .i64 x.f4, .int .i64 x.f5, .int .i64 x.f6, .slice p7 n7 c7] 27)
          have con := implPkD (wr.alloc (.cells #[.int .i64 x.f0, .int .i64 x.f1, .int .i64 x.f2, .int .i64 x.f3, .int .i64 x.f4, .int .i64 x.f5, .int .i64 x.f6, .slice p7 n7 c7] 27)) x (.slice p7 n7 c7) (R7.out.grow gb) hz7 true (by have := HCA.out; rw [← this]; exact (decide_eq_true (by omega)).symm)
          refine con.mono ?_
          rintro e w1 ⟨rfl, g1⟩
          have G1 := Lib.hid (gby_trans gb g1)
          have hrp := row_held g1 (heap_alloc_new wr (.cells #[.int .i64 x.f0, .int .i64 x.f1, .int .i64 x.f2, .int .i64 x.f3, .int .i64 x.f4, .int .i64 x.f5, .int .i64 x.f6, .slice p7 n7 c7] 27))
          have p0_ : w1.cell? ⟨wr.heap.size, 0, none⟩ = some (.int .i64 x.f0) := cell_of_row _ _ 0 _ _ _ hrp
          have p1_ : w1.cell? ⟨wr.heap.size, 1, none⟩ = some (.int .i64 x.f1) := cell_of_row _ _ 1 _ _ _ hrp
          have p2_ : w1.cell? ⟨wr.heap.size, 2, none⟩ = some (.int .i64 x.f2) := cell_of_row _ _ 2 _ _ _ hrp
          have p3_ : w1.cell? ⟨wr.heap.size, 3, none⟩ = some (.int .i64 x.f3) := cell_of_row _ _ 3 _ _ _ hrp
          have p4_ : w1.cell? ⟨wr.heap.size, 4, none⟩ = some (.int .i64 x.f4) := cell_of_row _ _ 4 _ _ _ hrp
          have p5_ : w1.cell? ⟨wr.heap.size, 5, none⟩ = some (.int .i64 x.f5) := cell_of_row _ _ 5 _ _ _ hrp
          have p6_ : w1.cell? ⟨wr.heap.size, 6, none⟩ = some (.int .i64 x.f6) := cell_of_row _ _ 6 _ _ _ hrp
          have p7_ : w1.cell? ⟨wr.heap.size, 7, none⟩ = some (.slice p7 n7 c7) := cell_of_row _ _ 7 _ _ _ hrp
          have G1b := Lib.hid (gby_trans HG.out (gby_trans (gby_alloc (gby_refl wr none) _) g1))
          clear gb con g1 hrp
          go_wp2_with fail
          go_at_call 25
          have con := implClsD w1 x (.slice p7 n7 c7) (R7.out.grow G1.out) hz7
          rw [← HCA.out] at con
          refine con.mono ?_
          rintro e w2 ⟨rfl, g2⟩
          have G2 := Lib.hid (gby_trans G1b.out g2)
          clear g2 con p0_ p1_ p2_ p3_ p4_ p5_ p6_ p7_
          go_wp2
          refine ⟨⟨k + 1, by omega, by go_num, ?_, ?_⟩, by simp [intOf]; omega⟩
          · have q1 := HN.out
            have q2 := HY.out
            rw [q1, if_neg (by have := HCA.out; omega), ← q2]
            rfl
          · exact G2.out
      · skip
        go_wp2_with fail
        go_at_call 63
        have gb := gby_alloc GW.out (.cells #[.int .i64 x.f0, .int .i64 x.f1, .int .i64 x.f2, .int .i64 x.f3, .int .i64 x.f4, .int .i64 x.f5, .int .i64 x.f6, .slice p7 n7 c7] 27)
        have con := implPkD (wr.alloc (.cells #[.int .i64 x.f0, .int .i64 x.f1, .int .i64 x.f2, .int .i64 x.f3, .int .i64 x.f4, .int .i64 x.f5, .int .i64 x.f6, .slice p7 n7 c7] 27)) x (.slice p7 n7 c7) (R7.out.grow gb) hz7 false (by have := HCA.out; rw [← this]; exact (decide_eq_false (by omega)).symm)
        refine con.mono ?_
        rintro e w1 ⟨rfl, g1⟩
        have G1 := Lib.hid (gby_trans gb g1)
        have hrp := row_held g1 (heap_alloc_new wr (.cells #[.int .i64 x.f0, .int .i64 x.f1, .int .i64 x.f2, .int .i64 x.f3, .int .i64 x.f4, .int .i64 x.f5, .int .i64 x.f6, .slice p7 n7 c7] 27))
        have p0_ : w1.cell? ⟨wr.heap.size, 0, none⟩ = some (.int .i64 x.f0) := cell_of_row _ _ 0 _ _ _ hrp
        have p1_ : w1.cell? ⟨wr.heap.size, 1, none⟩ = some (.int .i64 x.f1) := cell_of_row _ _ 1 _ _ _ hrp
        have p2_ : w1.cell? ⟨wr.heap.size, 2, none⟩ = some (.int .i64 x.f2) := cell_of_row _ _ 2 _ _ _ hrp
        have p3_ : w1.cell? ⟨wr.heap.size, 3, none⟩ = some (.int .i64 x.f3) := cell_of_row _ _ 3 _ _ _ hrp
        have p4_ : w1.cell? ⟨wr.heap.size, 4, none⟩ = some (.int .i64 x.f4) := cell_of_row _ _ 4 _ _ _ hrp
        have p5_ : w1.cell? ⟨wr.heap.size, 5, none⟩ = some (.int .i64 x.f5) := cell_of_row _ _ 5 _ _ _ hrp
        have p6_ : w1.cell? ⟨wr.heap.size, 6, none⟩ = some (.int .i64 x.f6) := cell_of_row _ _ 6 _ _ _ hrp
        have p7_ : w1.cell? ⟨wr.heap.size, 7, none⟩ = some (.slice p7 n7 c7) := cell_of_row _ _ 7 _ _ _ hrp
        have G1b := Lib.hid (gby_trans HG.out (gby_trans (gby_alloc (gby_refl wr none) _) g1))
        clear gb con g1 hrp
        clear p0_ p1_ p2_ p3_ p4_ p5_ p6_ p7_
        go_wp2
        refine ⟨⟨k + 1, by omega, by go_num, ?_, ?_⟩, by simp [intOf]; omega⟩
        · have q1 := HN.out
          have q2 := HY.out
          rw [q1, if_neg (by have := HCA.out; omega), ← q2]
          rfl
        · exact G1b.out
    · have hki : ¬ (k : Int) < (len : Int) := by omega
      obtain rfl : k = len := by omega
      go_wp2
      go_ret
      exact ⟨rfl, GW.out⟩

theorem heldOf_both (xs0_0 xs0_1 xs0_2 xs0_3 : List Int) (xs0_4 xs0_5 : List DPacket) (i1 : Int) (_ : szL shI xs0_0 ≤ 1048576) (_ : szL shI xs0_1 ≤ 1048576) (_ : szL shI xs0_2 ≤ 1048576) (_ : szL shI xs0_3 ≤ 1048576) (h4 : szL shPacket xs0_4 ≤ 1048576) (_ : szL shPacket xs0_5 ≤ 1048576) :
    ∃ ir0 : Int, (∀ (W : World), ∀ u0_0 u0_1 u0_2 u0_3 u0_4 u0_5, RdL shI W u0_0 xs0_0 → RdL shI W u0_1 xs0_1 → RdL shI W u0_2 xs0_2 → RdL shI W u0_3 xs0_3 → RdL shPacket W u0_4 xs0_4 → RdL shPacket W u0_5 xs0_5 → Calls Try.prog 46 #[.agg #[u0_0, u0_1, u0_2, u0_3, u0_4, u0_5], .int .i64 i1] W (ResSHeldOf ir0 W)) ∧
      ∀ (W : World), ∀ u0_0 u0_1 u0_2 u0_3 u0_4 u0_5, RdL shI W u0_0 xs0_0 → RdL shI W u0_1 xs0_1 → RdL shI W u0_2 xs0_2 → RdL shI W u0_3 xs0_3 → RdL shPacket W u0_4 xs0_4 → RdL shPacket W u0_5 xs0_5 → Calls Try.prog 48 #[.agg #[u0_0, u0_1, u0_2, u0_3, u0_4, u0_5], .int .i64 i1] W (ResIHeldOf ir0 W) :=
  ⟨_, fun W u0 u1 u2 u3 u4 u5 _ _ _ _ r _ => specHeld_any W u0 u1 u2 u3 u4 u5 xs0_4 i1 r h4, fun W u0 u1 u2 u3 u4 u5 _ _ _ _ r _ => implHeld_any W u0 u1 u2 u3 u4 u5 xs0_4 i1 r h4⟩

end Go.Proofs.Ytgmpehccklifdab
