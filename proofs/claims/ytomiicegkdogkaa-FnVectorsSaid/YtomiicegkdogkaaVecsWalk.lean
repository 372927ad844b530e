/-
  The walk of FnVectors.
-/
import Derived.Test.YtomiicegkdogkaaProg
import Derived.Test.YtomiicegkdogkaaPlain
import Derived.Test.YtomiicegkdogkaaIntsEq
import Derived.Test.YtomiicegkdogkaaBPost0
import Derived.Test.YtomiicegkdogkaaPlainRow
import Derived.Test.YtomiicegkdogkaaDrawNumber
import Derived.Test.YtomiicegkdogkaaInts
import Derived.Test.YtomiicegkdogkaaChg
import Derived.Test.YtomiicegkdogkaaPkEq
import Derived.Test.YtomiicegkdogkaaPkChk
import Derived.Test.YtomiicegkdogkaaDrawVec
import Derived.Test.YtomiicegkdogkaaRaiseV
import Derived.Test.YtomiicegkdogkaaVec
import Derived.Test.YtomiicegkdogkaaVecOk
import Derived.Test.YtomiicegkdogkaaPkD
import Derived.Deep.QuietTactic
import Derived.Deep.RegionHeld3
namespace Go.Proofs.Ytomiicegkdogkaa
open Go Go.RowKit


theorem big_any (a : Option Addr) (len cap : Nat) (w : World) :
    Calls Try.prog 23 #[.slice a len cap] w (fun e w' => e = .returned (.bool (decide ((1048576 : Int) < (len : Int)))) ∧ w = w') := by
  go_enter Try.func23, Try.ntmps23
  go_wp2
  go_ret
  exact ⟨rfl, rfl⟩

end Go.Proofs.Ytomiicegkdogkaa

namespace Go.Proofs.Ytomiicegkdogkaa
open Go Go.RowKit

set_option maxHeartbeats 1000000 in
theorem sameInts_any (W : World) (a1 a2 : Option Addr) (l1 l2 c1 c2 : Nat) (xs ys : List Int) (H1 : ISl W a1 l1 xs) (H2 : ISl W a2 l2 ys) (hl1 : l1 ≤ 1048576) (hl2 : l2 ≤ 9000000000000000) :
    Calls Try.prog 31 #[.slice a1 l1 c1, .slice a2 l2 c2] W (Ans (.bool (decide (xs = ys))) W) := by
  obtain ⟨e1, H1⟩ := H1
  obtain ⟨e2, H2⟩ := H2
  have HC1 := Lib.hid H1
  have HE1 := Lib.hid e1
  have HC2 := Lib.hid H2
  have HE2 := Lib.hid e2
  clear H1 e1 H2 e2
  by_cases hq : l1 = l2
  · subst hq
    have hz : ((l1 : Int) != (l1 : Int)) = false := by simp
    go_enter Try.func31, Try.ntmps31
    go_wp2
    go_loopw [5] (fun i wr => ∃ k : Nat, k ≤ l1 ∧ i = .int .i64 (k : Int) ∧ (∀ j, j < k → xs.getD j 0 = ys.getD j 0) ∧ Drew W wr) (fun i _ => l1 - (intOf i).toNat)
    case atStart => exact ⟨0, Nat.zero_le _, rfl, fun j hj => absurd hj (Nat.not_lt_zero _), Drew.refl _⟩
    case round =>
      obtain ⟨k, hk, rfl, hn, hd⟩ := hrel
      have HD := Lib.hid hd
      have HN := Lib.hid hn
      clear hd hn
      by_cases hlt : k < l1
      · have hki : (k : Int) < (l1 : Int) := by omega
        obtain ⟨b, off, rfl, hcell⟩ := HC1.out.resolve_left (by omega)
        have hc := (HD.out.gby none).cell (hcell k hlt) (by simp)
        obtain ⟨b2, off2, rfl, hcell2⟩ := HC2.out.resolve_left (by omega)
        have hc2 := (HD.out.gby none).cell (hcell2 k hlt) (by simp)
        clear hcell hcell2
        obtain ⟨x, hx⟩ : ∃ x : Int, x = xs.getD k 0 := ⟨_, rfl⟩
        rw [← hx] at hc
        have HX := Lib.hid hx
        obtain ⟨y, hy⟩ : ∃ y : Int, y = ys.getD k 0 := ⟨_, rfl⟩
        rw [← hy] at hc2
        have HY := Lib.hid hy
        clear hx hy
        by_cases hg : x = y
        · subst hg
          have hb : (x != x) = false := by simp
          have hb2 : (x == x) = true := by simp
          go_wp2
          try go_quiet (fail)
          go_wp2
          refine ⟨⟨k + 1, by omega, by go_num, ?_, by repeat (first | exact HD.out | apply Drew.drewN)⟩, by simp [intOf]; omega⟩
          intro j hj
          by_cases e : j = k
          · subst e; rw [← HX.out, ← HY.out]
          · exact HN.out j (by omega)
        · have hb : (x != y) = true := by simpa using hg
          have hb2 : (x == y) = false := by simpa using hg
          have HG := Lib.hid hg
          clear hg
          go_wp2
          try go_quiet (fail)
          go_wp2
          go_ret
          have hnot : ¬ xs = ys := fun h => HG.out (by rw [HX.out, HY.out, h])
          exact ⟨ret_bool (by simp [hnot]), by repeat (first | exact HD.out | apply Drew.drewN)⟩
      · have hki : ¬ (k : Int) < (l1 : Int) := by omega
        have hyes : xs = ys := lists_eq (by have := HE1.out; have := HE2.out; omega) (fun j hj => HN.out j (by have := HE1.out; omega))
        go_wp2
        go_ret
        exact ⟨ret_bool (by simp), HD.out⟩
  · have hz : ((l1 : Int) != (l2 : Int)) = true := by simp; omega
    have HQ := Lib.hid hq
    clear hq
    go_enter Try.func31, Try.ntmps31
    go_wp2
    go_ret
    have hnot : ¬ xs = ys := fun h => HQ.out (by rw [HE1.out, HE2.out, h])
    exact ⟨ret_bool (by simp [hnot]), Drew.refl _⟩

end Go.Proofs.Ytomiicegkdogkaa

namespace Go.Proofs.Ytomiicegkdogkaa
open Go Go.RowKit
set_option linter.unusedVariables false

theorem iff_no' {p : Prop} (h : ¬ p) : false = true ↔ p := ⟨fun q => (by cases q), fun q => absurd q h⟩
theorem iff_yes' {p : Prop} (h : p) : true = true ↔ p := ⟨fun _ => h, fun _ => rfl⟩
theorem mem_at {ys : List Int} {x : Int} : x ∈ ys ↔ ∃ k, k < ys.length ∧ ys.getD k 0 = x := by
  rw [List.mem_iff_getElem?]
  constructor
  · rintro ⟨k, hk⟩
    obtain ⟨h1, h2⟩ := List.getElem?_eq_some_iff.1 hk
    exact ⟨k, h1, by rw [List.getD_eq_getElem?_getD, hk]; rfl⟩
  · rintro ⟨k, h1, h2⟩
    exact ⟨k, by rw [List.getElem?_eq_getElem h1]; rw [List.getD_eq_getElem?_getD, List.getElem?_eq_getElem h1] at h2; exact congrArg some h2⟩

set_option maxRecDepth 8000 in
set_option maxHeartbeats 2000000 in
theorem hasL_any (W : World) (v : Value) (ys : List Int) (x : Int) (H : RdL shI W v ys) (hl : ys.length ≤ 1048576) : Calls Try.prog 28 #[v, .int .i64 x] W (BPost (x ∈ ys) W) := by
  obtain ⟨a0, cap, rfl, hcap, hi⟩ := rdI1_in H
  have HA := Lib.hid hi
  obtain ⟨len, hlen⟩ : ∃ len, len = ys.length := ⟨_, rfl⟩
  have HE := Lib.hid hlen
  unfold RdN1 at HA
  rw [← hlen] at hl HA ⊢
  clear H hi hlen hcap
  go_enter Try.func28, Try.ntmps28
  go_wp2
  go_loopw [5] (fun i wr => ∃ n : Nat, n ≤ len ∧ i = .int .i64 (n : Int) ∧ (∀ j, j < n → ¬ ys.getD j 0 = x) ∧ (W).grownBy wr none) (fun i _ => len - (intOf i).toNat)
  case atStart => exact ⟨0, by omega, rfl, fun j hj => absurd hj (Nat.not_lt_zero _), gby_refl _ _⟩
  case round =>
    obtain ⟨n, hn, rfl, hj, hg⟩ := hrel
    have szrwr := hg.size
    try simp only [World.size_alloc] at szrwr
    try simp only [World.size_setCell] at szrwr
    have szr_ := szrwr
    have G1_ := Lib.hid (show (W).grownBy (wr) none from gby_trans (gby_refl _ _) hg)
    have HTB_ := Lib.hid hg
    clear hg
    have HJ := Lib.hid hj
    clear hj
    have hn0 : (0 : Int) ≤ (n : Int) := by omega
    have htn : ((n : Int)).toNat = n := by omega
    by_cases hlt : n < len
    · have hki : (n : Int) < (len : Int) := by omega
      obtain ⟨b, off, rfl, hcell⟩ := HA.out.resolve_left (by omega)
      obtain ⟨y, hy⟩ : ∃ y, y = ys.getD n 0 := ⟨_, rfl⟩
      have HY := Lib.hid hy
      have hyc := hcell n hlt
      rw [← hy] at hyc
      clear hy hcell
      have y_ := (G1_.out).cell hyc (by simp)
      clear hyc
      by_cases he : y = x
      · have hb : (y == x) = true := by simpa using he
        have HE1 := Lib.hid he
        clear he
        go_wp2
        go_ret
        exact ⟨true, rfl, iff_yes' (mem_at.2 ⟨n, by rw [← HE.out]; exact hlt, by rw [← HY.out]; exact HE1.out⟩), G1_.out⟩
      · have hb : (y == x) = false := by simpa using he
        have HE1 := Lib.hid he
        clear he
        go_wp2
        refine ⟨⟨n + 1, by omega, by go_num, fun j hj => ?_, HTB_.out⟩, by simp [intOf]; omega⟩
        by_cases e : j = n
        · subst e; rw [← HY.out]; exact HE1.out
        · exact HJ.out j (by omega)
    · obtain rfl : n = len := by omega
      have hki : ¬ (n : Int) < (n : Int) := by omega
      go_wp2
      go_ret
      exact ⟨false, rfl, iff_no' (fun q => by obtain ⟨k, h1, h2⟩ := mem_at.1 q; exact HJ.out k (by rw [HE.out]; exact h1) h2), G1_.out⟩

end Go.Proofs.Ytomiicegkdogkaa

namespace Go.Proofs.Ytomiicegkdogkaa
open Go Go.RowKit

theorem own_kept {w w' : World} {base c n size : Nat} {e : TypeId} {v : Value} {xs : List Value} (h : w.ownsRow base e size v n xs) (g : w.grownBy w' (some c)) (hc : c < base) : w'.ownsRow base e size v n xs :=
  h.kept g (by
    rcases hv : v.ownBlock with _ | b
    · exact .inl rfl
    · right; intro q; have := own_from h b hv; have := Option.some.inj q; omega)

def IsW (x : Int) : Prop := 0 ≤ x ∧ x ≤ 65535

theorem data_cells (w : World) (x y : Int) (hx : IsW x) (hy : IsW y) : ∀ k, k < 5 → ∃ n, (w.alloc (.cells #[.int .i64 0, .int .i64 1, .int .i64 65535, .int .i64 x, .int .i64 y] 3)).cell? ⟨w.heap.size, k, none⟩ = some (.int .i64 n) ∧ IsW n := by
  intro k hk
  rw [cell_of_row _ _ _ _ _ _ (heap_alloc_new w _)]
  match k, hk with
  | 0, _ => exact ⟨_, rfl, by unfold IsW; omega⟩
  | 1, _ => exact ⟨_, rfl, by unfold IsW; omega⟩
  | 2, _ => exact ⟨_, rfl, by unfold IsW; omega⟩
  | 3, _ => exact ⟨_, rfl, hx⟩
  | 4, _ => exact ⟨_, rfl, hy⟩
  | n + 5, h => omega

/-- a drawn list of n words -/
def DrawnData (n : Nat) (w : World) (c : Nat) (e : Ending) (w' : World) : Prop := ∃ a cap xs, e = .returned (.slice a n cap) ∧ AreW xs ∧ ISl w' a n xs ∧ (∀ p, a = some p → w.heap.size ≤ p.block) ∧ Cur w' c ∧ w.grownBy w' (some c)

theorem isl_own {w : World} {base n : Nat} {v : Value} {xs : List Int} (h : w.ownsRow base 3 1 v n (i64s xs)) (hn : xs.length = n) : ∃ a cap, v = .slice a n cap ∧ ISl w a n xs ∧ ∀ p, a = some p → base ≤ p.block := by
  rcases h.2 with ⟨hv, h0⟩ | ⟨g, cp, cur, hv, hg, _⟩
  · subst hv
    subst h0
    exact ⟨none, 0, rfl, ⟨hn.symm, .inl rfl⟩, fun p hp => by cases hp⟩
  · subst hv
    refine ⟨_, cp, rfl, ⟨hn.symm, .inr ⟨g, 0, rfl, fun j hj => ?_⟩⟩, fun p hp => by obtain rfl := Option.some.inj hp; exact hg⟩
    have := h.cellAt j (by omega)
    rw [i64s, List.getElem?_map, List.getElem?_eq_getElem (by omega)] at this
    rw [List.getD_eq_getElem?_getD, List.getElem?_eq_getElem (by omega)]
    simpa using this

set_option maxHeartbeats 2000000 in
theorem data_any (w : World) (c n : Nat) (H : Cur w c) (hn : n ≤ 8) :
    Calls Try.prog 127 #[.pointer (some ⟨c, 0, none⟩), .int .i64 (n : Int)] w (DrawnData n w c) := by
  obtain ⟨i0, hi0, hz0, hz1, hz2⟩ := info_parts infoInt
  have hcl := cur_lt H
  have HC1 := Lib.hid H
  clear H
  go_enter Try.func127, Try.ntmps127
  go_wp2
  go_loopw [5, 6] (fun v i wr => ∃ (k : Nat) (xs : List Int), k ≤ n ∧ i = .int .i64 (k : Int) ∧ xs.length = k ∧ AreW xs ∧ wr.ownsRow w.heap.size 3 1 v k (i64s xs) ∧ Cur wr c ∧ w.grownBy wr (some c)) (fun _ i _ => n - (intOf i).toNat)
  case atStart =>
    refine ⟨0, [], Nat.zero_le _, rfl, rfl, by intro x hx; simp at hx, ?_, cur_kept HC1.out (World.grownBy_alloc w _ none) (by simp), gby_alloc (gby_refl _ _) _⟩
    exact World.ownsRow_made w #[] 0 (Nat.le_refl _) (by unfold maxLen; omega) rfl
  case round =>
    obtain ⟨k, xs, hk, rfl, hlen, hb, hown, hcur, hg⟩ := hrel
    have hsz := hg.size
    have HO := Lib.hid hown
    have HG := Lib.hid hg
    have HC := Lib.hid hcur
    have HL := Lib.hid hlen
    have HBD := Lib.hid hb
    clear hown hg hcur hlen hb
    by_cases hlt : k < n
    · have hki : (k : Int) < (n : Int) := by omega
      go_wp2_with fail
      go_at_call 75
      refine (below_any _ _ _ HC.out (by omega) (by omega)).mono ?_
      rintro e w2 ⟨x, ⟨hx0, hx1⟩, rfl, H2, G2⟩
      have HO2 := Lib.hid (own_kept HO.out G2 hcl)
      have HG2 := Lib.hid (gby_trans HG.out G2)
      have HC2 := Lib.hid H2
      clear G2 H2
      go_wp2_with fail
      go_at_call 75
      refine (below_any _ _ _ HC2.out (by omega) (by omega)).mono ?_
      rintro e w3 ⟨y, ⟨hy0, hy1⟩, rfl, H3, G3⟩
      have HO3 := Lib.hid (own_kept HO2.out G3 hcl)
      have HG3 := Lib.hid (gby_trans HG2.out G3)
      have HC3 := Lib.hid H3
      have hs3 := HG3.out.size
      clear G3 H3
      go_wp2_with fail
      go_at_call 111
      refine (pickInt_any _ _ _ _ _ IsW (cur_kept HC3.out (World.grownBy_alloc w3 _ none) (by simp)) (by omega) (by omega) (by omega) (data_cells w3 x y ⟨by omega, by omega⟩ ⟨by omega, by omega⟩)).mono ?_
      rintro e w4 ⟨z, hz, rfl, H4, G4⟩
      have HO4 := Lib.hid (own_kept (HO3.out.alloc _) G4 hcl)
      have HG4 := Lib.hid (gby_trans (gby_alloc HG3.out _) G4)
      have HC4 := Lib.hid H4
      have hs4 := HG4.out.size
      have HZ := Lib.hid hz
      clear G4 H4 hz
      go_wp2_with (at_builtin; refine wpList_append_lies _ (by rfl) _ _ _ (by rfl) w.heap.size 3 i0 _ 1 8 Try.underlying27 hi0 hz0 hz1 hz2 rfl (by omega) _ k (i64s xs) (by rfl) (HO4.out.alloc _) ⟨w4.heap.size, 0, none⟩ 1 1 _ (by rfl) (by rfl) (World.news_of_block (t := 3) (fr := (0, 0)) (heap_alloc_new w4 _)) (by simp [Value.oneCell']) (by omega) (by unfold maxLen; omega) (by omega) (by simp; omega) (w4.heap.size + 1) (by simp) ?_; intro gg cap2 w5 hown5 hgrow5 hat hlt1; have HO5 := Lib.hid hown5; have HG5 := Lib.hid hgrow5; clear hown5 hgrow5 hat hlt1)
      refine ⟨⟨k + 1, xs ++ [z], by omega, by go_num, by have := HL.out; simp [this], ?_, by rw [i64s_append]; exact HO5.out, ?_, ?_⟩, by simp [intOf]; omega⟩
      · intro q hq
        rcases List.mem_append.1 hq with hq | hq
        · exact HBD.out q hq
        · obtain rfl := List.mem_singleton.1 hq; exact HZ.out
      · exact cur_other (cur_kept HC4.out (World.grownBy_alloc w4 _ none) (by simp)) HG5.out (fun b hb => by have := own_from HO4.out b hb; omega)
      · exact gby_new (gby_alloc HG4.out _) HG5.out (fun b hb => own_from HO4.out b hb)
    · have hki : ¬ (k : Int) < (n : Int) := by omega
      obtain rfl : k = n := by omega
      obtain ⟨a, cap, hv, hi, hfar⟩ := isl_own HO.out HL.out
      have HI := Lib.hid hi
      subst hv
      clear hi
      go_wp2
      go_ret
      exact ⟨a, cap, xs, rfl, HBD.out, HI.out, hfar, HC.out, HG.out⟩

end Go.Proofs.Ytomiicegkdogkaa

namespace Go.Proofs.Ytomiicegkdogkaa
open Go Go.RowKit

def IsP (x : Int) : Prop := 0 ≤ x ∧ x < 10000

/-- twelve drawn numbers -/
def DrawnPlaces (w : World) (e : Ending) (w' : World) : Prop := ∃ v xs, e = .returned v ∧ xs.length = 12 ∧ (∀ x ∈ xs, IsP x) ∧ OwI w' w.heap.size w'.heap.size v xs ∧ w.grownBy w' none

set_option maxHeartbeats 2000000 in
theorem places_any (w : World) (a : Option Addr) (len cap : Nat) (zs : List Int) (hB : Bytes w a len zs) (hl : len ≤ 1048576) :
    Calls Try.prog 25 #[.slice a len cap] w (DrawnPlaces w) := by
  obtain ⟨i0, hi0, hz0, hz1, hz2⟩ := info_parts infoInt
  have HB := Lib.hid hB
  clear hB
  go_enter Try.func25, Try.ntmps25
  go_wp2_with fail
  go_at_call 74
  refine (new_any _ _ _ _ _ HB.out hl).mono ?_
  rintro e w1 ⟨c, rfl, hc, H1, G1⟩
  have HG1 := Lib.hid G1
  have HC1 := Lib.hid H1
  have hcl := cur_lt H1
  have hs1 := G1.size
  clear G1 H1
  go_wp2
  go_loopw [4, 5] (fun v i wr => ∃ (k : Nat) (xs : List Int), k ≤ 12 ∧ i = .int .i64 (k : Int) ∧ xs.length = k ∧ (∀ x ∈ xs, IsP x) ∧ wr.ownsRow w1.heap.size 3 1 v k (i64s xs) ∧ Cur wr c ∧ w1.grownBy wr (some c)) (fun _ i _ => 12 - (intOf i).toNat)
  case atStart =>
    refine ⟨0, [], Nat.zero_le _, rfl, rfl, by intro x hx; simp at hx, ?_, cur_kept HC1.out (World.grownBy_alloc w1 _ none) (by simp), gby_alloc (gby_refl _ _) _⟩
    exact World.ownsRow_made w1 #[] 0 (Nat.le_refl _) (by unfold maxLen; omega) rfl
  case round =>
    obtain ⟨k, xs, hk, rfl, hlen, hb, hown, hcur, hg⟩ := hrel
    have hsz := hg.size
    have HO := Lib.hid hown
    have HG := Lib.hid hg
    have HC := Lib.hid hcur
    have HL := Lib.hid hlen
    have HBD := Lib.hid hb
    clear hown hg hcur hlen hb
    by_cases hlt : k < 12
    · have hki : (k : Int) < 12 := by omega
      go_wp2_with fail
      go_at_call 75
      refine (below_any _ _ _ HC.out (by omega) (by omega)).mono ?_
      rintro e w2 ⟨z, ⟨hz, hz'⟩, rfl, H2, G2⟩
      have HO2 := Lib.hid (own_kept HO.out G2 hcl)
      have HG2 := Lib.hid (gby_trans HG.out G2)
      have HC2 := Lib.hid H2
      have hs4 := HG2.out.size
      clear G2 H2
      go_wp2_with (at_builtin; refine wpList_append_lies _ (by rfl) _ _ _ (by rfl) w1.heap.size 3 i0 _ 1 8 Try.underlying27 hi0 hz0 hz1 hz2 rfl (by omega) _ k (i64s xs) (by rfl) (HO2.out.alloc _) ⟨w2.heap.size, 0, none⟩ 1 1 _ (by rfl) (by rfl) (World.news_of_block (t := 3) (fr := (0, 0)) (heap_alloc_new w2 _)) (by simp [Value.oneCell']) (by omega) (by unfold maxLen; omega) (by omega) (by simp; omega) (w2.heap.size + 1) (by simp) ?_; intro gg cap2 w5 hown5 hgrow5 hat hlt1; have HO5 := Lib.hid hown5; have HG5 := Lib.hid hgrow5; clear hown5 hgrow5 hat hlt1)
      refine ⟨⟨k + 1, xs ++ [z], by omega, by go_num, by have := HL.out; simp [this], ?_, by rw [i64s_append]; exact HO5.out, ?_, ?_⟩, by simp [intOf]; omega⟩
      · intro q hq
        rcases List.mem_append.1 hq with hq | hq
        · exact HBD.out q hq
        · obtain rfl := List.mem_singleton.1 hq; exact ⟨hz, hz'⟩
      · exact cur_other (cur_kept HC2.out (World.grownBy_alloc w2 _ none) (by simp)) HG5.out (fun b hb => by have := own_from HO2.out b hb; omega)
      · exact gby_new (gby_alloc HG2.out _) HG5.out (fun b hb => own_from HO2.out b hb)
    · have hki : ¬ (k : Int) < 12 := by omega
      obtain rfl : k = 12 := by omega
      go_wp2
      go_ret
      exact ⟨_, xs, rfl, HL.out, HBD.out, (owI_row HO.out).wide hs1 (Nat.le_refl _), gby_own HG1.out HG.out hc⟩

end Go.Proofs.Ytomiicegkdogkaa

namespace Go.Proofs.Ytomiicegkdogkaa
open Go Go.RowKit

/-- the same fields -/
def SameF (k f t a l g s k' f' t' a' l' g' s' : Int) (xs ys : List Int) : Prop := k = k' ∧ f = f' ∧ t = t' ∧ a = a' ∧ l = l' ∧ g = g' ∧ s = s' ∧ xs = ys
instance (k f t a l g s k' f' t' a' l' g' s' : Int) (xs ys : List Int) : Decidable (SameF k f t a l g s k' f' t' a' l' g' s' xs ys) := inferInstanceAs (Decidable (_ ∧ _))

set_option maxRecDepth 8000 in
set_option maxHeartbeats 4000000 in
theorem implSame_any (W : World) (k f t a l g s k' f' t' a' l' g' s' : Int) (d1 d2 : Option Addr) (l1 l2 c1 c2 : Nat) (xs ys : List Int) (H1 : ISl W d1 l1 xs) (H2 : ISl W d2 l2 ys) (hl1 : l1 ≤ 1048576) (hl2 : l2 ≤ 1048576) :
    Calls Try.prog 27 #[pkV k f t a l g s d1 l1 c1, pkV k' f' t' a' l' g' s' d2 l2 c2] W (AnsG (.bool (decide (SameF k f t a l g s k' f' t' a' l' g' s' xs ys))) W) := by
  have HI1 := Lib.hid H1
  have HI2 := Lib.hid H2
  clear H1 H2
  unfold pkV
  by_cases c0 : k = k'
  case' neg =>
    have b0 : (k == k') = false := by simpa using c0
    have hd : decide (SameF k f t a l g s k' f' t' a' l' g' s' xs ys) = false := decide_eq_false (fun h => c0 h.1)
    rw [hd]
    have HC := Lib.hid c0
    clear hd c0
  case' pos =>
    subst c0
    have b0 : (k == k) = true := by simp
    by_cases c1 : f = f'
    case' neg =>
      have b1 : (f == f') = false := by simpa using c1
      have hd : decide (SameF k f t a l g s k f' t' a' l' g' s' xs ys) = false := decide_eq_false (fun h => c1 h.2.1)
      rw [hd]
      have HC := Lib.hid c1
      clear hd c1
    case' pos =>
      subst c1
      have b1 : (f == f) = true := by simp
      by_cases c2 : t = t'
      case' neg =>
        have b2 : (t == t') = false := by simpa using c2
        have hd : decide (SameF k f t a l g s k f t' a' l' g' s' xs ys) = false := decide_eq_false (fun h => c2 h.2.2.1)
        rw [hd]
        have HC := Lib.hid c2
        clear hd c2
      case' pos =>
        subst c2
        have b2 : (t == t) = true := by simp
        by_cases c3 : a = a'
        case' neg =>
          have b3 : (a == a') = false := by simpa using c3
          have hd : decide (SameF k f t a l g s k f t a' l' g' s' xs ys) = false := decide_eq_false (fun h => c3 h.2.2.2.1)
          rw [hd]
          have HC := Lib.hid c3
          clear hd c3
        case' pos =>
          subst c3
          have b3 : (a == a) = true := by simp
          by_cases c4 : l = l'
          case' neg =>
            have b4 : (l == l') = false := by simpa using c4
            have hd : decide (SameF k f t a l g s k f t a l' g' s' xs ys) = false := decide_eq_false (fun h => c4 h.2.2.2.2.1)
            rw [hd]
            have HC := Lib.hid c4
            clear hd c4
          case' pos =>
            subst c4
            have b4 : (l == l) = true := by simp
            by_cases c5 : g = g'
            case' neg =>
              have b5 : (g == g') = false := by simpa using c5
              have hd : decide (SameF k f t a l g s k f t a l g' s' xs ys) = false := decide_eq_false (fun h => c5 h.2.2.2.2.2.1)
              rw [hd]
              have HC := Lib.hid c5
              clear hd c5
            case' pos =>
              subst c5
              have b5 : (g == g) = true := by simp
              by_cases c6 : s = s'
              case' neg =>
                have b6 : (s == s') = false := by simpa using c6
                have hd : decide (SameF k f t a l g s k f t a l g s' xs ys) = false := decide_eq_false (fun h => c6 h.2.2.2.2.2.2.1)
                rw [hd]
                have HC := Lib.hid c6
                clear hd c6
              case' pos =>
                subst c6
                have b6 : (s == s) = true := by simp
                have hd : decide (SameF k f t a l g s k f t a l g s xs ys) = decide (xs = ys) := decide_eq_decide.2 ⟨fun h => h.2.2.2.2.2.2.2, fun h => ⟨rfl, rfl, rfl, rfl, rfl, rfl, rfl, h⟩⟩
                rw [hd]
                clear hd
  all_goals
    go_enter Try.func27, Try.ntmps27
    go_wp2_with (go_at_call 77; refine (equal_any _ _ _ _ _ _ _ xs ys (HI1.out.kept (gby_alloc (gby_alloc (gby_refl _ _) _) _)) (HI2.out.kept (gby_alloc (gby_alloc (gby_refl _ _) _) _)) (by omega) (by omega)).mono ?_; rintro e w1 ⟨rfl, d1⟩; have D1 := Lib.hid (gby_trans (gby_alloc (gby_alloc (gby_refl W none) _) _) (d1.gby none)); clear d1)
    go_ret
    first
      | exact ⟨rfl, gby_alloc (gby_alloc (gby_refl _ _) _) _⟩
      | exact ⟨rfl, D1.out⟩

end Go.Proofs.Ytomiicegkdogkaa

namespace Go.Proofs.Ytomiicegkdogkaa
open Go Go.RowKit
set_option linter.unusedVariables false

theorem mem_pendL (xs : List Bool) (k : Nat) : ∀ m, (k : Int) ∈ pendL xs m ↔ k < m ∧ xs.getD k false = true
  | 0 => by simp [pendL]
  | m + 1 => by
    unfold pendL
    rw [List.mem_append, mem_pendL xs k m]
    constructor
    · rintro (⟨h1, h2⟩ | h)
      · exact ⟨by omega, h2⟩
      · split at h
        · next q =>
          have e : k = m := by have := List.mem_singleton.1 h; omega
          subst e; exact ⟨by omega, q⟩
        · cases h
    · rintro ⟨h1, h2⟩
      by_cases e : k = m
      · subst e; exact .inr (by rw [if_pos h2]; exact List.mem_singleton.2 rfl)
      · exact .inl ⟨by omega, h2⟩
theorem same_zero (W : World) (v1 v2 : Value) (H1 : RdL shI W v1 []) (H2 : RdL shI W v2 []) : Calls Try.prog 27 #[.agg #[.int .i64 0, .int .i64 0, .int .i64 0, .int .i64 0, .int .i64 0, .int .i64 0, .int .i64 0, v1], .agg #[.int .i64 0, .int .i64 0, .int .i64 0, .int .i64 0, .int .i64 0, .int .i64 0, .int .i64 0, v2]] W (AnsN (.bool true) W) := by
  obtain ⟨a1, c1, rfl, i1, _⟩ := rdI_in H1
  obtain ⟨a2, c2, rfl, i2, _⟩ := rdI_in H2
  have q := implSame_any W 0 0 0 0 0 0 0 0 0 0 0 0 0 0 a1 a2 _ _ c1 c2 [] [] i1 i2 (by simp) (by simp)
  rw [decide_eq_true (by unfold SameF; simp)] at q
  exact q
theorem call_ok {i0 : Int} {k : Nat} (h0 : 0 ≤ i0) (h1 : i0 ≤ 65535) (hk : k ≤ 65535) : 0 ≤ clsD ⟨1, 33, 0, i0, 0, 0, 0, [(k : Int)]⟩ := by
  unfold clsD
  dsimp only
  rw [if_pos ⟨⟨by omega, by omega⟩, (by intro x hx; obtain rfl := List.mem_singleton.1 hx; omega), .inl ⟨rfl, by simp, by simp, h0, by simp; omega, rfl, rfl, rfl, rfl⟩⟩]
  exact (clsI_in _).1
theorem vset_imp {xs ys : List Bool} {k : Nat} {a b : Bool} (h : ∀ j, j < xs.length → ys.getD j false = true → xs.getD j false = true) (hy : ys.length = xs.length) (hk : k < xs.length) (hab : b = true → a = true) : ∀ j, j < (xs.set k a).length → (ys.set k b).getD j false = true → (xs.set k a).getD j false = true := by
  intro j hj
  rw [List.length_set] at hj
  rw [List.getD_eq_getElem?_getD, List.getD_eq_getElem?_getD, List.getElem?_set, List.getElem?_set]
  by_cases e : k = j
  · subst e; rw [if_pos rfl, if_pos (by omega), if_pos rfl, if_pos hk]; simpa using hab
  · rw [if_neg e, if_neg e, ← List.getD_eq_getElem?_getD, ← List.getD_eq_getElem?_getD]; exact h j hj
theorem getD_set_at {xs : List Bool} {k : Nat} {a : Bool} (hk : k < xs.length) : (xs.set k a).getD k false = a := by
  rw [List.getD_eq_getElem?_getD, List.getElem?_set, if_pos rfl, if_pos hk]; rfl
theorem set_getD (xs : List Bool) (k : Nat) (hk : k < xs.length) : xs.set k (xs.getD k false) = xs := by
  refine List.ext_getElem (by simp) fun i h1 h2 => ?_
  rw [List.getElem_set]
  split
  · next e => subst e; rw [List.getD_eq_getElem?_getD, List.getElem?_eq_getElem hk]; rfl
  · rfl
theorem rdI_none (W : World) : RdL shI W (.slice none 0 0) [] := OwL.rd (owL_nil (s := shI) (w := W) (lo := 0) (hi := 0))
set_option maxRecDepth 8000 in
set_option maxHeartbeats 8000000 in
theorem walk_vectors (a : Option Addr) (len cap : Nat) (zs : List Int) (W : World) (hB : Bytes W a len zs) :
    Calls Try.prog 5 #[.slice a len cap] W fun e w' => e = .returned (.bool true) ∧ Below W.heap.size W w' := by
  have HB := Lib.hid hB
  clear hB
  by_cases hbig : (1048576 : Int) < (len : Int)
  · go_enter Try.func5, Try.ntmps5
    go_wp2
    go_ret
    exact ⟨rfl, Below.refl _ _⟩
  · skip
    go_enter Try.func5, Try.ntmps5
    go_wp2_with fail
    go_at_call 23
    refine (big_any _ _ _ _).mono ?_
    rintro e w1 ⟨rfl, rfl⟩
    go_wp2_with fail
    go_at_call 24
    refine (drawVec_any _ _ _ _ _ (bytes_grow HB.out (gby_refl _ _)) (by omega)).mono ?_
    rintro e w2 ⟨i0, v1_, v2_, xs, ys, rfl, hok, o, g⟩
    have HOK := Lib.hid hok
    obtain ⟨⟨hx1, hx8⟩, hyx, ⟨hi0, hi1⟩, _⟩ := hok
    obtain ⟨a1, n1, c1, hv_⟩ := RdL.form (OwU.rd o)
    have hn1 : n1 = xs.length := by obtain ⟨_, _, e, _⟩ := OwU.rd o; rw [hv_] at e; injection e
    subst hv_ hn1
    obtain ⟨a2, n2, c2, hv_⟩ := RdL.form (OwU.rd (OwU.tail o))
    subst hv_
    obtain ⟨n, hn⟩ : ∃ n, n = xs.length := ⟨_, rfl⟩
    have HN := Lib.hid hn
    have HX_ := OwU.rd o
    rw [← hn] at HX_ hx1 hx8 hyx ⊢
    have HXv := Lib.hid HX_
    have HYv := Lib.hid (OwU.rd (OwU.tail o))
    have HYX := Lib.hid hyx
    clear o hn HX_ hyx
    have szw2 := g.size
    try simp only [World.size_alloc] at szw2
    have G1_ := Lib.hid (show (W).grownBy (w2) none from gby_trans (gby_refl _ _) g)
    clear g
    have HTt2_ := Lib.hid (gby_refl (w2) none)
    have MG3_ := Lib.hid (show (W).grownBy (w2) none from G1_.out)
    have al_ : (w2).grownBy ((w2).alloc (.cells #[.int .i64 i0, .slice a1 n c1, .slice a2 n2 c2] 26)) none := gby_alloc (gby_refl _ _) _
    have G4_ := Lib.hid (show (W).grownBy ((w2.alloc (.cells #[.int .i64 i0, .slice a1 n c1, .slice a2 n2 c2] 26))) none from gby_trans G1_.out al_)
    have HTt5_ := Lib.hid (show (w2).grownBy ((w2.alloc (.cells #[.int .i64 i0, .slice a1 n c1, .slice a2 n2 c2] 26))) none from gby_trans HTt2_.out al_)
    clear HTt2_
    have rT6_ := Lib.hid (show ((w2.alloc (.cells #[.int .i64 i0, .slice a1 n c1, .slice a2 n2 c2] 26))).heap[w2.heap.size]? = some (.cells #[.int .i64 i0, .slice a1 n c1, .slice a2 n2 c2] 26 (0, 0)) from by first | exact heap_alloc_new _ _ | exact heap_pair _ _ _ | exact heap_trip _ _ _ _)
    clear al_
    have T_0_ : ((w2.alloc (.cells #[.int .i64 i0, .slice a1 n c1, .slice a2 n2 c2] 26))).cell? ⟨w2.heap.size, 0, none⟩ = some (.int .i64 i0) := cell_of_row _ _ 0 _ _ _ rT6_.out
    have T_1_ : ((w2.alloc (.cells #[.int .i64 i0, .slice a1 n c1, .slice a2 n2 c2] 26))).cell? ⟨w2.heap.size, 1, none⟩ = some (.slice a1 n c1) := cell_of_row _ _ 1 _ _ _ rT6_.out
    have T_2_ : ((w2.alloc (.cells #[.int .i64 i0, .slice a1 n c1, .slice a2 n2 c2] 26))).cell? ⟨w2.heap.size, 2, none⟩ = some (.slice a2 n2 c2) := cell_of_row _ _ 2 _ _ _ rT6_.out
    go_wp2_with fail
    go_at_call 25
    refine (places_any _ _ _ _ _ (bytes_grow HB.out G4_.out) (by omega)).mono ?_
    rintro e w3 ⟨v3, ps, rfl, hl12, hps, o3, g⟩
    obtain ⟨pb, po, pc, rfl, hpc⟩ := o3.twelve hl12
    have HPS := Lib.hid (fun j (hj : j < 12) => hps (ps.getD j 0) (by rw [List.getD_eq_getElem?_getD, List.getElem?_eq_getElem (by omega)]; exact List.getElem_mem _))
    have HPC := Lib.hid hpc
    clear o3 hpc hps hl12
    have szw3 := g.size
    try simp only [World.size_alloc] at szw3
    clear T_0_ T_1_ T_2_
    have rT7_ := Lib.hid (show (w3).heap[w2.heap.size]? = some (.cells #[.int .i64 i0, .slice a1 n c1, .slice a2 n2 c2] 26 (0, 0)) from row_held g rT6_.out)
    clear rT6_
    have G8_ := Lib.hid (show (W).grownBy (w3) none from gby_trans G4_.out g)
    have HTt9_ := Lib.hid (show (w2).grownBy (w3) none from gby_trans HTt5_.out g)
    clear HTt5_
    clear g
    have T_0_ : (w3).cell? ⟨w2.heap.size, 0, none⟩ = some (.int .i64 i0) := cell_of_row _ _ 0 _ _ _ rT7_.out
    have T_1_ : (w3).cell? ⟨w2.heap.size, 1, none⟩ = some (.slice a1 n c1) := cell_of_row _ _ 1 _ _ _ rT7_.out
    have T_2_ : (w3).cell? ⟨w2.heap.size, 2, none⟩ = some (.slice a2 n2 c2) := cell_of_row _ _ 2 _ _ _ rT7_.out
    have HTP10_ := Lib.hid (gby_refl (w3) none)
    have MG11_ := Lib.hid (show (W).grownBy (w3) none from G8_.out)
    have MR12_ := Lib.hid rT7_.out
    obtain ⟨q, hq⟩ : ∃ q, q = ps.getD 0 0 := ⟨_, rfl⟩
    obtain ⟨q1, q2⟩ := (show IsP q from by rw [hq]; exact HPS.out 0 (by omega))
    have HCq0 := Lib.hid (HPC.out 0 (by omega))
    rw [← hq] at HCq0
    clear hq
    have p0_ : (w3).cell? ⟨pb, po, none⟩ = some (.int .i64 q) := (HTP10_.out).cell HCq0.out (by simp)
    obtain ⟨k, hk⟩ : ∃ k : Nat, q % (n : Int) = (k : Int) := ⟨(q % (n : Int)).toNat, by have := Int.emod_nonneg q (show (n : Int) ≠ 0 by omega); omega⟩
    have hkn : k < n := by have := Int.emod_lt_of_pos q (show (0 : Int) < (n : Int) by omega); omega
    have e2_ : q.tmod (n : Int) = (k : Int) := by rw [Int.tmod_eq_emod_of_nonneg (by omega)]; exact hk
    have nz_ : ¬ (n : Int) = 0 := by omega
    have nz3_ : ¬ n = 0 := by omega
    have nz2_ : ((n : Int) == 0) = false := beq_eq_false_iff_ne.2 nz_
    have HE2 := Lib.hid e2_
    clear hk
    go_wp2_with fail
    refine wp_region_held_drew (S := fun w' => w'.cell? ⟨w2.heap.size, 0, none⟩ = some (.int .i64 i0) ∧ w'.cell? ⟨w2.heap.size, 1, none⟩ = some (.slice a1 n c1) ∧ w'.cell? ⟨w2.heap.size, 2, none⟩ = some (.slice a2 n2 c2) ∧ w'.cell? ⟨pb, po, none⟩ = some (.int .i64 q)) (by kernel_rfl) (by (try dsimp only); exact ⟨T_0_, T_1_, T_2_, p0_⟩) (fun hHeld => ?_)
    refine wpAnyH_take (i := 0) (oi := { dst := some 25, op := Op.move (Operand.tmp 4), type := 27, pos := "laws.go:953", after := #[], guard := none }) (v := ?v0_r1_1) rfl (by kernel_rfl) (by kernel_rfl) (by kernel_rfl) (fun _ _ _ h => h) (Or.inl ⟨by rfl, ?y0_r1_1⟩) (by assumption) ?r0_r1_1
    case y0_r1_1 => (intro w hSw; (try dsimp only at hSw); go_simp; all_goals (with_reducible rfl))
    try simp only [Act.put, List.setIfInBounds_toArray, List.set_cons_zero, List.set_cons_succ]
    refine wpAnyH_take (i := 1) (oi := { dst := some 26, op := Op.indexAddr 27 (Operand.tmp 25) (Operand.const (Value.int IntKind.i64 0)), type := 0, pos := "laws.go:953", after := #[{ on := 0, ground := Ground.data }], guard := none }) (v := ?v1_r1_2) rfl (by kernel_rfl) (by kernel_rfl) (by kernel_rfl) (fun _ _ _ h => h) (Or.inl ⟨by rfl, ?y1_r1_2⟩) (by assumption) ?r1_r1_2
    case y1_r1_2 => (intro w hSw; (try dsimp only at hSw); go_simp; all_goals (with_reducible rfl))
    try simp only [Act.put, List.setIfInBounds_toArray, List.set_cons_zero, List.set_cons_succ]
    refine wpAnyH_take (i := 2) (oi := { dst := some 27, op := Op.load 3 (Operand.tmp 26), type := 3, pos := "laws.go:953", after := #[{ on := 1, ground := Ground.data }], guard := none }) (v := ?v2_r1_3) rfl (by kernel_rfl) (by kernel_rfl) (by kernel_rfl) (fun _ _ _ h => h) (Or.inl ⟨by rfl, ?y2_r1_3⟩) (by assumption) ?r2_r1_3
    case y2_r1_3 => (intro w hSw; (try dsimp only at hSw); go_simp; all_goals (with_reducible rfl))
    try simp only [Act.put, List.setIfInBounds_toArray, List.set_cons_zero, List.set_cons_succ]
    refine wpAnyH_take (i := 3) (oi := { dst := some 28, op := Op.fieldAddr 26 (Operand.tmp 3) 1, type := 0, pos := "laws.go:953", after := #[], guard := none }) (v := ?v3_r1_4) rfl (by kernel_rfl) (by kernel_rfl) (by kernel_rfl) (fun _ _ _ h => h) (Or.inl ⟨by rfl, ?y3_r1_4⟩) (by assumption) ?r3_r1_4
    case y3_r1_4 => (intro w hSw; (try dsimp only at hSw); go_simp; all_goals (with_reducible rfl))
    try simp only [Act.put, List.setIfInBounds_toArray, List.set_cons_zero, List.set_cons_succ]
    refine wpAnyH_take (i := 4) (oi := { dst := some 29, op := Op.load 22 (Operand.tmp 28), type := 22, pos := "laws.go:953", after := #[{ on := 3, ground := Ground.data }], guard := none }) (v := ?v4_r1_5) rfl (by kernel_rfl) (by kernel_rfl) (by kernel_rfl) (fun _ _ _ h => h) (Or.inl ⟨by rfl, ?y4_r1_5⟩) (by assumption) ?r4_r1_5
    case y4_r1_5 => (intro w hSw; (try dsimp only at hSw); go_simp; all_goals (with_reducible rfl))
    try simp only [Act.put, List.setIfInBounds_toArray, List.set_cons_zero, List.set_cons_succ]
    refine wpAnyH_take (i := 5) (oi := { dst := some 30, op := Op.call { callee := Callee.builtin Builtin.len, args := #[Operand.tmp 29], argTypes := #[22] }, type := 3, pos := "laws.go:953", after := #[{ on := 4, ground := Ground.data }], guard := none }) (v := ?v5_r1_6) rfl (by kernel_rfl) (by kernel_rfl) (by kernel_rfl) (fun _ _ _ h => h) (Or.inl ⟨by rfl, ?y5_r1_6⟩) (by assumption) ?r5_r1_6
    case y5_r1_6 => (intro w hSw; (try dsimp only at hSw); go_simp; all_goals (with_reducible rfl))
    try simp only [Act.put, List.setIfInBounds_toArray, List.set_cons_zero, List.set_cons_succ]
    refine wpAnyH_take (i := 6) (oi := { dst := some 31, op := Op.binOp BinOp.rem 3 (Operand.tmp 27) (Operand.tmp 30) 3, type := 3, pos := "laws.go:953", after := #[{ on := 2, ground := Ground.data }, { on := 5, ground := Ground.data }], guard := none }) (v := ?v6_r1_7) rfl (by kernel_rfl) (by kernel_rfl) (by kernel_rfl) (fun _ _ _ h => h) (Or.inl ⟨by rfl, ?y6_r1_7⟩) (by assumption) ?r6_r1_7
    case y6_r1_7 => (intro w hSw; (try dsimp only at hSw); go_simp; all_goals (with_reducible rfl))
    try simp only [Act.put, List.setIfInBounds_toArray, List.set_cons_zero, List.set_cons_succ]
    refine wpAnyH_take (i := 7) (oi := { dst := some 5, op := Op.assign (Operand.tmp 31), type := 3, pos := "laws.go:953", after := #[{ on := 6, ground := Ground.data }, { on := 0, ground := Ground.phase }, { on := 1, ground := Ground.phase }, { on := 2, ground := Ground.phase }, { on := 3, ground := Ground.phase }, { on := 4, ground := Ground.phase }, { on := 5, ground := Ground.phase }, { on := 6, ground := Ground.phase }], guard := none }) (v := ?v7_r1_8) rfl (by kernel_rfl) (by kernel_rfl) (by kernel_rfl) (fun _ _ _ h => h) (Or.inl ⟨by rfl, ?y7_r1_8⟩) (by assumption) ?r7_r1_8
    case y7_r1_8 => (intro w hSw; (try dsimp only at hSw); go_simp; all_goals (with_reducible rfl))
    try simp only [Act.put, List.setIfInBounds_toArray, List.set_cons_zero, List.set_cons_succ]
    refine wpAnyH_done (by kernel_rfl) ?_ _
    have gR_ : (w3).grownBy ((w3).drew) none := (gby_drew (gby_refl _ none))
    clear T_0_ T_1_ T_2_
    have rT13_ := Lib.hid (show ((w3).drew).heap[w2.heap.size]? = some (.cells #[.int .i64 i0, .slice a1 n c1, .slice a2 n2 c2] 26 (0, 0)) from row_held gR_ rT7_.out)
    clear rT7_
    have G14_ := Lib.hid (show (W).grownBy ((w3).drew) none from gby_trans G8_.out gR_)
    have HTt15_ := Lib.hid (show (w2).grownBy ((w3).drew) none from gby_trans HTt9_.out gR_)
    clear HTt9_
    have HTP16_ := Lib.hid (show (w3).grownBy ((w3).drew) none from gby_trans HTP10_.out gR_)
    clear HTP10_
    clear gR_
    have szd_ : ((w3).drew).heap.size = (w3).heap.size := rfl
    clear e2_ nz_ nz2_ nz3_
    have hk0 : (0 : Int) ≤ (k : Int) := by omega
    have htk : ((k : Int)).toNat = k := by omega
    have hkx : k < xs.length := by rw [← HN.out]; exact hkn
    have hky : k < ys.length := by rw [HYX.out]; exact hkn
    obtain ⟨x1, hx1_⟩ : ∃ x, x = xs.set k true := ⟨_, rfl⟩
    obtain ⟨y1, hy1_⟩ : ∃ y, y = ys.set k true := ⟨_, rfl⟩
    obtain ⟨x3, hx3_⟩ : ∃ x, x = xs.set k false := ⟨_, rfl⟩
    obtain ⟨y3, hy3_⟩ : ∃ y, y = ys.set k false := ⟨_, rfl⟩
    have hl0 := HOK.out.2.1
    have l1 : x1.length = xs.length := by rw [hx1_, List.length_set]
    have l2 : y1.length = xs.length := by rw [hy1_, List.length_set]; exact hl0
    have l3 : x3.length = xs.length := by rw [hx3_, List.length_set]
    have l4 : y3.length = xs.length := by rw [hy3_, List.length_set]; exact hl0
    have ob := HOK.out.1
    have oi := HOK.out.2.2.1
    have od := HOK.out.2.2.2
    have V1 := Lib.hid (show VOk i0 x1 ys from ⟨by rw [l1]; exact ob, by rw [l1]; exact hl0, oi, by rw [hx1_]; have q := vset_imp (a := true) (b := ys.getD k false) od hl0 hkx (fun _ => rfl); rw [set_getD ys k hky] at q; exact q⟩)
    have V2 := Lib.hid (show VOk i0 x1 y1 from ⟨by rw [l1]; exact ob, by rw [l1, l2], oi, by rw [hx1_, hy1_]; exact vset_imp od hl0 hkx (fun _ => rfl)⟩)
    have V3 := Lib.hid (show VOk i0 x3 y3 from ⟨by rw [l3]; exact ob, by rw [l3, l4], oi, by rw [hx3_, hy3_]; exact vset_imp od hl0 hkx (fun h => by cases h)⟩)
    have K1 : ∀ {zs ws : List Bool}, VOk i0 zs ws → zs.length = xs.length → VCall i0 zs ws 33 (k : Int) := fun h e => ⟨h, ⟨by omega, by omega⟩, hk0, by rw [e]; omega⟩
    have B : ∀ {zs : List Bool}, zs.length = xs.length → szL shB zs ≤ 1048576 := fun e => by rw [szL_B, e]; omega
    have HS1 := Lib.hid (show ∀ (W : World) (z1 z2 : Value), RdL shB W z1 xs → RdL shB W z2 ys → Calls Try.prog 22 #[.agg #[.int .i64 i0, z1, z2], .int .i64 33, .int .i64 (k : Int), .bool true] W (ResISetMask i0 x1 ys 0 0 0 0 0 0 0 [] true W) from fun W z1 z2 h1 h2 => by
      have q := implSetM_set W i0 z1 z2 xs ys h1 h2 (B rfl) (B hl0) 33 (k : Int) (K1 HOK.out rfl)
      rw [htk, ← hx1_] at q
      exact q)
    have HR1 := Lib.hid (show ∀ (W : World) (z1 z2 : Value), RdL shB W z1 x1 → RdL shB W z2 ys → Calls Try.prog 14 #[.agg #[.int .i64 i0, z1, z2], .int .i64 33, .int .i64 (k : Int)] W (ResIRaiseVector i0 x1 y1 0 0 0 0 0 0 0 [] true W) from fun W z1 z2 h1 h2 => by
      have q := implRaise_yes W i0 z1 z2 x1 ys h1 h2 (B l1) (B hl0) 33 (k : Int) (K1 V1.out l1) (by rw [htk, hx1_]; exact getD_set_at hkx)
      rw [htk, ← hy1_] at q
      exact q)
    have HS2 := Lib.hid (show ∀ (W : World) (z1 z2 : Value), RdL shB W z1 x1 → RdL shB W z2 y1 → Calls Try.prog 22 #[.agg #[.int .i64 i0, z1, z2], .int .i64 33, .int .i64 (k : Int), .bool false] W (ResISetMask i0 x3 y3 1 33 0 i0 0 0 0 [(k : Int)] true W) from fun W z1 z2 h1 h2 => by
      have q := implSetM_call W i0 z1 z2 x1 y1 h1 h2 (B l1) (B l2) 33 (k : Int) (K1 V2.out l1) (by rw [htk, hy1_]; exact getD_set_at hky)
      rw [htk, hx1_, hy1_, List.set_set, List.set_set, ← hx3_, ← hy3_] at q
      exact q)
    have HS3 := Lib.hid (show ∀ (W : World) (z1 z2 : Value), RdL shB W z1 x3 → RdL shB W z2 y3 → Calls Try.prog 22 #[.agg #[.int .i64 i0, z1, z2], .int .i64 33, .int .i64 (k : Int), .bool false] W (ResISetMask i0 x3 y3 0 0 0 0 0 0 0 [] true W) from fun W z1 z2 h1 h2 => by
      have q := implSetM_quiet W i0 z1 z2 x3 y3 h1 h2 (B l3) (B l4) 33 (k : Int) (K1 V3.out l3) (by rw [htk, hy3_]; exact getD_set_at hky)
      rw [htk, hx3_, List.set_set, ← hx3_] at q
      exact q)
    have P1 := Lib.hid (show (k : Int) ∈ pendL y1 y1.length from (mem_pendL y1 k _).2 ⟨by rw [l2]; exact hkx, by rw [hy1_]; exact getD_set_at hky⟩)
    have P3 := Lib.hid (show ¬ (k : Int) ∈ pendL y3 y3.length from fun h => by have q := ((mem_pendL y3 k _).1 h).2; rw [hy3_, getD_set_at hky] at q; cases q)
    have LY1 := Lib.hid (B l2)
    have LY3 := Lib.hid (B l4)
    have PL1 := Lib.hid (show (pendL y1 y1.length).length ≤ 1048576 from Nat.le_trans (pendL_len _ _) (by omega))
    have PL3 := Lib.hid (show (pendL y3 y3.length).length ≤ 1048576 from Nat.le_trans (pendL_len _ _) (by omega))
    have HCK := Lib.hid (call_ok (i0 := i0) (k := k) (by omega) (by omega) (by omega))
    clear hx1_ hy1_ hx3_ hy3_ l1 l2 l3 l4 ob oi od hl0 K1 B
    have T_0_ : ((w3).drew).cell? ⟨w2.heap.size, 0, none⟩ = some (.int .i64 i0) := cell_of_row _ _ 0 _ _ _ rT13_.out
    have T_1_ : ((w3).drew).cell? ⟨w2.heap.size, 1, none⟩ = some (.slice a1 n c1) := cell_of_row _ _ 1 _ _ _ rT13_.out
    have T_2_ : ((w3).drew).cell? ⟨w2.heap.size, 2, none⟩ = some (.slice a2 n2 c2) := cell_of_row _ _ 2 _ _ _ rT13_.out
    go_wp2_with fail
    go_at_call 22
    refine (HS1.out _ _ _ (HXv.out.grow HTt15_.out) (HYv.out.grow HTt15_.out)).mono ?_
    rintro e w4 ⟨z1, z2, z3, rfl, o, g⟩
    have szw4 := g.size
    try simp only [World.size_alloc] at szw4
    obtain ⟨p0a, p0n, p0c, hv_⟩ := RdL.form (OwU.rd o)
    subst hv_
    obtain ⟨q0a, q0n, q0c, hv_⟩ := RdL.form (OwU.rd (OwU.tail o))
    subst hv_
    obtain ⟨r0a, r0n, r0c, hv_⟩ := RdL.form (OwU.rd (OwU.tail (OwU.tail o)))
    subst hv_
    have HA1 := Lib.hid (OwU.rd o)
    have HB1 := Lib.hid (OwU.rd (OwU.tail o))
    have HC1 := Lib.hid (OwU.rd (OwU.tail (OwU.tail o)))
    clear o
    clear T_0_ T_1_ T_2_
    have rT17_ := Lib.hid (show (w4).heap[w2.heap.size]? = some (.cells #[.int .i64 i0, .slice a1 n c1, .slice a2 n2 c2] 26 (0, 0)) from row_held g rT13_.out)
    clear rT13_
    have G18_ := Lib.hid (show (W).grownBy (w4) none from gby_trans G14_.out g)
    have HTt19_ := Lib.hid (show (w2).grownBy (w4) none from gby_trans HTt15_.out g)
    clear HTt15_
    have HTP20_ := Lib.hid (show (w3).grownBy (w4) none from gby_trans HTP16_.out g)
    clear HTP16_
    clear g
    have HTm121_ := Lib.hid (gby_refl (w4) none)
    have MG22_ := Lib.hid (show (W).grownBy (w4) none from G18_.out)
    have MR23_ := Lib.hid rT17_.out
    have al_ : (w4).grownBy ((w4).alloc (.cells #[.int .i64 i0, .slice p0a p0n p0c, .slice q0a q0n q0c] 26)) none := gby_alloc (gby_refl _ _) _
    have rT24_ := Lib.hid (show ((w4.alloc (.cells #[.int .i64 i0, .slice p0a p0n p0c, .slice q0a q0n q0c] 26))).heap[w2.heap.size]? = some (.cells #[.int .i64 i0, .slice a1 n c1, .slice a2 n2 c2] 26 (0, 0)) from row_held al_ rT17_.out)
    clear rT17_
    have G25_ := Lib.hid (show (W).grownBy ((w4.alloc (.cells #[.int .i64 i0, .slice p0a p0n p0c, .slice q0a q0n q0c] 26))) none from gby_trans G18_.out al_)
    have HTt26_ := Lib.hid (show (w2).grownBy ((w4.alloc (.cells #[.int .i64 i0, .slice p0a p0n p0c, .slice q0a q0n q0c] 26))) none from gby_trans HTt19_.out al_)
    clear HTt19_
    have HTP27_ := Lib.hid (show (w3).grownBy ((w4.alloc (.cells #[.int .i64 i0, .slice p0a p0n p0c, .slice q0a q0n q0c] 26))) none from gby_trans HTP20_.out al_)
    clear HTP20_
    have HTm128_ := Lib.hid (show (w4).grownBy ((w4.alloc (.cells #[.int .i64 i0, .slice p0a p0n p0c, .slice q0a q0n q0c] 26))) none from gby_trans HTm121_.out al_)
    clear HTm121_
    have rM29_ := Lib.hid (show ((w4.alloc (.cells #[.int .i64 i0, .slice p0a p0n p0c, .slice q0a q0n q0c] 26))).heap[w4.heap.size]? = some (.cells #[.int .i64 i0, .slice p0a p0n p0c, .slice q0a q0n q0c] 26 (0, 0)) from by first | exact heap_alloc_new _ _ | exact heap_pair _ _ _ | exact heap_trip _ _ _ _)
    clear al_
    have T_0_ : ((w4.alloc (.cells #[.int .i64 i0, .slice p0a p0n p0c, .slice q0a q0n q0c] 26))).cell? ⟨w2.heap.size, 0, none⟩ = some (.int .i64 i0) := cell_of_row _ _ 0 _ _ _ rT24_.out
    have T_1_ : ((w4.alloc (.cells #[.int .i64 i0, .slice p0a p0n p0c, .slice q0a q0n q0c] 26))).cell? ⟨w2.heap.size, 1, none⟩ = some (.slice a1 n c1) := cell_of_row _ _ 1 _ _ _ rT24_.out
    have T_2_ : ((w4.alloc (.cells #[.int .i64 i0, .slice p0a p0n p0c, .slice q0a q0n q0c] 26))).cell? ⟨w2.heap.size, 2, none⟩ = some (.slice a2 n2 c2) := cell_of_row _ _ 2 _ _ _ rT24_.out
    have M_0_ : ((w4.alloc (.cells #[.int .i64 i0, .slice p0a p0n p0c, .slice q0a q0n q0c] 26))).cell? ⟨w4.heap.size, 0, none⟩ = some (.int .i64 i0) := cell_of_row _ _ 0 _ _ _ rM29_.out
    have M_1_ : ((w4.alloc (.cells #[.int .i64 i0, .slice p0a p0n p0c, .slice q0a q0n q0c] 26))).cell? ⟨w4.heap.size, 1, none⟩ = some (.slice p0a p0n p0c) := cell_of_row _ _ 1 _ _ _ rM29_.out
    have M_2_ : ((w4.alloc (.cells #[.int .i64 i0, .slice p0a p0n p0c, .slice q0a q0n q0c] 26))).cell? ⟨w4.heap.size, 2, none⟩ = some (.slice q0a q0n q0c) := cell_of_row _ _ 2 _ _ _ rM29_.out
    clear T_0_ T_1_ T_2_ M_0_ M_1_ M_2_
    have al_ : ((w4.alloc (.cells #[.int .i64 i0, .slice p0a p0n p0c, .slice q0a q0n q0c] 26))).grownBy (((w4.alloc (.cells #[.int .i64 i0, .slice p0a p0n p0c, .slice q0a q0n q0c] 26))).alloc (.cells #[.int .i64 0, .int .i64 0, .int .i64 0, .int .i64 0, .int .i64 0, .int .i64 0, .int .i64 0, .slice r0a r0n r0c] 29)) none := gby_alloc (gby_refl _ _) _
    have rT30_ := Lib.hid (show (((w4.alloc (.cells #[.int .i64 i0, .slice p0a p0n p0c, .slice q0a q0n q0c] 26)).alloc (.cells #[.int .i64 0, .int .i64 0, .int .i64 0, .int .i64 0, .int .i64 0, .int .i64 0, .int .i64 0, .slice r0a r0n r0c] 29))).heap[w2.heap.size]? = some (.cells #[.int .i64 i0, .slice a1 n c1, .slice a2 n2 c2] 26 (0, 0)) from row_held al_ rT24_.out)
    clear rT24_
    have rM31_ := Lib.hid (show (((w4.alloc (.cells #[.int .i64 i0, .slice p0a p0n p0c, .slice q0a q0n q0c] 26)).alloc (.cells #[.int .i64 0, .int .i64 0, .int .i64 0, .int .i64 0, .int .i64 0, .int .i64 0, .int .i64 0, .slice r0a r0n r0c] 29))).heap[w4.heap.size]? = some (.cells #[.int .i64 i0, .slice p0a p0n p0c, .slice q0a q0n q0c] 26 (0, 0)) from row_held al_ rM29_.out)
    clear rM29_
    have G32_ := Lib.hid (show (W).grownBy (((w4.alloc (.cells #[.int .i64 i0, .slice p0a p0n p0c, .slice q0a q0n q0c] 26)).alloc (.cells #[.int .i64 0, .int .i64 0, .int .i64 0, .int .i64 0, .int .i64 0, .int .i64 0, .int .i64 0, .slice r0a r0n r0c] 29))) none from gby_trans G25_.out al_)
    have HTt33_ := Lib.hid (show (w2).grownBy (((w4.alloc (.cells #[.int .i64 i0, .slice p0a p0n p0c, .slice q0a q0n q0c] 26)).alloc (.cells #[.int .i64 0, .int .i64 0, .int .i64 0, .int .i64 0, .int .i64 0, .int .i64 0, .int .i64 0, .slice r0a r0n r0c] 29))) none from gby_trans HTt26_.out al_)
    clear HTt26_
    have HTP34_ := Lib.hid (show (w3).grownBy (((w4.alloc (.cells #[.int .i64 i0, .slice p0a p0n p0c, .slice q0a q0n q0c] 26)).alloc (.cells #[.int .i64 0, .int .i64 0, .int .i64 0, .int .i64 0, .int .i64 0, .int .i64 0, .int .i64 0, .slice r0a r0n r0c] 29))) none from gby_trans HTP27_.out al_)
    clear HTP27_
    have HTm135_ := Lib.hid (show (w4).grownBy (((w4.alloc (.cells #[.int .i64 i0, .slice p0a p0n p0c, .slice q0a q0n q0c] 26)).alloc (.cells #[.int .i64 0, .int .i64 0, .int .i64 0, .int .i64 0, .int .i64 0, .int .i64 0, .int .i64 0, .slice r0a r0n r0c] 29))) none from gby_trans HTm128_.out al_)
    clear HTm128_
    have rN36_ := Lib.hid (show (((w4.alloc (.cells #[.int .i64 i0, .slice p0a p0n p0c, .slice q0a q0n q0c] 26)).alloc (.cells #[.int .i64 0, .int .i64 0, .int .i64 0, .int .i64 0, .int .i64 0, .int .i64 0, .int .i64 0, .slice r0a r0n r0c] 29))).heap[w4.heap.size + 1]? = some (.cells #[.int .i64 0, .int .i64 0, .int .i64 0, .int .i64 0, .int .i64 0, .int .i64 0, .int .i64 0, .slice r0a r0n r0c] 29 (0, 0)) from by first | exact heap_alloc_new _ _ | exact heap_pair _ _ _ | exact heap_trip _ _ _ _)
    clear al_
    have T_0_ : (((w4.alloc (.cells #[.int .i64 i0, .slice p0a p0n p0c, .slice q0a q0n q0c] 26)).alloc (.cells #[.int .i64 0, .int .i64 0, .int .i64 0, .int .i64 0, .int .i64 0, .int .i64 0, .int .i64 0, .slice r0a r0n r0c] 29))).cell? ⟨w2.heap.size, 0, none⟩ = some (.int .i64 i0) := cell_of_row _ _ 0 _ _ _ rT30_.out
    have T_1_ : (((w4.alloc (.cells #[.int .i64 i0, .slice p0a p0n p0c, .slice q0a q0n q0c] 26)).alloc (.cells #[.int .i64 0, .int .i64 0, .int .i64 0, .int .i64 0, .int .i64 0, .int .i64 0, .int .i64 0, .slice r0a r0n r0c] 29))).cell? ⟨w2.heap.size, 1, none⟩ = some (.slice a1 n c1) := cell_of_row _ _ 1 _ _ _ rT30_.out
    have T_2_ : (((w4.alloc (.cells #[.int .i64 i0, .slice p0a p0n p0c, .slice q0a q0n q0c] 26)).alloc (.cells #[.int .i64 0, .int .i64 0, .int .i64 0, .int .i64 0, .int .i64 0, .int .i64 0, .int .i64 0, .slice r0a r0n r0c] 29))).cell? ⟨w2.heap.size, 2, none⟩ = some (.slice a2 n2 c2) := cell_of_row _ _ 2 _ _ _ rT30_.out
    have M_0_ : (((w4.alloc (.cells #[.int .i64 i0, .slice p0a p0n p0c, .slice q0a q0n q0c] 26)).alloc (.cells #[.int .i64 0, .int .i64 0, .int .i64 0, .int .i64 0, .int .i64 0, .int .i64 0, .int .i64 0, .slice r0a r0n r0c] 29))).cell? ⟨w4.heap.size, 0, none⟩ = some (.int .i64 i0) := cell_of_row _ _ 0 _ _ _ rM31_.out
    have M_1_ : (((w4.alloc (.cells #[.int .i64 i0, .slice p0a p0n p0c, .slice q0a q0n q0c] 26)).alloc (.cells #[.int .i64 0, .int .i64 0, .int .i64 0, .int .i64 0, .int .i64 0, .int .i64 0, .int .i64 0, .slice r0a r0n r0c] 29))).cell? ⟨w4.heap.size, 1, none⟩ = some (.slice p0a p0n p0c) := cell_of_row _ _ 1 _ _ _ rM31_.out
    have M_2_ : (((w4.alloc (.cells #[.int .i64 i0, .slice p0a p0n p0c, .slice q0a q0n q0c] 26)).alloc (.cells #[.int .i64 0, .int .i64 0, .int .i64 0, .int .i64 0, .int .i64 0, .int .i64 0, .int .i64 0, .slice r0a r0n r0c] 29))).cell? ⟨w4.heap.size, 2, none⟩ = some (.slice q0a q0n q0c) := cell_of_row _ _ 2 _ _ _ rM31_.out
    have N_0_ : (((w4.alloc (.cells #[.int .i64 i0, .slice p0a p0n p0c, .slice q0a q0n q0c] 26)).alloc (.cells #[.int .i64 0, .int .i64 0, .int .i64 0, .int .i64 0, .int .i64 0, .int .i64 0, .int .i64 0, .slice r0a r0n r0c] 29))).cell? ⟨w4.heap.size + 1, 0, none⟩ = some (.int .i64 0) := cell_of_row _ _ 0 _ _ _ rN36_.out
    have N_1_ : (((w4.alloc (.cells #[.int .i64 i0, .slice p0a p0n p0c, .slice q0a q0n q0c] 26)).alloc (.cells #[.int .i64 0, .int .i64 0, .int .i64 0, .int .i64 0, .int .i64 0, .int .i64 0, .int .i64 0, .slice r0a r0n r0c] 29))).cell? ⟨w4.heap.size + 1, 1, none⟩ = some (.int .i64 0) := cell_of_row _ _ 1 _ _ _ rN36_.out
    have N_2_ : (((w4.alloc (.cells #[.int .i64 i0, .slice p0a p0n p0c, .slice q0a q0n q0c] 26)).alloc (.cells #[.int .i64 0, .int .i64 0, .int .i64 0, .int .i64 0, .int .i64 0, .int .i64 0, .int .i64 0, .slice r0a r0n r0c] 29))).cell? ⟨w4.heap.size + 1, 2, none⟩ = some (.int .i64 0) := cell_of_row _ _ 2 _ _ _ rN36_.out
    have N_3_ : (((w4.alloc (.cells #[.int .i64 i0, .slice p0a p0n p0c, .slice q0a q0n q0c] 26)).alloc (.cells #[.int .i64 0, .int .i64 0, .int .i64 0, .int .i64 0, .int .i64 0, .int .i64 0, .int .i64 0, .slice r0a r0n r0c] 29))).cell? ⟨w4.heap.size + 1, 3, none⟩ = some (.int .i64 0) := cell_of_row _ _ 3 _ _ _ rN36_.out
    have N_4_ : (((w4.alloc (.cells #[.int .i64 i0, .slice p0a p0n p0c, .slice q0a q0n q0c] 26)).alloc (.cells #[.int .i64 0, .int .i64 0, .int .i64 0, .int .i64 0, .int .i64 0, .int .i64 0, .int .i64 0, .slice r0a r0n r0c] 29))).cell? ⟨w4.heap.size + 1, 4, none⟩ = some (.int .i64 0) := cell_of_row _ _ 4 _ _ _ rN36_.out
    have N_5_ : (((w4.alloc (.cells #[.int .i64 i0, .slice p0a p0n p0c, .slice q0a q0n q0c] 26)).alloc (.cells #[.int .i64 0, .int .i64 0, .int .i64 0, .int .i64 0, .int .i64 0, .int .i64 0, .int .i64 0, .slice r0a r0n r0c] 29))).cell? ⟨w4.heap.size + 1, 5, none⟩ = some (.int .i64 0) := cell_of_row _ _ 5 _ _ _ rN36_.out
    have N_6_ : (((w4.alloc (.cells #[.int .i64 i0, .slice p0a p0n p0c, .slice q0a q0n q0c] 26)).alloc (.cells #[.int .i64 0, .int .i64 0, .int .i64 0, .int .i64 0, .int .i64 0, .int .i64 0, .int .i64 0, .slice r0a r0n r0c] 29))).cell? ⟨w4.heap.size + 1, 6, none⟩ = some (.int .i64 0) := cell_of_row _ _ 6 _ _ _ rN36_.out
    have N_7_ : (((w4.alloc (.cells #[.int .i64 i0, .slice p0a p0n p0c, .slice q0a q0n q0c] 26)).alloc (.cells #[.int .i64 0, .int .i64 0, .int .i64 0, .int .i64 0, .int .i64 0, .int .i64 0, .int .i64 0, .slice r0a r0n r0c] 29))).cell? ⟨w4.heap.size + 1, 7, none⟩ = some (.slice r0a r0n r0c) := cell_of_row _ _ 7 _ _ _ rN36_.out
    go_wp2_with fail
    go_at_call 14
    refine (HR1.out _ _ _ (HA1.out.grow HTm135_.out) (HB1.out.grow HTm135_.out)).mono ?_
    rintro e w5 ⟨z1, z2, z3, rfl, o, g⟩
    have szw5 := g.size
    try simp only [World.size_alloc] at szw5
    obtain ⟨p1a, p1n, p1c, hv_⟩ := RdL.form (OwU.rd o)
    subst hv_
    obtain ⟨q1a, q1n, q1c, hv_⟩ := RdL.form (OwU.rd (OwU.tail o))
    subst hv_
    obtain ⟨r1a, r1n, r1c, hv_⟩ := RdL.form (OwU.rd (OwU.tail (OwU.tail o)))
    subst hv_
    have HA2 := Lib.hid (OwU.rd o)
    have HB2 := Lib.hid (OwU.rd (OwU.tail o))
    have HC2 := Lib.hid (OwU.rd (OwU.tail (OwU.tail o)))
    clear o
    clear T_0_ T_1_ T_2_ M_0_ M_1_ M_2_ N_0_ N_1_ N_2_ N_3_ N_4_ N_5_ N_6_ N_7_
    have rT37_ := Lib.hid (show (w5).heap[w2.heap.size]? = some (.cells #[.int .i64 i0, .slice a1 n c1, .slice a2 n2 c2] 26 (0, 0)) from row_held g rT30_.out)
    clear rT30_
    have rM38_ := Lib.hid (show (w5).heap[w4.heap.size]? = some (.cells #[.int .i64 i0, .slice p0a p0n p0c, .slice q0a q0n q0c] 26 (0, 0)) from row_held g rM31_.out)
    clear rM31_
    have rN39_ := Lib.hid (show (w5).heap[w4.heap.size + 1]? = some (.cells #[.int .i64 0, .int .i64 0, .int .i64 0, .int .i64 0, .int .i64 0, .int .i64 0, .int .i64 0, .slice r0a r0n r0c] 29 (0, 0)) from row_held g rN36_.out)
    clear rN36_
    have G40_ := Lib.hid (show (W).grownBy (w5) none from gby_trans G32_.out g)
    have HTt41_ := Lib.hid (show (w2).grownBy (w5) none from gby_trans HTt33_.out g)
    clear HTt33_
    have HTP42_ := Lib.hid (show (w3).grownBy (w5) none from gby_trans HTP34_.out g)
    clear HTP34_
    have HTm143_ := Lib.hid (show (w4).grownBy (w5) none from gby_trans HTm135_.out g)
    clear HTm135_
    clear g
    have HTm244_ := Lib.hid (gby_refl (w5) none)
    have MG45_ := Lib.hid (show (W).grownBy (w5) none from G40_.out)
    have MR46_ := Lib.hid rT37_.out
    have MR47_ := Lib.hid rM38_.out
    have MR48_ := Lib.hid rN39_.out
    have al_ : (w5).grownBy ((w5).alloc (.cells #[.int .i64 i0, .slice p1a p1n p1c, .slice q1a q1n q1c] 26)) none := gby_alloc (gby_refl _ _) _
    have rT49_ := Lib.hid (show ((w5.alloc (.cells #[.int .i64 i0, .slice p1a p1n p1c, .slice q1a q1n q1c] 26))).heap[w2.heap.size]? = some (.cells #[.int .i64 i0, .slice a1 n c1, .slice a2 n2 c2] 26 (0, 0)) from row_held al_ rT37_.out)
    clear rT37_
    have rM50_ := Lib.hid (show ((w5.alloc (.cells #[.int .i64 i0, .slice p1a p1n p1c, .slice q1a q1n q1c] 26))).heap[w4.heap.size]? = some (.cells #[.int .i64 i0, .slice p0a p0n p0c, .slice q0a q0n q0c] 26 (0, 0)) from row_held al_ rM38_.out)
    clear rM38_
    have rN51_ := Lib.hid (show ((w5.alloc (.cells #[.int .i64 i0, .slice p1a p1n p1c, .slice q1a q1n q1c] 26))).heap[w4.heap.size + 1]? = some (.cells #[.int .i64 0, .int .i64 0, .int .i64 0, .int .i64 0, .int .i64 0, .int .i64 0, .int .i64 0, .slice r0a r0n r0c] 29 (0, 0)) from row_held al_ rN39_.out)
    clear rN39_
    have G52_ := Lib.hid (show (W).grownBy ((w5.alloc (.cells #[.int .i64 i0, .slice p1a p1n p1c, .slice q1a q1n q1c] 26))) none from gby_trans G40_.out al_)
    have HTt53_ := Lib.hid (show (w2).grownBy ((w5.alloc (.cells #[.int .i64 i0, .slice p1a p1n p1c, .slice q1a q1n q1c] 26))) none from gby_trans HTt41_.out al_)
    clear HTt41_
    have HTP54_ := Lib.hid (show (w3).grownBy ((w5.alloc (.cells #[.int .i64 i0, .slice p1a p1n p1c, .slice q1a q1n q1c] 26))) none from gby_trans HTP42_.out al_)
    clear HTP42_
    have HTm155_ := Lib.hid (show (w4).grownBy ((w5.alloc (.cells #[.int .i64 i0, .slice p1a p1n p1c, .slice q1a q1n q1c] 26))) none from gby_trans HTm143_.out al_)
    clear HTm143_
    have HTm256_ := Lib.hid (show (w5).grownBy ((w5.alloc (.cells #[.int .i64 i0, .slice p1a p1n p1c, .slice q1a q1n q1c] 26))) none from gby_trans HTm244_.out al_)
    clear HTm244_
    have rX57_ := Lib.hid (show ((w5.alloc (.cells #[.int .i64 i0, .slice p1a p1n p1c, .slice q1a q1n q1c] 26))).heap[w5.heap.size]? = some (.cells #[.int .i64 i0, .slice p1a p1n p1c, .slice q1a q1n q1c] 26 (0, 0)) from by first | exact heap_alloc_new _ _ | exact heap_pair _ _ _ | exact heap_trip _ _ _ _)
    clear al_
    have T_0_ : ((w5.alloc (.cells #[.int .i64 i0, .slice p1a p1n p1c, .slice q1a q1n q1c] 26))).cell? ⟨w2.heap.size, 0, none⟩ = some (.int .i64 i0) := cell_of_row _ _ 0 _ _ _ rT49_.out
    have T_1_ : ((w5.alloc (.cells #[.int .i64 i0, .slice p1a p1n p1c, .slice q1a q1n q1c] 26))).cell? ⟨w2.heap.size, 1, none⟩ = some (.slice a1 n c1) := cell_of_row _ _ 1 _ _ _ rT49_.out
    have T_2_ : ((w5.alloc (.cells #[.int .i64 i0, .slice p1a p1n p1c, .slice q1a q1n q1c] 26))).cell? ⟨w2.heap.size, 2, none⟩ = some (.slice a2 n2 c2) := cell_of_row _ _ 2 _ _ _ rT49_.out
    have M_0_ : ((w5.alloc (.cells #[.int .i64 i0, .slice p1a p1n p1c, .slice q1a q1n q1c] 26))).cell? ⟨w4.heap.size, 0, none⟩ = some (.int .i64 i0) := cell_of_row _ _ 0 _ _ _ rM50_.out
    have M_1_ : ((w5.alloc (.cells #[.int .i64 i0, .slice p1a p1n p1c, .slice q1a q1n q1c] 26))).cell? ⟨w4.heap.size, 1, none⟩ = some (.slice p0a p0n p0c) := cell_of_row _ _ 1 _ _ _ rM50_.out
    have M_2_ : ((w5.alloc (.cells #[.int .i64 i0, .slice p1a p1n p1c, .slice q1a q1n q1c] 26))).cell? ⟨w4.heap.size, 2, none⟩ = some (.slice q0a q0n q0c) := cell_of_row _ _ 2 _ _ _ rM50_.out
    have N_0_ : ((w5.alloc (.cells #[.int .i64 i0, .slice p1a p1n p1c, .slice q1a q1n q1c] 26))).cell? ⟨w4.heap.size + 1, 0, none⟩ = some (.int .i64 0) := cell_of_row _ _ 0 _ _ _ rN51_.out
    have N_1_ : ((w5.alloc (.cells #[.int .i64 i0, .slice p1a p1n p1c, .slice q1a q1n q1c] 26))).cell? ⟨w4.heap.size + 1, 1, none⟩ = some (.int .i64 0) := cell_of_row _ _ 1 _ _ _ rN51_.out
    have N_2_ : ((w5.alloc (.cells #[.int .i64 i0, .slice p1a p1n p1c, .slice q1a q1n q1c] 26))).cell? ⟨w4.heap.size + 1, 2, none⟩ = some (.int .i64 0) := cell_of_row _ _ 2 _ _ _ rN51_.out
    have N_3_ : ((w5.alloc (.cells #[.int .i64 i0, .slice p1a p1n p1c, .slice q1a q1n q1c] 26))).cell? ⟨w4.heap.size + 1, 3, none⟩ = some (.int .i64 0) := cell_of_row _ _ 3 _ _ _ rN51_.out
    have N_4_ : ((w5.alloc (.cells #[.int .i64 i0, .slice p1a p1n p1c, .slice q1a q1n q1c] 26))).cell? ⟨w4.heap.size + 1, 4, none⟩ = some (.int .i64 0) := cell_of_row _ _ 4 _ _ _ rN51_.out
    have N_5_ : ((w5.alloc (.cells #[.int .i64 i0, .slice p1a p1n p1c, .slice q1a q1n q1c] 26))).cell? ⟨w4.heap.size + 1, 5, none⟩ = some (.int .i64 0) := cell_of_row _ _ 5 _ _ _ rN51_.out
    have N_6_ : ((w5.alloc (.cells #[.int .i64 i0, .slice p1a p1n p1c, .slice q1a q1n q1c] 26))).cell? ⟨w4.heap.size + 1, 6, none⟩ = some (.int .i64 0) := cell_of_row _ _ 6 _ _ _ rN51_.out
    have N_7_ : ((w5.alloc (.cells #[.int .i64 i0, .slice p1a p1n p1c, .slice q1a q1n q1c] 26))).cell? ⟨w4.heap.size + 1, 7, none⟩ = some (.slice r0a r0n r0c) := cell_of_row _ _ 7 _ _ _ rN51_.out
    have X_0_ : ((w5.alloc (.cells #[.int .i64 i0, .slice p1a p1n p1c, .slice q1a q1n q1c] 26))).cell? ⟨w5.heap.size, 0, none⟩ = some (.int .i64 i0) := cell_of_row _ _ 0 _ _ _ rX57_.out
    have X_1_ : ((w5.alloc (.cells #[.int .i64 i0, .slice p1a p1n p1c, .slice q1a q1n q1c] 26))).cell? ⟨w5.heap.size, 1, none⟩ = some (.slice p1a p1n p1c) := cell_of_row _ _ 1 _ _ _ rX57_.out
    have X_2_ : ((w5.alloc (.cells #[.int .i64 i0, .slice p1a p1n p1c, .slice q1a q1n q1c] 26))).cell? ⟨w5.heap.size, 2, none⟩ = some (.slice q1a q1n q1c) := cell_of_row _ _ 2 _ _ _ rX57_.out
    clear T_0_ T_1_ T_2_ M_0_ M_1_ M_2_ N_0_ N_1_ N_2_ N_3_ N_4_ N_5_ N_6_ N_7_ X_0_ X_1_ X_2_
    have al_ : ((w5.alloc (.cells #[.int .i64 i0, .slice p1a p1n p1c, .slice q1a q1n q1c] 26))).grownBy (((w5.alloc (.cells #[.int .i64 i0, .slice p1a p1n p1c, .slice q1a q1n q1c] 26))).alloc (.cells #[.int .i64 0, .int .i64 0, .int .i64 0, .int .i64 0, .int .i64 0, .int .i64 0, .int .i64 0, .slice r1a r1n r1c] 29)) none := gby_alloc (gby_refl _ _) _
    have rT58_ := Lib.hid (show (((w5.alloc (.cells #[.int .i64 i0, .slice p1a p1n p1c, .slice q1a q1n q1c] 26)).alloc (.cells #[.int .i64 0, .int .i64 0, .int .i64 0, .int .i64 0, .int .i64 0, .int .i64 0, .int .i64 0, .slice r1a r1n r1c] 29))).heap[w2.heap.size]? = some (.cells #[.int .i64 i0, .slice a1 n c1, .slice a2 n2 c2] 26 (0, 0)) from row_held al_ rT49_.out)
    clear rT49_
    have rM59_ := Lib.hid (show (((w5.alloc (.cells #[.int .i64 i0, .slice p1a p1n p1c, .slice q1a q1n q1c] 26)).alloc (.cells #[.int .i64 0, .int .i64 0, .int .i64 0, .int .i64 0, .int .i64 0, .int .i64 0, .int .i64 0, .slice r1a r1n r1c] 29))).heap[w4.heap.size]? = some (.cells #[.int .i64 i0, .slice p0a p0n p0c, .slice q0a q0n q0c] 26 (0, 0)) from row_held al_ rM50_.out)
    clear rM50_
    have rN60_ := Lib.hid (show (((w5.alloc (.cells #[.int .i64 i0, .slice p1a p1n p1c, .slice q1a q1n q1c] 26)).alloc (.cells #[.int .i64 0, .int .i64 0, .int .i64 0, .int .i64 0, .int .i64 0, .int .i64 0, .int .i64 0, .slice r1a r1n r1c] 29))).heap[w4.heap.size + 1]? = some (.cells #[.int .i64 0, .int .i64 0, .int .i64 0, .int .i64 0, .int .i64 0, .int .i64 0, .int .i64 0, .slice r0a r0n r0c] 29 (0, 0)) from row_held al_ rN51_.out)
    clear rN51_
    have rX61_ := Lib.hid (show (((w5.alloc (.cells #[.int .i64 i0, .slice p1a p1n p1c, .slice q1a q1n q1c] 26)).alloc (.cells #[.int .i64 0, .int .i64 0, .int .i64 0, .int .i64 0, .int .i64 0, .int .i64 0, .int .i64 0, .slice r1a r1n r1c] 29))).heap[w5.heap.size]? = some (.cells #[.int .i64 i0, .slice p1a p1n p1c, .slice q1a q1n q1c] 26 (0, 0)) from row_held al_ rX57_.out)
    clear rX57_
    have G62_ := Lib.hid (show (W).grownBy (((w5.alloc (.cells #[.int .i64 i0, .slice p1a p1n p1c, .slice q1a q1n q1c] 26)).alloc (.cells #[.int .i64 0, .int .i64 0, .int .i64 0, .int .i64 0, .int .i64 0, .int .i64 0, .int .i64 0, .slice r1a r1n r1c] 29))) none from gby_trans G52_.out al_)
    have HTt63_ := Lib.hid (show (w2).grownBy (((w5.alloc (.cells #[.int .i64 i0, .slice p1a p1n p1c, .slice q1a q1n q1c] 26)).alloc (.cells #[.int .i64 0, .int .i64 0, .int .i64 0, .int .i64 0, .int .i64 0, .int .i64 0, .int .i64 0, .slice r1a r1n r1c] 29))) none from gby_trans HTt53_.out al_)
    clear HTt53_
    have HTP64_ := Lib.hid (show (w3).grownBy (((w5.alloc (.cells #[.int .i64 i0, .slice p1a p1n p1c, .slice q1a q1n q1c] 26)).alloc (.cells #[.int .i64 0, .int .i64 0, .int .i64 0, .int .i64 0, .int .i64 0, .int .i64 0, .int .i64 0, .slice r1a r1n r1c] 29))) none from gby_trans HTP54_.out al_)
    clear HTP54_
    have HTm165_ := Lib.hid (show (w4).grownBy (((w5.alloc (.cells #[.int .i64 i0, .slice p1a p1n p1c, .slice q1a q1n q1c] 26)).alloc (.cells #[.int .i64 0, .int .i64 0, .int .i64 0, .int .i64 0, .int .i64 0, .int .i64 0, .int .i64 0, .slice r1a r1n r1c] 29))) none from gby_trans HTm155_.out al_)
    clear HTm155_
    have HTm266_ := Lib.hid (show (w5).grownBy (((w5.alloc (.cells #[.int .i64 i0, .slice p1a p1n p1c, .slice q1a q1n q1c] 26)).alloc (.cells #[.int .i64 0, .int .i64 0, .int .i64 0, .int .i64 0, .int .i64 0, .int .i64 0, .int .i64 0, .slice r1a r1n r1c] 29))) none from gby_trans HTm256_.out al_)
    clear HTm256_
    have rQ67_ := Lib.hid (show (((w5.alloc (.cells #[.int .i64 i0, .slice p1a p1n p1c, .slice q1a q1n q1c] 26)).alloc (.cells #[.int .i64 0, .int .i64 0, .int .i64 0, .int .i64 0, .int .i64 0, .int .i64 0, .int .i64 0, .slice r1a r1n r1c] 29))).heap[w5.heap.size + 1]? = some (.cells #[.int .i64 0, .int .i64 0, .int .i64 0, .int .i64 0, .int .i64 0, .int .i64 0, .int .i64 0, .slice r1a r1n r1c] 29 (0, 0)) from by first | exact heap_alloc_new _ _ | exact heap_pair _ _ _ | exact heap_trip _ _ _ _)
    clear al_
    have T_0_ : (((w5.alloc (.cells #[.int .i64 i0, .slice p1a p1n p1c, .slice q1a q1n q1c] 26)).alloc (.cells #[.int .i64 0, .int .i64 0, .int .i64 0, .int .i64 0, .int .i64 0, .int .i64 0, .int .i64 0, .slice r1a r1n r1c] 29))).cell? ⟨w2.heap.size, 0, none⟩ = some (.int .i64 i0) := cell_of_row _ _ 0 _ _ _ rT58_.out
    have T_1_ : (((w5.alloc (.cells #[.int .i64 i0, .slice p1a p1n p1c, .slice q1a q1n q1c] 26)).alloc (.cells #[.int .i64 0, .int .i64 0, .int .i64 0, .int .i64 0, .int .i64 0, .int .i64 0, .int .i64 0, .slice r1a r1n r1c] 29))).cell? ⟨w2.heap.size, 1, none⟩ = some (.slice a1 n c1) := cell_of_row _ _ 1 _ _ _ rT58_.out
    have T_2_ : (((w5.alloc (.cells #[.int .i64 i0, .slice p1a p1n p1c, .slice q1a q1n q1c] 26)).alloc (.cells #[.int .i64 0, .int .i64 0, .int .i64 0, .int .i64 0, .int .i64 0, .int .i64 0, .int .i64 0, .slice r1a r1n r1c] 29))).cell? ⟨w2.heap.size, 2, none⟩ = some (.slice a2 n2 c2) := cell_of_row _ _ 2 _ _ _ rT58_.out
    have M_0_ : (((w5.alloc (.cells #[.int .i64 i0, .slice p1a p1n p1c, .slice q1a q1n q1c] 26)).alloc (.cells #[.int .i64 0, .int .i64 0, .int .i64 0, .int .i64 0, .int .i64 0, .int .i64 0, .int .i64 0, .slice r1a r1n r1c] 29))).cell? ⟨w4.heap.size, 0, none⟩ = some (.int .i64 i0) := cell_of_row _ _ 0 _ _ _ rM59_.out
    have M_1_ : (((w5.alloc (.cells #[.int .i64 i0, .slice p1a p1n p1c, .slice q1a q1n q1c] 26)).alloc (.cells #[.int .i64 0, .int .i64 0, .int .i64 0, .int .i64 0, .int .i64 0, .int .i64 0, .int .i64 0, .slice r1a r1n r1c] 29))).cell? ⟨w4.heap.size, 1, none⟩ = some (.slice p0a p0n p0c) := cell_of_row _ _ 1 _ _ _ rM59_.out
    have M_2_ : (((w5.alloc (.cells #[.int .i64 i0, .slice p1a p1n p1c, .slice q1a q1n q1c] 26)).alloc (.cells #[.int .i64 0, .int .i64 0, .int .i64 0, .int .i64 0, .int .i64 0, .int .i64 0, .int .i64 0, .slice r1a r1n r1c] 29))).cell? ⟨w4.heap.size, 2, none⟩ = some (.slice q0a q0n q0c) := cell_of_row _ _ 2 _ _ _ rM59_.out
    have N_0_ : (((w5.alloc (.cells #[.int .i64 i0, .slice p1a p1n p1c, .slice q1a q1n q1c] 26)).alloc (.cells #[.int .i64 0, .int .i64 0, .int .i64 0, .int .i64 0, .int .i64 0, .int .i64 0, .int .i64 0, .slice r1a r1n r1c] 29))).cell? ⟨w4.heap.size + 1, 0, none⟩ = some (.int .i64 0) := cell_of_row _ _ 0 _ _ _ rN60_.out
    have N_1_ : (((w5.alloc (.cells #[.int .i64 i0, .slice p1a p1n p1c, .slice q1a q1n q1c] 26)).alloc (.cells #[.int .i64 0, .int .i64 0, .int .i64 0, .int .i64 0, .int .i64 0, .int .i64 0, .int .i64 0, .slice r1a r1n r1c] 29))).cell? ⟨w4.heap.size + 1, 1, none⟩ = some (.int .i64 0) := cell_of_row _ _ 1 _ _ _ rN60_.out
    have N_2_ : (((w5.alloc (.cells #[.int .i64 i0, .slice p1a p1n p1c, .slice q1a q1n q1c] 26)).alloc (.cells #[.int .i64 0, .int .i64 0, .int .i64 0, .int .i64 0, .int .i64 0, .int .i64 0, .int .i64 0, .slice r1a r1n r1c] 29))).cell? ⟨w4.heap.size + 1, 2, none⟩ = some (.int .i64 0) := cell_of_row _ _ 2 _ _ _ rN60_.out
    have N_3_ : (((w5.alloc (.cells #[.int .i64 i0, .slice p1a p1n p1c, .slice q1a q1n q1c] 26)).alloc (.cells #[.int .i64 0, .int .i64 0, .int .i64 0, .int .i64 0, .int .i64 0, .int .i64 0, .int .i64 0, .slice r1a r1n r1c] 29))).cell? ⟨w4.heap.size + 1, 3, none⟩ = some (.int .i64 0) := cell_of_row _ _ 3 _ _ _ rN60_.out
    have N_4_ : (((w5.alloc (.cells #[.int .i64 i0, .slice p1a p1n p1c, .slice q1a q1n q1c] 26)).alloc (.cells #[.int .i64 0, .int .i64 0, .int .i64 0, .int .i64 0, .int .i64 0, .int .i64 0, .int .i64 0, .slice r1a r1n r1c] 29))).cell? ⟨w4.heap.size + 1, 4, none⟩ = some (.int .i64 0) := cell_of_row _ _ 4 _ _ _ rN60_.out
    have N_5_ : (((w5.alloc (.cells #[.int .i64 i0, .slice p1a p1n p1c, .slice q1a q1n q1c] 26)).alloc (.cells #[.int .i64 0, .int .i64 0, .int .i64 0, .int .i64 0, .int .i64 0, .int .i64 0, .int .i64 0, .slice r1a r1n r1c] 29))).cell? ⟨w4.heap.size + 1, 5, none⟩ = some (.int .i64 0) := cell_of_row _ _ 5 _ _ _ rN60_.out
    have N_6_ : (((w5.alloc (.cells #[.int .i64 i0, .slice p1a p1n p1c, .slice q1a q1n q1c] 26)).alloc (.cells #[.int .i64 0, .int .i64 0, .int .i64 0, .int .i64 0, .int .i64 0, .int .i64 0, .int .i64 0, .slice r1a r1n r1c] 29))).cell? ⟨w4.heap.size + 1, 6, none⟩ = some (.int .i64 0) := cell_of_row _ _ 6 _ _ _ rN60_.out
    have N_7_ : (((w5.alloc (.cells #[.int .i64 i0, .slice p1a p1n p1c, .slice q1a q1n q1c] 26)).alloc (.cells #[.int .i64 0, .int .i64 0, .int .i64 0, .int .i64 0, .int .i64 0, .int .i64 0, .int .i64 0, .slice r1a r1n r1c] 29))).cell? ⟨w4.heap.size + 1, 7, none⟩ = some (.slice r0a r0n r0c) := cell_of_row _ _ 7 _ _ _ rN60_.out
    have X_0_ : (((w5.alloc (.cells #[.int .i64 i0, .slice p1a p1n p1c, .slice q1a q1n q1c] 26)).alloc (.cells #[.int .i64 0, .int .i64 0, .int .i64 0, .int .i64 0, .int .i64 0, .int .i64 0, .int .i64 0, .slice r1a r1n r1c] 29))).cell? ⟨w5.heap.size, 0, none⟩ = some (.int .i64 i0) := cell_of_row _ _ 0 _ _ _ rX61_.out
    have X_1_ : (((w5.alloc (.cells #[.int .i64 i0, .slice p1a p1n p1c, .slice q1a q1n q1c] 26)).alloc (.cells #[.int .i64 0, .int .i64 0, .int .i64 0, .int .i64 0, .int .i64 0, .int .i64 0, .int .i64 0, .slice r1a r1n r1c] 29))).cell? ⟨w5.heap.size, 1, none⟩ = some (.slice p1a p1n p1c) := cell_of_row _ _ 1 _ _ _ rX61_.out
    have X_2_ : (((w5.alloc (.cells #[.int .i64 i0, .slice p1a p1n p1c, .slice q1a q1n q1c] 26)).alloc (.cells #[.int .i64 0, .int .i64 0, .int .i64 0, .int .i64 0, .int .i64 0, .int .i64 0, .int .i64 0, .slice r1a r1n r1c] 29))).cell? ⟨w5.heap.size, 2, none⟩ = some (.slice q1a q1n q1c) := cell_of_row _ _ 2 _ _ _ rX61_.out
    have Q_0_ : (((w5.alloc (.cells #[.int .i64 i0, .slice p1a p1n p1c, .slice q1a q1n q1c] 26)).alloc (.cells #[.int .i64 0, .int .i64 0, .int .i64 0, .int .i64 0, .int .i64 0, .int .i64 0, .int .i64 0, .slice r1a r1n r1c] 29))).cell? ⟨w5.heap.size + 1, 0, none⟩ = some (.int .i64 0) := cell_of_row _ _ 0 _ _ _ rQ67_.out
    have Q_1_ : (((w5.alloc (.cells #[.int .i64 i0, .slice p1a p1n p1c, .slice q1a q1n q1c] 26)).alloc (.cells #[.int .i64 0, .int .i64 0, .int .i64 0, .int .i64 0, .int .i64 0, .int .i64 0, .int .i64 0, .slice r1a r1n r1c] 29))).cell? ⟨w5.heap.size + 1, 1, none⟩ = some (.int .i64 0) := cell_of_row _ _ 1 _ _ _ rQ67_.out
    have Q_2_ : (((w5.alloc (.cells #[.int .i64 i0, .slice p1a p1n p1c, .slice q1a q1n q1c] 26)).alloc (.cells #[.int .i64 0, .int .i64 0, .int .i64 0, .int .i64 0, .int .i64 0, .int .i64 0, .int .i64 0, .slice r1a r1n r1c] 29))).cell? ⟨w5.heap.size + 1, 2, none⟩ = some (.int .i64 0) := cell_of_row _ _ 2 _ _ _ rQ67_.out
    have Q_3_ : (((w5.alloc (.cells #[.int .i64 i0, .slice p1a p1n p1c, .slice q1a q1n q1c] 26)).alloc (.cells #[.int .i64 0, .int .i64 0, .int .i64 0, .int .i64 0, .int .i64 0, .int .i64 0, .int .i64 0, .slice r1a r1n r1c] 29))).cell? ⟨w5.heap.size + 1, 3, none⟩ = some (.int .i64 0) := cell_of_row _ _ 3 _ _ _ rQ67_.out
    have Q_4_ : (((w5.alloc (.cells #[.int .i64 i0, .slice p1a p1n p1c, .slice q1a q1n q1c] 26)).alloc (.cells #[.int .i64 0, .int .i64 0, .int .i64 0, .int .i64 0, .int .i64 0, .int .i64 0, .int .i64 0, .slice r1a r1n r1c] 29))).cell? ⟨w5.heap.size + 1, 4, none⟩ = some (.int .i64 0) := cell_of_row _ _ 4 _ _ _ rQ67_.out
    have Q_5_ : (((w5.alloc (.cells #[.int .i64 i0, .slice p1a p1n p1c, .slice q1a q1n q1c] 26)).alloc (.cells #[.int .i64 0, .int .i64 0, .int .i64 0, .int .i64 0, .int .i64 0, .int .i64 0, .int .i64 0, .slice r1a r1n r1c] 29))).cell? ⟨w5.heap.size + 1, 5, none⟩ = some (.int .i64 0) := cell_of_row _ _ 5 _ _ _ rQ67_.out
    have Q_6_ : (((w5.alloc (.cells #[.int .i64 i0, .slice p1a p1n p1c, .slice q1a q1n q1c] 26)).alloc (.cells #[.int .i64 0, .int .i64 0, .int .i64 0, .int .i64 0, .int .i64 0, .int .i64 0, .int .i64 0, .slice r1a r1n r1c] 29))).cell? ⟨w5.heap.size + 1, 6, none⟩ = some (.int .i64 0) := cell_of_row _ _ 6 _ _ _ rQ67_.out
    have Q_7_ : (((w5.alloc (.cells #[.int .i64 i0, .slice p1a p1n p1c, .slice q1a q1n q1c] 26)).alloc (.cells #[.int .i64 0, .int .i64 0, .int .i64 0, .int .i64 0, .int .i64 0, .int .i64 0, .int .i64 0, .slice r1a r1n r1c] 29))).cell? ⟨w5.heap.size + 1, 7, none⟩ = some (.slice r1a r1n r1c) := cell_of_row _ _ 7 _ _ _ rQ67_.out
    go_wp2_with fail
    go_at_call 22
    refine (HS2.out _ _ _ (HA2.out.grow HTm266_.out) (HB2.out.grow HTm266_.out)).mono ?_
    rintro e w6 ⟨z1, z2, z3, rfl, o, g⟩
    have szw6 := g.size
    try simp only [World.size_alloc] at szw6
    obtain ⟨p2a, p2n, p2c, hv_⟩ := RdL.form (OwU.rd o)
    subst hv_
    obtain ⟨q2a, q2n, q2c, hv_⟩ := RdL.form (OwU.rd (OwU.tail o))
    subst hv_
    obtain ⟨r2a, r2n, r2c, hv_⟩ := RdL.form (OwU.rd (OwU.tail (OwU.tail o)))
    subst hv_
    have HA3 := Lib.hid (OwU.rd o)
    have HB3 := Lib.hid (OwU.rd (OwU.tail o))
    have HC3 := Lib.hid (OwU.rd (OwU.tail (OwU.tail o)))
    clear o
    clear T_0_ T_1_ T_2_ M_0_ M_1_ M_2_ N_0_ N_1_ N_2_ N_3_ N_4_ N_5_ N_6_ N_7_ X_0_ X_1_ X_2_ Q_0_ Q_1_ Q_2_ Q_3_ Q_4_ Q_5_ Q_6_ Q_7_
    have rT68_ := Lib.hid (show (w6).heap[w2.heap.size]? = some (.cells #[.int .i64 i0, .slice a1 n c1, .slice a2 n2 c2] 26 (0, 0)) from row_held g rT58_.out)
    clear rT58_
    have rM69_ := Lib.hid (show (w6).heap[w4.heap.size]? = some (.cells #[.int .i64 i0, .slice p0a p0n p0c, .slice q0a q0n q0c] 26 (0, 0)) from row_held g rM59_.out)
    clear rM59_
    have rN70_ := Lib.hid (show (w6).heap[w4.heap.size + 1]? = some (.cells #[.int .i64 0, .int .i64 0, .int .i64 0, .int .i64 0, .int .i64 0, .int .i64 0, .int .i64 0, .slice r0a r0n r0c] 29 (0, 0)) from row_held g rN60_.out)
    clear rN60_
    have rX71_ := Lib.hid (show (w6).heap[w5.heap.size]? = some (.cells #[.int .i64 i0, .slice p1a p1n p1c, .slice q1a q1n q1c] 26 (0, 0)) from row_held g rX61_.out)
    clear rX61_
    have rQ72_ := Lib.hid (show (w6).heap[w5.heap.size + 1]? = some (.cells #[.int .i64 0, .int .i64 0, .int .i64 0, .int .i64 0, .int .i64 0, .int .i64 0, .int .i64 0, .slice r1a r1n r1c] 29 (0, 0)) from row_held g rQ67_.out)
    clear rQ67_
    have G73_ := Lib.hid (show (W).grownBy (w6) none from gby_trans G62_.out g)
    have HTt74_ := Lib.hid (show (w2).grownBy (w6) none from gby_trans HTt63_.out g)
    clear HTt63_
    have HTP75_ := Lib.hid (show (w3).grownBy (w6) none from gby_trans HTP64_.out g)
    clear HTP64_
    have HTm176_ := Lib.hid (show (w4).grownBy (w6) none from gby_trans HTm165_.out g)
    clear HTm165_
    have HTm277_ := Lib.hid (show (w5).grownBy (w6) none from gby_trans HTm266_.out g)
    clear HTm266_
    clear g
    have HTm378_ := Lib.hid (gby_refl (w6) none)
    have MG79_ := Lib.hid (show (W).grownBy (w6) none from G73_.out)
    have MR80_ := Lib.hid rT68_.out
    have MR81_ := Lib.hid rM69_.out
    have MR82_ := Lib.hid rN70_.out
    have MR83_ := Lib.hid rX71_.out
    have MR84_ := Lib.hid rQ72_.out
    have al_ : (w6).grownBy ((w6).alloc (.cells #[.int .i64 i0, .slice p2a p2n p2c, .slice q2a q2n q2c] 26)) none := gby_alloc (gby_refl _ _) _
    have rT85_ := Lib.hid (show ((w6.alloc (.cells #[.int .i64 i0, .slice p2a p2n p2c, .slice q2a q2n q2c] 26))).heap[w2.heap.size]? = some (.cells #[.int .i64 i0, .slice a1 n c1, .slice a2 n2 c2] 26 (0, 0)) from row_held al_ rT68_.out)
    clear rT68_
    have rM86_ := Lib.hid (show ((w6.alloc (.cells #[.int .i64 i0, .slice p2a p2n p2c, .slice q2a q2n q2c] 26))).heap[w4.heap.size]? = some (.cells #[.int .i64 i0, .slice p0a p0n p0c, .slice q0a q0n q0c] 26 (0, 0)) from row_held al_ rM69_.out)
    clear rM69_
    have rN87_ := Lib.hid (show ((w6.alloc (.cells #[.int .i64 i0, .slice p2a p2n p2c, .slice q2a q2n q2c] 26))).heap[w4.heap.size + 1]? = some (.cells #[.int .i64 0, .int .i64 0, .int .i64 0, .int .i64 0, .int .i64 0, .int .i64 0, .int .i64 0, .slice r0a r0n r0c] 29 (0, 0)) from row_held al_ rN70_.out)
    clear rN70_
    have rX88_ := Lib.hid (show ((w6.alloc (.cells #[.int .i64 i0, .slice p2a p2n p2c, .slice q2a q2n q2c] 26))).heap[w5.heap.size]? = some (.cells #[.int .i64 i0, .slice p1a p1n p1c, .slice q1a q1n q1c] 26 (0, 0)) from row_held al_ rX71_.out)
    clear rX71_
    have rQ89_ := Lib.hid (show ((w6.alloc (.cells #[.int .i64 i0, .slice p2a p2n p2c, .slice q2a q2n q2c] 26))).heap[w5.heap.size + 1]? = some (.cells #[.int .i64 0, .int .i64 0, .int .i64 0, .int .i64 0, .int .i64 0, .int .i64 0, .int .i64 0, .slice r1a r1n r1c] 29 (0, 0)) from row_held al_ rQ72_.out)
    clear rQ72_
    have G90_ := Lib.hid (show (W).grownBy ((w6.alloc (.cells #[.int .i64 i0, .slice p2a p2n p2c, .slice q2a q2n q2c] 26))) none from gby_trans G73_.out al_)
    have HTt91_ := Lib.hid (show (w2).grownBy ((w6.alloc (.cells #[.int .i64 i0, .slice p2a p2n p2c, .slice q2a q2n q2c] 26))) none from gby_trans HTt74_.out al_)
    clear HTt74_
    have HTP92_ := Lib.hid (show (w3).grownBy ((w6.alloc (.cells #[.int .i64 i0, .slice p2a p2n p2c, .slice q2a q2n q2c] 26))) none from gby_trans HTP75_.out al_)
    clear HTP75_
    have HTm193_ := Lib.hid (show (w4).grownBy ((w6.alloc (.cells #[.int .i64 i0, .slice p2a p2n p2c, .slice q2a q2n q2c] 26))) none from gby_trans HTm176_.out al_)
    clear HTm176_
    have HTm294_ := Lib.hid (show (w5).grownBy ((w6.alloc (.cells #[.int .i64 i0, .slice p2a p2n p2c, .slice q2a q2n q2c] 26))) none from gby_trans HTm277_.out al_)
    clear HTm277_
    have HTm395_ := Lib.hid (show (w6).grownBy ((w6.alloc (.cells #[.int .i64 i0, .slice p2a p2n p2c, .slice q2a q2n q2c] 26))) none from gby_trans HTm378_.out al_)
    clear HTm378_
    have rY96_ := Lib.hid (show ((w6.alloc (.cells #[.int .i64 i0, .slice p2a p2n p2c, .slice q2a q2n q2c] 26))).heap[w6.heap.size]? = some (.cells #[.int .i64 i0, .slice p2a p2n p2c, .slice q2a q2n q2c] 26 (0, 0)) from by first | exact heap_alloc_new _ _ | exact heap_pair _ _ _ | exact heap_trip _ _ _ _)
    clear al_
    have T_0_ : ((w6.alloc (.cells #[.int .i64 i0, .slice p2a p2n p2c, .slice q2a q2n q2c] 26))).cell? ⟨w2.heap.size, 0, none⟩ = some (.int .i64 i0) := cell_of_row _ _ 0 _ _ _ rT85_.out
    have T_1_ : ((w6.alloc (.cells #[.int .i64 i0, .slice p2a p2n p2c, .slice q2a q2n q2c] 26))).cell? ⟨w2.heap.size, 1, none⟩ = some (.slice a1 n c1) := cell_of_row _ _ 1 _ _ _ rT85_.out
    have T_2_ : ((w6.alloc (.cells #[.int .i64 i0, .slice p2a p2n p2c, .slice q2a q2n q2c] 26))).cell? ⟨w2.heap.size, 2, none⟩ = some (.slice a2 n2 c2) := cell_of_row _ _ 2 _ _ _ rT85_.out
    have M_0_ : ((w6.alloc (.cells #[.int .i64 i0, .slice p2a p2n p2c, .slice q2a q2n q2c] 26))).cell? ⟨w4.heap.size, 0, none⟩ = some (.int .i64 i0) := cell_of_row _ _ 0 _ _ _ rM86_.out
    have M_1_ : ((w6.alloc (.cells #[.int .i64 i0, .slice p2a p2n p2c, .slice q2a q2n q2c] 26))).cell? ⟨w4.heap.size, 1, none⟩ = some (.slice p0a p0n p0c) := cell_of_row _ _ 1 _ _ _ rM86_.out
    have M_2_ : ((w6.alloc (.cells #[.int .i64 i0, .slice p2a p2n p2c, .slice q2a q2n q2c] 26))).cell? ⟨w4.heap.size, 2, none⟩ = some (.slice q0a q0n q0c) := cell_of_row _ _ 2 _ _ _ rM86_.out
    have N_0_ : ((w6.alloc (.cells #[.int .i64 i0, .slice p2a p2n p2c, .slice q2a q2n q2c] 26))).cell? ⟨w4.heap.size + 1, 0, none⟩ = some (.int .i64 0) := cell_of_row _ _ 0 _ _ _ rN87_.out
    have N_1_ : ((w6.alloc (.cells #[.int .i64 i0, .slice p2a p2n p2c, .slice q2a q2n q2c] 26))).cell? ⟨w4.heap.size + 1, 1, none⟩ = some (.int .i64 0) := cell_of_row _ _ 1 _ _ _ rN87_.out
    have N_2_ : ((w6.alloc (.cells #[.int .i64 i0, .slice p2a p2n p2c, .slice q2a q2n q2c] 26))).cell? ⟨w4.heap.size + 1, 2, none⟩ = some (.int .i64 0) := cell_of_row _ _ 2 _ _ _ rN87_.out
    have N_3_ : ((w6.alloc (.cells #[.int .i64 i0, .slice p2a p2n p2c, .slice q2a q2n q2c] 26))).cell? ⟨w4.heap.size + 1, 3, none⟩ = some (.int .i64 0) := cell_of_row _ _ 3 _ _ _ rN87_.out
    have N_4_ : ((w6.alloc (.cells #[.int .i64 i0, .slice p2a p2n p2c, .slice q2a q2n q2c] 26))).cell? ⟨w4.heap.size + 1, 4, none⟩ = some (.int .i64 0) := cell_of_row _ _ 4 _ _ _ rN87_.out
    have N_5_ : ((w6.alloc (.cells #[.int .i64 i0, .slice p2a p2n p2c, .slice q2a q2n q2c] 26))).cell? ⟨w4.heap.size + 1, 5, none⟩ = some (.int .i64 0) := cell_of_row _ _ 5 _ _ _ rN87_.out
    have N_6_ : ((w6.alloc (.cells #[.int .i64 i0, .slice p2a p2n p2c, .slice q2a q2n q2c] 26))).cell? ⟨w4.heap.size + 1, 6, none⟩ = some (.int .i64 0) := cell_of_row _ _ 6 _ _ _ rN87_.out
    have N_7_ : ((w6.alloc (.cells #[.int .i64 i0, .slice p2a p2n p2c, .slice q2a q2n q2c] 26))).cell? ⟨w4.heap.size + 1, 7, none⟩ = some (.slice r0a r0n r0c) := cell_of_row _ _ 7 _ _ _ rN87_.out
    have X_0_ : ((w6.alloc (.cells #[.int .i64 i0, .slice p2a p2n p2c, .slice q2a q2n q2c] 26))).cell? ⟨w5.heap.size, 0, none⟩ = some (.int .i64 i0) := cell_of_row _ _ 0 _ _ _ rX88_.out
    have X_1_ : ((w6.alloc (.cells #[.int .i64 i0, .slice p2a p2n p2c, .slice q2a q2n q2c] 26))).cell? ⟨w5.heap.size, 1, none⟩ = some (.slice p1a p1n p1c) := cell_of_row _ _ 1 _ _ _ rX88_.out
    have X_2_ : ((w6.alloc (.cells #[.int .i64 i0, .slice p2a p2n p2c, .slice q2a q2n q2c] 26))).cell? ⟨w5.heap.size, 2, none⟩ = some (.slice q1a q1n q1c) := cell_of_row _ _ 2 _ _ _ rX88_.out
    have Q_0_ : ((w6.alloc (.cells #[.int .i64 i0, .slice p2a p2n p2c, .slice q2a q2n q2c] 26))).cell? ⟨w5.heap.size + 1, 0, none⟩ = some (.int .i64 0) := cell_of_row _ _ 0 _ _ _ rQ89_.out
    have Q_1_ : ((w6.alloc (.cells #[.int .i64 i0, .slice p2a p2n p2c, .slice q2a q2n q2c] 26))).cell? ⟨w5.heap.size + 1, 1, none⟩ = some (.int .i64 0) := cell_of_row _ _ 1 _ _ _ rQ89_.out
    have Q_2_ : ((w6.alloc (.cells #[.int .i64 i0, .slice p2a p2n p2c, .slice q2a q2n q2c] 26))).cell? ⟨w5.heap.size + 1, 2, none⟩ = some (.int .i64 0) := cell_of_row _ _ 2 _ _ _ rQ89_.out
    have Q_3_ : ((w6.alloc (.cells #[.int .i64 i0, .slice p2a p2n p2c, .slice q2a q2n q2c] 26))).cell? ⟨w5.heap.size + 1, 3, none⟩ = some (.int .i64 0) := cell_of_row _ _ 3 _ _ _ rQ89_.out
    have Q_4_ : ((w6.alloc (.cells #[.int .i64 i0, .slice p2a p2n p2c, .slice q2a q2n q2c] 26))).cell? ⟨w5.heap.size + 1, 4, none⟩ = some (.int .i64 0) := cell_of_row _ _ 4 _ _ _ rQ89_.out
    have Q_5_ : ((w6.alloc (.cells #[.int .i64 i0, .slice p2a p2n p2c, .slice q2a q2n q2c] 26))).cell? ⟨w5.heap.size + 1, 5, none⟩ = some (.int .i64 0) := cell_of_row _ _ 5 _ _ _ rQ89_.out
    have Q_6_ : ((w6.alloc (.cells #[.int .i64 i0, .slice p2a p2n p2c, .slice q2a q2n q2c] 26))).cell? ⟨w5.heap.size + 1, 6, none⟩ = some (.int .i64 0) := cell_of_row _ _ 6 _ _ _ rQ89_.out
    have Q_7_ : ((w6.alloc (.cells #[.int .i64 i0, .slice p2a p2n p2c, .slice q2a q2n q2c] 26))).cell? ⟨w5.heap.size + 1, 7, none⟩ = some (.slice r1a r1n r1c) := cell_of_row _ _ 7 _ _ _ rQ89_.out
    have Y_0_ : ((w6.alloc (.cells #[.int .i64 i0, .slice p2a p2n p2c, .slice q2a q2n q2c] 26))).cell? ⟨w6.heap.size, 0, none⟩ = some (.int .i64 i0) := cell_of_row _ _ 0 _ _ _ rY96_.out
    have Y_1_ : ((w6.alloc (.cells #[.int .i64 i0, .slice p2a p2n p2c, .slice q2a q2n q2c] 26))).cell? ⟨w6.heap.size, 1, none⟩ = some (.slice p2a p2n p2c) := cell_of_row _ _ 1 _ _ _ rY96_.out
    have Y_2_ : ((w6.alloc (.cells #[.int .i64 i0, .slice p2a p2n p2c, .slice q2a q2n q2c] 26))).cell? ⟨w6.heap.size, 2, none⟩ = some (.slice q2a q2n q2c) := cell_of_row _ _ 2 _ _ _ rY96_.out
    clear T_0_ T_1_ T_2_ M_0_ M_1_ M_2_ N_0_ N_1_ N_2_ N_3_ N_4_ N_5_ N_6_ N_7_ X_0_ X_1_ X_2_ Q_0_ Q_1_ Q_2_ Q_3_ Q_4_ Q_5_ Q_6_ Q_7_ Y_0_ Y_1_ Y_2_
    have al_ : ((w6.alloc (.cells #[.int .i64 i0, .slice p2a p2n p2c, .slice q2a q2n q2c] 26))).grownBy (((w6.alloc (.cells #[.int .i64 i0, .slice p2a p2n p2c, .slice q2a q2n q2c] 26))).alloc (.cells #[.int .i64 1, .int .i64 33, .int .i64 0, .int .i64 i0, .int .i64 0, .int .i64 0, .int .i64 0, .slice r2a r2n r2c] 29)) none := gby_alloc (gby_refl _ _) _
    have rT97_ := Lib.hid (show (((w6.alloc (.cells #[.int .i64 i0, .slice p2a p2n p2c, .slice q2a q2n q2c] 26)).alloc (.cells #[.int .i64 1, .int .i64 33, .int .i64 0, .int .i64 i0, .int .i64 0, .int .i64 0, .int .i64 0, .slice r2a r2n r2c] 29))).heap[w2.heap.size]? = some (.cells #[.int .i64 i0, .slice a1 n c1, .slice a2 n2 c2] 26 (0, 0)) from row_held al_ rT85_.out)
    clear rT85_
    have rM98_ := Lib.hid (show (((w6.alloc (.cells #[.int .i64 i0, .slice p2a p2n p2c, .slice q2a q2n q2c] 26)).alloc (.cells #[.int .i64 1, .int .i64 33, .int .i64 0, .int .i64 i0, .int .i64 0, .int .i64 0, .int .i64 0, .slice r2a r2n r2c] 29))).heap[w4.heap.size]? = some (.cells #[.int .i64 i0, .slice p0a p0n p0c, .slice q0a q0n q0c] 26 (0, 0)) from row_held al_ rM86_.out)
    clear rM86_
    have rN99_ := Lib.hid (show (((w6.alloc (.cells #[.int .i64 i0, .slice p2a p2n p2c, .slice q2a q2n q2c] 26)).alloc (.cells #[.int .i64 1, .int .i64 33, .int .i64 0, .int .i64 i0, .int .i64 0, .int .i64 0, .int .i64 0, .slice r2a r2n r2c] 29))).heap[w4.heap.size + 1]? = some (.cells #[.int .i64 0, .int .i64 0, .int .i64 0, .int .i64 0, .int .i64 0, .int .i64 0, .int .i64 0, .slice r0a r0n r0c] 29 (0, 0)) from row_held al_ rN87_.out)
    clear rN87_
    have rX100_ := Lib.hid (show (((w6.alloc (.cells #[.int .i64 i0, .slice p2a p2n p2c, .slice q2a q2n q2c] 26)).alloc (.cells #[.int .i64 1, .int .i64 33, .int .i64 0, .int .i64 i0, .int .i64 0, .int .i64 0, .int .i64 0, .slice r2a r2n r2c] 29))).heap[w5.heap.size]? = some (.cells #[.int .i64 i0, .slice p1a p1n p1c, .slice q1a q1n q1c] 26 (0, 0)) from row_held al_ rX88_.out)
    clear rX88_
    have rQ101_ := Lib.hid (show (((w6.alloc (.cells #[.int .i64 i0, .slice p2a p2n p2c, .slice q2a q2n q2c] 26)).alloc (.cells #[.int .i64 1, .int .i64 33, .int .i64 0, .int .i64 i0, .int .i64 0, .int .i64 0, .int .i64 0, .slice r2a r2n r2c] 29))).heap[w5.heap.size + 1]? = some (.cells #[.int .i64 0, .int .i64 0, .int .i64 0, .int .i64 0, .int .i64 0, .int .i64 0, .int .i64 0, .slice r1a r1n r1c] 29 (0, 0)) from row_held al_ rQ89_.out)
    clear rQ89_
    have rY102_ := Lib.hid (show (((w6.alloc (.cells #[.int .i64 i0, .slice p2a p2n p2c, .slice q2a q2n q2c] 26)).alloc (.cells #[.int .i64 1, .int .i64 33, .int .i64 0, .int .i64 i0, .int .i64 0, .int .i64 0, .int .i64 0, .slice r2a r2n r2c] 29))).heap[w6.heap.size]? = some (.cells #[.int .i64 i0, .slice p2a p2n p2c, .slice q2a q2n q2c] 26 (0, 0)) from row_held al_ rY96_.out)
    clear rY96_
    have G103_ := Lib.hid (show (W).grownBy (((w6.alloc (.cells #[.int .i64 i0, .slice p2a p2n p2c, .slice q2a q2n q2c] 26)).alloc (.cells #[.int .i64 1, .int .i64 33, .int .i64 0, .int .i64 i0, .int .i64 0, .int .i64 0, .int .i64 0, .slice r2a r2n r2c] 29))) none from gby_trans G90_.out al_)
    have HTt104_ := Lib.hid (show (w2).grownBy (((w6.alloc (.cells #[.int .i64 i0, .slice p2a p2n p2c, .slice q2a q2n q2c] 26)).alloc (.cells #[.int .i64 1, .int .i64 33, .int .i64 0, .int .i64 i0, .int .i64 0, .int .i64 0, .int .i64 0, .slice r2a r2n r2c] 29))) none from gby_trans HTt91_.out al_)
    clear HTt91_
    have HTP105_ := Lib.hid (show (w3).grownBy (((w6.alloc (.cells #[.int .i64 i0, .slice p2a p2n p2c, .slice q2a q2n q2c] 26)).alloc (.cells #[.int .i64 1, .int .i64 33, .int .i64 0, .int .i64 i0, .int .i64 0, .int .i64 0, .int .i64 0, .slice r2a r2n r2c] 29))) none from gby_trans HTP92_.out al_)
    clear HTP92_
    have HTm1106_ := Lib.hid (show (w4).grownBy (((w6.alloc (.cells #[.int .i64 i0, .slice p2a p2n p2c, .slice q2a q2n q2c] 26)).alloc (.cells #[.int .i64 1, .int .i64 33, .int .i64 0, .int .i64 i0, .int .i64 0, .int .i64 0, .int .i64 0, .slice r2a r2n r2c] 29))) none from gby_trans HTm193_.out al_)
    clear HTm193_
    have HTm2107_ := Lib.hid (show (w5).grownBy (((w6.alloc (.cells #[.int .i64 i0, .slice p2a p2n p2c, .slice q2a q2n q2c] 26)).alloc (.cells #[.int .i64 1, .int .i64 33, .int .i64 0, .int .i64 i0, .int .i64 0, .int .i64 0, .int .i64 0, .slice r2a r2n r2c] 29))) none from gby_trans HTm294_.out al_)
    clear HTm294_
    have HTm3108_ := Lib.hid (show (w6).grownBy (((w6.alloc (.cells #[.int .i64 i0, .slice p2a p2n p2c, .slice q2a q2n q2c] 26)).alloc (.cells #[.int .i64 1, .int .i64 33, .int .i64 0, .int .i64 i0, .int .i64 0, .int .i64 0, .int .i64 0, .slice r2a r2n r2c] 29))) none from gby_trans HTm395_.out al_)
    clear HTm395_
    have rC109_ := Lib.hid (show (((w6.alloc (.cells #[.int .i64 i0, .slice p2a p2n p2c, .slice q2a q2n q2c] 26)).alloc (.cells #[.int .i64 1, .int .i64 33, .int .i64 0, .int .i64 i0, .int .i64 0, .int .i64 0, .int .i64 0, .slice r2a r2n r2c] 29))).heap[w6.heap.size + 1]? = some (.cells #[.int .i64 1, .int .i64 33, .int .i64 0, .int .i64 i0, .int .i64 0, .int .i64 0, .int .i64 0, .slice r2a r2n r2c] 29 (0, 0)) from by first | exact heap_alloc_new _ _ | exact heap_pair _ _ _ | exact heap_trip _ _ _ _)
    clear al_
    have T_0_ : (((w6.alloc (.cells #[.int .i64 i0, .slice p2a p2n p2c, .slice q2a q2n q2c] 26)).alloc (.cells #[.int .i64 1, .int .i64 33, .int .i64 0, .int .i64 i0, .int .i64 0, .int .i64 0, .int .i64 0, .slice r2a r2n r2c] 29))).cell? ⟨w2.heap.size, 0, none⟩ = some (.int .i64 i0) := cell_of_row _ _ 0 _ _ _ rT97_.out
    have T_1_ : (((w6.alloc (.cells #[.int .i64 i0, .slice p2a p2n p2c, .slice q2a q2n q2c] 26)).alloc (.cells #[.int .i64 1, .int .i64 33, .int .i64 0, .int .i64 i0, .int .i64 0, .int .i64 0, .int .i64 0, .slice r2a r2n r2c] 29))).cell? ⟨w2.heap.size, 1, none⟩ = some (.slice a1 n c1) := cell_of_row _ _ 1 _ _ _ rT97_.out
    have T_2_ : (((w6.alloc (.cells #[.int .i64 i0, .slice p2a p2n p2c, .slice q2a q2n q2c] 26)).alloc (.cells #[.int .i64 1, .int .i64 33, .int .i64 0, .int .i64 i0, .int .i64 0, .int .i64 0, .int .i64 0, .slice r2a r2n r2c] 29))).cell? ⟨w2.heap.size, 2, none⟩ = some (.slice a2 n2 c2) := cell_of_row _ _ 2 _ _ _ rT97_.out
    have M_0_ : (((w6.alloc (.cells #[.int .i64 i0, .slice p2a p2n p2c, .slice q2a q2n q2c] 26)).alloc (.cells #[.int .i64 1, .int .i64 33, .int .i64 0, .int .i64 i0, .int .i64 0, .int .i64 0, .int .i64 0, .slice r2a r2n r2c] 29))).cell? ⟨w4.heap.size, 0, none⟩ = some (.int .i64 i0) := cell_of_row _ _ 0 _ _ _ rM98_.out
    have M_1_ : (((w6.alloc (.cells #[.int .i64 i0, .slice p2a p2n p2c, .slice q2a q2n q2c] 26)).alloc (.cells #[.int .i64 1, .int .i64 33, .int .i64 0, .int .i64 i0, .int .i64 0, .int .i64 0, .int .i64 0, .slice r2a r2n r2c] 29))).cell? ⟨w4.heap.size, 1, none⟩ = some (.slice p0a p0n p0c) := cell_of_row _ _ 1 _ _ _ rM98_.out
    have M_2_ : (((w6.alloc (.cells #[.int .i64 i0, .slice p2a p2n p2c, .slice q2a q2n q2c] 26)).alloc (.cells #[.int .i64 1, .int .i64 33, .int .i64 0, .int .i64 i0, .int .i64 0, .int .i64 0, .int .i64 0, .slice r2a r2n r2c] 29))).cell? ⟨w4.heap.size, 2, none⟩ = some (.slice q0a q0n q0c) := cell_of_row _ _ 2 _ _ _ rM98_.out
    have N_0_ : (((w6.alloc (.cells #[.int .i64 i0, .slice p2a p2n p2c, .slice q2a q2n q2c] 26)).alloc (.cells #[.int .i64 1, .int .i64 33, .int .i64 0, .int .i64 i0, .int .i64 0, .int .i64 0, .int .i64 0, .slice r2a r2n r2c] 29))).cell? ⟨w4.heap.size + 1, 0, none⟩ = some (.int .i64 0) := cell_of_row _ _ 0 _ _ _ rN99_.out
    have N_1_ : (((w6.alloc (.cells #[.int .i64 i0, .slice p2a p2n p2c, .slice q2a q2n q2c] 26)).alloc (.cells #[.int .i64 1, .int .i64 33, .int .i64 0, .int .i64 i0, .int .i64 0, .int .i64 0, .int .i64 0, .slice r2a r2n r2c] 29))).cell? ⟨w4.heap.size + 1, 1, none⟩ = some (.int .i64 0) := cell_of_row _ _ 1 _ _ _ rN99_.out
    have N_2_ : (((w6.alloc (.cells #[.int .i64 i0, .slice p2a p2n p2c, .slice q2a q2n q2c] 26)).alloc (.cells #[.int .i64 1, .int .i64 33, .int .i64 0, .int .i64 i0, .int .i64 0, .int .i64 0, .int .i64 0, .slice r2a r2n r2c] 29))).cell? ⟨w4.heap.size + 1, 2, none⟩ = some (.int .i64 0) := cell_of_row _ _ 2 _ _ _ rN99_.out
    have N_3_ : (((w6.alloc (.cells #[.int .i64 i0, .slice p2a p2n p2c, .slice q2a q2n q2c] 26)).alloc (.cells #[.int .i64 1, .int .i64 33, .int .i64 0, .int .i64 i0, .int .i64 0, .int .i64 0, .int .i64 0, .slice r2a r2n r2c] 29))).cell? ⟨w4.heap.size + 1, 3, none⟩ = some (.int .i64 0) := cell_of_row _ _ 3 _ _ _ rN99_.out
    have N_4_ : (((w6.alloc (.cells #[.int .i64 i0, .slice p2a p2n p2c, .slice q2a q2n q2c] 26)).alloc (.cells #[.int .i64 1, .int .i64 33, .int .i64 0, .int .i64 i0, .int .i64 0, .int .i64 0, .int .i64 0, .slice r2a r2n r2c] 29))).cell? ⟨w4.heap.size + 1, 4, none⟩ = some (.int .i64 0) := cell_of_row _ _ 4 _ _ _ rN99_.out
    have N_5_ : (((w6.alloc (.cells #[.int .i64 i0, .slice p2a p2n p2c, .slice q2a q2n q2c] 26)).alloc (.cells #[.int .i64 1, .int .i64 33, .int .i64 0, .int .i64 i0, .int .i64 0, .int .i64 0, .int .i64 0, .slice r2a r2n r2c] 29))).cell? ⟨w4.heap.size + 1, 5, none⟩ = some (.int .i64 0) := cell_of_row _ _ 5 _ _ _ rN99_.out
    have N_6_ : (((w6.alloc (.cells #[.int .i64 i0, .slice p2a p2n p2c, .slice q2a q2n q2c] 26)).alloc (.cells #[.int .i64 1, .int .i64 33, .int .i64 0, .int .i64 i0, .int .i64 0, .int .i64 0, .int .i64 0, .slice r2a r2n r2c] 29))).cell? ⟨w4.heap.size + 1, 6, none⟩ = some (.int .i64 0) := cell_of_row _ _ 6 _ _ _ rN99_.out
    have N_7_ : (((w6.alloc (.cells #[.int .i64 i0, .slice p2a p2n p2c, .slice q2a q2n q2c] 26)).alloc (.cells #[.int .i64 1, .int .i64 33, .int .i64 0, .int .i64 i0, .int .i64 0, .int .i64 0, .int .i64 0, .slice r2a r2n r2c] 29))).cell? ⟨w4.heap.size + 1, 7, none⟩ = some (.slice r0a r0n r0c) := cell_of_row _ _ 7 _ _ _ rN99_.out
    have X_0_ : (((w6.alloc (.cells #[.int .i64 i0, .slice p2a p2n p2c, .slice q2a q2n q2c] 26)).alloc (.cells #[.int .i64 1, .int .i64 33, .int .i64 0, .int .i64 i0, .int .i64 0, .int .i64 0, .int .i64 0, .slice r2a r2n r2c] 29))).cell? ⟨w5.heap.size, 0, none⟩ = some (.int .i64 i0) := cell_of_row _ _ 0 _ _ _ rX100_.out
    have X_1_ : (((w6.alloc (.cells #[.int .i64 i0, .slice p2a p2n p2c, .slice q2a q2n q2c] 26)).alloc (.cells #[.int .i64 1, .int .i64 33, .int .i64 0, .int .i64 i0, .int .i64 0, .int .i64 0, .int .i64 0, .slice r2a r2n r2c] 29))).cell? ⟨w5.heap.size, 1, none⟩ = some (.slice p1a p1n p1c) := cell_of_row _ _ 1 _ _ _ rX100_.out
    have X_2_ : (((w6.alloc (.cells #[.int .i64 i0, .slice p2a p2n p2c, .slice q2a q2n q2c] 26)).alloc (.cells #[.int .i64 1, .int .i64 33, .int .i64 0, .int .i64 i0, .int .i64 0, .int .i64 0, .int .i64 0, .slice r2a r2n r2c] 29))).cell? ⟨w5.heap.size, 2, none⟩ = some (.slice q1a q1n q1c) := cell_of_row _ _ 2 _ _ _ rX100_.out
    have Q_0_ : (((w6.alloc (.cells #[.int .i64 i0, .slice p2a p2n p2c, .slice q2a q2n q2c] 26)).alloc (.cells #[.int .i64 1, .int .i64 33, .int .i64 0, .int .i64 i0, .int .i64 0, .int .i64 0, .int .i64 0, .slice r2a r2n r2c] 29))).cell? ⟨w5.heap.size + 1, 0, none⟩ = some (.int .i64 0) := cell_of_row _ _ 0 _ _ _ rQ101_.out
    have Q_1_ : (((w6.alloc (.cells #[.int .i64 i0, .slice p2a p2n p2c, .slice q2a q2n q2c] 26)).alloc (.cells #[.int .i64 1, .int .i64 33, .int .i64 0, .int .i64 i0, .int .i64 0, .int .i64 0, .int .i64 0, .slice r2a r2n r2c] 29))).cell? ⟨w5.heap.size + 1, 1, none⟩ = some (.int .i64 0) := cell_of_row _ _ 1 _ _ _ rQ101_.out
    have Q_2_ : (((w6.alloc (.cells #[.int .i64 i0, .slice p2a p2n p2c, .slice q2a q2n q2c] 26)).alloc (.cells #[.int .i64 1, .int .i64 33, .int .i64 0, .int .i64 i0, .int .i64 0, .int .i64 0, .int .i64 0, .slice r2a r2n r2c] 29))).cell? ⟨w5.heap.size + 1, 2, none⟩ = some (.int .i64 0) := cell_of_row _ _ 2 _ _ _ rQ101_.out
    have Q_3_ : (((w6.alloc (.cells #[.int .i64 i0, .slice p2a p2n p2c, .slice q2a q2n q2c] 26)).alloc (.cells #[.int .i64 1, .int .i64 33, .int .i64 0, .int .i64 i0, .int .i64 0, .int .i64 0, .int .i64 0, .slice r2a r2n r2c] 29))).cell? ⟨w5.heap.size + 1, 3, none⟩ = some (.int .i64 0) := cell_of_row _ _ 3 _ _ _ rQ101_.out
    have Q_4_ : (((w6.alloc (.cells #[.int .i64 i0, .slice p2a p2n p2c, .slice q2a q2n q2c] 26)).alloc (.cells #[.int .i64 1, .int .i64 33, .int .i64 0, .int .i64 i0, .int .i64 0, .int .i64 0, .int .i64 0, .slice r2a r2n r2c] 29))).cell? ⟨w5.heap.size + 1, 4, none⟩ = some (.int .i64 0) := cell_of_row _ _ 4 _ _ _ rQ101_.out
    have Q_5_ : (((w6.alloc (.cells #[.int .i64 i0, .slice p2a p2n p2c, .slice q2a q2n q2c] 26)).alloc (.cells #[.int .i64 1, .int .i64 33, .int .i64 0, .int .i64 i0, .int .i64 0, .int .i64 0, .int .i64 0, .slice r2a r2n r2c] 29))).cell? ⟨w5.heap.size + 1, 5, none⟩ = some (.int .i64 0) := cell_of_row _ _ 5 _ _ _ rQ101_.out
    have Q_6_ : (((w6.alloc (.cells #[.int .i64 i0, .slice p2a p2n p2c, .slice q2a q2n q2c] 26)).alloc (.cells #[.int .i64 1, .int .i64 33, .int .i64 0, .int .i64 i0, .int .i64 0, .int .i64 0, .int .i64 0, .slice r2a r2n r2c] 29))).cell? ⟨w5.heap.size + 1, 6, none⟩ = some (.int .i64 0) := cell_of_row _ _ 6 _ _ _ rQ101_.out
    have Q_7_ : (((w6.alloc (.cells #[.int .i64 i0, .slice p2a p2n p2c, .slice q2a q2n q2c] 26)).alloc (.cells #[.int .i64 1, .int .i64 33, .int .i64 0, .int .i64 i0, .int .i64 0, .int .i64 0, .int .i64 0, .slice r2a r2n r2c] 29))).cell? ⟨w5.heap.size + 1, 7, none⟩ = some (.slice r1a r1n r1c) := cell_of_row _ _ 7 _ _ _ rQ101_.out
    have Y_0_ : (((w6.alloc (.cells #[.int .i64 i0, .slice p2a p2n p2c, .slice q2a q2n q2c] 26)).alloc (.cells #[.int .i64 1, .int .i64 33, .int .i64 0, .int .i64 i0, .int .i64 0, .int .i64 0, .int .i64 0, .slice r2a r2n r2c] 29))).cell? ⟨w6.heap.size, 0, none⟩ = some (.int .i64 i0) := cell_of_row _ _ 0 _ _ _ rY102_.out
    have Y_1_ : (((w6.alloc (.cells #[.int .i64 i0, .slice p2a p2n p2c, .slice q2a q2n q2c] 26)).alloc (.cells #[.int .i64 1, .int .i64 33, .int .i64 0, .int .i64 i0, .int .i64 0, .int .i64 0, .int .i64 0, .slice r2a r2n r2c] 29))).cell? ⟨w6.heap.size, 1, none⟩ = some (.slice p2a p2n p2c) := cell_of_row _ _ 1 _ _ _ rY102_.out
    have Y_2_ : (((w6.alloc (.cells #[.int .i64 i0, .slice p2a p2n p2c, .slice q2a q2n q2c] 26)).alloc (.cells #[.int .i64 1, .int .i64 33, .int .i64 0, .int .i64 i0, .int .i64 0, .int .i64 0, .int .i64 0, .slice r2a r2n r2c] 29))).cell? ⟨w6.heap.size, 2, none⟩ = some (.slice q2a q2n q2c) := cell_of_row _ _ 2 _ _ _ rY102_.out
    have C_0_ : (((w6.alloc (.cells #[.int .i64 i0, .slice p2a p2n p2c, .slice q2a q2n q2c] 26)).alloc (.cells #[.int .i64 1, .int .i64 33, .int .i64 0, .int .i64 i0, .int .i64 0, .int .i64 0, .int .i64 0, .slice r2a r2n r2c] 29))).cell? ⟨w6.heap.size + 1, 0, none⟩ = some (.int .i64 1) := cell_of_row _ _ 0 _ _ _ rC109_.out
    have C_1_ : (((w6.alloc (.cells #[.int .i64 i0, .slice p2a p2n p2c, .slice q2a q2n q2c] 26)).alloc (.cells #[.int .i64 1, .int .i64 33, .int .i64 0, .int .i64 i0, .int .i64 0, .int .i64 0, .int .i64 0, .slice r2a r2n r2c] 29))).cell? ⟨w6.heap.size + 1, 1, none⟩ = some (.int .i64 33) := cell_of_row _ _ 1 _ _ _ rC109_.out
    have C_2_ : (((w6.alloc (.cells #[.int .i64 i0, .slice p2a p2n p2c, .slice q2a q2n q2c] 26)).alloc (.cells #[.int .i64 1, .int .i64 33, .int .i64 0, .int .i64 i0, .int .i64 0, .int .i64 0, .int .i64 0, .slice r2a r2n r2c] 29))).cell? ⟨w6.heap.size + 1, 2, none⟩ = some (.int .i64 0) := cell_of_row _ _ 2 _ _ _ rC109_.out
    have C_3_ : (((w6.alloc (.cells #[.int .i64 i0, .slice p2a p2n p2c, .slice q2a q2n q2c] 26)).alloc (.cells #[.int .i64 1, .int .i64 33, .int .i64 0, .int .i64 i0, .int .i64 0, .int .i64 0, .int .i64 0, .slice r2a r2n r2c] 29))).cell? ⟨w6.heap.size + 1, 3, none⟩ = some (.int .i64 i0) := cell_of_row _ _ 3 _ _ _ rC109_.out
    have C_4_ : (((w6.alloc (.cells #[.int .i64 i0, .slice p2a p2n p2c, .slice q2a q2n q2c] 26)).alloc (.cells #[.int .i64 1, .int .i64 33, .int .i64 0, .int .i64 i0, .int .i64 0, .int .i64 0, .int .i64 0, .slice r2a r2n r2c] 29))).cell? ⟨w6.heap.size + 1, 4, none⟩ = some (.int .i64 0) := cell_of_row _ _ 4 _ _ _ rC109_.out
    have C_5_ : (((w6.alloc (.cells #[.int .i64 i0, .slice p2a p2n p2c, .slice q2a q2n q2c] 26)).alloc (.cells #[.int .i64 1, .int .i64 33, .int .i64 0, .int .i64 i0, .int .i64 0, .int .i64 0, .int .i64 0, .slice r2a r2n r2c] 29))).cell? ⟨w6.heap.size + 1, 5, none⟩ = some (.int .i64 0) := cell_of_row _ _ 5 _ _ _ rC109_.out
    have C_6_ : (((w6.alloc (.cells #[.int .i64 i0, .slice p2a p2n p2c, .slice q2a q2n q2c] 26)).alloc (.cells #[.int .i64 1, .int .i64 33, .int .i64 0, .int .i64 i0, .int .i64 0, .int .i64 0, .int .i64 0, .slice r2a r2n r2c] 29))).cell? ⟨w6.heap.size + 1, 6, none⟩ = some (.int .i64 0) := cell_of_row _ _ 6 _ _ _ rC109_.out
    have C_7_ : (((w6.alloc (.cells #[.int .i64 i0, .slice p2a p2n p2c, .slice q2a q2n q2c] 26)).alloc (.cells #[.int .i64 1, .int .i64 33, .int .i64 0, .int .i64 i0, .int .i64 0, .int .i64 0, .int .i64 0, .slice r2a r2n r2c] 29))).cell? ⟨w6.heap.size + 1, 7, none⟩ = some (.slice r2a r2n r2c) := cell_of_row _ _ 7 _ _ _ rC109_.out
    go_wp2_with fail
    go_at_call 22
    refine (HS3.out _ _ _ (HA3.out.grow HTm3108_.out) (HB3.out.grow HTm3108_.out)).mono ?_
    rintro e w7 ⟨z1, z2, z3, rfl, o, g⟩
    have szw7 := g.size
    try simp only [World.size_alloc] at szw7
    obtain ⟨p3a, p3n, p3c, hv_⟩ := RdL.form (OwU.rd o)
    subst hv_
    obtain ⟨q3a, q3n, q3c, hv_⟩ := RdL.form (OwU.rd (OwU.tail o))
    subst hv_
    obtain ⟨r3a, r3n, r3c, hv_⟩ := RdL.form (OwU.rd (OwU.tail (OwU.tail o)))
    subst hv_
    have HA4 := Lib.hid (OwU.rd o)
    have HB4 := Lib.hid (OwU.rd (OwU.tail o))
    have HC4 := Lib.hid (OwU.rd (OwU.tail (OwU.tail o)))
    clear o
    clear T_0_ T_1_ T_2_ M_0_ M_1_ M_2_ N_0_ N_1_ N_2_ N_3_ N_4_ N_5_ N_6_ N_7_ X_0_ X_1_ X_2_ Q_0_ Q_1_ Q_2_ Q_3_ Q_4_ Q_5_ Q_6_ Q_7_ Y_0_ Y_1_ Y_2_ C_0_ C_1_ C_2_ C_3_ C_4_ C_5_ C_6_ C_7_
    have rT110_ := Lib.hid (show (w7).heap[w2.heap.size]? = some (.cells #[.int .i64 i0, .slice a1 n c1, .slice a2 n2 c2] 26 (0, 0)) from row_held g rT97_.out)
    clear rT97_
    have rM111_ := Lib.hid (show (w7).heap[w4.heap.size]? = some (.cells #[.int .i64 i0, .slice p0a p0n p0c, .slice q0a q0n q0c] 26 (0, 0)) from row_held g rM98_.out)
    clear rM98_
    have rN112_ := Lib.hid (show (w7).heap[w4.heap.size + 1]? = some (.cells #[.int .i64 0, .int .i64 0, .int .i64 0, .int .i64 0, .int .i64 0, .int .i64 0, .int .i64 0, .slice r0a r0n r0c] 29 (0, 0)) from row_held g rN99_.out)
    clear rN99_
    have rX113_ := Lib.hid (show (w7).heap[w5.heap.size]? = some (.cells #[.int .i64 i0, .slice p1a p1n p1c, .slice q1a q1n q1c] 26 (0, 0)) from row_held g rX100_.out)
    clear rX100_
    have rQ114_ := Lib.hid (show (w7).heap[w5.heap.size + 1]? = some (.cells #[.int .i64 0, .int .i64 0, .int .i64 0, .int .i64 0, .int .i64 0, .int .i64 0, .int .i64 0, .slice r1a r1n r1c] 29 (0, 0)) from row_held g rQ101_.out)
    clear rQ101_
    have rY115_ := Lib.hid (show (w7).heap[w6.heap.size]? = some (.cells #[.int .i64 i0, .slice p2a p2n p2c, .slice q2a q2n q2c] 26 (0, 0)) from row_held g rY102_.out)
    clear rY102_
    have rC116_ := Lib.hid (show (w7).heap[w6.heap.size + 1]? = some (.cells #[.int .i64 1, .int .i64 33, .int .i64 0, .int .i64 i0, .int .i64 0, .int .i64 0, .int .i64 0, .slice r2a r2n r2c] 29 (0, 0)) from row_held g rC109_.out)
    clear rC109_
    have G117_ := Lib.hid (show (W).grownBy (w7) none from gby_trans G103_.out g)
    have HTt118_ := Lib.hid (show (w2).grownBy (w7) none from gby_trans HTt104_.out g)
    clear HTt104_
    have HTP119_ := Lib.hid (show (w3).grownBy (w7) none from gby_trans HTP105_.out g)
    clear HTP105_
    have HTm1120_ := Lib.hid (show (w4).grownBy (w7) none from gby_trans HTm1106_.out g)
    clear HTm1106_
    have HTm2121_ := Lib.hid (show (w5).grownBy (w7) none from gby_trans HTm2107_.out g)
    clear HTm2107_
    have HTm3122_ := Lib.hid (show (w6).grownBy (w7) none from gby_trans HTm3108_.out g)
    clear HTm3108_
    clear g
    have HTm4123_ := Lib.hid (gby_refl (w7) none)
    have MG124_ := Lib.hid (show (W).grownBy (w7) none from G117_.out)
    have MR125_ := Lib.hid rT110_.out
    have MR126_ := Lib.hid rM111_.out
    have MR127_ := Lib.hid rN112_.out
    have MR128_ := Lib.hid rX113_.out
    have MR129_ := Lib.hid rQ114_.out
    have MR130_ := Lib.hid rY115_.out
    have MR131_ := Lib.hid rC116_.out
    have al_ : (w7).grownBy ((w7).alloc (.cells #[.int .i64 i0, .slice p3a p3n p3c, .slice q3a q3n q3c] 26)) none := gby_alloc (gby_refl _ _) _
    have rT132_ := Lib.hid (show ((w7.alloc (.cells #[.int .i64 i0, .slice p3a p3n p3c, .slice q3a q3n q3c] 26))).heap[w2.heap.size]? = some (.cells #[.int .i64 i0, .slice a1 n c1, .slice a2 n2 c2] 26 (0, 0)) from row_held al_ rT110_.out)
    clear rT110_
    have rM133_ := Lib.hid (show ((w7.alloc (.cells #[.int .i64 i0, .slice p3a p3n p3c, .slice q3a q3n q3c] 26))).heap[w4.heap.size]? = some (.cells #[.int .i64 i0, .slice p0a p0n p0c, .slice q0a q0n q0c] 26 (0, 0)) from row_held al_ rM111_.out)
    clear rM111_
    have rN134_ := Lib.hid (show ((w7.alloc (.cells #[.int .i64 i0, .slice p3a p3n p3c, .slice q3a q3n q3c] 26))).heap[w4.heap.size + 1]? = some (.cells #[.int .i64 0, .int .i64 0, .int .i64 0, .int .i64 0, .int .i64 0, .int .i64 0, .int .i64 0, .slice r0a r0n r0c] 29 (0, 0)) from row_held al_ rN112_.out)
    clear rN112_
    have rX135_ := Lib.hid (show ((w7.alloc (.cells #[.int .i64 i0, .slice p3a p3n p3c, .slice q3a q3n q3c] 26))).heap[w5.heap.size]? = some (.cells #[.int .i64 i0, .slice p1a p1n p1c, .slice q1a q1n q1c] 26 (0, 0)) from row_held al_ rX113_.out)
    clear rX113_
    have rQ136_ := Lib.hid (show ((w7.alloc (.cells #[.int .i64 i0, .slice p3a p3n p3c, .slice q3a q3n q3c] 26))).heap[w5.heap.size + 1]? = some (.cells #[.int .i64 0, .int .i64 0, .int .i64 0, .int .i64 0, .int .i64 0, .int .i64 0, .int .i64 0, .slice r1a r1n r1c] 29 (0, 0)) from row_held al_ rQ114_.out)
    clear rQ114_
    have rY137_ := Lib.hid (show ((w7.alloc (.cells #[.int .i64 i0, .slice p3a p3n p3c, .slice q3a q3n q3c] 26))).heap[w6.heap.size]? = some (.cells #[.int .i64 i0, .slice p2a p2n p2c, .slice q2a q2n q2c] 26 (0, 0)) from row_held al_ rY115_.out)
    clear rY115_
    have rC138_ := Lib.hid (show ((w7.alloc (.cells #[.int .i64 i0, .slice p3a p3n p3c, .slice q3a q3n q3c] 26))).heap[w6.heap.size + 1]? = some (.cells #[.int .i64 1, .int .i64 33, .int .i64 0, .int .i64 i0, .int .i64 0, .int .i64 0, .int .i64 0, .slice r2a r2n r2c] 29 (0, 0)) from row_held al_ rC116_.out)
    clear rC116_
    have G139_ := Lib.hid (show (W).grownBy ((w7.alloc (.cells #[.int .i64 i0, .slice p3a p3n p3c, .slice q3a q3n q3c] 26))) none from gby_trans G117_.out al_)
    have HTt140_ := Lib.hid (show (w2).grownBy ((w7.alloc (.cells #[.int .i64 i0, .slice p3a p3n p3c, .slice q3a q3n q3c] 26))) none from gby_trans HTt118_.out al_)
    clear HTt118_
    have HTP141_ := Lib.hid (show (w3).grownBy ((w7.alloc (.cells #[.int .i64 i0, .slice p3a p3n p3c, .slice q3a q3n q3c] 26))) none from gby_trans HTP119_.out al_)
    clear HTP119_
    have HTm1142_ := Lib.hid (show (w4).grownBy ((w7.alloc (.cells #[.int .i64 i0, .slice p3a p3n p3c, .slice q3a q3n q3c] 26))) none from gby_trans HTm1120_.out al_)
    clear HTm1120_
    have HTm2143_ := Lib.hid (show (w5).grownBy ((w7.alloc (.cells #[.int .i64 i0, .slice p3a p3n p3c, .slice q3a q3n q3c] 26))) none from gby_trans HTm2121_.out al_)
    clear HTm2121_
    have HTm3144_ := Lib.hid (show (w6).grownBy ((w7.alloc (.cells #[.int .i64 i0, .slice p3a p3n p3c, .slice q3a q3n q3c] 26))) none from gby_trans HTm3122_.out al_)
    clear HTm3122_
    have HTm4145_ := Lib.hid (show (w7).grownBy ((w7.alloc (.cells #[.int .i64 i0, .slice p3a p3n p3c, .slice q3a q3n q3c] 26))) none from gby_trans HTm4123_.out al_)
    clear HTm4123_
    have rU146_ := Lib.hid (show ((w7.alloc (.cells #[.int .i64 i0, .slice p3a p3n p3c, .slice q3a q3n q3c] 26))).heap[w7.heap.size]? = some (.cells #[.int .i64 i0, .slice p3a p3n p3c, .slice q3a q3n q3c] 26 (0, 0)) from by first | exact heap_alloc_new _ _ | exact heap_pair _ _ _ | exact heap_trip _ _ _ _)
    clear al_
    have T_0_ : ((w7.alloc (.cells #[.int .i64 i0, .slice p3a p3n p3c, .slice q3a q3n q3c] 26))).cell? ⟨w2.heap.size, 0, none⟩ = some (.int .i64 i0) := cell_of_row _ _ 0 _ _ _ rT132_.out
    have T_1_ : ((w7.alloc (.cells #[.int .i64 i0, .slice p3a p3n p3c, .slice q3a q3n q3c] 26))).cell? ⟨w2.heap.size, 1, none⟩ = some (.slice a1 n c1) := cell_of_row _ _ 1 _ _ _ rT132_.out
    have T_2_ : ((w7.alloc (.cells #[.int .i64 i0, .slice p3a p3n p3c, .slice q3a q3n q3c] 26))).cell? ⟨w2.heap.size, 2, none⟩ = some (.slice a2 n2 c2) := cell_of_row _ _ 2 _ _ _ rT132_.out
    have M_0_ : ((w7.alloc (.cells #[.int .i64 i0, .slice p3a p3n p3c, .slice q3a q3n q3c] 26))).cell? ⟨w4.heap.size, 0, none⟩ = some (.int .i64 i0) := cell_of_row _ _ 0 _ _ _ rM133_.out
    have M_1_ : ((w7.alloc (.cells #[.int .i64 i0, .slice p3a p3n p3c, .slice q3a q3n q3c] 26))).cell? ⟨w4.heap.size, 1, none⟩ = some (.slice p0a p0n p0c) := cell_of_row _ _ 1 _ _ _ rM133_.out
    have M_2_ : ((w7.alloc (.cells #[.int .i64 i0, .slice p3a p3n p3c, .slice q3a q3n q3c] 26))).cell? ⟨w4.heap.size, 2, none⟩ = some (.slice q0a q0n q0c) := cell_of_row _ _ 2 _ _ _ rM133_.out
    have N_0_ : ((w7.alloc (.cells #[.int .i64 i0, .slice p3a p3n p3c, .slice q3a q3n q3c] 26))).cell? ⟨w4.heap.size + 1, 0, none⟩ = some (.int .i64 0) := cell_of_row _ _ 0 _ _ _ rN134_.out
    have N_1_ : ((w7.alloc (.cells #[.int .i64 i0, .slice p3a p3n p3c, .slice q3a q3n q3c] 26))).cell? ⟨w4.heap.size + 1, 1, none⟩ = some (.int .i64 0) := cell_of_row _ _ 1 _ _ _ rN134_.out
    have N_2_ : ((w7.alloc (.cells #[.int .i64 i0, .slice p3a p3n p3c, .slice q3a q3n q3c] 26))).cell? ⟨w4.heap.size + 1, 2, none⟩ = some (.int .i64 0) := cell_of_row _ _ 2 _ _ _ rN134_.out
    have N_3_ : ((w7.alloc (.cells #[.int .i64 i0, .slice p3a p3n p3c, .slice q3a q3n q3c] 26))).cell? ⟨w4.heap.size + 1, 3, none⟩ = some (.int .i64 0) := cell_of_row _ _ 3 _ _ _ rN134_.out
    have N_4_ : ((w7.alloc (.cells #[.int .i64 i0, .slice p3a p3n p3c, .slice q3a q3n q3c] 26))).cell? ⟨w4.heap.size + 1, 4, none⟩ = some (.int .i64 0) := cell_of_row _ _ 4 _ _ _ rN134_.out
    have N_5_ : ((w7.alloc (.cells #[.int .i64 i0, .slice p3a p3n p3c, .slice q3a q3n q3c] 26))).cell? ⟨w4.heap.size + 1, 5, none⟩ = some (.int .i64 0) := cell_of_row _ _ 5 _ _ _ rN134_.out
    have N_6_ : ((w7.alloc (.cells #[.int .i64 i0, .slice p3a p3n p3c, .slice q3a q3n q3c] 26))).cell? ⟨w4.heap.size + 1, 6, none⟩ = some (.int .i64 0) := cell_of_row _ _ 6 _ _ _ rN134_.out
    have N_7_ : ((w7.alloc (.cells #[.int .i64 i0, .slice p3a p3n p3c, .slice q3a q3n q3c] 26))).cell? ⟨w4.heap.size + 1, 7, none⟩ = some (.slice r0a r0n r0c) := cell_of_row _ _ 7 _ _ _ rN134_.out
    have X_0_ : ((w7.alloc (.cells #[.int .i64 i0, .slice p3a p3n p3c, .slice q3a q3n q3c] 26))).cell? ⟨w5.heap.size, 0, none⟩ = some (.int .i64 i0) := cell_of_row _ _ 0 _ _ _ rX135_.out
    have X_1_ : ((w7.alloc (.cells #[.int .i64 i0, .slice p3a p3n p3c, .slice q3a q3n q3c] 26))).cell? ⟨w5.heap.size, 1, none⟩ = some (.slice p1a p1n p1c) := cell_of_row _ _ 1 _ _ _ rX135_.out
    have X_2_ : ((w7.alloc (.cells #[.int .i64 i0, .slice p3a p3n p3c, .slice q3a q3n q3c] 26))).cell? ⟨w5.heap.size, 2, none⟩ = some (.slice q1a q1n q1c) := cell_of_row _ _ 2 _ _ _ rX135_.out
    have Q_0_ : ((w7.alloc (.cells #[.int .i64 i0, .slice p3a p3n p3c, .slice q3a q3n q3c] 26))).cell? ⟨w5.heap.size + 1, 0, none⟩ = some (.int .i64 0) := cell_of_row _ _ 0 _ _ _ rQ136_.out
    have Q_1_ : ((w7.alloc (.cells #[.int .i64 i0, .slice p3a p3n p3c, .slice q3a q3n q3c] 26))).cell? ⟨w5.heap.size + 1, 1, none⟩ = some (.int .i64 0) := cell_of_row _ _ 1 _ _ _ rQ136_.out
    have Q_2_ : ((w7.alloc (.cells #[.int .i64 i0, .slice p3a p3n p3c, .slice q3a q3n q3c] 26))).cell? ⟨w5.heap.size + 1, 2, none⟩ = some (.int .i64 0) := cell_of_row _ _ 2 _ _ _ rQ136_.out
    have Q_3_ : ((w7.alloc (.cells #[.int .i64 i0, .slice p3a p3n p3c, .slice q3a q3n q3c] 26))).cell? ⟨w5.heap.size + 1, 3, none⟩ = some (.int .i64 0) := cell_of_row _ _ 3 _ _ _ rQ136_.out
    have Q_4_ : ((w7.alloc (.cells #[.int .i64 i0, .slice p3a p3n p3c, .slice q3a q3n q3c] 26))).cell? ⟨w5.heap.size + 1, 4, none⟩ = some (.int .i64 0) := cell_of_row _ _ 4 _ _ _ rQ136_.out
    have Q_5_ : ((w7.alloc (.cells #[.int .i64 i0, .slice p3a p3n p3c, .slice q3a q3n q3c] 26))).cell? ⟨w5.heap.size + 1, 5, none⟩ = some (.int .i64 0) := cell_of_row _ _ 5 _ _ _ rQ136_.out
    have Q_6_ : ((w7.alloc (.cells #[.int .i64 i0, .slice p3a p3n p3c, .slice q3a q3n q3c] 26))).cell? ⟨w5.heap.size + 1, 6, none⟩ = some (.int .i64 0) := cell_of_row _ _ 6 _ _ _ rQ136_.out
    have Q_7_ : ((w7.alloc (.cells #[.int .i64 i0, .slice p3a p3n p3c, .slice q3a q3n q3c] 26))).cell? ⟨w5.heap.size + 1, 7, none⟩ = some (.slice r1a r1n r1c) := cell_of_row _ _ 7 _ _ _ rQ136_.out
    have Y_0_ : ((w7.alloc (.cells #[.int .i64 i0, .slice p3a p3n p3c, .slice q3a q3n q3c] 26))).cell? ⟨w6.heap.size, 0, none⟩ = some (.int .i64 i0) := cell_of_row _ _ 0 _ _ _ rY137_.out
    have Y_1_ : ((w7.alloc (.cells #[.int .i64 i0, .slice p3a p3n p3c, .slice q3a q3n q3c] 26))).cell? ⟨w6.heap.size, 1, none⟩ = some (.slice p2a p2n p2c) := cell_of_row _ _ 1 _ _ _ rY137_.out
    have Y_2_ : ((w7.alloc (.cells #[.int .i64 i0, .slice p3a p3n p3c, .slice q3a q3n q3c] 26))).cell? ⟨w6.heap.size, 2, none⟩ = some (.slice q2a q2n q2c) := cell_of_row _ _ 2 _ _ _ rY137_.out
    have C_0_ : ((w7.alloc (.cells #[.int .i64 i0, .slice p3a p3n p3c, .slice q3a q3n q3c] 26))).cell? ⟨w6.heap.size + 1, 0, none⟩ = some (.int .i64 1) := cell_of_row _ _ 0 _ _ _ rC138_.out
    have C_1_ : ((w7.alloc (.cells #[.int .i64 i0, .slice p3a p3n p3c, .slice q3a q3n q3c] 26))).cell? ⟨w6.heap.size + 1, 1, none⟩ = some (.int .i64 33) := cell_of_row _ _ 1 _ _ _ rC138_.out
    have C_2_ : ((w7.alloc (.cells #[.int .i64 i0, .slice p3a p3n p3c, .slice q3a q3n q3c] 26))).cell? ⟨w6.heap.size + 1, 2, none⟩ = some (.int .i64 0) := cell_of_row _ _ 2 _ _ _ rC138_.out
    have C_3_ : ((w7.alloc (.cells #[.int .i64 i0, .slice p3a p3n p3c, .slice q3a q3n q3c] 26))).cell? ⟨w6.heap.size + 1, 3, none⟩ = some (.int .i64 i0) := cell_of_row _ _ 3 _ _ _ rC138_.out
    have C_4_ : ((w7.alloc (.cells #[.int .i64 i0, .slice p3a p3n p3c, .slice q3a q3n q3c] 26))).cell? ⟨w6.heap.size + 1, 4, none⟩ = some (.int .i64 0) := cell_of_row _ _ 4 _ _ _ rC138_.out
    have C_5_ : ((w7.alloc (.cells #[.int .i64 i0, .slice p3a p3n p3c, .slice q3a q3n q3c] 26))).cell? ⟨w6.heap.size + 1, 5, none⟩ = some (.int .i64 0) := cell_of_row _ _ 5 _ _ _ rC138_.out
    have C_6_ : ((w7.alloc (.cells #[.int .i64 i0, .slice p3a p3n p3c, .slice q3a q3n q3c] 26))).cell? ⟨w6.heap.size + 1, 6, none⟩ = some (.int .i64 0) := cell_of_row _ _ 6 _ _ _ rC138_.out
    have C_7_ : ((w7.alloc (.cells #[.int .i64 i0, .slice p3a p3n p3c, .slice q3a q3n q3c] 26))).cell? ⟨w6.heap.size + 1, 7, none⟩ = some (.slice r2a r2n r2c) := cell_of_row _ _ 7 _ _ _ rC138_.out
    have U_0_ : ((w7.alloc (.cells #[.int .i64 i0, .slice p3a p3n p3c, .slice q3a q3n q3c] 26))).cell? ⟨w7.heap.size, 0, none⟩ = some (.int .i64 i0) := cell_of_row _ _ 0 _ _ _ rU146_.out
    have U_1_ : ((w7.alloc (.cells #[.int .i64 i0, .slice p3a p3n p3c, .slice q3a q3n q3c] 26))).cell? ⟨w7.heap.size, 1, none⟩ = some (.slice p3a p3n p3c) := cell_of_row _ _ 1 _ _ _ rU146_.out
    have U_2_ : ((w7.alloc (.cells #[.int .i64 i0, .slice p3a p3n p3c, .slice q3a q3n q3c] 26))).cell? ⟨w7.heap.size, 2, none⟩ = some (.slice q3a q3n q3c) := cell_of_row _ _ 2 _ _ _ rU146_.out
    clear T_0_ T_1_ T_2_ M_0_ M_1_ M_2_ N_0_ N_1_ N_2_ N_3_ N_4_ N_5_ N_6_ N_7_ X_0_ X_1_ X_2_ Q_0_ Q_1_ Q_2_ Q_3_ Q_4_ Q_5_ Q_6_ Q_7_ Y_0_ Y_1_ Y_2_ C_0_ C_1_ C_2_ C_3_ C_4_ C_5_ C_6_ C_7_ U_0_ U_1_ U_2_
    have al_ : ((w7.alloc (.cells #[.int .i64 i0, .slice p3a p3n p3c, .slice q3a q3n q3c] 26))).grownBy (((w7.alloc (.cells #[.int .i64 i0, .slice p3a p3n p3c, .slice q3a q3n q3c] 26))).alloc (.cells #[.int .i64 0, .int .i64 0, .int .i64 0, .int .i64 0, .int .i64 0, .int .i64 0, .int .i64 0, .slice r3a r3n r3c] 29)) none := gby_alloc (gby_refl _ _) _
    have rT147_ := Lib.hid (show (((w7.alloc (.cells #[.int .i64 i0, .slice p3a p3n p3c, .slice q3a q3n q3c] 26)).alloc (.cells #[.int .i64 0, .int .i64 0, .int .i64 0, .int .i64 0, .int .i64 0, .int .i64 0, .int .i64 0, .slice r3a r3n r3c] 29))).heap[w2.heap.size]? = some (.cells #[.int .i64 i0, .slice a1 n c1, .slice a2 n2 c2] 26 (0, 0)) from row_held al_ rT132_.out)
    clear rT132_
    have rM148_ := Lib.hid (show (((w7.alloc (.cells #[.int .i64 i0, .slice p3a p3n p3c, .slice q3a q3n q3c] 26)).alloc (.cells #[.int .i64 0, .int .i64 0, .int .i64 0, .int .i64 0, .int .i64 0, .int .i64 0, .int .i64 0, .slice r3a r3n r3c] 29))).heap[w4.heap.size]? = some (.cells #[.int .i64 i0, .slice p0a p0n p0c, .slice q0a q0n q0c] 26 (0, 0)) from row_held al_ rM133_.out)
    clear rM133_
    have rN149_ := Lib.hid (show (((w7.alloc (.cells #[.int .i64 i0, .slice p3a p3n p3c, .slice q3a q3n q3c] 26)).alloc (.cells #[.int .i64 0, .int .i64 0, .int .i64 0, .int .i64 0, .int .i64 0, .int .i64 0, .int .i64 0, .slice r3a r3n r3c] 29))).heap[w4.heap.size + 1]? = some (.cells #[.int .i64 0, .int .i64 0, .int .i64 0, .int .i64 0, .int .i64 0, .int .i64 0, .int .i64 0, .slice r0a r0n r0c] 29 (0, 0)) from row_held al_ rN134_.out)
    clear rN134_
    have rX150_ := Lib.hid (show (((w7.alloc (.cells #[.int .i64 i0, .slice p3a p3n p3c, .slice q3a q3n q3c] 26)).alloc (.cells #[.int .i64 0, .int .i64 0, .int .i64 0, .int .i64 0, .int .i64 0, .int .i64 0, .int .i64 0, .slice r3a r3n r3c] 29))).heap[w5.heap.size]? = some (.cells #[.int .i64 i0, .slice p1a p1n p1c, .slice q1a q1n q1c] 26 (0, 0)) from row_held al_ rX135_.out)
    clear rX135_
    have rQ151_ := Lib.hid (show (((w7.alloc (.cells #[.int .i64 i0, .slice p3a p3n p3c, .slice q3a q3n q3c] 26)).alloc (.cells #[.int .i64 0, .int .i64 0, .int .i64 0, .int .i64 0, .int .i64 0, .int .i64 0, .int .i64 0, .slice r3a r3n r3c] 29))).heap[w5.heap.size + 1]? = some (.cells #[.int .i64 0, .int .i64 0, .int .i64 0, .int .i64 0, .int .i64 0, .int .i64 0, .int .i64 0, .slice r1a r1n r1c] 29 (0, 0)) from row_held al_ rQ136_.out)
    clear rQ136_
    have rY152_ := Lib.hid (show (((w7.alloc (.cells #[.int .i64 i0, .slice p3a p3n p3c, .slice q3a q3n q3c] 26)).alloc (.cells #[.int .i64 0, .int .i64 0, .int .i64 0, .int .i64 0, .int .i64 0, .int .i64 0, .int .i64 0, .slice r3a r3n r3c] 29))).heap[w6.heap.size]? = some (.cells #[.int .i64 i0, .slice p2a p2n p2c, .slice q2a q2n q2c] 26 (0, 0)) from row_held al_ rY137_.out)
    clear rY137_
    have rC153_ := Lib.hid (show (((w7.alloc (.cells #[.int .i64 i0, .slice p3a p3n p3c, .slice q3a q3n q3c] 26)).alloc (.cells #[.int .i64 0, .int .i64 0, .int .i64 0, .int .i64 0, .int .i64 0, .int .i64 0, .int .i64 0, .slice r3a r3n r3c] 29))).heap[w6.heap.size + 1]? = some (.cells #[.int .i64 1, .int .i64 33, .int .i64 0, .int .i64 i0, .int .i64 0, .int .i64 0, .int .i64 0, .slice r2a r2n r2c] 29 (0, 0)) from row_held al_ rC138_.out)
    clear rC138_
    have rU154_ := Lib.hid (show (((w7.alloc (.cells #[.int .i64 i0, .slice p3a p3n p3c, .slice q3a q3n q3c] 26)).alloc (.cells #[.int .i64 0, .int .i64 0, .int .i64 0, .int .i64 0, .int .i64 0, .int .i64 0, .int .i64 0, .slice r3a r3n r3c] 29))).heap[w7.heap.size]? = some (.cells #[.int .i64 i0, .slice p3a p3n p3c, .slice q3a q3n q3c] 26 (0, 0)) from row_held al_ rU146_.out)
    clear rU146_
    have G155_ := Lib.hid (show (W).grownBy (((w7.alloc (.cells #[.int .i64 i0, .slice p3a p3n p3c, .slice q3a q3n q3c] 26)).alloc (.cells #[.int .i64 0, .int .i64 0, .int .i64 0, .int .i64 0, .int .i64 0, .int .i64 0, .int .i64 0, .slice r3a r3n r3c] 29))) none from gby_trans G139_.out al_)
    have HTt156_ := Lib.hid (show (w2).grownBy (((w7.alloc (.cells #[.int .i64 i0, .slice p3a p3n p3c, .slice q3a q3n q3c] 26)).alloc (.cells #[.int .i64 0, .int .i64 0, .int .i64 0, .int .i64 0, .int .i64 0, .int .i64 0, .int .i64 0, .slice r3a r3n r3c] 29))) none from gby_trans HTt140_.out al_)
    clear HTt140_
    have HTP157_ := Lib.hid (show (w3).grownBy (((w7.alloc (.cells #[.int .i64 i0, .slice p3a p3n p3c, .slice q3a q3n q3c] 26)).alloc (.cells #[.int .i64 0, .int .i64 0, .int .i64 0, .int .i64 0, .int .i64 0, .int .i64 0, .int .i64 0, .slice r3a r3n r3c] 29))) none from gby_trans HTP141_.out al_)
    clear HTP141_
    have HTm1158_ := Lib.hid (show (w4).grownBy (((w7.alloc (.cells #[.int .i64 i0, .slice p3a p3n p3c, .slice q3a q3n q3c] 26)).alloc (.cells #[.int .i64 0, .int .i64 0, .int .i64 0, .int .i64 0, .int .i64 0, .int .i64 0, .int .i64 0, .slice r3a r3n r3c] 29))) none from gby_trans HTm1142_.out al_)
    clear HTm1142_
    have HTm2159_ := Lib.hid (show (w5).grownBy (((w7.alloc (.cells #[.int .i64 i0, .slice p3a p3n p3c, .slice q3a q3n q3c] 26)).alloc (.cells #[.int .i64 0, .int .i64 0, .int .i64 0, .int .i64 0, .int .i64 0, .int .i64 0, .int .i64 0, .slice r3a r3n r3c] 29))) none from gby_trans HTm2143_.out al_)
    clear HTm2143_
    have HTm3160_ := Lib.hid (show (w6).grownBy (((w7.alloc (.cells #[.int .i64 i0, .slice p3a p3n p3c, .slice q3a q3n q3c] 26)).alloc (.cells #[.int .i64 0, .int .i64 0, .int .i64 0, .int .i64 0, .int .i64 0, .int .i64 0, .int .i64 0, .slice r3a r3n r3c] 29))) none from gby_trans HTm3144_.out al_)
    clear HTm3144_
    have HTm4161_ := Lib.hid (show (w7).grownBy (((w7.alloc (.cells #[.int .i64 i0, .slice p3a p3n p3c, .slice q3a q3n q3c] 26)).alloc (.cells #[.int .i64 0, .int .i64 0, .int .i64 0, .int .i64 0, .int .i64 0, .int .i64 0, .int .i64 0, .slice r3a r3n r3c] 29))) none from gby_trans HTm4145_.out al_)
    clear HTm4145_
    have rV162_ := Lib.hid (show (((w7.alloc (.cells #[.int .i64 i0, .slice p3a p3n p3c, .slice q3a q3n q3c] 26)).alloc (.cells #[.int .i64 0, .int .i64 0, .int .i64 0, .int .i64 0, .int .i64 0, .int .i64 0, .int .i64 0, .slice r3a r3n r3c] 29))).heap[w7.heap.size + 1]? = some (.cells #[.int .i64 0, .int .i64 0, .int .i64 0, .int .i64 0, .int .i64 0, .int .i64 0, .int .i64 0, .slice r3a r3n r3c] 29 (0, 0)) from by first | exact heap_alloc_new _ _ | exact heap_pair _ _ _ | exact heap_trip _ _ _ _)
    clear al_
    have T_0_ : (((w7.alloc (.cells #[.int .i64 i0, .slice p3a p3n p3c, .slice q3a q3n q3c] 26)).alloc (.cells #[.int .i64 0, .int .i64 0, .int .i64 0, .int .i64 0, .int .i64 0, .int .i64 0, .int .i64 0, .slice r3a r3n r3c] 29))).cell? ⟨w2.heap.size, 0, none⟩ = some (.int .i64 i0) := cell_of_row _ _ 0 _ _ _ rT147_.out
    have T_1_ : (((w7.alloc (.cells #[.int .i64 i0, .slice p3a p3n p3c, .slice q3a q3n q3c] 26)).alloc (.cells #[.int .i64 0, .int .i64 0, .int .i64 0, .int .i64 0, .int .i64 0, .int .i64 0, .int .i64 0, .slice r3a r3n r3c] 29))).cell? ⟨w2.heap.size, 1, none⟩ = some (.slice a1 n c1) := cell_of_row _ _ 1 _ _ _ rT147_.out
    have T_2_ : (((w7.alloc (.cells #[.int .i64 i0, .slice p3a p3n p3c, .slice q3a q3n q3c] 26)).alloc (.cells #[.int .i64 0, .int .i64 0, .int .i64 0, .int .i64 0, .int .i64 0, .int .i64 0, .int .i64 0, .slice r3a r3n r3c] 29))).cell? ⟨w2.heap.size, 2, none⟩ = some (.slice a2 n2 c2) := cell_of_row _ _ 2 _ _ _ rT147_.out
    have M_0_ : (((w7.alloc (.cells #[.int .i64 i0, .slice p3a p3n p3c, .slice q3a q3n q3c] 26)).alloc (.cells #[.int .i64 0, .int .i64 0, .int .i64 0, .int .i64 0, .int .i64 0, .int .i64 0, .int .i64 0, .slice r3a r3n r3c] 29))).cell? ⟨w4.heap.size, 0, none⟩ = some (.int .i64 i0) := cell_of_row _ _ 0 _ _ _ rM148_.out
    have M_1_ : (((w7.alloc (.cells #[.int .i64 i0, .slice p3a p3n p3c, .slice q3a q3n q3c] 26)).alloc (.cells #[.int .i64 0, .int .i64 0, .int .i64 0, .int .i64 0, .int .i64 0, .int .i64 0, .int .i64 0, .slice r3a r3n r3c] 29))).cell? ⟨w4.heap.size, 1, none⟩ = some (.slice p0a p0n p0c) := cell_of_row _ _ 1 _ _ _ rM148_.out
    have M_2_ : (((w7.alloc (.cells #[.int .i64 i0, .slice p3a p3n p3c, .slice q3a q3n q3c] 26)).alloc (.cells #[.int .i64 0, .int .i64 0, .int .i64 0, .int .i64 0, .int .i64 0, .int .i64 0, .int .i64 0, .slice r3a r3n r3c] 29))).cell? ⟨w4.heap.size, 2, none⟩ = some (.slice q0a q0n q0c) := cell_of_row _ _ 2 _ _ _ rM148_.out
    have N_0_ : (((w7.alloc (.cells #[.int .i64 i0, .slice p3a p3n p3c, .slice q3a q3n q3c] 26)).alloc (.cells #[.int .i64 0, .int .i64 0, .int .i64 0, .int .i64 0, .int .i64 0, .int .i64 0, .int .i64 0, .slice r3a r3n r3c] 29))).cell? ⟨w4.heap.size + 1, 0, none⟩ = some (.int .i64 0) := cell_of_row _ _ 0 _ _ _ rN149_.out
    have N_1_ : (((w7.alloc (.cells #[.int .i64 i0, .slice p3a p3n p3c, .slice q3a q3n q3c] 26)).alloc (.cells #[.int .i64 0, .int .i64 0, .int .i64 0, .int .i64 0, .int .i64 0, .int .i64 0, .int .i64 0, .slice r3a r3n r3c] 29))).cell? ⟨w4.heap.size + 1, 1, none⟩ = some (.int .i64 0) := cell_of_row _ _ 1 _ _ _ rN149_.out
    have N_2_ : (((w7.alloc (.cells #[.int .i64 i0, .slice p3a p3n p3c, .slice q3a q3n q3c] 26)).alloc (.cells #[.int .i64 0, .int .i64 0, .int .i64 0, .int .i64 0, .int .i64 0, .int .i64 0, .int .i64 0, .slice r3a r3n r3c] 29))).cell? ⟨w4.heap.size + 1, 2, none⟩ = some (.int .i64 0) := cell_of_row _ _ 2 _ _ _ rN149_.out
    have N_3_ : (((w7.alloc (.cells #[.int .i64 i0, .slice p3a p3n p3c, .slice q3a q3n q3c] 26)).alloc (.cells #[.int .i64 0, .int .i64 0, .int .i64 0, .int .i64 0, .int .i64 0, .int .i64 0, .int .i64 0, .slice r3a r3n r3c] 29))).cell? ⟨w4.heap.size + 1, 3, none⟩ = some (.int .i64 0) := cell_of_row _ _ 3 _ _ _ rN149_.out
    have N_4_ : (((w7.alloc (.cells #[.int .i64 i0, .slice p3a p3n p3c, .slice q3a q3n q3c] 26)).alloc (.cells #[.int .i64 0, .int .i64 0, .int .i64 0, .int .i64 0, .int .i64 0, .int .i64 0, .int .i64 0, .slice r3a r3n r3c] 29))).cell? ⟨w4.heap.size + 1, 4, none⟩ = some (.int .i64 0) := cell_of_row _ _ 4 _ _ _ rN149_.out
    have N_5_ : (((w7.alloc (.cells #[.int .i64 i0, .slice p3a p3n p3c, .slice q3a q3n q3c] 26)).alloc (.cells #[.int .i64 0, .int .i64 0, .int .i64 0, .int .i64 0, .int .i64 0, .int .i64 0, .int .i64 0, .slice r3a r3n r3c] 29))).cell? ⟨w4.heap.size + 1, 5, none⟩ = some (.int .i64 0) := cell_of_row _ _ 5 _ _ _ rN149_.out
    have N_6_ : (((w7.alloc (.cells #[.int .i64 i0, .slice p3a p3n p3c, .slice q3a q3n q3c] 26)).alloc (.cells #[.int .i64 0, .int .i64 0, .int .i64 0, .int .i64 0, .int .i64 0, .int .i64 0, .int .i64 0, .slice r3a r3n r3c] 29))).cell? ⟨w4.heap.size + 1, 6, none⟩ = some (.int .i64 0) := cell_of_row _ _ 6 _ _ _ rN149_.out
    have N_7_ : (((w7.alloc (.cells #[.int .i64 i0, .slice p3a p3n p3c, .slice q3a q3n q3c] 26)).alloc (.cells #[.int .i64 0, .int .i64 0, .int .i64 0, .int .i64 0, .int .i64 0, .int .i64 0, .int .i64 0, .slice r3a r3n r3c] 29))).cell? ⟨w4.heap.size + 1, 7, none⟩ = some (.slice r0a r0n r0c) := cell_of_row _ _ 7 _ _ _ rN149_.out
    have X_0_ : (((w7.alloc (.cells #[.int .i64 i0, .slice p3a p3n p3c, .slice q3a q3n q3c] 26)).alloc (.cells #[.int .i64 0, .int .i64 0, .int .i64 0, .int .i64 0, .int .i64 0, .int .i64 0, .int .i64 0, .slice r3a r3n r3c] 29))).cell? ⟨w5.heap.size, 0, none⟩ = some (.int .i64 i0) := cell_of_row _ _ 0 _ _ _ rX150_.out
    have X_1_ : (((w7.alloc (.cells #[.int .i64 i0, .slice p3a p3n p3c, .slice q3a q3n q3c] 26)).alloc (.cells #[.int .i64 0, .int .i64 0, .int .i64 0, .int .i64 0, .int .i64 0, .int .i64 0, .int .i64 0, .slice r3a r3n r3c] 29))).cell? ⟨w5.heap.size, 1, none⟩ = some (.slice p1a p1n p1c) := cell_of_row _ _ 1 _ _ _ rX150_.out
    have X_2_ : (((w7.alloc (.cells #[.int .i64 i0, .slice p3a p3n p3c, .slice q3a q3n q3c] 26)).alloc (.cells #[.int .i64 0, .int .i64 0, .int .i64 0, .int .i64 0, .int .i64 0, .int .i64 0, .int .i64 0, .slice r3a r3n r3c] 29))).cell? ⟨w5.heap.size, 2, none⟩ = some (.slice q1a q1n q1c) := cell_of_row _ _ 2 _ _ _ rX150_.out
    have Q_0_ : (((w7.alloc (.cells #[.int .i64 i0, .slice p3a p3n p3c, .slice q3a q3n q3c] 26)).alloc (.cells #[.int .i64 0, .int .i64 0, .int .i64 0, .int .i64 0, .int .i64 0, .int .i64 0, .int .i64 0, .slice r3a r3n r3c] 29))).cell? ⟨w5.heap.size + 1, 0, none⟩ = some (.int .i64 0) := cell_of_row _ _ 0 _ _ _ rQ151_.out
    have Q_1_ : (((w7.alloc (.cells #[.int .i64 i0, .slice p3a p3n p3c, .slice q3a q3n q3c] 26)).alloc (.cells #[.int .i64 0, .int .i64 0, .int .i64 0, .int .i64 0, .int .i64 0, .int .i64 0, .int .i64 0, .slice r3a r3n r3c] 29))).cell? ⟨w5.heap.size + 1, 1, none⟩ = some (.int .i64 0) := cell_of_row _ _ 1 _ _ _ rQ151_.out
    have Q_2_ : (((w7.alloc (.cells #[.int .i64 i0, .slice p3a p3n p3c, .slice q3a q3n q3c] 26)).alloc (.cells #[.int .i64 0, .int .i64 0, .int .i64 0, .int .i64 0, .int .i64 0, .int .i64 0, .int .i64 0, .slice r3a r3n r3c] 29))).cell? ⟨w5.heap.size + 1, 2, none⟩ = some (.int .i64 0) := cell_of_row _ _ 2 _ _ _ rQ151_.out
    have Q_3_ : (((w7.alloc (.cells #[.int .i64 i0, .slice p3a p3n p3c, .slice q3a q3n q3c] 26)).alloc (.cells #[.int .i64 0, .int .i64 0, .int .i64 0, .int .i64 0, .int .i64 0, .int .i64 0, .int .i64 0, .slice r3a r3n r3c] 29))).cell? ⟨w5.heap.size + 1, 3, none⟩ = some (.int .i64 0) := cell_of_row _ _ 3 _ _ _ rQ151_.out
    have Q_4_ : (((w7.alloc (.cells #[.int .i64 i0, .slice p3a p3n p3c, .slice q3a q3n q3c] 26)).alloc (.cells #[.int .i64 0, .int .i64 0, .int .i64 0, .int .i64 0, .int .i64 0, .int .i64 0, .int .i64 0, .slice r3a r3n r3c] 29))).cell? ⟨w5.heap.size + 1, 4, none⟩ = some (.int .i64 0) := cell_of_row _ _ 4 _ _ _ rQ151_.out
    have Q_5_ : (((w7.alloc (.cells #[.int .i64 i0, .slice p3a p3n p3c, .slice q3a q3n q3c] 26)).alloc (.cells #[.int .i64 0, .int .i64 0, .int .i64 0, .int .i64 0, .int .i64 0, .int .i64 0, .int .i64 0, .slice r3a r3n r3c] 29))).cell? ⟨w5.heap.size + 1, 5, none⟩ = some (.int .i64 0) := cell_of_row _ _ 5 _ _ _ rQ151_.out
    have Q_6_ : (((w7.alloc (.cells #[.int .i64 i0, .slice p3a p3n p3c, .slice q3a q3n q3c] 26)).alloc (.cells #[.int .i64 0, .int .i64 0, .int .i64 0, .int .i64 0, .int .i64 0, .int .i64 0, .int .i64 0, .slice r3a r3n r3c] 29))).cell? ⟨w5.heap.size + 1, 6, none⟩ = some (.int .i64 0) := cell_of_row _ _ 6 _ _ _ rQ151_.out
    have Q_7_ : (((w7.alloc (.cells #[.int .i64 i0, .slice p3a p3n p3c, .slice q3a q3n q3c] 26)).alloc (.cells #[.int .i64 0, .int .i64 0, .int .i64 0, .int .i64 0, .int .i64 0, .int .i64 0, .int .i64 0, .slice r3a r3n r3c] 29))).cell? ⟨w5.heap.size + 1, 7, none⟩ = some (.slice r1a r1n r1c) := cell_of_row _ _ 7 _ _ _ rQ151_.out
    have Y_0_ : (((w7.alloc (.cells #[.int .i64 i0, .slice p3a p3n p3c, .slice q3a q3n q3c] 26)).alloc (.cells #[.int .i64 0, .int .i64 0, .int .i64 0, .int .i64 0, .int .i64 0, .int .i64 0, .int .i64 0, .slice r3a r3n r3c] 29))).cell? ⟨w6.heap.size, 0, none⟩ = some (.int .i64 i0) := cell_of_row _ _ 0 _ _ _ rY152_.out
    have Y_1_ : (((w7.alloc (.cells #[.int .i64 i0, .slice p3a p3n p3c, .slice q3a q3n q3c] 26)).alloc (.cells #[.int .i64 0, .int .i64 0, .int .i64 0, .int .i64 0, .int .i64 0, .int .i64 0, .int .i64 0, .slice r3a r3n r3c] 29))).cell? ⟨w6.heap.size, 1, none⟩ = some (.slice p2a p2n p2c) := cell_of_row _ _ 1 _ _ _ rY152_.out
    have Y_2_ : (((w7.alloc (.cells #[.int .i64 i0, .slice p3a p3n p3c, .slice q3a q3n q3c] 26)).alloc (.cells #[.int .i64 0, .int .i64 0, .int .i64 0, .int .i64 0, .int .i64 0, .int .i64 0, .int .i64 0, .slice r3a r3n r3c] 29))).cell? ⟨w6.heap.size, 2, none⟩ = some (.slice q2a q2n q2c) := cell_of_row _ _ 2 _ _ _ rY152_.out
    have C_0_ : (((w7.alloc (.cells #[.int .i64 i0, .slice p3a p3n p3c, .slice q3a q3n q3c] 26)).alloc (.cells #[.int .i64 0, .int .i64 0, .int .i64 0, .int .i64 0, .int .i64 0, .int .i64 0, .int .i64 0, .slice r3a r3n r3c] 29))).cell? ⟨w6.heap.size + 1, 0, none⟩ = some (.int .i64 1) := cell_of_row _ _ 0 _ _ _ rC153_.out
    have C_1_ : (((w7.alloc (.cells #[.int .i64 i0, .slice p3a p3n p3c, .slice q3a q3n q3c] 26)).alloc (.cells #[.int .i64 0, .int .i64 0, .int .i64 0, .int .i64 0, .int .i64 0, .int .i64 0, .int .i64 0, .slice r3a r3n r3c] 29))).cell? ⟨w6.heap.size + 1, 1, none⟩ = some (.int .i64 33) := cell_of_row _ _ 1 _ _ _ rC153_.out
    have C_2_ : (((w7.alloc (.cells #[.int .i64 i0, .slice p3a p3n p3c, .slice q3a q3n q3c] 26)).alloc (.cells #[.int .i64 0, .int .i64 0, .int .i64 0, .int .i64 0, .int .i64 0, .int .i64 0, .int .i64 0, .slice r3a r3n r3c] 29))).cell? ⟨w6.heap.size + 1, 2, none⟩ = some (.int .i64 0) := cell_of_row _ _ 2 _ _ _ rC153_.out
    have C_3_ : (((w7.alloc (.cells #[.int .i64 i0, .slice p3a p3n p3c, .slice q3a q3n q3c] 26)).alloc (.cells #[.int .i64 0, .int .i64 0, .int .i64 0, .int .i64 0, .int .i64 0, .int .i64 0, .int .i64 0, .slice r3a r3n r3c] 29))).cell? ⟨w6.heap.size + 1, 3, none⟩ = some (.int .i64 i0) := cell_of_row _ _ 3 _ _ _ rC153_.out
    have C_4_ : (((w7.alloc (.cells #[.int .i64 i0, .slice p3a p3n p3c, .slice q3a q3n q3c] 26)).alloc (.cells #[.int .i64 0, .int .i64 0, .int .i64 0, .int .i64 0, .int .i64 0, .int .i64 0, .int .i64 0, .slice r3a r3n r3c] 29))).cell? ⟨w6.heap.size + 1, 4, none⟩ = some (.int .i64 0) := cell_of_row _ _ 4 _ _ _ rC153_.out
    have C_5_ : (((w7.alloc (.cells #[.int .i64 i0, .slice p3a p3n p3c, .slice q3a q3n q3c] 26)).alloc (.cells #[.int .i64 0, .int .i64 0, .int .i64 0, .int .i64 0, .int .i64 0, .int .i64 0, .int .i64 0, .slice r3a r3n r3c] 29))).cell? ⟨w6.heap.size + 1, 5, none⟩ = some (.int .i64 0) := cell_of_row _ _ 5 _ _ _ rC153_.out
    have C_6_ : (((w7.alloc (.cells #[.int .i64 i0, .slice p3a p3n p3c, .slice q3a q3n q3c] 26)).alloc (.cells #[.int .i64 0, .int .i64 0, .int .i64 0, .int .i64 0, .int .i64 0, .int .i64 0, .int .i64 0, .slice r3a r3n r3c] 29))).cell? ⟨w6.heap.size + 1, 6, none⟩ = some (.int .i64 0) := cell_of_row _ _ 6 _ _ _ rC153_.out
    have C_7_ : (((w7.alloc (.cells #[.int .i64 i0, .slice p3a p3n p3c, .slice q3a q3n q3c] 26)).alloc (.cells #[.int .i64 0, .int .i64 0, .int .i64 0, .int .i64 0, .int .i64 0, .int .i64 0, .int .i64 0, .slice r3a r3n r3c] 29))).cell? ⟨w6.heap.size + 1, 7, none⟩ = some (.slice r2a r2n r2c) := cell_of_row _ _ 7 _ _ _ rC153_.out
    have U_0_ : (((w7.alloc (.cells #[.int .i64 i0, .slice p3a p3n p3c, .slice q3a q3n q3c] 26)).alloc (.cells #[.int .i64 0, .int .i64 0, .int .i64 0, .int .i64 0, .int .i64 0, .int .i64 0, .int .i64 0, .slice r3a r3n r3c] 29))).cell? ⟨w7.heap.size, 0, none⟩ = some (.int .i64 i0) := cell_of_row _ _ 0 _ _ _ rU154_.out
    have U_1_ : (((w7.alloc (.cells #[.int .i64 i0, .slice p3a p3n p3c, .slice q3a q3n q3c] 26)).alloc (.cells #[.int .i64 0, .int .i64 0, .int .i64 0, .int .i64 0, .int .i64 0, .int .i64 0, .int .i64 0, .slice r3a r3n r3c] 29))).cell? ⟨w7.heap.size, 1, none⟩ = some (.slice p3a p3n p3c) := cell_of_row _ _ 1 _ _ _ rU154_.out
    have U_2_ : (((w7.alloc (.cells #[.int .i64 i0, .slice p3a p3n p3c, .slice q3a q3n q3c] 26)).alloc (.cells #[.int .i64 0, .int .i64 0, .int .i64 0, .int .i64 0, .int .i64 0, .int .i64 0, .int .i64 0, .slice r3a r3n r3c] 29))).cell? ⟨w7.heap.size, 2, none⟩ = some (.slice q3a q3n q3c) := cell_of_row _ _ 2 _ _ _ rU154_.out
    have V_0_ : (((w7.alloc (.cells #[.int .i64 i0, .slice p3a p3n p3c, .slice q3a q3n q3c] 26)).alloc (.cells #[.int .i64 0, .int .i64 0, .int .i64 0, .int .i64 0, .int .i64 0, .int .i64 0, .int .i64 0, .slice r3a r3n r3c] 29))).cell? ⟨w7.heap.size + 1, 0, none⟩ = some (.int .i64 0) := cell_of_row _ _ 0 _ _ _ rV162_.out
    have V_1_ : (((w7.alloc (.cells #[.int .i64 i0, .slice p3a p3n p3c, .slice q3a q3n q3c] 26)).alloc (.cells #[.int .i64 0, .int .i64 0, .int .i64 0, .int .i64 0, .int .i64 0, .int .i64 0, .int .i64 0, .slice r3a r3n r3c] 29))).cell? ⟨w7.heap.size + 1, 1, none⟩ = some (.int .i64 0) := cell_of_row _ _ 1 _ _ _ rV162_.out
    have V_2_ : (((w7.alloc (.cells #[.int .i64 i0, .slice p3a p3n p3c, .slice q3a q3n q3c] 26)).alloc (.cells #[.int .i64 0, .int .i64 0, .int .i64 0, .int .i64 0, .int .i64 0, .int .i64 0, .int .i64 0, .slice r3a r3n r3c] 29))).cell? ⟨w7.heap.size + 1, 2, none⟩ = some (.int .i64 0) := cell_of_row _ _ 2 _ _ _ rV162_.out
    have V_3_ : (((w7.alloc (.cells #[.int .i64 i0, .slice p3a p3n p3c, .slice q3a q3n q3c] 26)).alloc (.cells #[.int .i64 0, .int .i64 0, .int .i64 0, .int .i64 0, .int .i64 0, .int .i64 0, .int .i64 0, .slice r3a r3n r3c] 29))).cell? ⟨w7.heap.size + 1, 3, none⟩ = some (.int .i64 0) := cell_of_row _ _ 3 _ _ _ rV162_.out
    have V_4_ : (((w7.alloc (.cells #[.int .i64 i0, .slice p3a p3n p3c, .slice q3a q3n q3c] 26)).alloc (.cells #[.int .i64 0, .int .i64 0, .int .i64 0, .int .i64 0, .int .i64 0, .int .i64 0, .int .i64 0, .slice r3a r3n r3c] 29))).cell? ⟨w7.heap.size + 1, 4, none⟩ = some (.int .i64 0) := cell_of_row _ _ 4 _ _ _ rV162_.out
    have V_5_ : (((w7.alloc (.cells #[.int .i64 i0, .slice p3a p3n p3c, .slice q3a q3n q3c] 26)).alloc (.cells #[.int .i64 0, .int .i64 0, .int .i64 0, .int .i64 0, .int .i64 0, .int .i64 0, .int .i64 0, .slice r3a r3n r3c] 29))).cell? ⟨w7.heap.size + 1, 5, none⟩ = some (.int .i64 0) := cell_of_row _ _ 5 _ _ _ rV162_.out
    have V_6_ : (((w7.alloc (.cells #[.int .i64 i0, .slice p3a p3n p3c, .slice q3a q3n q3c] 26)).alloc (.cells #[.int .i64 0, .int .i64 0, .int .i64 0, .int .i64 0, .int .i64 0, .int .i64 0, .int .i64 0, .slice r3a r3n r3c] 29))).cell? ⟨w7.heap.size + 1, 6, none⟩ = some (.int .i64 0) := cell_of_row _ _ 6 _ _ _ rV162_.out
    have V_7_ : (((w7.alloc (.cells #[.int .i64 i0, .slice p3a p3n p3c, .slice q3a q3n q3c] 26)).alloc (.cells #[.int .i64 0, .int .i64 0, .int .i64 0, .int .i64 0, .int .i64 0, .int .i64 0, .int .i64 0, .slice r3a r3n r3c] 29))).cell? ⟨w7.heap.size + 1, 7, none⟩ = some (.slice r3a r3n r3c) := cell_of_row _ _ 7 _ _ _ rV162_.out
    clear T_0_ T_1_ T_2_ M_0_ M_1_ M_2_ N_0_ N_1_ N_2_ N_3_ N_4_ N_5_ N_6_ N_7_ X_0_ X_1_ X_2_ Q_0_ Q_1_ Q_2_ Q_3_ Q_4_ Q_5_ Q_6_ Q_7_ Y_0_ Y_1_ Y_2_ C_0_ C_1_ C_2_ C_3_ C_4_ C_5_ C_6_ C_7_ U_0_ U_1_ U_2_ V_0_ V_1_ V_2_ V_3_ V_4_ V_5_ V_6_ V_7_
    have al_ : (((w7.alloc (.cells #[.int .i64 i0, .slice p3a p3n p3c, .slice q3a q3n q3c] 26)).alloc (.cells #[.int .i64 0, .int .i64 0, .int .i64 0, .int .i64 0, .int .i64 0, .int .i64 0, .int .i64 0, .slice r3a r3n r3c] 29))).grownBy ((((w7.alloc (.cells #[.int .i64 i0, .slice p3a p3n p3c, .slice q3a q3n q3c] 26)).alloc (.cells #[.int .i64 0, .int .i64 0, .int .i64 0, .int .i64 0, .int .i64 0, .int .i64 0, .int .i64 0, .slice r3a r3n r3c] 29))).alloc (.cells #[.int .i64 0, .int .i64 0, .int .i64 0, .int .i64 0, .int .i64 0, .int .i64 0, .int .i64 0, .slice none 0 0] 29)) none := gby_alloc (gby_refl _ _) _
    have rT163_ := Lib.hid (show ((((w7.alloc (.cells #[.int .i64 i0, .slice p3a p3n p3c, .slice q3a q3n q3c] 26)).alloc (.cells #[.int .i64 0, .int .i64 0, .int .i64 0, .int .i64 0, .int .i64 0, .int .i64 0, .int .i64 0, .slice r3a r3n r3c] 29)).alloc (.cells #[.int .i64 0, .int .i64 0, .int .i64 0, .int .i64 0, .int .i64 0, .int .i64 0, .int .i64 0, .slice none 0 0] 29))).heap[w2.heap.size]? = some (.cells #[.int .i64 i0, .slice a1 n c1, .slice a2 n2 c2] 26 (0, 0)) from row_held al_ rT147_.out)
    clear rT147_
    have rM164_ := Lib.hid (show ((((w7.alloc (.cells #[.int .i64 i0, .slice p3a p3n p3c, .slice q3a q3n q3c] 26)).alloc (.cells #[.int .i64 0, .int .i64 0, .int .i64 0, .int .i64 0, .int .i64 0, .int .i64 0, .int .i64 0, .slice r3a r3n r3c] 29)).alloc (.cells #[.int .i64 0, .int .i64 0, .int .i64 0, .int .i64 0, .int .i64 0, .int .i64 0, .int .i64 0, .slice none 0 0] 29))).heap[w4.heap.size]? = some (.cells #[.int .i64 i0, .slice p0a p0n p0c, .slice q0a q0n q0c] 26 (0, 0)) from row_held al_ rM148_.out)
    clear rM148_
    have rN165_ := Lib.hid (show ((((w7.alloc (.cells #[.int .i64 i0, .slice p3a p3n p3c, .slice q3a q3n q3c] 26)).alloc (.cells #[.int .i64 0, .int .i64 0, .int .i64 0, .int .i64 0, .int .i64 0, .int .i64 0, .int .i64 0, .slice r3a r3n r3c] 29)).alloc (.cells #[.int .i64 0, .int .i64 0, .int .i64 0, .int .i64 0, .int .i64 0, .int .i64 0, .int .i64 0, .slice none 0 0] 29))).heap[w4.heap.size + 1]? = some (.cells #[.int .i64 0, .int .i64 0, .int .i64 0, .int .i64 0, .int .i64 0, .int .i64 0, .int .i64 0, .slice r0a r0n r0c] 29 (0, 0)) from row_held al_ rN149_.out)
    clear rN149_
    have rX166_ := Lib.hid (show ((((w7.alloc (.cells #[.int .i64 i0, .slice p3a p3n p3c, .slice q3a q3n q3c] 26)).alloc (.cells #[.int .i64 0, .int .i64 0, .int .i64 0, .int .i64 0, .int .i64 0, .int .i64 0, .int .i64 0, .slice r3a r3n r3c] 29)).alloc (.cells #[.int .i64 0, .int .i64 0, .int .i64 0, .int .i64 0, .int .i64 0, .int .i64 0, .int .i64 0, .slice none 0 0] 29))).heap[w5.heap.size]? = some (.cells #[.int .i64 i0, .slice p1a p1n p1c, .slice q1a q1n q1c] 26 (0, 0)) from row_held al_ rX150_.out)
    clear rX150_
    have rQ167_ := Lib.hid (show ((((w7.alloc (.cells #[.int .i64 i0, .slice p3a p3n p3c, .slice q3a q3n q3c] 26)).alloc (.cells #[.int .i64 0, .int .i64 0, .int .i64 0, .int .i64 0, .int .i64 0, .int .i64 0, .int .i64 0, .slice r3a r3n r3c] 29)).alloc (.cells #[.int .i64 0, .int .i64 0, .int .i64 0, .int .i64 0, .int .i64 0, .int .i64 0, .int .i64 0, .slice none 0 0] 29))).heap[w5.heap.size + 1]? = some (.cells #[.int .i64 0, .int .i64 0, .int .i64 0, .int .i64 0, .int .i64 0, .int .i64 0, .int .i64 0, .slice r1a r1n r1c] 29 (0, 0)) from row_held al_ rQ151_.out)
    clear rQ151_
    have rY168_ := Lib.hid (show ((((w7.alloc (.cells #[.int .i64 i0, .slice p3a p3n p3c, .slice q3a q3n q3c] 26)).alloc (.cells #[.int .i64 0, .int .i64 0, .int .i64 0, .int .i64 0, .int .i64 0, .int .i64 0, .int .i64 0, .slice r3a r3n r3c] 29)).alloc (.cells #[.int .i64 0, .int .i64 0, .int .i64 0, .int .i64 0, .int .i64 0, .int .i64 0, .int .i64 0, .slice none 0 0] 29))).heap[w6.heap.size]? = some (.cells #[.int .i64 i0, .slice p2a p2n p2c, .slice q2a q2n q2c] 26 (0, 0)) from row_held al_ rY152_.out)
    clear rY152_
    have rC169_ := Lib.hid (show ((((w7.alloc (.cells #[.int .i64 i0, .slice p3a p3n p3c, .slice q3a q3n q3c] 26)).alloc (.cells #[.int .i64 0, .int .i64 0, .int .i64 0, .int .i64 0, .int .i64 0, .int .i64 0, .int .i64 0, .slice r3a r3n r3c] 29)).alloc (.cells #[.int .i64 0, .int .i64 0, .int .i64 0, .int .i64 0, .int .i64 0, .int .i64 0, .int .i64 0, .slice none 0 0] 29))).heap[w6.heap.size + 1]? = some (.cells #[.int .i64 1, .int .i64 33, .int .i64 0, .int .i64 i0, .int .i64 0, .int .i64 0, .int .i64 0, .slice r2a r2n r2c] 29 (0, 0)) from row_held al_ rC153_.out)
    clear rC153_
    have rU170_ := Lib.hid (show ((((w7.alloc (.cells #[.int .i64 i0, .slice p3a p3n p3c, .slice q3a q3n q3c] 26)).alloc (.cells #[.int .i64 0, .int .i64 0, .int .i64 0, .int .i64 0, .int .i64 0, .int .i64 0, .int .i64 0, .slice r3a r3n r3c] 29)).alloc (.cells #[.int .i64 0, .int .i64 0, .int .i64 0, .int .i64 0, .int .i64 0, .int .i64 0, .int .i64 0, .slice none 0 0] 29))).heap[w7.heap.size]? = some (.cells #[.int .i64 i0, .slice p3a p3n p3c, .slice q3a q3n q3c] 26 (0, 0)) from row_held al_ rU154_.out)
    clear rU154_
    have rV171_ := Lib.hid (show ((((w7.alloc (.cells #[.int .i64 i0, .slice p3a p3n p3c, .slice q3a q3n q3c] 26)).alloc (.cells #[.int .i64 0, .int .i64 0, .int .i64 0, .int .i64 0, .int .i64 0, .int .i64 0, .int .i64 0, .slice r3a r3n r3c] 29)).alloc (.cells #[.int .i64 0, .int .i64 0, .int .i64 0, .int .i64 0, .int .i64 0, .int .i64 0, .int .i64 0, .slice none 0 0] 29))).heap[w7.heap.size + 1]? = some (.cells #[.int .i64 0, .int .i64 0, .int .i64 0, .int .i64 0, .int .i64 0, .int .i64 0, .int .i64 0, .slice r3a r3n r3c] 29 (0, 0)) from row_held al_ rV162_.out)
    clear rV162_
    have G172_ := Lib.hid (show (W).grownBy ((((w7.alloc (.cells #[.int .i64 i0, .slice p3a p3n p3c, .slice q3a q3n q3c] 26)).alloc (.cells #[.int .i64 0, .int .i64 0, .int .i64 0, .int .i64 0, .int .i64 0, .int .i64 0, .int .i64 0, .slice r3a r3n r3c] 29)).alloc (.cells #[.int .i64 0, .int .i64 0, .int .i64 0, .int .i64 0, .int .i64 0, .int .i64 0, .int .i64 0, .slice none 0 0] 29))) none from gby_trans G155_.out al_)
    have HTt173_ := Lib.hid (show (w2).grownBy ((((w7.alloc (.cells #[.int .i64 i0, .slice p3a p3n p3c, .slice q3a q3n q3c] 26)).alloc (.cells #[.int .i64 0, .int .i64 0, .int .i64 0, .int .i64 0, .int .i64 0, .int .i64 0, .int .i64 0, .slice r3a r3n r3c] 29)).alloc (.cells #[.int .i64 0, .int .i64 0, .int .i64 0, .int .i64 0, .int .i64 0, .int .i64 0, .int .i64 0, .slice none 0 0] 29))) none from gby_trans HTt156_.out al_)
    clear HTt156_
    have HTP174_ := Lib.hid (show (w3).grownBy ((((w7.alloc (.cells #[.int .i64 i0, .slice p3a p3n p3c, .slice q3a q3n q3c] 26)).alloc (.cells #[.int .i64 0, .int .i64 0, .int .i64 0, .int .i64 0, .int .i64 0, .int .i64 0, .int .i64 0, .slice r3a r3n r3c] 29)).alloc (.cells #[.int .i64 0, .int .i64 0, .int .i64 0, .int .i64 0, .int .i64 0, .int .i64 0, .int .i64 0, .slice none 0 0] 29))) none from gby_trans HTP157_.out al_)
    clear HTP157_
    have HTm1175_ := Lib.hid (show (w4).grownBy ((((w7.alloc (.cells #[.int .i64 i0, .slice p3a p3n p3c, .slice q3a q3n q3c] 26)).alloc (.cells #[.int .i64 0, .int .i64 0, .int .i64 0, .int .i64 0, .int .i64 0, .int .i64 0, .int .i64 0, .slice r3a r3n r3c] 29)).alloc (.cells #[.int .i64 0, .int .i64 0, .int .i64 0, .int .i64 0, .int .i64 0, .int .i64 0, .int .i64 0, .slice none 0 0] 29))) none from gby_trans HTm1158_.out al_)
    clear HTm1158_
    have HTm2176_ := Lib.hid (show (w5).grownBy ((((w7.alloc (.cells #[.int .i64 i0, .slice p3a p3n p3c, .slice q3a q3n q3c] 26)).alloc (.cells #[.int .i64 0, .int .i64 0, .int .i64 0, .int .i64 0, .int .i64 0, .int .i64 0, .int .i64 0, .slice r3a r3n r3c] 29)).alloc (.cells #[.int .i64 0, .int .i64 0, .int .i64 0, .int .i64 0, .int .i64 0, .int .i64 0, .int .i64 0, .slice none 0 0] 29))) none from gby_trans HTm2159_.out al_)
    clear HTm2159_
    have HTm3177_ := Lib.hid (show (w6).grownBy ((((w7.alloc (.cells #[.int .i64 i0, .slice p3a p3n p3c, .slice q3a q3n q3c] 26)).alloc (.cells #[.int .i64 0, .int .i64 0, .int .i64 0, .int .i64 0, .int .i64 0, .int .i64 0, .int .i64 0, .slice r3a r3n r3c] 29)).alloc (.cells #[.int .i64 0, .int .i64 0, .int .i64 0, .int .i64 0, .int .i64 0, .int .i64 0, .int .i64 0, .slice none 0 0] 29))) none from gby_trans HTm3160_.out al_)
    clear HTm3160_
    have HTm4178_ := Lib.hid (show (w7).grownBy ((((w7.alloc (.cells #[.int .i64 i0, .slice p3a p3n p3c, .slice q3a q3n q3c] 26)).alloc (.cells #[.int .i64 0, .int .i64 0, .int .i64 0, .int .i64 0, .int .i64 0, .int .i64 0, .int .i64 0, .slice r3a r3n r3c] 29)).alloc (.cells #[.int .i64 0, .int .i64 0, .int .i64 0, .int .i64 0, .int .i64 0, .int .i64 0, .int .i64 0, .slice none 0 0] 29))) none from gby_trans HTm4161_.out al_)
    clear HTm4161_
    have rZ179_ := Lib.hid (show ((((w7.alloc (.cells #[.int .i64 i0, .slice p3a p3n p3c, .slice q3a q3n q3c] 26)).alloc (.cells #[.int .i64 0, .int .i64 0, .int .i64 0, .int .i64 0, .int .i64 0, .int .i64 0, .int .i64 0, .slice r3a r3n r3c] 29)).alloc (.cells #[.int .i64 0, .int .i64 0, .int .i64 0, .int .i64 0, .int .i64 0, .int .i64 0, .int .i64 0, .slice none 0 0] 29))).heap[w7.heap.size + 1 + 1]? = some (.cells #[.int .i64 0, .int .i64 0, .int .i64 0, .int .i64 0, .int .i64 0, .int .i64 0, .int .i64 0, .slice none 0 0] 29 (0, 0)) from by first | exact heap_alloc_new _ _ | exact heap_pair _ _ _ | exact heap_trip _ _ _ _)
    clear al_
    have T_0_ : ((((w7.alloc (.cells #[.int .i64 i0, .slice p3a p3n p3c, .slice q3a q3n q3c] 26)).alloc (.cells #[.int .i64 0, .int .i64 0, .int .i64 0, .int .i64 0, .int .i64 0, .int .i64 0, .int .i64 0, .slice r3a r3n r3c] 29)).alloc (.cells #[.int .i64 0, .int .i64 0, .int .i64 0, .int .i64 0, .int .i64 0, .int .i64 0, .int .i64 0, .slice none 0 0] 29))).cell? ⟨w2.heap.size, 0, none⟩ = some (.int .i64 i0) := cell_of_row _ _ 0 _ _ _ rT163_.out
    have T_1_ : ((((w7.alloc (.cells #[.int .i64 i0, .slice p3a p3n p3c, .slice q3a q3n q3c] 26)).alloc (.cells #[.int .i64 0, .int .i64 0, .int .i64 0, .int .i64 0, .int .i64 0, .int .i64 0, .int .i64 0, .slice r3a r3n r3c] 29)).alloc (.cells #[.int .i64 0, .int .i64 0, .int .i64 0, .int .i64 0, .int .i64 0, .int .i64 0, .int .i64 0, .slice none 0 0] 29))).cell? ⟨w2.heap.size, 1, none⟩ = some (.slice a1 n c1) := cell_of_row _ _ 1 _ _ _ rT163_.out
    have T_2_ : ((((w7.alloc (.cells #[.int .i64 i0, .slice p3a p3n p3c, .slice q3a q3n q3c] 26)).alloc (.cells #[.int .i64 0, .int .i64 0, .int .i64 0, .int .i64 0, .int .i64 0, .int .i64 0, .int .i64 0, .slice r3a r3n r3c] 29)).alloc (.cells #[.int .i64 0, .int .i64 0, .int .i64 0, .int .i64 0, .int .i64 0, .int .i64 0, .int .i64 0, .slice none 0 0] 29))).cell? ⟨w2.heap.size, 2, none⟩ = some (.slice a2 n2 c2) := cell_of_row _ _ 2 _ _ _ rT163_.out
    have M_0_ : ((((w7.alloc (.cells #[.int .i64 i0, .slice p3a p3n p3c, .slice q3a q3n q3c] 26)).alloc (.cells #[.int .i64 0, .int .i64 0, .int .i64 0, .int .i64 0, .int .i64 0, .int .i64 0, .int .i64 0, .slice r3a r3n r3c] 29)).alloc (.cells #[.int .i64 0, .int .i64 0, .int .i64 0, .int .i64 0, .int .i64 0, .int .i64 0, .int .i64 0, .slice none 0 0] 29))).cell? ⟨w4.heap.size, 0, none⟩ = some (.int .i64 i0) := cell_of_row _ _ 0 _ _ _ rM164_.out
    have M_1_ : ((((w7.alloc (.cells #[.int .i64 i0, .slice p3a p3n p3c, .slice q3a q3n q3c] 26)).alloc (.cells #[.int .i64 0, .int .i64 0, .int .i64 0, .int .i64 0, .int .i64 0, .int .i64 0, .int .i64 0, .slice r3a r3n r3c] 29)).alloc (.cells #[.int .i64 0, .int .i64 0, .int .i64 0, .int .i64 0, .int .i64 0, .int .i64 0, .int .i64 0, .slice none 0 0] 29))).cell? ⟨w4.heap.size, 1, none⟩ = some (.slice p0a p0n p0c) := cell_of_row _ _ 1 _ _ _ rM164_.out
    have M_2_ : ((((w7.alloc (.cells #[.int .i64 i0, .slice p3a p3n p3c, .slice q3a q3n q3c] 26)).alloc (.cells #[.int .i64 0, .int .i64 0, .int .i64 0, .int .i64 0, .int .i64 0, .int .i64 0, .int .i64 0, .slice r3a r3n r3c] 29)).alloc (.cells #[.int .i64 0, .int .i64 0, .int .i64 0, .int .i64 0, .int .i64 0, .int .i64 0, .int .i64 0, .slice none 0 0] 29))).cell? ⟨w4.heap.size, 2, none⟩ = some (.slice q0a q0n q0c) := cell_of_row _ _ 2 _ _ _ rM164_.out
    have N_0_ : ((((w7.alloc (.cells #[.int .i64 i0, .slice p3a p3n p3c, .slice q3a q3n q3c] 26)).alloc (.cells #[.int .i64 0, .int .i64 0, .int .i64 0, .int .i64 0, .int .i64 0, .int .i64 0, .int .i64 0, .slice r3a r3n r3c] 29)).alloc (.cells #[.int .i64 0, .int .i64 0, .int .i64 0, .int .i64 0, .int .i64 0, .int .i64 0, .int .i64 0, .slice none 0 0] 29))).cell? ⟨w4.heap.size + 1, 0, none⟩ = some (.int .i64 0) := cell_of_row _ _ 0 _ _ _ rN165_.out
    have N_1_ : ((((w7.alloc (.cells #[.int .i64 i0, .slice p3a p3n p3c, .slice q3a q3n q3c] 26)).alloc (.cells #[.int .i64 0, .int .i64 0, .int .i64 0, .int .i64 0, .int .i64 0, .int .i64 0, .int .i64 0, .slice r3a r3n r3c] 29)).alloc (.cells #[.int .i64 0, .int .i64 0, .int .i64 0, .int .i64 0, .int .i64 0, .int .i64 0, .int .i64 0, .slice none 0 0] 29))).cell? ⟨w4.heap.size + 1, 1, none⟩ = some (.int .i64 0) := cell_of_row _ _ 1 _ _ _ rN165_.out
    have N_2_ : ((((w7.alloc (.cells #[.int .i64 i0, .slice p3a p3n p3c, .slice q3a q3n q3c] 26)).alloc (.cells #[.int .i64 0, .int .i64 0, .int .i64 0, .int .i64 0, .int .i64 0, .int .i64 0, .int .i64 0, .slice r3a r3n r3c] 29)).alloc (.cells #[.int .i64 0, .int .i64 0, .int .i64 0, .int .i64 0, .int .i64 0, .int .i64 0, .int .i64 0, .slice none 0 0] 29))).cell? ⟨w4.heap.size + 1, 2, none⟩ = some (.int .i64 0) := cell_of_row _ _ 2 _ _ _ rN165_.out
    have N_3_ : ((((w7.alloc (.cells #[.int .i64 i0, .slice p3a p3n p3c, .slice q3a q3n q3c] 26)).alloc (.cells #[.int .i64 0, .int .i64 0, .int .i64 0, .int .i64 0, .int .i64 0, .int .i64 0, .int .i64 0, .slice r3a r3n r3c] 29)).alloc (.cells #[.int .i64 0, .int .i64 0, .int .i64 0, .int .i64 0, .int .i64 0, .int .i64 0, .int .i64 0, .slice none 0 0] 29))).cell? ⟨w4.heap.size + 1, 3, none⟩ = some (.int .i64 0) := cell_of_row _ _ 3 _ _ _ rN165_.out
    have N_4_ : ((((w7.alloc (.cells #[.int .i64 i0, .slice p3a p3n p3c, .slice q3a q3n q3c] 26)).alloc (.cells #[.int .i64 0, .int .i64 0, .int .i64 0, .int .i64 0, .int .i64 0, .int .i64 0, .int .i64 0, .slice r3a r3n r3c] 29)).alloc (.cells #[.int .i64 0, .int .i64 0, .int .i64 0, .int .i64 0, .int .i64 0, .int .i64 0, .int .i64 0, .slice none 0 0] 29))).cell? ⟨w4.heap.size + 1, 4, none⟩ = some (.int .i64 0) := cell_of_row _ _ 4 _ _ _ rN165_.out
    have N_5_ : ((((w7.alloc (.cells #[.int .i64 i0, .slice p3a p3n p3c, .slice q3a q3n q3c] 26)).alloc (.cells #[.int .i64 0, .int .i64 0, .int .i64 0, .int .i64 0, .int .i64 0, .int .i64 0, .int .i64 0, .slice r3a r3n r3c] 29)).alloc (.cells #[.int .i64 0, .int .i64 0, .int .i64 0, .int .i64 0, .int .i64 0, .int .i64 0, .int .i64 0, .slice none 0 0] 29))).cell? ⟨w4.heap.size + 1, 5, none⟩ = some (.int .i64 0) := cell_of_row _ _ 5 _ _ _ rN165_.out
    have N_6_ : ((((w7.alloc (.cells #[.int .i64 i0, .slice p3a p3n p3c, .slice q3a q3n q3c] 26)).alloc (.cells #[.int .i64 0, .int .i64 0, .int .i64 0, .int .i64 0, .int .i64 0, .int .i64 0, .int .i64 0, .slice r3a r3n r3c] 29)).alloc (.cells #[.int .i64 0, .int .i64 0, .int .i64 0, .int .i64 0, .int .i64 0, .int .i64 0, .int .i64 0, .slice none 0 0] 29))).cell? ⟨w4.heap.size + 1, 6, none⟩ = some (.int .i64 0) := cell_of_row _ _ 6 _ _ _ rN165_.out
    have N_7_ : ((((w7.alloc (.cells #[.int .i64 i0, .slice p3a p3n p3c, .slice q3a q3n q3c] 26)).alloc (.cells #[.int .i64 0, .int .i64 0, .int .i64 0, .int .i64 0, .int .i64 0, .int .i64 0, .int .i64 0, .slice r3a r3n r3c] 29)).alloc (.cells #[.int .i64 0, .int .i64 0, .int .i64 0, .int .i64 0, .int .i64 0, .int .i64 0, .int .i64 0, .slice none 0 0] 29))).cell? ⟨w4.heap.size + 1, 7, none⟩ = some (.slice r0a r0n r0c) := cell_of_row _ _ 7 _ _ _ rN165_.out
    have X_0_ : ((((w7.alloc (.cells #[.int .i64 i0, .slice p3a p3n p3c, .slice q3a q3n q3c] 26)).alloc (.cells #[.int .i64 0, .int .i64 0, .int .i64 0, .int .i64 0, .int .i64 0, .int .i64 0, .int .i64 0, .slice r3a r3n r3c] 29)).alloc (.cells #[.int .i64 0, .int .i64 0, .int .i64 0, .int .i64 0, .int .i64 0, .int .i64 0, .int .i64 0, .slice none 0 0] 29))).cell? ⟨w5.heap.size, 0, none⟩ = some (.int .i64 i0) := cell_of_row _ _ 0 _ _ _ rX166_.out
    have X_1_ : ((((w7.alloc (.cells #[.int .i64 i0, .slice p3a p3n p3c, .slice q3a q3n q3c] 26)).alloc (.cells #[.int .i64 0, .int .i64 0, .int .i64 0, .int .i64 0, .int .i64 0, .int .i64 0, .int .i64 0, .slice r3a r3n r3c] 29)).alloc (.cells #[.int .i64 0, .int .i64 0, .int .i64 0, .int .i64 0, .int .i64 0, .int .i64 0, .int .i64 0, .slice none 0 0] 29))).cell? ⟨w5.heap.size, 1, none⟩ = some (.slice p1a p1n p1c) := cell_of_row _ _ 1 _ _ _ rX166_.out
    have X_2_ : ((((w7.alloc (.cells #[.int .i64 i0, .slice p3a p3n p3c, .slice q3a q3n q3c] 26)).alloc (.cells #[.int .i64 0, .int .i64 0, .int .i64 0, .int .i64 0, .int .i64 0, .int .i64 0, .int .i64 0, .slice r3a r3n r3c] 29)).alloc (.cells #[.int .i64 0, .int .i64 0, .int .i64 0, .int .i64 0, .int .i64 0, .int .i64 0, .int .i64 0, .slice none 0 0] 29))).cell? ⟨w5.heap.size, 2, none⟩ = some (.slice q1a q1n q1c) := cell_of_row _ _ 2 _ _ _ rX166_.out
    have Q_0_ : ((((w7.alloc (.cells #[.int .i64 i0, .slice p3a p3n p3c, .slice q3a q3n q3c] 26)).alloc (.cells #[.int .i64 0, .int .i64 0, .int .i64 0, .int .i64 0, .int .i64 0, .int .i64 0, .int .i64 0, .slice r3a r3n r3c] 29)).alloc (.cells #[.int .i64 0, .int .i64 0, .int .i64 0, .int .i64 0, .int .i64 0, .int .i64 0, .int .i64 0, .slice none 0 0] 29))).cell? ⟨w5.heap.size + 1, 0, none⟩ = some (.int .i64 0) := cell_of_row _ _ 0 _ _ _ rQ167_.out
    have Q_1_ : ((((w7.alloc (.cells #[.int .i64 i0, .slice p3a p3n p3c, .slice q3a q3n q3c] 26)).alloc (.cells #[.int .i64 0, .int .i64 0, .int .i64 0, .int .i64 0, .int .i64 0, .int .i64 0, .int .i64 0, .slice r3a r3n r3c] 29)).alloc (.cells #[.int .i64 0, .int .i64 0, .int .i64 0, .int .i64 0, .int .i64 0, .int .i64 0, .int .i64 0, .slice none 0 0] 29))).cell? ⟨w5.heap.size + 1, 1, none⟩ = some (.int .i64 0) := cell_of_row _ _ 1 _ _ _ rQ167_.out
    have Q_2_ : ((((w7.alloc (.cells #[.int .i64 i0, .slice p3a p3n p3c, .slice q3a q3n q3c] 26)).alloc (.cells #[.int .i64 0, .int .i64 0, .int .i64 0, .int .i64 0, .int .i64 0, .int .i64 0, .int .i64 0, .slice r3a r3n r3c] 29)).alloc (.cells #[.int .i64 0, .int .i64 0, .int .i64 0, .int .i64 0, .int .i64 0, .int .i64 0, .int .i64 0, .slice none 0 0] 29))).cell? ⟨w5.heap.size + 1, 2, none⟩ = some (.int .i64 0) := cell_of_row _ _ 2 _ _ _ rQ167_.out
    have Q_3_ : ((((w7.alloc (.cells #[.int .i64 i0, .slice p3a p3n p3c, .slice q3a q3n q3c] 26)).alloc (.cells #[.int .i64 0, .int .i64 0, .int .i64 0, .int .i64 0, .int .i64 0, .int .i64 0, .int .i64 0, .slice r3a r3n r3c] 29)).alloc (.cells #[.int .i64 0, .int .i64 0, .int .i64 0, .int .i64 0, .int .i64 0, .int .i64 0, .int .i64 0, .slice none 0 0] 29))).cell? ⟨w5.heap.size + 1, 3, none⟩ = some (.int .i64 0) := cell_of_row _ _ 3 _ _ _ rQ167_.out
    have Q_4_ : ((((w7.alloc (.cells #[.int .i64 i0, .slice p3a p3n p3c, .slice q3a q3n q3c] 26)).alloc (.cells #[.int .i64 0, .int .i64 0, .int .i64 0, .int .i64 0, .int .i64 0, .int .i64 0, .int .i64 0, .slice r3a r3n r3c] 29)).alloc (.cells #[.int .i64 0, .int .i64 0, .int .i64 0, .int .i64 0, .int .i64 0, .int .i64 0, .int .i64 0, .slice none 0 0] 29))).cell? ⟨w5.heap.size + 1, 4, none⟩ = some (.int .i64 0) := cell_of_row _ _ 4 _ _ _ rQ167_.out
    have Q_5_ : ((((w7.alloc (.cells #[.int .i64 i0, .slice p3a p3n p3c, .slice q3a q3n q3c] 26)).alloc (.cells #[.int .i64 0, .int .i64 0, .int .i64 0, .int .i64 0, .int .i64 0, .int .i64 0, .int .i64 0, .slice r3a r3n r3c] 29)).alloc (.cells #[.int .i64 0, .int .i64 0, .int .i64 0, .int .i64 0, .int .i64 0, .int .i64 0, .int .i64 0, .slice none 0 0] 29))).cell? ⟨w5.heap.size + 1, 5, none⟩ = some (.int .i64 0) := cell_of_row _ _ 5 _ _ _ rQ167_.out
    have Q_6_ : ((((w7.alloc (.cells #[.int .i64 i0, .slice p3a p3n p3c, .slice q3a q3n q3c] 26)).alloc (.cells #[.int .i64 0, .int .i64 0, .int .i64 0, .int .i64 0, .int .i64 0, .int .i64 0, .int .i64 0, .slice r3a r3n r3c] 29)).alloc (.cells #[.int .i64 0, .int .i64 0, .int .i64 0, .int .i64 0, .int .i64 0, .int .i64 0, .int .i64 0, .slice none 0 0] 29))).cell? ⟨w5.heap.size + 1, 6, none⟩ = some (.int .i64 0) := cell_of_row _ _ 6 _ _ _ rQ167_.out
    have Q_7_ : ((((w7.alloc (.cells #[.int .i64 i0, .slice p3a p3n p3c, .slice q3a q3n q3c] 26)).alloc (.cells #[.int .i64 0, .int .i64 0, .int .i64 0, .int .i64 0, .int .i64 0, .int .i64 0, .int .i64 0, .slice r3a r3n r3c] 29)).alloc (.cells #[.int .i64 0, .int .i64 0, .int .i64 0, .int .i64 0, .int .i64 0, .int .i64 0, .int .i64 0, .slice none 0 0] 29))).cell? ⟨w5.heap.size + 1, 7, none⟩ = some (.slice r1a r1n r1c) := cell_of_row _ _ 7 _ _ _ rQ167_.out
    have Y_0_ : ((((w7.alloc (.cells #[.int .i64 i0, .slice p3a p3n p3c, .slice q3a q3n q3c] 26)).alloc (.cells #[.int .i64 0, .int .i64 0, .int .i64 0, .int .i64 0, .int .i64 0, .int .i64 0, .int .i64 0, .slice r3a r3n r3c] 29)).alloc (.cells #[.int .i64 0, .int .i64 0, .int .i64 0, .int .i64 0, .int .i64 0, .int .i64 0, .int .i64 0, .slice none 0 0] 29))).cell? ⟨w6.heap.size, 0, none⟩ = some (.int .i64 i0) := cell_of_row _ _ 0 _ _ _ rY168_.out
    have Y_1_ : ((((w7.alloc (.cells #[.int .i64 i0, .slice p3a p3n p3c, .slice q3a q3n q3c] 26)).alloc (.cells #[.int .i64 0, .int .i64 0, .int .i64 0, .int .i64 0, .int .i64 0, .int .i64 0, .int .i64 0, .slice r3a r3n r3c] 29)).alloc (.cells #[.int .i64 0, .int .i64 0, .int .i64 0, .int .i64 0, .int .i64 0, .int .i64 0, .int .i64 0, .slice none 0 0] 29))).cell? ⟨w6.heap.size, 1, none⟩ = some (.slice p2a p2n p2c) := cell_of_row _ _ 1 _ _ _ rY168_.out
    have Y_2_ : ((((w7.alloc (.cells #[.int .i64 i0, .slice p3a p3n p3c, .slice q3a q3n q3c] 26)).alloc (.cells #[.int .i64 0, .int .i64 0, .int .i64 0, .int .i64 0, .int .i64 0, .int .i64 0, .int .i64 0, .slice r3a r3n r3c] 29)).alloc (.cells #[.int .i64 0, .int .i64 0, .int .i64 0, .int .i64 0, .int .i64 0, .int .i64 0, .int .i64 0, .slice none 0 0] 29))).cell? ⟨w6.heap.size, 2, none⟩ = some (.slice q2a q2n q2c) := cell_of_row _ _ 2 _ _ _ rY168_.out
    have C_0_ : ((((w7.alloc (.cells #[.int .i64 i0, .slice p3a p3n p3c, .slice q3a q3n q3c] 26)).alloc (.cells #[.int .i64 0, .int .i64 0, .int .i64 0, .int .i64 0, .int .i64 0, .int .i64 0, .int .i64 0, .slice r3a r3n r3c] 29)).alloc (.cells #[.int .i64 0, .int .i64 0, .int .i64 0, .int .i64 0, .int .i64 0, .int .i64 0, .int .i64 0, .slice none 0 0] 29))).cell? ⟨w6.heap.size + 1, 0, none⟩ = some (.int .i64 1) := cell_of_row _ _ 0 _ _ _ rC169_.out
    have C_1_ : ((((w7.alloc (.cells #[.int .i64 i0, .slice p3a p3n p3c, .slice q3a q3n q3c] 26)).alloc (.cells #[.int .i64 0, .int .i64 0, .int .i64 0, .int .i64 0, .int .i64 0, .int .i64 0, .int .i64 0, .slice r3a r3n r3c] 29)).alloc (.cells #[.int .i64 0, .int .i64 0, .int .i64 0, .int .i64 0, .int .i64 0, .int .i64 0, .int .i64 0, .slice none 0 0] 29))).cell? ⟨w6.heap.size + 1, 1, none⟩ = some (.int .i64 33) := cell_of_row _ _ 1 _ _ _ rC169_.out
    have C_2_ : ((((w7.alloc (.cells #[.int .i64 i0, .slice p3a p3n p3c, .slice q3a q3n q3c] 26)).alloc (.cells #[.int .i64 0, .int .i64 0, .int .i64 0, .int .i64 0, .int .i64 0, .int .i64 0, .int .i64 0, .slice r3a r3n r3c] 29)).alloc (.cells #[.int .i64 0, .int .i64 0, .int .i64 0, .int .i64 0, .int .i64 0, .int .i64 0, .int .i64 0, .slice none 0 0] 29))).cell? ⟨w6.heap.size + 1, 2, none⟩ = some (.int .i64 0) := cell_of_row _ _ 2 _ _ _ rC169_.out
    have C_3_ : ((((w7.alloc (.cells #[.int .i64 i0, .slice p3a p3n p3c, .slice q3a q3n q3c] 26)).alloc (.cells #[.int .i64 0, .int .i64 0, .int .i64 0, .int .i64 0, .int .i64 0, .int .i64 0, .int .i64 0, .slice r3a r3n r3c] 29)).alloc (.cells #[.int .i64 0, .int .i64 0, .int .i64 0, .int .i64 0, .int .i64 0, .int .i64 0, .int .i64 0, .slice none 0 0] 29))).cell? ⟨w6.heap.size + 1, 3, none⟩ = some (.int .i64 i0) := cell_of_row _ _ 3 _ _ _ rC169_.out
    have C_4_ : ((((w7.alloc (.cells #[.int .i64 i0, .slice p3a p3n p3c, .slice q3a q3n q3c] 26)).alloc (.cells #[.int .i64 0, .int .i64 0, .int .i64 0, .int .i64 0, .int .i64 0, .int .i64 0, .int .i64 0, .slice r3a r3n r3c] 29)).alloc (.cells #[.int .i64 0, .int .i64 0, .int .i64 0, .int .i64 0, .int .i64 0, .int .i64 0, .int .i64 0, .slice none 0 0] 29))).cell? ⟨w6.heap.size + 1, 4, none⟩ = some (.int .i64 0) := cell_of_row _ _ 4 _ _ _ rC169_.out
    have C_5_ : ((((w7.alloc (.cells #[.int .i64 i0, .slice p3a p3n p3c, .slice q3a q3n q3c] 26)).alloc (.cells #[.int .i64 0, .int .i64 0, .int .i64 0, .int .i64 0, .int .i64 0, .int .i64 0, .int .i64 0, .slice r3a r3n r3c] 29)).alloc (.cells #[.int .i64 0, .int .i64 0, .int .i64 0, .int .i64 0, .int .i64 0, .int .i64 0, .int .i64 0, .slice none 0 0] 29))).cell? ⟨w6.heap.size + 1, 5, none⟩ = some (.int .i64 0) := cell_of_row _ _ 5 _ _ _ rC169_.out
    have C_6_ : ((((w7.alloc (.cells #[.int .i64 i0, .slice p3a p3n p3c, .slice q3a q3n q3c] 26)).alloc (.cells #[.int .i64 0, .int .i64 0, .int .i64 0, .int .i64 0, .int .i64 0, .int .i64 0, .int .i64 0, .slice r3a r3n r3c] 29)).alloc (.cells #[.int .i64 0, .int .i64 0, .int .i64 0, .int .i64 0, .int .i64 0, .int .i64 0, .int .i64 0, .slice none 0 0] 29))).cell? ⟨w6.heap.size + 1, 6, none⟩ = some (.int .i64 0) := cell_of_row _ _ 6 _ _ _ rC169_.out
    have C_7_ : ((((w7.alloc (.cells #[.int .i64 i0, .slice p3a p3n p3c, .slice q3a q3n q3c] 26)).alloc (.cells #[.int .i64 0, .int .i64 0, .int .i64 0, .int .i64 0, .int .i64 0, .int .i64 0, .int .i64 0, .slice r3a r3n r3c] 29)).alloc (.cells #[.int .i64 0, .int .i64 0, .int .i64 0, .int .i64 0, .int .i64 0, .int .i64 0, .int .i64 0, .slice none 0 0] 29))).cell? ⟨w6.heap.size + 1, 7, none⟩ = some (.slice r2a r2n r2c) := cell_of_row _ _ 7 _ _ _ rC169_.out
    have U_0_ : ((((w7.alloc (.cells #[.int .i64 i0, .slice p3a p3n p3c, .slice q3a q3n q3c] 26)).alloc (.cells #[.int .i64 0, .int .i64 0, .int .i64 0, .int .i64 0, .int .i64 0, .int .i64 0, .int .i64 0, .slice r3a r3n r3c] 29)).alloc (.cells #[.int .i64 0, .int .i64 0, .int .i64 0, .int .i64 0, .int .i64 0, .int .i64 0, .int .i64 0, .slice none 0 0] 29))).cell? ⟨w7.heap.size, 0, none⟩ = some (.int .i64 i0) := cell_of_row _ _ 0 _ _ _ rU170_.out
    have U_1_ : ((((w7.alloc (.cells #[.int .i64 i0, .slice p3a p3n p3c, .slice q3a q3n q3c] 26)).alloc (.cells #[.int .i64 0, .int .i64 0, .int .i64 0, .int .i64 0, .int .i64 0, .int .i64 0, .int .i64 0, .slice r3a r3n r3c] 29)).alloc (.cells #[.int .i64 0, .int .i64 0, .int .i64 0, .int .i64 0, .int .i64 0, .int .i64 0, .int .i64 0, .slice none 0 0] 29))).cell? ⟨w7.heap.size, 1, none⟩ = some (.slice p3a p3n p3c) := cell_of_row _ _ 1 _ _ _ rU170_.out
    have U_2_ : ((((w7.alloc (.cells #[.int .i64 i0, .slice p3a p3n p3c, .slice q3a q3n q3c] 26)).alloc (.cells #[.int .i64 0, .int .i64 0, .int .i64 0, .int .i64 0, .int .i64 0, .int .i64 0, .int .i64 0, .slice r3a r3n r3c] 29)).alloc (.cells #[.int .i64 0, .int .i64 0, .int .i64 0, .int .i64 0, .int .i64 0, .int .i64 0, .int .i64 0, .slice none 0 0] 29))).cell? ⟨w7.heap.size, 2, none⟩ = some (.slice q3a q3n q3c) := cell_of_row _ _ 2 _ _ _ rU170_.out
    have V_0_ : ((((w7.alloc (.cells #[.int .i64 i0, .slice p3a p3n p3c, .slice q3a q3n q3c] 26)).alloc (.cells #[.int .i64 0, .int .i64 0, .int .i64 0, .int .i64 0, .int .i64 0, .int .i64 0, .int .i64 0, .slice r3a r3n r3c] 29)).alloc (.cells #[.int .i64 0, .int .i64 0, .int .i64 0, .int .i64 0, .int .i64 0, .int .i64 0, .int .i64 0, .slice none 0 0] 29))).cell? ⟨w7.heap.size + 1, 0, none⟩ = some (.int .i64 0) := cell_of_row _ _ 0 _ _ _ rV171_.out
    have V_1_ : ((((w7.alloc (.cells #[.int .i64 i0, .slice p3a p3n p3c, .slice q3a q3n q3c] 26)).alloc (.cells #[.int .i64 0, .int .i64 0, .int .i64 0, .int .i64 0, .int .i64 0, .int .i64 0, .int .i64 0, .slice r3a r3n r3c] 29)).alloc (.cells #[.int .i64 0, .int .i64 0, .int .i64 0, .int .i64 0, .int .i64 0, .int .i64 0, .int .i64 0, .slice none 0 0] 29))).cell? ⟨w7.heap.size + 1, 1, none⟩ = some (.int .i64 0) := cell_of_row _ _ 1 _ _ _ rV171_.out
    have V_2_ : ((((w7.alloc (.cells #[.int .i64 i0, .slice p3a p3n p3c, .slice q3a q3n q3c] 26)).alloc (.cells #[.int .i64 0, .int .i64 0, .int .i64 0, .int .i64 0, .int .i64 0, .int .i64 0, .int .i64 0, .slice r3a r3n r3c] 29)).alloc (.cells #[.int .i64 0, .int .i64 0, .int .i64 0, .int .i64 0, .int .i64 0, .int .i64 0, .int .i64 0, .slice none 0 0] 29))).cell? ⟨w7.heap.size + 1, 2, none⟩ = some (.int .i64 0) := cell_of_row _ _ 2 _ _ _ rV171_.out
    have V_3_ : ((((w7.alloc (.cells #[.int .i64 i0, .slice p3a p3n p3c, .slice q3a q3n q3c] 26)).alloc (.cells #[.int .i64 0, .int .i64 0, .int .i64 0, .int .i64 0, .int .i64 0, .int .i64 0, .int .i64 0, .slice r3a r3n r3c] 29)).alloc (.cells #[.int .i64 0, .int .i64 0, .int .i64 0, .int .i64 0, .int .i64 0, .int .i64 0, .int .i64 0, .slice none 0 0] 29))).cell? ⟨w7.heap.size + 1, 3, none⟩ = some (.int .i64 0) := cell_of_row _ _ 3 _ _ _ rV171_.out
    have V_4_ : ((((w7.alloc (.cells #[.int .i64 i0, .slice p3a p3n p3c, .slice q3a q3n q3c] 26)).alloc (.cells #[.int .i64 0, .int .i64 0, .int .i64 0, .int .i64 0, .int .i64 0, .int .i64 0, .int .i64 0, .slice r3a r3n r3c] 29)).alloc (.cells #[.int .i64 0, .int .i64 0, .int .i64 0, .int .i64 0, .int .i64 0, .int .i64 0, .int .i64 0, .slice none 0 0] 29))).cell? ⟨w7.heap.size + 1, 4, none⟩ = some (.int .i64 0) := cell_of_row _ _ 4 _ _ _ rV171_.out
    have V_5_ : ((((w7.alloc (.cells #[.int .i64 i0, .slice p3a p3n p3c, .slice q3a q3n q3c] 26)).alloc (.cells #[.int .i64 0, .int .i64 0, .int .i64 0, .int .i64 0, .int .i64 0, .int .i64 0, .int .i64 0, .slice r3a r3n r3c] 29)).alloc (.cells #[.int .i64 0, .int .i64 0, .int .i64 0, .int .i64 0, .int .i64 0, .int .i64 0, .int .i64 0, .slice none 0 0] 29))).cell? ⟨w7.heap.size + 1, 5, none⟩ = some (.int .i64 0) := cell_of_row _ _ 5 _ _ _ rV171_.out
    have V_6_ : ((((w7.alloc (.cells #[.int .i64 i0, .slice p3a p3n p3c, .slice q3a q3n q3c] 26)).alloc (.cells #[.int .i64 0, .int .i64 0, .int .i64 0, .int .i64 0, .int .i64 0, .int .i64 0, .int .i64 0, .slice r3a r3n r3c] 29)).alloc (.cells #[.int .i64 0, .int .i64 0, .int .i64 0, .int .i64 0, .int .i64 0, .int .i64 0, .int .i64 0, .slice none 0 0] 29))).cell? ⟨w7.heap.size + 1, 6, none⟩ = some (.int .i64 0) := cell_of_row _ _ 6 _ _ _ rV171_.out
    have V_7_ : ((((w7.alloc (.cells #[.int .i64 i0, .slice p3a p3n p3c, .slice q3a q3n q3c] 26)).alloc (.cells #[.int .i64 0, .int .i64 0, .int .i64 0, .int .i64 0, .int .i64 0, .int .i64 0, .int .i64 0, .slice r3a r3n r3c] 29)).alloc (.cells #[.int .i64 0, .int .i64 0, .int .i64 0, .int .i64 0, .int .i64 0, .int .i64 0, .int .i64 0, .slice none 0 0] 29))).cell? ⟨w7.heap.size + 1, 7, none⟩ = some (.slice r3a r3n r3c) := cell_of_row _ _ 7 _ _ _ rV171_.out
    have Z_0_ : ((((w7.alloc (.cells #[.int .i64 i0, .slice p3a p3n p3c, .slice q3a q3n q3c] 26)).alloc (.cells #[.int .i64 0, .int .i64 0, .int .i64 0, .int .i64 0, .int .i64 0, .int .i64 0, .int .i64 0, .slice r3a r3n r3c] 29)).alloc (.cells #[.int .i64 0, .int .i64 0, .int .i64 0, .int .i64 0, .int .i64 0, .int .i64 0, .int .i64 0, .slice none 0 0] 29))).cell? ⟨w7.heap.size + 1 + 1, 0, none⟩ = some (.int .i64 0) := cell_of_row _ _ 0 _ _ _ rZ179_.out
    have Z_1_ : ((((w7.alloc (.cells #[.int .i64 i0, .slice p3a p3n p3c, .slice q3a q3n q3c] 26)).alloc (.cells #[.int .i64 0, .int .i64 0, .int .i64 0, .int .i64 0, .int .i64 0, .int .i64 0, .int .i64 0, .slice r3a r3n r3c] 29)).alloc (.cells #[.int .i64 0, .int .i64 0, .int .i64 0, .int .i64 0, .int .i64 0, .int .i64 0, .int .i64 0, .slice none 0 0] 29))).cell? ⟨w7.heap.size + 1 + 1, 1, none⟩ = some (.int .i64 0) := cell_of_row _ _ 1 _ _ _ rZ179_.out
    have Z_2_ : ((((w7.alloc (.cells #[.int .i64 i0, .slice p3a p3n p3c, .slice q3a q3n q3c] 26)).alloc (.cells #[.int .i64 0, .int .i64 0, .int .i64 0, .int .i64 0, .int .i64 0, .int .i64 0, .int .i64 0, .slice r3a r3n r3c] 29)).alloc (.cells #[.int .i64 0, .int .i64 0, .int .i64 0, .int .i64 0, .int .i64 0, .int .i64 0, .int .i64 0, .slice none 0 0] 29))).cell? ⟨w7.heap.size + 1 + 1, 2, none⟩ = some (.int .i64 0) := cell_of_row _ _ 2 _ _ _ rZ179_.out
    have Z_3_ : ((((w7.alloc (.cells #[.int .i64 i0, .slice p3a p3n p3c, .slice q3a q3n q3c] 26)).alloc (.cells #[.int .i64 0, .int .i64 0, .int .i64 0, .int .i64 0, .int .i64 0, .int .i64 0, .int .i64 0, .slice r3a r3n r3c] 29)).alloc (.cells #[.int .i64 0, .int .i64 0, .int .i64 0, .int .i64 0, .int .i64 0, .int .i64 0, .int .i64 0, .slice none 0 0] 29))).cell? ⟨w7.heap.size + 1 + 1, 3, none⟩ = some (.int .i64 0) := cell_of_row _ _ 3 _ _ _ rZ179_.out
    have Z_4_ : ((((w7.alloc (.cells #[.int .i64 i0, .slice p3a p3n p3c, .slice q3a q3n q3c] 26)).alloc (.cells #[.int .i64 0, .int .i64 0, .int .i64 0, .int .i64 0, .int .i64 0, .int .i64 0, .int .i64 0, .slice r3a r3n r3c] 29)).alloc (.cells #[.int .i64 0, .int .i64 0, .int .i64 0, .int .i64 0, .int .i64 0, .int .i64 0, .int .i64 0, .slice none 0 0] 29))).cell? ⟨w7.heap.size + 1 + 1, 4, none⟩ = some (.int .i64 0) := cell_of_row _ _ 4 _ _ _ rZ179_.out
    have Z_5_ : ((((w7.alloc (.cells #[.int .i64 i0, .slice p3a p3n p3c, .slice q3a q3n q3c] 26)).alloc (.cells #[.int .i64 0, .int .i64 0, .int .i64 0, .int .i64 0, .int .i64 0, .int .i64 0, .int .i64 0, .slice r3a r3n r3c] 29)).alloc (.cells #[.int .i64 0, .int .i64 0, .int .i64 0, .int .i64 0, .int .i64 0, .int .i64 0, .int .i64 0, .slice none 0 0] 29))).cell? ⟨w7.heap.size + 1 + 1, 5, none⟩ = some (.int .i64 0) := cell_of_row _ _ 5 _ _ _ rZ179_.out
    have Z_6_ : ((((w7.alloc (.cells #[.int .i64 i0, .slice p3a p3n p3c, .slice q3a q3n q3c] 26)).alloc (.cells #[.int .i64 0, .int .i64 0, .int .i64 0, .int .i64 0, .int .i64 0, .int .i64 0, .int .i64 0, .slice r3a r3n r3c] 29)).alloc (.cells #[.int .i64 0, .int .i64 0, .int .i64 0, .int .i64 0, .int .i64 0, .int .i64 0, .int .i64 0, .slice none 0 0] 29))).cell? ⟨w7.heap.size + 1 + 1, 6, none⟩ = some (.int .i64 0) := cell_of_row _ _ 6 _ _ _ rZ179_.out
    have Z_7_ : ((((w7.alloc (.cells #[.int .i64 i0, .slice p3a p3n p3c, .slice q3a q3n q3c] 26)).alloc (.cells #[.int .i64 0, .int .i64 0, .int .i64 0, .int .i64 0, .int .i64 0, .int .i64 0, .int .i64 0, .slice r3a r3n r3c] 29)).alloc (.cells #[.int .i64 0, .int .i64 0, .int .i64 0, .int .i64 0, .int .i64 0, .int .i64 0, .int .i64 0, .slice none 0 0] 29))).cell? ⟨w7.heap.size + 1 + 1, 7, none⟩ = some (.slice none 0 0) := cell_of_row _ _ 7 _ _ _ rZ179_.out
    go_wp2_with fail
    go_at_call 26
    refine ((implVOk _ i0 _ _ xs ys (HXv.out.grow HTt173_.out) (HYv.out.grow HTt173_.out)).mono (fun e w q => bpost_yes HOK.out e w q)).mono ?_
    rintro e w8 ⟨rfl, g⟩
    have szw8 := g.size
    try simp only [World.size_alloc] at szw8
    clear T_0_ T_1_ T_2_ M_0_ M_1_ M_2_ N_0_ N_1_ N_2_ N_3_ N_4_ N_5_ N_6_ N_7_ X_0_ X_1_ X_2_ Q_0_ Q_1_ Q_2_ Q_3_ Q_4_ Q_5_ Q_6_ Q_7_ Y_0_ Y_1_ Y_2_ C_0_ C_1_ C_2_ C_3_ C_4_ C_5_ C_6_ C_7_ U_0_ U_1_ U_2_ V_0_ V_1_ V_2_ V_3_ V_4_ V_5_ V_6_ V_7_ Z_0_ Z_1_ Z_2_ Z_3_ Z_4_ Z_5_ Z_6_ Z_7_
    have rT180_ := Lib.hid (show (w8).heap[w2.heap.size]? = some (.cells #[.int .i64 i0, .slice a1 n c1, .slice a2 n2 c2] 26 (0, 0)) from row_held g rT163_.out)
    clear rT163_
    have rM181_ := Lib.hid (show (w8).heap[w4.heap.size]? = some (.cells #[.int .i64 i0, .slice p0a p0n p0c, .slice q0a q0n q0c] 26 (0, 0)) from row_held g rM164_.out)
    clear rM164_
    have rN182_ := Lib.hid (show (w8).heap[w4.heap.size + 1]? = some (.cells #[.int .i64 0, .int .i64 0, .int .i64 0, .int .i64 0, .int .i64 0, .int .i64 0, .int .i64 0, .slice r0a r0n r0c] 29 (0, 0)) from row_held g rN165_.out)
    clear rN165_
    have rX183_ := Lib.hid (show (w8).heap[w5.heap.size]? = some (.cells #[.int .i64 i0, .slice p1a p1n p1c, .slice q1a q1n q1c] 26 (0, 0)) from row_held g rX166_.out)
    clear rX166_
    have rQ184_ := Lib.hid (show (w8).heap[w5.heap.size + 1]? = some (.cells #[.int .i64 0, .int .i64 0, .int .i64 0, .int .i64 0, .int .i64 0, .int .i64 0, .int .i64 0, .slice r1a r1n r1c] 29 (0, 0)) from row_held g rQ167_.out)
    clear rQ167_
    have rY185_ := Lib.hid (show (w8).heap[w6.heap.size]? = some (.cells #[.int .i64 i0, .slice p2a p2n p2c, .slice q2a q2n q2c] 26 (0, 0)) from row_held g rY168_.out)
    clear rY168_
    have rC186_ := Lib.hid (show (w8).heap[w6.heap.size + 1]? = some (.cells #[.int .i64 1, .int .i64 33, .int .i64 0, .int .i64 i0, .int .i64 0, .int .i64 0, .int .i64 0, .slice r2a r2n r2c] 29 (0, 0)) from row_held g rC169_.out)
    clear rC169_
    have rU187_ := Lib.hid (show (w8).heap[w7.heap.size]? = some (.cells #[.int .i64 i0, .slice p3a p3n p3c, .slice q3a q3n q3c] 26 (0, 0)) from row_held g rU170_.out)
    clear rU170_
    have rV188_ := Lib.hid (show (w8).heap[w7.heap.size + 1]? = some (.cells #[.int .i64 0, .int .i64 0, .int .i64 0, .int .i64 0, .int .i64 0, .int .i64 0, .int .i64 0, .slice r3a r3n r3c] 29 (0, 0)) from row_held g rV171_.out)
    clear rV171_
    have rZ189_ := Lib.hid (show (w8).heap[w7.heap.size + 1 + 1]? = some (.cells #[.int .i64 0, .int .i64 0, .int .i64 0, .int .i64 0, .int .i64 0, .int .i64 0, .int .i64 0, .slice none 0 0] 29 (0, 0)) from row_held g rZ179_.out)
    clear rZ179_
    have G190_ := Lib.hid (show (W).grownBy (w8) none from gby_trans G172_.out g)
    have HTt191_ := Lib.hid (show (w2).grownBy (w8) none from gby_trans HTt173_.out g)
    clear HTt173_
    have HTP192_ := Lib.hid (show (w3).grownBy (w8) none from gby_trans HTP174_.out g)
    clear HTP174_
    have HTm1193_ := Lib.hid (show (w4).grownBy (w8) none from gby_trans HTm1175_.out g)
    clear HTm1175_
    have HTm2194_ := Lib.hid (show (w5).grownBy (w8) none from gby_trans HTm2176_.out g)
    clear HTm2176_
    have HTm3195_ := Lib.hid (show (w6).grownBy (w8) none from gby_trans HTm3177_.out g)
    clear HTm3177_
    have HTm4196_ := Lib.hid (show (w7).grownBy (w8) none from gby_trans HTm4178_.out g)
    clear HTm4178_
    clear g
    have T_0_ : (w8).cell? ⟨w2.heap.size, 0, none⟩ = some (.int .i64 i0) := cell_of_row _ _ 0 _ _ _ rT180_.out
    have T_1_ : (w8).cell? ⟨w2.heap.size, 1, none⟩ = some (.slice a1 n c1) := cell_of_row _ _ 1 _ _ _ rT180_.out
    have T_2_ : (w8).cell? ⟨w2.heap.size, 2, none⟩ = some (.slice a2 n2 c2) := cell_of_row _ _ 2 _ _ _ rT180_.out
    have M_0_ : (w8).cell? ⟨w4.heap.size, 0, none⟩ = some (.int .i64 i0) := cell_of_row _ _ 0 _ _ _ rM181_.out
    have M_1_ : (w8).cell? ⟨w4.heap.size, 1, none⟩ = some (.slice p0a p0n p0c) := cell_of_row _ _ 1 _ _ _ rM181_.out
    have M_2_ : (w8).cell? ⟨w4.heap.size, 2, none⟩ = some (.slice q0a q0n q0c) := cell_of_row _ _ 2 _ _ _ rM181_.out
    have N_0_ : (w8).cell? ⟨w4.heap.size + 1, 0, none⟩ = some (.int .i64 0) := cell_of_row _ _ 0 _ _ _ rN182_.out
    have N_1_ : (w8).cell? ⟨w4.heap.size + 1, 1, none⟩ = some (.int .i64 0) := cell_of_row _ _ 1 _ _ _ rN182_.out
    have N_2_ : (w8).cell? ⟨w4.heap.size + 1, 2, none⟩ = some (.int .i64 0) := cell_of_row _ _ 2 _ _ _ rN182_.out
    have N_3_ : (w8).cell? ⟨w4.heap.size + 1, 3, none⟩ = some (.int .i64 0) := cell_of_row _ _ 3 _ _ _ rN182_.out
    have N_4_ : (w8).cell? ⟨w4.heap.size + 1, 4, none⟩ = some (.int .i64 0) := cell_of_row _ _ 4 _ _ _ rN182_.out
    have N_5_ : (w8).cell? ⟨w4.heap.size + 1, 5, none⟩ = some (.int .i64 0) := cell_of_row _ _ 5 _ _ _ rN182_.out
    have N_6_ : (w8).cell? ⟨w4.heap.size + 1, 6, none⟩ = some (.int .i64 0) := cell_of_row _ _ 6 _ _ _ rN182_.out
    have N_7_ : (w8).cell? ⟨w4.heap.size + 1, 7, none⟩ = some (.slice r0a r0n r0c) := cell_of_row _ _ 7 _ _ _ rN182_.out
    have X_0_ : (w8).cell? ⟨w5.heap.size, 0, none⟩ = some (.int .i64 i0) := cell_of_row _ _ 0 _ _ _ rX183_.out
    have X_1_ : (w8).cell? ⟨w5.heap.size, 1, none⟩ = some (.slice p1a p1n p1c) := cell_of_row _ _ 1 _ _ _ rX183_.out
    have X_2_ : (w8).cell? ⟨w5.heap.size, 2, none⟩ = some (.slice q1a q1n q1c) := cell_of_row _ _ 2 _ _ _ rX183_.out
    have Q_0_ : (w8).cell? ⟨w5.heap.size + 1, 0, none⟩ = some (.int .i64 0) := cell_of_row _ _ 0 _ _ _ rQ184_.out
    have Q_1_ : (w8).cell? ⟨w5.heap.size + 1, 1, none⟩ = some (.int .i64 0) := cell_of_row _ _ 1 _ _ _ rQ184_.out
    have Q_2_ : (w8).cell? ⟨w5.heap.size + 1, 2, none⟩ = some (.int .i64 0) := cell_of_row _ _ 2 _ _ _ rQ184_.out
    have Q_3_ : (w8).cell? ⟨w5.heap.size + 1, 3, none⟩ = some (.int .i64 0) := cell_of_row _ _ 3 _ _ _ rQ184_.out
    have Q_4_ : (w8).cell? ⟨w5.heap.size + 1, 4, none⟩ = some (.int .i64 0) := cell_of_row _ _ 4 _ _ _ rQ184_.out
    have Q_5_ : (w8).cell? ⟨w5.heap.size + 1, 5, none⟩ = some (.int .i64 0) := cell_of_row _ _ 5 _ _ _ rQ184_.out
    have Q_6_ : (w8).cell? ⟨w5.heap.size + 1, 6, none⟩ = some (.int .i64 0) := cell_of_row _ _ 6 _ _ _ rQ184_.out
    have Q_7_ : (w8).cell? ⟨w5.heap.size + 1, 7, none⟩ = some (.slice r1a r1n r1c) := cell_of_row _ _ 7 _ _ _ rQ184_.out
    have Y_0_ : (w8).cell? ⟨w6.heap.size, 0, none⟩ = some (.int .i64 i0) := cell_of_row _ _ 0 _ _ _ rY185_.out
    have Y_1_ : (w8).cell? ⟨w6.heap.size, 1, none⟩ = some (.slice p2a p2n p2c) := cell_of_row _ _ 1 _ _ _ rY185_.out
    have Y_2_ : (w8).cell? ⟨w6.heap.size, 2, none⟩ = some (.slice q2a q2n q2c) := cell_of_row _ _ 2 _ _ _ rY185_.out
    have C_0_ : (w8).cell? ⟨w6.heap.size + 1, 0, none⟩ = some (.int .i64 1) := cell_of_row _ _ 0 _ _ _ rC186_.out
    have C_1_ : (w8).cell? ⟨w6.heap.size + 1, 1, none⟩ = some (.int .i64 33) := cell_of_row _ _ 1 _ _ _ rC186_.out
    have C_2_ : (w8).cell? ⟨w6.heap.size + 1, 2, none⟩ = some (.int .i64 0) := cell_of_row _ _ 2 _ _ _ rC186_.out
    have C_3_ : (w8).cell? ⟨w6.heap.size + 1, 3, none⟩ = some (.int .i64 i0) := cell_of_row _ _ 3 _ _ _ rC186_.out
    have C_4_ : (w8).cell? ⟨w6.heap.size + 1, 4, none⟩ = some (.int .i64 0) := cell_of_row _ _ 4 _ _ _ rC186_.out
    have C_5_ : (w8).cell? ⟨w6.heap.size + 1, 5, none⟩ = some (.int .i64 0) := cell_of_row _ _ 5 _ _ _ rC186_.out
    have C_6_ : (w8).cell? ⟨w6.heap.size + 1, 6, none⟩ = some (.int .i64 0) := cell_of_row _ _ 6 _ _ _ rC186_.out
    have C_7_ : (w8).cell? ⟨w6.heap.size + 1, 7, none⟩ = some (.slice r2a r2n r2c) := cell_of_row _ _ 7 _ _ _ rC186_.out
    have U_0_ : (w8).cell? ⟨w7.heap.size, 0, none⟩ = some (.int .i64 i0) := cell_of_row _ _ 0 _ _ _ rU187_.out
    have U_1_ : (w8).cell? ⟨w7.heap.size, 1, none⟩ = some (.slice p3a p3n p3c) := cell_of_row _ _ 1 _ _ _ rU187_.out
    have U_2_ : (w8).cell? ⟨w7.heap.size, 2, none⟩ = some (.slice q3a q3n q3c) := cell_of_row _ _ 2 _ _ _ rU187_.out
    have V_0_ : (w8).cell? ⟨w7.heap.size + 1, 0, none⟩ = some (.int .i64 0) := cell_of_row _ _ 0 _ _ _ rV188_.out
    have V_1_ : (w8).cell? ⟨w7.heap.size + 1, 1, none⟩ = some (.int .i64 0) := cell_of_row _ _ 1 _ _ _ rV188_.out
    have V_2_ : (w8).cell? ⟨w7.heap.size + 1, 2, none⟩ = some (.int .i64 0) := cell_of_row _ _ 2 _ _ _ rV188_.out
    have V_3_ : (w8).cell? ⟨w7.heap.size + 1, 3, none⟩ = some (.int .i64 0) := cell_of_row _ _ 3 _ _ _ rV188_.out
    have V_4_ : (w8).cell? ⟨w7.heap.size + 1, 4, none⟩ = some (.int .i64 0) := cell_of_row _ _ 4 _ _ _ rV188_.out
    have V_5_ : (w8).cell? ⟨w7.heap.size + 1, 5, none⟩ = some (.int .i64 0) := cell_of_row _ _ 5 _ _ _ rV188_.out
    have V_6_ : (w8).cell? ⟨w7.heap.size + 1, 6, none⟩ = some (.int .i64 0) := cell_of_row _ _ 6 _ _ _ rV188_.out
    have V_7_ : (w8).cell? ⟨w7.heap.size + 1, 7, none⟩ = some (.slice r3a r3n r3c) := cell_of_row _ _ 7 _ _ _ rV188_.out
    have Z_0_ : (w8).cell? ⟨w7.heap.size + 1 + 1, 0, none⟩ = some (.int .i64 0) := cell_of_row _ _ 0 _ _ _ rZ189_.out
    have Z_1_ : (w8).cell? ⟨w7.heap.size + 1 + 1, 1, none⟩ = some (.int .i64 0) := cell_of_row _ _ 1 _ _ _ rZ189_.out
    have Z_2_ : (w8).cell? ⟨w7.heap.size + 1 + 1, 2, none⟩ = some (.int .i64 0) := cell_of_row _ _ 2 _ _ _ rZ189_.out
    have Z_3_ : (w8).cell? ⟨w7.heap.size + 1 + 1, 3, none⟩ = some (.int .i64 0) := cell_of_row _ _ 3 _ _ _ rZ189_.out
    have Z_4_ : (w8).cell? ⟨w7.heap.size + 1 + 1, 4, none⟩ = some (.int .i64 0) := cell_of_row _ _ 4 _ _ _ rZ189_.out
    have Z_5_ : (w8).cell? ⟨w7.heap.size + 1 + 1, 5, none⟩ = some (.int .i64 0) := cell_of_row _ _ 5 _ _ _ rZ189_.out
    have Z_6_ : (w8).cell? ⟨w7.heap.size + 1 + 1, 6, none⟩ = some (.int .i64 0) := cell_of_row _ _ 6 _ _ _ rZ189_.out
    have Z_7_ : (w8).cell? ⟨w7.heap.size + 1 + 1, 7, none⟩ = some (.slice none 0 0) := cell_of_row _ _ 7 _ _ _ rZ189_.out
    go_wp2_with fail
    go_at_call 27
    refine (same_zero _ _ _ (HC1.out.grow HTm1193_.out) (rdI_none _)).mono ?_
    rintro e w9 ⟨rfl, g⟩
    have szw9 := g.size
    try simp only [World.size_alloc] at szw9
    clear T_0_ T_1_ T_2_ M_0_ M_1_ M_2_ N_0_ N_1_ N_2_ N_3_ N_4_ N_5_ N_6_ N_7_ X_0_ X_1_ X_2_ Q_0_ Q_1_ Q_2_ Q_3_ Q_4_ Q_5_ Q_6_ Q_7_ Y_0_ Y_1_ Y_2_ C_0_ C_1_ C_2_ C_3_ C_4_ C_5_ C_6_ C_7_ U_0_ U_1_ U_2_ V_0_ V_1_ V_2_ V_3_ V_4_ V_5_ V_6_ V_7_ Z_0_ Z_1_ Z_2_ Z_3_ Z_4_ Z_5_ Z_6_ Z_7_
    have rT197_ := Lib.hid (show (w9).heap[w2.heap.size]? = some (.cells #[.int .i64 i0, .slice a1 n c1, .slice a2 n2 c2] 26 (0, 0)) from row_held g rT180_.out)
    clear rT180_
    have rM198_ := Lib.hid (show (w9).heap[w4.heap.size]? = some (.cells #[.int .i64 i0, .slice p0a p0n p0c, .slice q0a q0n q0c] 26 (0, 0)) from row_held g rM181_.out)
    clear rM181_
    have rN199_ := Lib.hid (show (w9).heap[w4.heap.size + 1]? = some (.cells #[.int .i64 0, .int .i64 0, .int .i64 0, .int .i64 0, .int .i64 0, .int .i64 0, .int .i64 0, .slice r0a r0n r0c] 29 (0, 0)) from row_held g rN182_.out)
    clear rN182_
    have rX200_ := Lib.hid (show (w9).heap[w5.heap.size]? = some (.cells #[.int .i64 i0, .slice p1a p1n p1c, .slice q1a q1n q1c] 26 (0, 0)) from row_held g rX183_.out)
    clear rX183_
    have rQ201_ := Lib.hid (show (w9).heap[w5.heap.size + 1]? = some (.cells #[.int .i64 0, .int .i64 0, .int .i64 0, .int .i64 0, .int .i64 0, .int .i64 0, .int .i64 0, .slice r1a r1n r1c] 29 (0, 0)) from row_held g rQ184_.out)
    clear rQ184_
    have rY202_ := Lib.hid (show (w9).heap[w6.heap.size]? = some (.cells #[.int .i64 i0, .slice p2a p2n p2c, .slice q2a q2n q2c] 26 (0, 0)) from row_held g rY185_.out)
    clear rY185_
    have rC203_ := Lib.hid (show (w9).heap[w6.heap.size + 1]? = some (.cells #[.int .i64 1, .int .i64 33, .int .i64 0, .int .i64 i0, .int .i64 0, .int .i64 0, .int .i64 0, .slice r2a r2n r2c] 29 (0, 0)) from row_held g rC186_.out)
    clear rC186_
    have rU204_ := Lib.hid (show (w9).heap[w7.heap.size]? = some (.cells #[.int .i64 i0, .slice p3a p3n p3c, .slice q3a q3n q3c] 26 (0, 0)) from row_held g rU187_.out)
    clear rU187_
    have rV205_ := Lib.hid (show (w9).heap[w7.heap.size + 1]? = some (.cells #[.int .i64 0, .int .i64 0, .int .i64 0, .int .i64 0, .int .i64 0, .int .i64 0, .int .i64 0, .slice r3a r3n r3c] 29 (0, 0)) from row_held g rV188_.out)
    clear rV188_
    have rZ206_ := Lib.hid (show (w9).heap[w7.heap.size + 1 + 1]? = some (.cells #[.int .i64 0, .int .i64 0, .int .i64 0, .int .i64 0, .int .i64 0, .int .i64 0, .int .i64 0, .slice none 0 0] 29 (0, 0)) from row_held g rZ189_.out)
    clear rZ189_
    have G207_ := Lib.hid (show (W).grownBy (w9) none from gby_trans G190_.out g)
    have HTt208_ := Lib.hid (show (w2).grownBy (w9) none from gby_trans HTt191_.out g)
    clear HTt191_
    have HTP209_ := Lib.hid (show (w3).grownBy (w9) none from gby_trans HTP192_.out g)
    clear HTP192_
    have HTm1210_ := Lib.hid (show (w4).grownBy (w9) none from gby_trans HTm1193_.out g)
    clear HTm1193_
    have HTm2211_ := Lib.hid (show (w5).grownBy (w9) none from gby_trans HTm2194_.out g)
    clear HTm2194_
    have HTm3212_ := Lib.hid (show (w6).grownBy (w9) none from gby_trans HTm3195_.out g)
    clear HTm3195_
    have HTm4213_ := Lib.hid (show (w7).grownBy (w9) none from gby_trans HTm4196_.out g)
    clear HTm4196_
    clear g
    have T_0_ : (w9).cell? ⟨w2.heap.size, 0, none⟩ = some (.int .i64 i0) := cell_of_row _ _ 0 _ _ _ rT197_.out
    have T_1_ : (w9).cell? ⟨w2.heap.size, 1, none⟩ = some (.slice a1 n c1) := cell_of_row _ _ 1 _ _ _ rT197_.out
    have T_2_ : (w9).cell? ⟨w2.heap.size, 2, none⟩ = some (.slice a2 n2 c2) := cell_of_row _ _ 2 _ _ _ rT197_.out
    have M_0_ : (w9).cell? ⟨w4.heap.size, 0, none⟩ = some (.int .i64 i0) := cell_of_row _ _ 0 _ _ _ rM198_.out
    have M_1_ : (w9).cell? ⟨w4.heap.size, 1, none⟩ = some (.slice p0a p0n p0c) := cell_of_row _ _ 1 _ _ _ rM198_.out
    have M_2_ : (w9).cell? ⟨w4.heap.size, 2, none⟩ = some (.slice q0a q0n q0c) := cell_of_row _ _ 2 _ _ _ rM198_.out
    have N_0_ : (w9).cell? ⟨w4.heap.size + 1, 0, none⟩ = some (.int .i64 0) := cell_of_row _ _ 0 _ _ _ rN199_.out
    have N_1_ : (w9).cell? ⟨w4.heap.size + 1, 1, none⟩ = some (.int .i64 0) := cell_of_row _ _ 1 _ _ _ rN199_.out
    have N_2_ : (w9).cell? ⟨w4.heap.size + 1, 2, none⟩ = some (.int .i64 0) := cell_of_row _ _ 2 _ _ _ rN199_.out
    have N_3_ : (w9).cell? ⟨w4.heap.size + 1, 3, none⟩ = some (.int .i64 0) := cell_of_row _ _ 3 _ _ _ rN199_.out
    have N_4_ : (w9).cell? ⟨w4.heap.size + 1, 4, none⟩ = some (.int .i64 0) := cell_of_row _ _ 4 _ _ _ rN199_.out
    have N_5_ : (w9).cell? ⟨w4.heap.size + 1, 5, none⟩ = some (.int .i64 0) := cell_of_row _ _ 5 _ _ _ rN199_.out
    have N_6_ : (w9).cell? ⟨w4.heap.size + 1, 6, none⟩ = some (.int .i64 0) := cell_of_row _ _ 6 _ _ _ rN199_.out
    have N_7_ : (w9).cell? ⟨w4.heap.size + 1, 7, none⟩ = some (.slice r0a r0n r0c) := cell_of_row _ _ 7 _ _ _ rN199_.out
    have X_0_ : (w9).cell? ⟨w5.heap.size, 0, none⟩ = some (.int .i64 i0) := cell_of_row _ _ 0 _ _ _ rX200_.out
    have X_1_ : (w9).cell? ⟨w5.heap.size, 1, none⟩ = some (.slice p1a p1n p1c) := cell_of_row _ _ 1 _ _ _ rX200_.out
    have X_2_ : (w9).cell? ⟨w5.heap.size, 2, none⟩ = some (.slice q1a q1n q1c) := cell_of_row _ _ 2 _ _ _ rX200_.out
    have Q_0_ : (w9).cell? ⟨w5.heap.size + 1, 0, none⟩ = some (.int .i64 0) := cell_of_row _ _ 0 _ _ _ rQ201_.out
    have Q_1_ : (w9).cell? ⟨w5.heap.size + 1, 1, none⟩ = some (.int .i64 0) := cell_of_row _ _ 1 _ _ _ rQ201_.out
    have Q_2_ : (w9).cell? ⟨w5.heap.size + 1, 2, none⟩ = some (.int .i64 0) := cell_of_row _ _ 2 _ _ _ rQ201_.out
    have Q_3_ : (w9).cell? ⟨w5.heap.size + 1, 3, none⟩ = some (.int .i64 0) := cell_of_row _ _ 3 _ _ _ rQ201_.out
    have Q_4_ : (w9).cell? ⟨w5.heap.size + 1, 4, none⟩ = some (.int .i64 0) := cell_of_row _ _ 4 _ _ _ rQ201_.out
    have Q_5_ : (w9).cell? ⟨w5.heap.size + 1, 5, none⟩ = some (.int .i64 0) := cell_of_row _ _ 5 _ _ _ rQ201_.out
    have Q_6_ : (w9).cell? ⟨w5.heap.size + 1, 6, none⟩ = some (.int .i64 0) := cell_of_row _ _ 6 _ _ _ rQ201_.out
    have Q_7_ : (w9).cell? ⟨w5.heap.size + 1, 7, none⟩ = some (.slice r1a r1n r1c) := cell_of_row _ _ 7 _ _ _ rQ201_.out
    have Y_0_ : (w9).cell? ⟨w6.heap.size, 0, none⟩ = some (.int .i64 i0) := cell_of_row _ _ 0 _ _ _ rY202_.out
    have Y_1_ : (w9).cell? ⟨w6.heap.size, 1, none⟩ = some (.slice p2a p2n p2c) := cell_of_row _ _ 1 _ _ _ rY202_.out
    have Y_2_ : (w9).cell? ⟨w6.heap.size, 2, none⟩ = some (.slice q2a q2n q2c) := cell_of_row _ _ 2 _ _ _ rY202_.out
    have C_0_ : (w9).cell? ⟨w6.heap.size + 1, 0, none⟩ = some (.int .i64 1) := cell_of_row _ _ 0 _ _ _ rC203_.out
    have C_1_ : (w9).cell? ⟨w6.heap.size + 1, 1, none⟩ = some (.int .i64 33) := cell_of_row _ _ 1 _ _ _ rC203_.out
    have C_2_ : (w9).cell? ⟨w6.heap.size + 1, 2, none⟩ = some (.int .i64 0) := cell_of_row _ _ 2 _ _ _ rC203_.out
    have C_3_ : (w9).cell? ⟨w6.heap.size + 1, 3, none⟩ = some (.int .i64 i0) := cell_of_row _ _ 3 _ _ _ rC203_.out
    have C_4_ : (w9).cell? ⟨w6.heap.size + 1, 4, none⟩ = some (.int .i64 0) := cell_of_row _ _ 4 _ _ _ rC203_.out
    have C_5_ : (w9).cell? ⟨w6.heap.size + 1, 5, none⟩ = some (.int .i64 0) := cell_of_row _ _ 5 _ _ _ rC203_.out
    have C_6_ : (w9).cell? ⟨w6.heap.size + 1, 6, none⟩ = some (.int .i64 0) := cell_of_row _ _ 6 _ _ _ rC203_.out
    have C_7_ : (w9).cell? ⟨w6.heap.size + 1, 7, none⟩ = some (.slice r2a r2n r2c) := cell_of_row _ _ 7 _ _ _ rC203_.out
    have U_0_ : (w9).cell? ⟨w7.heap.size, 0, none⟩ = some (.int .i64 i0) := cell_of_row _ _ 0 _ _ _ rU204_.out
    have U_1_ : (w9).cell? ⟨w7.heap.size, 1, none⟩ = some (.slice p3a p3n p3c) := cell_of_row _ _ 1 _ _ _ rU204_.out
    have U_2_ : (w9).cell? ⟨w7.heap.size, 2, none⟩ = some (.slice q3a q3n q3c) := cell_of_row _ _ 2 _ _ _ rU204_.out
    have V_0_ : (w9).cell? ⟨w7.heap.size + 1, 0, none⟩ = some (.int .i64 0) := cell_of_row _ _ 0 _ _ _ rV205_.out
    have V_1_ : (w9).cell? ⟨w7.heap.size + 1, 1, none⟩ = some (.int .i64 0) := cell_of_row _ _ 1 _ _ _ rV205_.out
    have V_2_ : (w9).cell? ⟨w7.heap.size + 1, 2, none⟩ = some (.int .i64 0) := cell_of_row _ _ 2 _ _ _ rV205_.out
    have V_3_ : (w9).cell? ⟨w7.heap.size + 1, 3, none⟩ = some (.int .i64 0) := cell_of_row _ _ 3 _ _ _ rV205_.out
    have V_4_ : (w9).cell? ⟨w7.heap.size + 1, 4, none⟩ = some (.int .i64 0) := cell_of_row _ _ 4 _ _ _ rV205_.out
    have V_5_ : (w9).cell? ⟨w7.heap.size + 1, 5, none⟩ = some (.int .i64 0) := cell_of_row _ _ 5 _ _ _ rV205_.out
    have V_6_ : (w9).cell? ⟨w7.heap.size + 1, 6, none⟩ = some (.int .i64 0) := cell_of_row _ _ 6 _ _ _ rV205_.out
    have V_7_ : (w9).cell? ⟨w7.heap.size + 1, 7, none⟩ = some (.slice r3a r3n r3c) := cell_of_row _ _ 7 _ _ _ rV205_.out
    have Z_0_ : (w9).cell? ⟨w7.heap.size + 1 + 1, 0, none⟩ = some (.int .i64 0) := cell_of_row _ _ 0 _ _ _ rZ206_.out
    have Z_1_ : (w9).cell? ⟨w7.heap.size + 1 + 1, 1, none⟩ = some (.int .i64 0) := cell_of_row _ _ 1 _ _ _ rZ206_.out
    have Z_2_ : (w9).cell? ⟨w7.heap.size + 1 + 1, 2, none⟩ = some (.int .i64 0) := cell_of_row _ _ 2 _ _ _ rZ206_.out
    have Z_3_ : (w9).cell? ⟨w7.heap.size + 1 + 1, 3, none⟩ = some (.int .i64 0) := cell_of_row _ _ 3 _ _ _ rZ206_.out
    have Z_4_ : (w9).cell? ⟨w7.heap.size + 1 + 1, 4, none⟩ = some (.int .i64 0) := cell_of_row _ _ 4 _ _ _ rZ206_.out
    have Z_5_ : (w9).cell? ⟨w7.heap.size + 1 + 1, 5, none⟩ = some (.int .i64 0) := cell_of_row _ _ 5 _ _ _ rZ206_.out
    have Z_6_ : (w9).cell? ⟨w7.heap.size + 1 + 1, 6, none⟩ = some (.int .i64 0) := cell_of_row _ _ 6 _ _ _ rZ206_.out
    have Z_7_ : (w9).cell? ⟨w7.heap.size + 1 + 1, 7, none⟩ = some (.slice none 0 0) := cell_of_row _ _ 7 _ _ _ rZ206_.out
    go_wp2_with fail
    go_at_call 27
    refine (same_zero _ _ _ (HC2.out.grow HTm2211_.out) (rdI_none _)).mono ?_
    rintro e w10 ⟨rfl, g⟩
    have szw10 := g.size
    try simp only [World.size_alloc] at szw10
    clear T_0_ T_1_ T_2_ M_0_ M_1_ M_2_ N_0_ N_1_ N_2_ N_3_ N_4_ N_5_ N_6_ N_7_ X_0_ X_1_ X_2_ Q_0_ Q_1_ Q_2_ Q_3_ Q_4_ Q_5_ Q_6_ Q_7_ Y_0_ Y_1_ Y_2_ C_0_ C_1_ C_2_ C_3_ C_4_ C_5_ C_6_ C_7_ U_0_ U_1_ U_2_ V_0_ V_1_ V_2_ V_3_ V_4_ V_5_ V_6_ V_7_ Z_0_ Z_1_ Z_2_ Z_3_ Z_4_ Z_5_ Z_6_ Z_7_
    have rT214_ := Lib.hid (show (w10).heap[w2.heap.size]? = some (.cells #[.int .i64 i0, .slice a1 n c1, .slice a2 n2 c2] 26 (0, 0)) from row_held g rT197_.out)
    clear rT197_
    have rM215_ := Lib.hid (show (w10).heap[w4.heap.size]? = some (.cells #[.int .i64 i0, .slice p0a p0n p0c, .slice q0a q0n q0c] 26 (0, 0)) from row_held g rM198_.out)
    clear rM198_
    have rN216_ := Lib.hid (show (w10).heap[w4.heap.size + 1]? = some (.cells #[.int .i64 0, .int .i64 0, .int .i64 0, .int .i64 0, .int .i64 0, .int .i64 0, .int .i64 0, .slice r0a r0n r0c] 29 (0, 0)) from row_held g rN199_.out)
    clear rN199_
    have rX217_ := Lib.hid (show (w10).heap[w5.heap.size]? = some (.cells #[.int .i64 i0, .slice p1a p1n p1c, .slice q1a q1n q1c] 26 (0, 0)) from row_held g rX200_.out)
    clear rX200_
    have rQ218_ := Lib.hid (show (w10).heap[w5.heap.size + 1]? = some (.cells #[.int .i64 0, .int .i64 0, .int .i64 0, .int .i64 0, .int .i64 0, .int .i64 0, .int .i64 0, .slice r1a r1n r1c] 29 (0, 0)) from row_held g rQ201_.out)
    clear rQ201_
    have rY219_ := Lib.hid (show (w10).heap[w6.heap.size]? = some (.cells #[.int .i64 i0, .slice p2a p2n p2c, .slice q2a q2n q2c] 26 (0, 0)) from row_held g rY202_.out)
    clear rY202_
    have rC220_ := Lib.hid (show (w10).heap[w6.heap.size + 1]? = some (.cells #[.int .i64 1, .int .i64 33, .int .i64 0, .int .i64 i0, .int .i64 0, .int .i64 0, .int .i64 0, .slice r2a r2n r2c] 29 (0, 0)) from row_held g rC203_.out)
    clear rC203_
    have rU221_ := Lib.hid (show (w10).heap[w7.heap.size]? = some (.cells #[.int .i64 i0, .slice p3a p3n p3c, .slice q3a q3n q3c] 26 (0, 0)) from row_held g rU204_.out)
    clear rU204_
    have rV222_ := Lib.hid (show (w10).heap[w7.heap.size + 1]? = some (.cells #[.int .i64 0, .int .i64 0, .int .i64 0, .int .i64 0, .int .i64 0, .int .i64 0, .int .i64 0, .slice r3a r3n r3c] 29 (0, 0)) from row_held g rV205_.out)
    clear rV205_
    have rZ223_ := Lib.hid (show (w10).heap[w7.heap.size + 1 + 1]? = some (.cells #[.int .i64 0, .int .i64 0, .int .i64 0, .int .i64 0, .int .i64 0, .int .i64 0, .int .i64 0, .slice none 0 0] 29 (0, 0)) from row_held g rZ206_.out)
    clear rZ206_
    have G224_ := Lib.hid (show (W).grownBy (w10) none from gby_trans G207_.out g)
    have HTt225_ := Lib.hid (show (w2).grownBy (w10) none from gby_trans HTt208_.out g)
    clear HTt208_
    have HTP226_ := Lib.hid (show (w3).grownBy (w10) none from gby_trans HTP209_.out g)
    clear HTP209_
    have HTm1227_ := Lib.hid (show (w4).grownBy (w10) none from gby_trans HTm1210_.out g)
    clear HTm1210_
    have HTm2228_ := Lib.hid (show (w5).grownBy (w10) none from gby_trans HTm2211_.out g)
    clear HTm2211_
    have HTm3229_ := Lib.hid (show (w6).grownBy (w10) none from gby_trans HTm3212_.out g)
    clear HTm3212_
    have HTm4230_ := Lib.hid (show (w7).grownBy (w10) none from gby_trans HTm4213_.out g)
    clear HTm4213_
    clear g
    have T_0_ : (w10).cell? ⟨w2.heap.size, 0, none⟩ = some (.int .i64 i0) := cell_of_row _ _ 0 _ _ _ rT214_.out
    have T_1_ : (w10).cell? ⟨w2.heap.size, 1, none⟩ = some (.slice a1 n c1) := cell_of_row _ _ 1 _ _ _ rT214_.out
    have T_2_ : (w10).cell? ⟨w2.heap.size, 2, none⟩ = some (.slice a2 n2 c2) := cell_of_row _ _ 2 _ _ _ rT214_.out
    have M_0_ : (w10).cell? ⟨w4.heap.size, 0, none⟩ = some (.int .i64 i0) := cell_of_row _ _ 0 _ _ _ rM215_.out
    have M_1_ : (w10).cell? ⟨w4.heap.size, 1, none⟩ = some (.slice p0a p0n p0c) := cell_of_row _ _ 1 _ _ _ rM215_.out
    have M_2_ : (w10).cell? ⟨w4.heap.size, 2, none⟩ = some (.slice q0a q0n q0c) := cell_of_row _ _ 2 _ _ _ rM215_.out
    have N_0_ : (w10).cell? ⟨w4.heap.size + 1, 0, none⟩ = some (.int .i64 0) := cell_of_row _ _ 0 _ _ _ rN216_.out
    have N_1_ : (w10).cell? ⟨w4.heap.size + 1, 1, none⟩ = some (.int .i64 0) := cell_of_row _ _ 1 _ _ _ rN216_.out
    have N_2_ : (w10).cell? ⟨w4.heap.size + 1, 2, none⟩ = some (.int .i64 0) := cell_of_row _ _ 2 _ _ _ rN216_.out
    have N_3_ : (w10).cell? ⟨w4.heap.size + 1, 3, none⟩ = some (.int .i64 0) := cell_of_row _ _ 3 _ _ _ rN216_.out
    have N_4_ : (w10).cell? ⟨w4.heap.size + 1, 4, none⟩ = some (.int .i64 0) := cell_of_row _ _ 4 _ _ _ rN216_.out
    have N_5_ : (w10).cell? ⟨w4.heap.size + 1, 5, none⟩ = some (.int .i64 0) := cell_of_row _ _ 5 _ _ _ rN216_.out
    have N_6_ : (w10).cell? ⟨w4.heap.size + 1, 6, none⟩ = some (.int .i64 0) := cell_of_row _ _ 6 _ _ _ rN216_.out
    have N_7_ : (w10).cell? ⟨w4.heap.size + 1, 7, none⟩ = some (.slice r0a r0n r0c) := cell_of_row _ _ 7 _ _ _ rN216_.out
    have X_0_ : (w10).cell? ⟨w5.heap.size, 0, none⟩ = some (.int .i64 i0) := cell_of_row _ _ 0 _ _ _ rX217_.out
    have X_1_ : (w10).cell? ⟨w5.heap.size, 1, none⟩ = some (.slice p1a p1n p1c) := cell_of_row _ _ 1 _ _ _ rX217_.out
    have X_2_ : (w10).cell? ⟨w5.heap.size, 2, none⟩ = some (.slice q1a q1n q1c) := cell_of_row _ _ 2 _ _ _ rX217_.out
    have Q_0_ : (w10).cell? ⟨w5.heap.size + 1, 0, none⟩ = some (.int .i64 0) := cell_of_row _ _ 0 _ _ _ rQ218_.out
    have Q_1_ : (w10).cell? ⟨w5.heap.size + 1, 1, none⟩ = some (.int .i64 0) := cell_of_row _ _ 1 _ _ _ rQ218_.out
    have Q_2_ : (w10).cell? ⟨w5.heap.size + 1, 2, none⟩ = some (.int .i64 0) := cell_of_row _ _ 2 _ _ _ rQ218_.out
    have Q_3_ : (w10).cell? ⟨w5.heap.size + 1, 3, none⟩ = some (.int .i64 0) := cell_of_row _ _ 3 _ _ _ rQ218_.out
    have Q_4_ : (w10).cell? ⟨w5.heap.size + 1, 4, none⟩ = some (.int .i64 0) := cell_of_row _ _ 4 _ _ _ rQ218_.out
    have Q_5_ : (w10).cell? ⟨w5.heap.size + 1, 5, none⟩ = some (.int .i64 0) := cell_of_row _ _ 5 _ _ _ rQ218_.out
    have Q_6_ : (w10).cell? ⟨w5.heap.size + 1, 6, none⟩ = some (.int .i64 0) := cell_of_row _ _ 6 _ _ _ rQ218_.out
    have Q_7_ : (w10).cell? ⟨w5.heap.size + 1, 7, none⟩ = some (.slice r1a r1n r1c) := cell_of_row _ _ 7 _ _ _ rQ218_.out
    have Y_0_ : (w10).cell? ⟨w6.heap.size, 0, none⟩ = some (.int .i64 i0) := cell_of_row _ _ 0 _ _ _ rY219_.out
    have Y_1_ : (w10).cell? ⟨w6.heap.size, 1, none⟩ = some (.slice p2a p2n p2c) := cell_of_row _ _ 1 _ _ _ rY219_.out
    have Y_2_ : (w10).cell? ⟨w6.heap.size, 2, none⟩ = some (.slice q2a q2n q2c) := cell_of_row _ _ 2 _ _ _ rY219_.out
    have C_0_ : (w10).cell? ⟨w6.heap.size + 1, 0, none⟩ = some (.int .i64 1) := cell_of_row _ _ 0 _ _ _ rC220_.out
    have C_1_ : (w10).cell? ⟨w6.heap.size + 1, 1, none⟩ = some (.int .i64 33) := cell_of_row _ _ 1 _ _ _ rC220_.out
    have C_2_ : (w10).cell? ⟨w6.heap.size + 1, 2, none⟩ = some (.int .i64 0) := cell_of_row _ _ 2 _ _ _ rC220_.out
    have C_3_ : (w10).cell? ⟨w6.heap.size + 1, 3, none⟩ = some (.int .i64 i0) := cell_of_row _ _ 3 _ _ _ rC220_.out
    have C_4_ : (w10).cell? ⟨w6.heap.size + 1, 4, none⟩ = some (.int .i64 0) := cell_of_row _ _ 4 _ _ _ rC220_.out
    have C_5_ : (w10).cell? ⟨w6.heap.size + 1, 5, none⟩ = some (.int .i64 0) := cell_of_row _ _ 5 _ _ _ rC220_.out
    have C_6_ : (w10).cell? ⟨w6.heap.size + 1, 6, none⟩ = some (.int .i64 0) := cell_of_row _ _ 6 _ _ _ rC220_.out
    have C_7_ : (w10).cell? ⟨w6.heap.size + 1, 7, none⟩ = some (.slice r2a r2n r2c) := cell_of_row _ _ 7 _ _ _ rC220_.out
    have U_0_ : (w10).cell? ⟨w7.heap.size, 0, none⟩ = some (.int .i64 i0) := cell_of_row _ _ 0 _ _ _ rU221_.out
    have U_1_ : (w10).cell? ⟨w7.heap.size, 1, none⟩ = some (.slice p3a p3n p3c) := cell_of_row _ _ 1 _ _ _ rU221_.out
    have U_2_ : (w10).cell? ⟨w7.heap.size, 2, none⟩ = some (.slice q3a q3n q3c) := cell_of_row _ _ 2 _ _ _ rU221_.out
    have V_0_ : (w10).cell? ⟨w7.heap.size + 1, 0, none⟩ = some (.int .i64 0) := cell_of_row _ _ 0 _ _ _ rV222_.out
    have V_1_ : (w10).cell? ⟨w7.heap.size + 1, 1, none⟩ = some (.int .i64 0) := cell_of_row _ _ 1 _ _ _ rV222_.out
    have V_2_ : (w10).cell? ⟨w7.heap.size + 1, 2, none⟩ = some (.int .i64 0) := cell_of_row _ _ 2 _ _ _ rV222_.out
    have V_3_ : (w10).cell? ⟨w7.heap.size + 1, 3, none⟩ = some (.int .i64 0) := cell_of_row _ _ 3 _ _ _ rV222_.out
    have V_4_ : (w10).cell? ⟨w7.heap.size + 1, 4, none⟩ = some (.int .i64 0) := cell_of_row _ _ 4 _ _ _ rV222_.out
    have V_5_ : (w10).cell? ⟨w7.heap.size + 1, 5, none⟩ = some (.int .i64 0) := cell_of_row _ _ 5 _ _ _ rV222_.out
    have V_6_ : (w10).cell? ⟨w7.heap.size + 1, 6, none⟩ = some (.int .i64 0) := cell_of_row _ _ 6 _ _ _ rV222_.out
    have V_7_ : (w10).cell? ⟨w7.heap.size + 1, 7, none⟩ = some (.slice r3a r3n r3c) := cell_of_row _ _ 7 _ _ _ rV222_.out
    have Z_0_ : (w10).cell? ⟨w7.heap.size + 1 + 1, 0, none⟩ = some (.int .i64 0) := cell_of_row _ _ 0 _ _ _ rZ223_.out
    have Z_1_ : (w10).cell? ⟨w7.heap.size + 1 + 1, 1, none⟩ = some (.int .i64 0) := cell_of_row _ _ 1 _ _ _ rZ223_.out
    have Z_2_ : (w10).cell? ⟨w7.heap.size + 1 + 1, 2, none⟩ = some (.int .i64 0) := cell_of_row _ _ 2 _ _ _ rZ223_.out
    have Z_3_ : (w10).cell? ⟨w7.heap.size + 1 + 1, 3, none⟩ = some (.int .i64 0) := cell_of_row _ _ 3 _ _ _ rZ223_.out
    have Z_4_ : (w10).cell? ⟨w7.heap.size + 1 + 1, 4, none⟩ = some (.int .i64 0) := cell_of_row _ _ 4 _ _ _ rZ223_.out
    have Z_5_ : (w10).cell? ⟨w7.heap.size + 1 + 1, 5, none⟩ = some (.int .i64 0) := cell_of_row _ _ 5 _ _ _ rZ223_.out
    have Z_6_ : (w10).cell? ⟨w7.heap.size + 1 + 1, 6, none⟩ = some (.int .i64 0) := cell_of_row _ _ 6 _ _ _ rZ223_.out
    have Z_7_ : (w10).cell? ⟨w7.heap.size + 1 + 1, 7, none⟩ = some (.slice none 0 0) := cell_of_row _ _ 7 _ _ _ rZ223_.out
    go_wp2_with fail
    go_at_call 29
    refine (implPend _ i0 _ _ y1 (HB2.out.grow HTm2228_.out) LY1.out).mono ?_
    rintro e w11 ⟨l2_, rfl, o, g⟩
    have szw11 := g.size
    try simp only [World.size_alloc] at szw11
    obtain ⟨s2a, s2n, s2c, hv_⟩ := RdL.form (OwU.rd o)
    subst hv_
    have HL2 := Lib.hid (OwU.rd o)
    clear o
    clear T_0_ T_1_ T_2_ M_0_ M_1_ M_2_ N_0_ N_1_ N_2_ N_3_ N_4_ N_5_ N_6_ N_7_ X_0_ X_1_ X_2_ Q_0_ Q_1_ Q_2_ Q_3_ Q_4_ Q_5_ Q_6_ Q_7_ Y_0_ Y_1_ Y_2_ C_0_ C_1_ C_2_ C_3_ C_4_ C_5_ C_6_ C_7_ U_0_ U_1_ U_2_ V_0_ V_1_ V_2_ V_3_ V_4_ V_5_ V_6_ V_7_ Z_0_ Z_1_ Z_2_ Z_3_ Z_4_ Z_5_ Z_6_ Z_7_
    have rT231_ := Lib.hid (show (w11).heap[w2.heap.size]? = some (.cells #[.int .i64 i0, .slice a1 n c1, .slice a2 n2 c2] 26 (0, 0)) from row_held g rT214_.out)
    clear rT214_
    have rM232_ := Lib.hid (show (w11).heap[w4.heap.size]? = some (.cells #[.int .i64 i0, .slice p0a p0n p0c, .slice q0a q0n q0c] 26 (0, 0)) from row_held g rM215_.out)
    clear rM215_
    have rN233_ := Lib.hid (show (w11).heap[w4.heap.size + 1]? = some (.cells #[.int .i64 0, .int .i64 0, .int .i64 0, .int .i64 0, .int .i64 0, .int .i64 0, .int .i64 0, .slice r0a r0n r0c] 29 (0, 0)) from row_held g rN216_.out)
    clear rN216_
    have rX234_ := Lib.hid (show (w11).heap[w5.heap.size]? = some (.cells #[.int .i64 i0, .slice p1a p1n p1c, .slice q1a q1n q1c] 26 (0, 0)) from row_held g rX217_.out)
    clear rX217_
    have rQ235_ := Lib.hid (show (w11).heap[w5.heap.size + 1]? = some (.cells #[.int .i64 0, .int .i64 0, .int .i64 0, .int .i64 0, .int .i64 0, .int .i64 0, .int .i64 0, .slice r1a r1n r1c] 29 (0, 0)) from row_held g rQ218_.out)
    clear rQ218_
    have rY236_ := Lib.hid (show (w11).heap[w6.heap.size]? = some (.cells #[.int .i64 i0, .slice p2a p2n p2c, .slice q2a q2n q2c] 26 (0, 0)) from row_held g rY219_.out)
    clear rY219_
    have rC237_ := Lib.hid (show (w11).heap[w6.heap.size + 1]? = some (.cells #[.int .i64 1, .int .i64 33, .int .i64 0, .int .i64 i0, .int .i64 0, .int .i64 0, .int .i64 0, .slice r2a r2n r2c] 29 (0, 0)) from row_held g rC220_.out)
    clear rC220_
    have rU238_ := Lib.hid (show (w11).heap[w7.heap.size]? = some (.cells #[.int .i64 i0, .slice p3a p3n p3c, .slice q3a q3n q3c] 26 (0, 0)) from row_held g rU221_.out)
    clear rU221_
    have rV239_ := Lib.hid (show (w11).heap[w7.heap.size + 1]? = some (.cells #[.int .i64 0, .int .i64 0, .int .i64 0, .int .i64 0, .int .i64 0, .int .i64 0, .int .i64 0, .slice r3a r3n r3c] 29 (0, 0)) from row_held g rV222_.out)
    clear rV222_
    have rZ240_ := Lib.hid (show (w11).heap[w7.heap.size + 1 + 1]? = some (.cells #[.int .i64 0, .int .i64 0, .int .i64 0, .int .i64 0, .int .i64 0, .int .i64 0, .int .i64 0, .slice none 0 0] 29 (0, 0)) from row_held g rZ223_.out)
    clear rZ223_
    have G241_ := Lib.hid (show (W).grownBy (w11) none from gby_trans G224_.out g)
    have HTt242_ := Lib.hid (show (w2).grownBy (w11) none from gby_trans HTt225_.out g)
    clear HTt225_
    have HTP243_ := Lib.hid (show (w3).grownBy (w11) none from gby_trans HTP226_.out g)
    clear HTP226_
    have HTm1244_ := Lib.hid (show (w4).grownBy (w11) none from gby_trans HTm1227_.out g)
    clear HTm1227_
    have HTm2245_ := Lib.hid (show (w5).grownBy (w11) none from gby_trans HTm2228_.out g)
    clear HTm2228_
    have HTm3246_ := Lib.hid (show (w6).grownBy (w11) none from gby_trans HTm3229_.out g)
    clear HTm3229_
    have HTm4247_ := Lib.hid (show (w7).grownBy (w11) none from gby_trans HTm4230_.out g)
    clear HTm4230_
    clear g
    have T_0_ : (w11).cell? ⟨w2.heap.size, 0, none⟩ = some (.int .i64 i0) := cell_of_row _ _ 0 _ _ _ rT231_.out
    have T_1_ : (w11).cell? ⟨w2.heap.size, 1, none⟩ = some (.slice a1 n c1) := cell_of_row _ _ 1 _ _ _ rT231_.out
    have T_2_ : (w11).cell? ⟨w2.heap.size, 2, none⟩ = some (.slice a2 n2 c2) := cell_of_row _ _ 2 _ _ _ rT231_.out
    have M_0_ : (w11).cell? ⟨w4.heap.size, 0, none⟩ = some (.int .i64 i0) := cell_of_row _ _ 0 _ _ _ rM232_.out
    have M_1_ : (w11).cell? ⟨w4.heap.size, 1, none⟩ = some (.slice p0a p0n p0c) := cell_of_row _ _ 1 _ _ _ rM232_.out
    have M_2_ : (w11).cell? ⟨w4.heap.size, 2, none⟩ = some (.slice q0a q0n q0c) := cell_of_row _ _ 2 _ _ _ rM232_.out
    have N_0_ : (w11).cell? ⟨w4.heap.size + 1, 0, none⟩ = some (.int .i64 0) := cell_of_row _ _ 0 _ _ _ rN233_.out
    have N_1_ : (w11).cell? ⟨w4.heap.size + 1, 1, none⟩ = some (.int .i64 0) := cell_of_row _ _ 1 _ _ _ rN233_.out
    have N_2_ : (w11).cell? ⟨w4.heap.size + 1, 2, none⟩ = some (.int .i64 0) := cell_of_row _ _ 2 _ _ _ rN233_.out
    have N_3_ : (w11).cell? ⟨w4.heap.size + 1, 3, none⟩ = some (.int .i64 0) := cell_of_row _ _ 3 _ _ _ rN233_.out
    have N_4_ : (w11).cell? ⟨w4.heap.size + 1, 4, none⟩ = some (.int .i64 0) := cell_of_row _ _ 4 _ _ _ rN233_.out
    have N_5_ : (w11).cell? ⟨w4.heap.size + 1, 5, none⟩ = some (.int .i64 0) := cell_of_row _ _ 5 _ _ _ rN233_.out
    have N_6_ : (w11).cell? ⟨w4.heap.size + 1, 6, none⟩ = some (.int .i64 0) := cell_of_row _ _ 6 _ _ _ rN233_.out
    have N_7_ : (w11).cell? ⟨w4.heap.size + 1, 7, none⟩ = some (.slice r0a r0n r0c) := cell_of_row _ _ 7 _ _ _ rN233_.out
    have X_0_ : (w11).cell? ⟨w5.heap.size, 0, none⟩ = some (.int .i64 i0) := cell_of_row _ _ 0 _ _ _ rX234_.out
    have X_1_ : (w11).cell? ⟨w5.heap.size, 1, none⟩ = some (.slice p1a p1n p1c) := cell_of_row _ _ 1 _ _ _ rX234_.out
    have X_2_ : (w11).cell? ⟨w5.heap.size, 2, none⟩ = some (.slice q1a q1n q1c) := cell_of_row _ _ 2 _ _ _ rX234_.out
    have Q_0_ : (w11).cell? ⟨w5.heap.size + 1, 0, none⟩ = some (.int .i64 0) := cell_of_row _ _ 0 _ _ _ rQ235_.out
    have Q_1_ : (w11).cell? ⟨w5.heap.size + 1, 1, none⟩ = some (.int .i64 0) := cell_of_row _ _ 1 _ _ _ rQ235_.out
    have Q_2_ : (w11).cell? ⟨w5.heap.size + 1, 2, none⟩ = some (.int .i64 0) := cell_of_row _ _ 2 _ _ _ rQ235_.out
    have Q_3_ : (w11).cell? ⟨w5.heap.size + 1, 3, none⟩ = some (.int .i64 0) := cell_of_row _ _ 3 _ _ _ rQ235_.out
    have Q_4_ : (w11).cell? ⟨w5.heap.size + 1, 4, none⟩ = some (.int .i64 0) := cell_of_row _ _ 4 _ _ _ rQ235_.out
    have Q_5_ : (w11).cell? ⟨w5.heap.size + 1, 5, none⟩ = some (.int .i64 0) := cell_of_row _ _ 5 _ _ _ rQ235_.out
    have Q_6_ : (w11).cell? ⟨w5.heap.size + 1, 6, none⟩ = some (.int .i64 0) := cell_of_row _ _ 6 _ _ _ rQ235_.out
    have Q_7_ : (w11).cell? ⟨w5.heap.size + 1, 7, none⟩ = some (.slice r1a r1n r1c) := cell_of_row _ _ 7 _ _ _ rQ235_.out
    have Y_0_ : (w11).cell? ⟨w6.heap.size, 0, none⟩ = some (.int .i64 i0) := cell_of_row _ _ 0 _ _ _ rY236_.out
    have Y_1_ : (w11).cell? ⟨w6.heap.size, 1, none⟩ = some (.slice p2a p2n p2c) := cell_of_row _ _ 1 _ _ _ rY236_.out
    have Y_2_ : (w11).cell? ⟨w6.heap.size, 2, none⟩ = some (.slice q2a q2n q2c) := cell_of_row _ _ 2 _ _ _ rY236_.out
    have C_0_ : (w11).cell? ⟨w6.heap.size + 1, 0, none⟩ = some (.int .i64 1) := cell_of_row _ _ 0 _ _ _ rC237_.out
    have C_1_ : (w11).cell? ⟨w6.heap.size + 1, 1, none⟩ = some (.int .i64 33) := cell_of_row _ _ 1 _ _ _ rC237_.out
    have C_2_ : (w11).cell? ⟨w6.heap.size + 1, 2, none⟩ = some (.int .i64 0) := cell_of_row _ _ 2 _ _ _ rC237_.out
    have C_3_ : (w11).cell? ⟨w6.heap.size + 1, 3, none⟩ = some (.int .i64 i0) := cell_of_row _ _ 3 _ _ _ rC237_.out
    have C_4_ : (w11).cell? ⟨w6.heap.size + 1, 4, none⟩ = some (.int .i64 0) := cell_of_row _ _ 4 _ _ _ rC237_.out
    have C_5_ : (w11).cell? ⟨w6.heap.size + 1, 5, none⟩ = some (.int .i64 0) := cell_of_row _ _ 5 _ _ _ rC237_.out
    have C_6_ : (w11).cell? ⟨w6.heap.size + 1, 6, none⟩ = some (.int .i64 0) := cell_of_row _ _ 6 _ _ _ rC237_.out
    have C_7_ : (w11).cell? ⟨w6.heap.size + 1, 7, none⟩ = some (.slice r2a r2n r2c) := cell_of_row _ _ 7 _ _ _ rC237_.out
    have U_0_ : (w11).cell? ⟨w7.heap.size, 0, none⟩ = some (.int .i64 i0) := cell_of_row _ _ 0 _ _ _ rU238_.out
    have U_1_ : (w11).cell? ⟨w7.heap.size, 1, none⟩ = some (.slice p3a p3n p3c) := cell_of_row _ _ 1 _ _ _ rU238_.out
    have U_2_ : (w11).cell? ⟨w7.heap.size, 2, none⟩ = some (.slice q3a q3n q3c) := cell_of_row _ _ 2 _ _ _ rU238_.out
    have V_0_ : (w11).cell? ⟨w7.heap.size + 1, 0, none⟩ = some (.int .i64 0) := cell_of_row _ _ 0 _ _ _ rV239_.out
    have V_1_ : (w11).cell? ⟨w7.heap.size + 1, 1, none⟩ = some (.int .i64 0) := cell_of_row _ _ 1 _ _ _ rV239_.out
    have V_2_ : (w11).cell? ⟨w7.heap.size + 1, 2, none⟩ = some (.int .i64 0) := cell_of_row _ _ 2 _ _ _ rV239_.out
    have V_3_ : (w11).cell? ⟨w7.heap.size + 1, 3, none⟩ = some (.int .i64 0) := cell_of_row _ _ 3 _ _ _ rV239_.out
    have V_4_ : (w11).cell? ⟨w7.heap.size + 1, 4, none⟩ = some (.int .i64 0) := cell_of_row _ _ 4 _ _ _ rV239_.out
    have V_5_ : (w11).cell? ⟨w7.heap.size + 1, 5, none⟩ = some (.int .i64 0) := cell_of_row _ _ 5 _ _ _ rV239_.out
    have V_6_ : (w11).cell? ⟨w7.heap.size + 1, 6, none⟩ = some (.int .i64 0) := cell_of_row _ _ 6 _ _ _ rV239_.out
    have V_7_ : (w11).cell? ⟨w7.heap.size + 1, 7, none⟩ = some (.slice r3a r3n r3c) := cell_of_row _ _ 7 _ _ _ rV239_.out
    have Z_0_ : (w11).cell? ⟨w7.heap.size + 1 + 1, 0, none⟩ = some (.int .i64 0) := cell_of_row _ _ 0 _ _ _ rZ240_.out
    have Z_1_ : (w11).cell? ⟨w7.heap.size + 1 + 1, 1, none⟩ = some (.int .i64 0) := cell_of_row _ _ 1 _ _ _ rZ240_.out
    have Z_2_ : (w11).cell? ⟨w7.heap.size + 1 + 1, 2, none⟩ = some (.int .i64 0) := cell_of_row _ _ 2 _ _ _ rZ240_.out
    have Z_3_ : (w11).cell? ⟨w7.heap.size + 1 + 1, 3, none⟩ = some (.int .i64 0) := cell_of_row _ _ 3 _ _ _ rZ240_.out
    have Z_4_ : (w11).cell? ⟨w7.heap.size + 1 + 1, 4, none⟩ = some (.int .i64 0) := cell_of_row _ _ 4 _ _ _ rZ240_.out
    have Z_5_ : (w11).cell? ⟨w7.heap.size + 1 + 1, 5, none⟩ = some (.int .i64 0) := cell_of_row _ _ 5 _ _ _ rZ240_.out
    have Z_6_ : (w11).cell? ⟨w7.heap.size + 1 + 1, 6, none⟩ = some (.int .i64 0) := cell_of_row _ _ 6 _ _ _ rZ240_.out
    have Z_7_ : (w11).cell? ⟨w7.heap.size + 1 + 1, 7, none⟩ = some (.slice none 0 0) := cell_of_row _ _ 7 _ _ _ rZ240_.out
    have HTl2248_ := Lib.hid (gby_refl (w11) none)
    have MG249_ := Lib.hid (show (W).grownBy (w11) none from G241_.out)
    have MR250_ := Lib.hid rT231_.out
    have MR251_ := Lib.hid rM232_.out
    have MR252_ := Lib.hid rN233_.out
    have MR253_ := Lib.hid rX234_.out
    have MR254_ := Lib.hid rQ235_.out
    have MR255_ := Lib.hid rY236_.out
    have MR256_ := Lib.hid rC237_.out
    have MR257_ := Lib.hid rU238_.out
    have MR258_ := Lib.hid rV239_.out
    have MR259_ := Lib.hid rZ240_.out
    go_wp2_with fail
    go_at_call 28
    refine ((hasL_any _ _ _ (k : Int) (HL2.out.grow HTl2248_.out) PL1.out).mono (fun e w q => bpost_yes P1.out e w q)).mono ?_
    rintro e w12 ⟨rfl, g⟩
    have szw12 := g.size
    try simp only [World.size_alloc] at szw12
    clear T_0_ T_1_ T_2_ M_0_ M_1_ M_2_ N_0_ N_1_ N_2_ N_3_ N_4_ N_5_ N_6_ N_7_ X_0_ X_1_ X_2_ Q_0_ Q_1_ Q_2_ Q_3_ Q_4_ Q_5_ Q_6_ Q_7_ Y_0_ Y_1_ Y_2_ C_0_ C_1_ C_2_ C_3_ C_4_ C_5_ C_6_ C_7_ U_0_ U_1_ U_2_ V_0_ V_1_ V_2_ V_3_ V_4_ V_5_ V_6_ V_7_ Z_0_ Z_1_ Z_2_ Z_3_ Z_4_ Z_5_ Z_6_ Z_7_
    have rT260_ := Lib.hid (show (w12).heap[w2.heap.size]? = some (.cells #[.int .i64 i0, .slice a1 n c1, .slice a2 n2 c2] 26 (0, 0)) from row_held g rT231_.out)
    clear rT231_
    have rM261_ := Lib.hid (show (w12).heap[w4.heap.size]? = some (.cells #[.int .i64 i0, .slice p0a p0n p0c, .slice q0a q0n q0c] 26 (0, 0)) from row_held g rM232_.out)
    clear rM232_
    have rN262_ := Lib.hid (show (w12).heap[w4.heap.size + 1]? = some (.cells #[.int .i64 0, .int .i64 0, .int .i64 0, .int .i64 0, .int .i64 0, .int .i64 0, .int .i64 0, .slice r0a r0n r0c] 29 (0, 0)) from row_held g rN233_.out)
    clear rN233_
    have rX263_ := Lib.hid (show (w12).heap[w5.heap.size]? = some (.cells #[.int .i64 i0, .slice p1a p1n p1c, .slice q1a q1n q1c] 26 (0, 0)) from row_held g rX234_.out)
    clear rX234_
    have rQ264_ := Lib.hid (show (w12).heap[w5.heap.size + 1]? = some (.cells #[.int .i64 0, .int .i64 0, .int .i64 0, .int .i64 0, .int .i64 0, .int .i64 0, .int .i64 0, .slice r1a r1n r1c] 29 (0, 0)) from row_held g rQ235_.out)
    clear rQ235_
    have rY265_ := Lib.hid (show (w12).heap[w6.heap.size]? = some (.cells #[.int .i64 i0, .slice p2a p2n p2c, .slice q2a q2n q2c] 26 (0, 0)) from row_held g rY236_.out)
    clear rY236_
    have rC266_ := Lib.hid (show (w12).heap[w6.heap.size + 1]? = some (.cells #[.int .i64 1, .int .i64 33, .int .i64 0, .int .i64 i0, .int .i64 0, .int .i64 0, .int .i64 0, .slice r2a r2n r2c] 29 (0, 0)) from row_held g rC237_.out)
    clear rC237_
    have rU267_ := Lib.hid (show (w12).heap[w7.heap.size]? = some (.cells #[.int .i64 i0, .slice p3a p3n p3c, .slice q3a q3n q3c] 26 (0, 0)) from row_held g rU238_.out)
    clear rU238_
    have rV268_ := Lib.hid (show (w12).heap[w7.heap.size + 1]? = some (.cells #[.int .i64 0, .int .i64 0, .int .i64 0, .int .i64 0, .int .i64 0, .int .i64 0, .int .i64 0, .slice r3a r3n r3c] 29 (0, 0)) from row_held g rV239_.out)
    clear rV239_
    have rZ269_ := Lib.hid (show (w12).heap[w7.heap.size + 1 + 1]? = some (.cells #[.int .i64 0, .int .i64 0, .int .i64 0, .int .i64 0, .int .i64 0, .int .i64 0, .int .i64 0, .slice none 0 0] 29 (0, 0)) from row_held g rZ240_.out)
    clear rZ240_
    have G270_ := Lib.hid (show (W).grownBy (w12) none from gby_trans G241_.out g)
    have HTt271_ := Lib.hid (show (w2).grownBy (w12) none from gby_trans HTt242_.out g)
    clear HTt242_
    have HTP272_ := Lib.hid (show (w3).grownBy (w12) none from gby_trans HTP243_.out g)
    clear HTP243_
    have HTm1273_ := Lib.hid (show (w4).grownBy (w12) none from gby_trans HTm1244_.out g)
    clear HTm1244_
    have HTm2274_ := Lib.hid (show (w5).grownBy (w12) none from gby_trans HTm2245_.out g)
    clear HTm2245_
    have HTm3275_ := Lib.hid (show (w6).grownBy (w12) none from gby_trans HTm3246_.out g)
    clear HTm3246_
    have HTm4276_ := Lib.hid (show (w7).grownBy (w12) none from gby_trans HTm4247_.out g)
    clear HTm4247_
    have HTl2277_ := Lib.hid (show (w11).grownBy (w12) none from gby_trans HTl2248_.out g)
    clear HTl2248_
    clear g
    have T_0_ : (w12).cell? ⟨w2.heap.size, 0, none⟩ = some (.int .i64 i0) := cell_of_row _ _ 0 _ _ _ rT260_.out
    have T_1_ : (w12).cell? ⟨w2.heap.size, 1, none⟩ = some (.slice a1 n c1) := cell_of_row _ _ 1 _ _ _ rT260_.out
    have T_2_ : (w12).cell? ⟨w2.heap.size, 2, none⟩ = some (.slice a2 n2 c2) := cell_of_row _ _ 2 _ _ _ rT260_.out
    have M_0_ : (w12).cell? ⟨w4.heap.size, 0, none⟩ = some (.int .i64 i0) := cell_of_row _ _ 0 _ _ _ rM261_.out
    have M_1_ : (w12).cell? ⟨w4.heap.size, 1, none⟩ = some (.slice p0a p0n p0c) := cell_of_row _ _ 1 _ _ _ rM261_.out
    have M_2_ : (w12).cell? ⟨w4.heap.size, 2, none⟩ = some (.slice q0a q0n q0c) := cell_of_row _ _ 2 _ _ _ rM261_.out
    have N_0_ : (w12).cell? ⟨w4.heap.size + 1, 0, none⟩ = some (.int .i64 0) := cell_of_row _ _ 0 _ _ _ rN262_.out
    have N_1_ : (w12).cell? ⟨w4.heap.size + 1, 1, none⟩ = some (.int .i64 0) := cell_of_row _ _ 1 _ _ _ rN262_.out
    have N_2_ : (w12).cell? ⟨w4.heap.size + 1, 2, none⟩ = some (.int .i64 0) := cell_of_row _ _ 2 _ _ _ rN262_.out
    have N_3_ : (w12).cell? ⟨w4.heap.size + 1, 3, none⟩ = some (.int .i64 0) := cell_of_row _ _ 3 _ _ _ rN262_.out
    have N_4_ : (w12).cell? ⟨w4.heap.size + 1, 4, none⟩ = some (.int .i64 0) := cell_of_row _ _ 4 _ _ _ rN262_.out
    have N_5_ : (w12).cell? ⟨w4.heap.size + 1, 5, none⟩ = some (.int .i64 0) := cell_of_row _ _ 5 _ _ _ rN262_.out
    have N_6_ : (w12).cell? ⟨w4.heap.size + 1, 6, none⟩ = some (.int .i64 0) := cell_of_row _ _ 6 _ _ _ rN262_.out
    have N_7_ : (w12).cell? ⟨w4.heap.size + 1, 7, none⟩ = some (.slice r0a r0n r0c) := cell_of_row _ _ 7 _ _ _ rN262_.out
    have X_0_ : (w12).cell? ⟨w5.heap.size, 0, none⟩ = some (.int .i64 i0) := cell_of_row _ _ 0 _ _ _ rX263_.out
    have X_1_ : (w12).cell? ⟨w5.heap.size, 1, none⟩ = some (.slice p1a p1n p1c) := cell_of_row _ _ 1 _ _ _ rX263_.out
    have X_2_ : (w12).cell? ⟨w5.heap.size, 2, none⟩ = some (.slice q1a q1n q1c) := cell_of_row _ _ 2 _ _ _ rX263_.out
    have Q_0_ : (w12).cell? ⟨w5.heap.size + 1, 0, none⟩ = some (.int .i64 0) := cell_of_row _ _ 0 _ _ _ rQ264_.out
    have Q_1_ : (w12).cell? ⟨w5.heap.size + 1, 1, none⟩ = some (.int .i64 0) := cell_of_row _ _ 1 _ _ _ rQ264_.out
    have Q_2_ : (w12).cell? ⟨w5.heap.size + 1, 2, none⟩ = some (.int .i64 0) := cell_of_row _ _ 2 _ _ _ rQ264_.out
    have Q_3_ : (w12).cell? ⟨w5.heap.size + 1, 3, none⟩ = some (.int .i64 0) := cell_of_row _ _ 3 _ _ _ rQ264_.out
    have Q_4_ : (w12).cell? ⟨w5.heap.size + 1, 4, none⟩ = some (.int .i64 0) := cell_of_row _ _ 4 _ _ _ rQ264_.out
    have Q_5_ : (w12).cell? ⟨w5.heap.size + 1, 5, none⟩ = some (.int .i64 0) := cell_of_row _ _ 5 _ _ _ rQ264_.out
    have Q_6_ : (w12).cell? ⟨w5.heap.size + 1, 6, none⟩ = some (.int .i64 0) := cell_of_row _ _ 6 _ _ _ rQ264_.out
    have Q_7_ : (w12).cell? ⟨w5.heap.size + 1, 7, none⟩ = some (.slice r1a r1n r1c) := cell_of_row _ _ 7 _ _ _ rQ264_.out
    have Y_0_ : (w12).cell? ⟨w6.heap.size, 0, none⟩ = some (.int .i64 i0) := cell_of_row _ _ 0 _ _ _ rY265_.out
    have Y_1_ : (w12).cell? ⟨w6.heap.size, 1, none⟩ = some (.slice p2a p2n p2c) := cell_of_row _ _ 1 _ _ _ rY265_.out
    have Y_2_ : (w12).cell? ⟨w6.heap.size, 2, none⟩ = some (.slice q2a q2n q2c) := cell_of_row _ _ 2 _ _ _ rY265_.out
    have C_0_ : (w12).cell? ⟨w6.heap.size + 1, 0, none⟩ = some (.int .i64 1) := cell_of_row _ _ 0 _ _ _ rC266_.out
    have C_1_ : (w12).cell? ⟨w6.heap.size + 1, 1, none⟩ = some (.int .i64 33) := cell_of_row _ _ 1 _ _ _ rC266_.out
    have C_2_ : (w12).cell? ⟨w6.heap.size + 1, 2, none⟩ = some (.int .i64 0) := cell_of_row _ _ 2 _ _ _ rC266_.out
    have C_3_ : (w12).cell? ⟨w6.heap.size + 1, 3, none⟩ = some (.int .i64 i0) := cell_of_row _ _ 3 _ _ _ rC266_.out
    have C_4_ : (w12).cell? ⟨w6.heap.size + 1, 4, none⟩ = some (.int .i64 0) := cell_of_row _ _ 4 _ _ _ rC266_.out
    have C_5_ : (w12).cell? ⟨w6.heap.size + 1, 5, none⟩ = some (.int .i64 0) := cell_of_row _ _ 5 _ _ _ rC266_.out
    have C_6_ : (w12).cell? ⟨w6.heap.size + 1, 6, none⟩ = some (.int .i64 0) := cell_of_row _ _ 6 _ _ _ rC266_.out
    have C_7_ : (w12).cell? ⟨w6.heap.size + 1, 7, none⟩ = some (.slice r2a r2n r2c) := cell_of_row _ _ 7 _ _ _ rC266_.out
    have U_0_ : (w12).cell? ⟨w7.heap.size, 0, none⟩ = some (.int .i64 i0) := cell_of_row _ _ 0 _ _ _ rU267_.out
    have U_1_ : (w12).cell? ⟨w7.heap.size, 1, none⟩ = some (.slice p3a p3n p3c) := cell_of_row _ _ 1 _ _ _ rU267_.out
    have U_2_ : (w12).cell? ⟨w7.heap.size, 2, none⟩ = some (.slice q3a q3n q3c) := cell_of_row _ _ 2 _ _ _ rU267_.out
    have V_0_ : (w12).cell? ⟨w7.heap.size + 1, 0, none⟩ = some (.int .i64 0) := cell_of_row _ _ 0 _ _ _ rV268_.out
    have V_1_ : (w12).cell? ⟨w7.heap.size + 1, 1, none⟩ = some (.int .i64 0) := cell_of_row _ _ 1 _ _ _ rV268_.out
    have V_2_ : (w12).cell? ⟨w7.heap.size + 1, 2, none⟩ = some (.int .i64 0) := cell_of_row _ _ 2 _ _ _ rV268_.out
    have V_3_ : (w12).cell? ⟨w7.heap.size + 1, 3, none⟩ = some (.int .i64 0) := cell_of_row _ _ 3 _ _ _ rV268_.out
    have V_4_ : (w12).cell? ⟨w7.heap.size + 1, 4, none⟩ = some (.int .i64 0) := cell_of_row _ _ 4 _ _ _ rV268_.out
    have V_5_ : (w12).cell? ⟨w7.heap.size + 1, 5, none⟩ = some (.int .i64 0) := cell_of_row _ _ 5 _ _ _ rV268_.out
    have V_6_ : (w12).cell? ⟨w7.heap.size + 1, 6, none⟩ = some (.int .i64 0) := cell_of_row _ _ 6 _ _ _ rV268_.out
    have V_7_ : (w12).cell? ⟨w7.heap.size + 1, 7, none⟩ = some (.slice r3a r3n r3c) := cell_of_row _ _ 7 _ _ _ rV268_.out
    have Z_0_ : (w12).cell? ⟨w7.heap.size + 1 + 1, 0, none⟩ = some (.int .i64 0) := cell_of_row _ _ 0 _ _ _ rZ269_.out
    have Z_1_ : (w12).cell? ⟨w7.heap.size + 1 + 1, 1, none⟩ = some (.int .i64 0) := cell_of_row _ _ 1 _ _ _ rZ269_.out
    have Z_2_ : (w12).cell? ⟨w7.heap.size + 1 + 1, 2, none⟩ = some (.int .i64 0) := cell_of_row _ _ 2 _ _ _ rZ269_.out
    have Z_3_ : (w12).cell? ⟨w7.heap.size + 1 + 1, 3, none⟩ = some (.int .i64 0) := cell_of_row _ _ 3 _ _ _ rZ269_.out
    have Z_4_ : (w12).cell? ⟨w7.heap.size + 1 + 1, 4, none⟩ = some (.int .i64 0) := cell_of_row _ _ 4 _ _ _ rZ269_.out
    have Z_5_ : (w12).cell? ⟨w7.heap.size + 1 + 1, 5, none⟩ = some (.int .i64 0) := cell_of_row _ _ 5 _ _ _ rZ269_.out
    have Z_6_ : (w12).cell? ⟨w7.heap.size + 1 + 1, 6, none⟩ = some (.int .i64 0) := cell_of_row _ _ 6 _ _ _ rZ269_.out
    have Z_7_ : (w12).cell? ⟨w7.heap.size + 1 + 1, 7, none⟩ = some (.slice none 0 0) := cell_of_row _ _ 7 _ _ _ rZ269_.out
    go_wp2_with fail
    go_at_call 29
    refine (implPend _ i0 _ _ y3 (HB3.out.grow HTm3275_.out) LY3.out).mono ?_
    rintro e w13 ⟨l3_, rfl, o, g⟩
    have szw13 := g.size
    try simp only [World.size_alloc] at szw13
    obtain ⟨s3a, s3n, s3c, hv_⟩ := RdL.form (OwU.rd o)
    subst hv_
    have HL3 := Lib.hid (OwU.rd o)
    clear o
    clear T_0_ T_1_ T_2_ M_0_ M_1_ M_2_ N_0_ N_1_ N_2_ N_3_ N_4_ N_5_ N_6_ N_7_ X_0_ X_1_ X_2_ Q_0_ Q_1_ Q_2_ Q_3_ Q_4_ Q_5_ Q_6_ Q_7_ Y_0_ Y_1_ Y_2_ C_0_ C_1_ C_2_ C_3_ C_4_ C_5_ C_6_ C_7_ U_0_ U_1_ U_2_ V_0_ V_1_ V_2_ V_3_ V_4_ V_5_ V_6_ V_7_ Z_0_ Z_1_ Z_2_ Z_3_ Z_4_ Z_5_ Z_6_ Z_7_
    have rT278_ := Lib.hid (show (w13).heap[w2.heap.size]? = some (.cells #[.int .i64 i0, .slice a1 n c1, .slice a2 n2 c2] 26 (0, 0)) from row_held g rT260_.out)
    clear rT260_
    have rM279_ := Lib.hid (show (w13).heap[w4.heap.size]? = some (.cells #[.int .i64 i0, .slice p0a p0n p0c, .slice q0a q0n q0c] 26 (0, 0)) from row_held g rM261_.out)
    clear rM261_
    have rN280_ := Lib.hid (show (w13).heap[w4.heap.size + 1]? = some (.cells #[.int .i64 0, .int .i64 0, .int .i64 0, .int .i64 0, .int .i64 0, .int .i64 0, .int .i64 0, .slice r0a r0n r0c] 29 (0, 0)) from row_held g rN262_.out)
    clear rN262_
    have rX281_ := Lib.hid (show (w13).heap[w5.heap.size]? = some (.cells #[.int .i64 i0, .slice p1a p1n p1c, .slice q1a q1n q1c] 26 (0, 0)) from row_held g rX263_.out)
    clear rX263_
    have rQ282_ := Lib.hid (show (w13).heap[w5.heap.size + 1]? = some (.cells #[.int .i64 0, .int .i64 0, .int .i64 0, .int .i64 0, .int .i64 0, .int .i64 0, .int .i64 0, .slice r1a r1n r1c] 29 (0, 0)) from row_held g rQ264_.out)
    clear rQ264_
    have rY283_ := Lib.hid (show (w13).heap[w6.heap.size]? = some (.cells #[.int .i64 i0, .slice p2a p2n p2c, .slice q2a q2n q2c] 26 (0, 0)) from row_held g rY265_.out)
    clear rY265_
    have rC284_ := Lib.hid (show (w13).heap[w6.heap.size + 1]? = some (.cells #[.int .i64 1, .int .i64 33, .int .i64 0, .int .i64 i0, .int .i64 0, .int .i64 0, .int .i64 0, .slice r2a r2n r2c] 29 (0, 0)) from row_held g rC266_.out)
    clear rC266_
    have rU285_ := Lib.hid (show (w13).heap[w7.heap.size]? = some (.cells #[.int .i64 i0, .slice p3a p3n p3c, .slice q3a q3n q3c] 26 (0, 0)) from row_held g rU267_.out)
    clear rU267_
    have rV286_ := Lib.hid (show (w13).heap[w7.heap.size + 1]? = some (.cells #[.int .i64 0, .int .i64 0, .int .i64 0, .int .i64 0, .int .i64 0, .int .i64 0, .int .i64 0, .slice r3a r3n r3c] 29 (0, 0)) from row_held g rV268_.out)
    clear rV268_
    have rZ287_ := Lib.hid (show (w13).heap[w7.heap.size + 1 + 1]? = some (.cells #[.int .i64 0, .int .i64 0, .int .i64 0, .int .i64 0, .int .i64 0, .int .i64 0, .int .i64 0, .slice none 0 0] 29 (0, 0)) from row_held g rZ269_.out)
    clear rZ269_
    have G288_ := Lib.hid (show (W).grownBy (w13) none from gby_trans G270_.out g)
    have HTt289_ := Lib.hid (show (w2).grownBy (w13) none from gby_trans HTt271_.out g)
    clear HTt271_
    have HTP290_ := Lib.hid (show (w3).grownBy (w13) none from gby_trans HTP272_.out g)
    clear HTP272_
    have HTm1291_ := Lib.hid (show (w4).grownBy (w13) none from gby_trans HTm1273_.out g)
    clear HTm1273_
    have HTm2292_ := Lib.hid (show (w5).grownBy (w13) none from gby_trans HTm2274_.out g)
    clear HTm2274_
    have HTm3293_ := Lib.hid (show (w6).grownBy (w13) none from gby_trans HTm3275_.out g)
    clear HTm3275_
    have HTm4294_ := Lib.hid (show (w7).grownBy (w13) none from gby_trans HTm4276_.out g)
    clear HTm4276_
    have HTl2295_ := Lib.hid (show (w11).grownBy (w13) none from gby_trans HTl2277_.out g)
    clear HTl2277_
    clear g
    have T_0_ : (w13).cell? ⟨w2.heap.size, 0, none⟩ = some (.int .i64 i0) := cell_of_row _ _ 0 _ _ _ rT278_.out
    have T_1_ : (w13).cell? ⟨w2.heap.size, 1, none⟩ = some (.slice a1 n c1) := cell_of_row _ _ 1 _ _ _ rT278_.out
    have T_2_ : (w13).cell? ⟨w2.heap.size, 2, none⟩ = some (.slice a2 n2 c2) := cell_of_row _ _ 2 _ _ _ rT278_.out
    have M_0_ : (w13).cell? ⟨w4.heap.size, 0, none⟩ = some (.int .i64 i0) := cell_of_row _ _ 0 _ _ _ rM279_.out
    have M_1_ : (w13).cell? ⟨w4.heap.size, 1, none⟩ = some (.slice p0a p0n p0c) := cell_of_row _ _ 1 _ _ _ rM279_.out
    have M_2_ : (w13).cell? ⟨w4.heap.size, 2, none⟩ = some (.slice q0a q0n q0c) := cell_of_row _ _ 2 _ _ _ rM279_.out
    have N_0_ : (w13).cell? ⟨w4.heap.size + 1, 0, none⟩ = some (.int .i64 0) := cell_of_row _ _ 0 _ _ _ rN280_.out
    have N_1_ : (w13).cell? ⟨w4.heap.size + 1, 1, none⟩ = some (.int .i64 0) := cell_of_row _ _ 1 _ _ _ rN280_.out
    have N_2_ : (w13).cell? ⟨w4.heap.size + 1, 2, none⟩ = some (.int .i64 0) := cell_of_row _ _ 2 _ _ _ rN280_.out
    have N_3_ : (w13).cell? ⟨w4.heap.size + 1, 3, none⟩ = some (.int .i64 0) := cell_of_row _ _ 3 _ _ _ rN280_.out
    have N_4_ : (w13).cell? ⟨w4.heap.size + 1, 4, none⟩ = some (.int .i64 0) := cell_of_row _ _ 4 _ _ _ rN280_.out
    have N_5_ : (w13).cell? ⟨w4.heap.size + 1, 5, none⟩ = some (.int .i64 0) := cell_of_row _ _ 5 _ _ _ rN280_.out
    have N_6_ : (w13).cell? ⟨w4.heap.size + 1, 6, none⟩ = some (.int .i64 0) := cell_of_row _ _ 6 _ _ _ rN280_.out
    have N_7_ : (w13).cell? ⟨w4.heap.size + 1, 7, none⟩ = some (.slice r0a r0n r0c) := cell_of_row _ _ 7 _ _ _ rN280_.out
    have X_0_ : (w13).cell? ⟨w5.heap.size, 0, none⟩ = some (.int .i64 i0) := cell_of_row _ _ 0 _ _ _ rX281_.out
    have X_1_ : (w13).cell? ⟨w5.heap.size, 1, none⟩ = some (.slice p1a p1n p1c) := cell_of_row _ _ 1 _ _ _ rX281_.out
    have X_2_ : (w13).cell? ⟨w5.heap.size, 2, none⟩ = some (.slice q1a q1n q1c) := cell_of_row _ _ 2 _ _ _ rX281_.out
    have Q_0_ : (w13).cell? ⟨w5.heap.size + 1, 0, none⟩ = some (.int .i64 0) := cell_of_row _ _ 0 _ _ _ rQ282_.out
    have Q_1_ : (w13).cell? ⟨w5.heap.size + 1, 1, none⟩ = some (.int .i64 0) := cell_of_row _ _ 1 _ _ _ rQ282_.out
    have Q_2_ : (w13).cell? ⟨w5.heap.size + 1, 2, none⟩ = some (.int .i64 0) := cell_of_row _ _ 2 _ _ _ rQ282_.out
    have Q_3_ : (w13).cell? ⟨w5.heap.size + 1, 3, none⟩ = some (.int .i64 0) := cell_of_row _ _ 3 _ _ _ rQ282_.out
    have Q_4_ : (w13).cell? ⟨w5.heap.size + 1, 4, none⟩ = some (.int .i64 0) := cell_of_row _ _ 4 _ _ _ rQ282_.out
    have Q_5_ : (w13).cell? ⟨w5.heap.size + 1, 5, none⟩ = some (.int .i64 0) := cell_of_row _ _ 5 _ _ _ rQ282_.out
    have Q_6_ : (w13).cell? ⟨w5.heap.size + 1, 6, none⟩ = some (.int .i64 0) := cell_of_row _ _ 6 _ _ _ rQ282_.out
    have Q_7_ : (w13).cell? ⟨w5.heap.size + 1, 7, none⟩ = some (.slice r1a r1n r1c) := cell_of_row _ _ 7 _ _ _ rQ282_.out
    have Y_0_ : (w13).cell? ⟨w6.heap.size, 0, none⟩ = some (.int .i64 i0) := cell_of_row _ _ 0 _ _ _ rY283_.out
    have Y_1_ : (w13).cell? ⟨w6.heap.size, 1, none⟩ = some (.slice p2a p2n p2c) := cell_of_row _ _ 1 _ _ _ rY283_.out
    have Y_2_ : (w13).cell? ⟨w6.heap.size, 2, none⟩ = some (.slice q2a q2n q2c) := cell_of_row _ _ 2 _ _ _ rY283_.out
    have C_0_ : (w13).cell? ⟨w6.heap.size + 1, 0, none⟩ = some (.int .i64 1) := cell_of_row _ _ 0 _ _ _ rC284_.out
    have C_1_ : (w13).cell? ⟨w6.heap.size + 1, 1, none⟩ = some (.int .i64 33) := cell_of_row _ _ 1 _ _ _ rC284_.out
    have C_2_ : (w13).cell? ⟨w6.heap.size + 1, 2, none⟩ = some (.int .i64 0) := cell_of_row _ _ 2 _ _ _ rC284_.out
    have C_3_ : (w13).cell? ⟨w6.heap.size + 1, 3, none⟩ = some (.int .i64 i0) := cell_of_row _ _ 3 _ _ _ rC284_.out
    have C_4_ : (w13).cell? ⟨w6.heap.size + 1, 4, none⟩ = some (.int .i64 0) := cell_of_row _ _ 4 _ _ _ rC284_.out
    have C_5_ : (w13).cell? ⟨w6.heap.size + 1, 5, none⟩ = some (.int .i64 0) := cell_of_row _ _ 5 _ _ _ rC284_.out
    have C_6_ : (w13).cell? ⟨w6.heap.size + 1, 6, none⟩ = some (.int .i64 0) := cell_of_row _ _ 6 _ _ _ rC284_.out
    have C_7_ : (w13).cell? ⟨w6.heap.size + 1, 7, none⟩ = some (.slice r2a r2n r2c) := cell_of_row _ _ 7 _ _ _ rC284_.out
    have U_0_ : (w13).cell? ⟨w7.heap.size, 0, none⟩ = some (.int .i64 i0) := cell_of_row _ _ 0 _ _ _ rU285_.out
    have U_1_ : (w13).cell? ⟨w7.heap.size, 1, none⟩ = some (.slice p3a p3n p3c) := cell_of_row _ _ 1 _ _ _ rU285_.out
    have U_2_ : (w13).cell? ⟨w7.heap.size, 2, none⟩ = some (.slice q3a q3n q3c) := cell_of_row _ _ 2 _ _ _ rU285_.out
    have V_0_ : (w13).cell? ⟨w7.heap.size + 1, 0, none⟩ = some (.int .i64 0) := cell_of_row _ _ 0 _ _ _ rV286_.out
    have V_1_ : (w13).cell? ⟨w7.heap.size + 1, 1, none⟩ = some (.int .i64 0) := cell_of_row _ _ 1 _ _ _ rV286_.out
    have V_2_ : (w13).cell? ⟨w7.heap.size + 1, 2, none⟩ = some (.int .i64 0) := cell_of_row _ _ 2 _ _ _ rV286_.out
    have V_3_ : (w13).cell? ⟨w7.heap.size + 1, 3, none⟩ = some (.int .i64 0) := cell_of_row _ _ 3 _ _ _ rV286_.out
    have V_4_ : (w13).cell? ⟨w7.heap.size + 1, 4, none⟩ = some (.int .i64 0) := cell_of_row _ _ 4 _ _ _ rV286_.out
    have V_5_ : (w13).cell? ⟨w7.heap.size + 1, 5, none⟩ = some (.int .i64 0) := cell_of_row _ _ 5 _ _ _ rV286_.out
    have V_6_ : (w13).cell? ⟨w7.heap.size + 1, 6, none⟩ = some (.int .i64 0) := cell_of_row _ _ 6 _ _ _ rV286_.out
    have V_7_ : (w13).cell? ⟨w7.heap.size + 1, 7, none⟩ = some (.slice r3a r3n r3c) := cell_of_row _ _ 7 _ _ _ rV286_.out
    have Z_0_ : (w13).cell? ⟨w7.heap.size + 1 + 1, 0, none⟩ = some (.int .i64 0) := cell_of_row _ _ 0 _ _ _ rZ287_.out
    have Z_1_ : (w13).cell? ⟨w7.heap.size + 1 + 1, 1, none⟩ = some (.int .i64 0) := cell_of_row _ _ 1 _ _ _ rZ287_.out
    have Z_2_ : (w13).cell? ⟨w7.heap.size + 1 + 1, 2, none⟩ = some (.int .i64 0) := cell_of_row _ _ 2 _ _ _ rZ287_.out
    have Z_3_ : (w13).cell? ⟨w7.heap.size + 1 + 1, 3, none⟩ = some (.int .i64 0) := cell_of_row _ _ 3 _ _ _ rZ287_.out
    have Z_4_ : (w13).cell? ⟨w7.heap.size + 1 + 1, 4, none⟩ = some (.int .i64 0) := cell_of_row _ _ 4 _ _ _ rZ287_.out
    have Z_5_ : (w13).cell? ⟨w7.heap.size + 1 + 1, 5, none⟩ = some (.int .i64 0) := cell_of_row _ _ 5 _ _ _ rZ287_.out
    have Z_6_ : (w13).cell? ⟨w7.heap.size + 1 + 1, 6, none⟩ = some (.int .i64 0) := cell_of_row _ _ 6 _ _ _ rZ287_.out
    have Z_7_ : (w13).cell? ⟨w7.heap.size + 1 + 1, 7, none⟩ = some (.slice none 0 0) := cell_of_row _ _ 7 _ _ _ rZ287_.out
    have HTl3296_ := Lib.hid (gby_refl (w13) none)
    have MG297_ := Lib.hid (show (W).grownBy (w13) none from G288_.out)
    have MR298_ := Lib.hid rT278_.out
    have MR299_ := Lib.hid rM279_.out
    have MR300_ := Lib.hid rN280_.out
    have MR301_ := Lib.hid rX281_.out
    have MR302_ := Lib.hid rQ282_.out
    have MR303_ := Lib.hid rY283_.out
    have MR304_ := Lib.hid rC284_.out
    have MR305_ := Lib.hid rU285_.out
    have MR306_ := Lib.hid rV286_.out
    have MR307_ := Lib.hid rZ287_.out
    go_wp2_with fail
    go_at_call 28
    refine ((hasL_any _ _ _ (k : Int) (HL3.out.grow HTl3296_.out) PL3.out).mono (fun e w q => bpost_no P3.out e w q)).mono ?_
    rintro e w14 ⟨rfl, g⟩
    have szw14 := g.size
    try simp only [World.size_alloc] at szw14
    clear T_0_ T_1_ T_2_ M_0_ M_1_ M_2_ N_0_ N_1_ N_2_ N_3_ N_4_ N_5_ N_6_ N_7_ X_0_ X_1_ X_2_ Q_0_ Q_1_ Q_2_ Q_3_ Q_4_ Q_5_ Q_6_ Q_7_ Y_0_ Y_1_ Y_2_ C_0_ C_1_ C_2_ C_3_ C_4_ C_5_ C_6_ C_7_ U_0_ U_1_ U_2_ V_0_ V_1_ V_2_ V_3_ V_4_ V_5_ V_6_ V_7_ Z_0_ Z_1_ Z_2_ Z_3_ Z_4_ Z_5_ Z_6_ Z_7_
    have rT308_ := Lib.hid (show (w14).heap[w2.heap.size]? = some (.cells #[.int .i64 i0, .slice a1 n c1, .slice a2 n2 c2] 26 (0, 0)) from row_held g rT278_.out)
    clear rT278_
    have rM309_ := Lib.hid (show (w14).heap[w4.heap.size]? = some (.cells #[.int .i64 i0, .slice p0a p0n p0c, .slice q0a q0n q0c] 26 (0, 0)) from row_held g rM279_.out)
    clear rM279_
    have rN310_ := Lib.hid (show (w14).heap[w4.heap.size + 1]? = some (.cells #[.int .i64 0, .int .i64 0, .int .i64 0, .int .i64 0, .int .i64 0, .int .i64 0, .int .i64 0, .slice r0a r0n r0c] 29 (0, 0)) from row_held g rN280_.out)
    clear rN280_
    have rX311_ := Lib.hid (show (w14).heap[w5.heap.size]? = some (.cells #[.int .i64 i0, .slice p1a p1n p1c, .slice q1a q1n q1c] 26 (0, 0)) from row_held g rX281_.out)
    clear rX281_
    have rQ312_ := Lib.hid (show (w14).heap[w5.heap.size + 1]? = some (.cells #[.int .i64 0, .int .i64 0, .int .i64 0, .int .i64 0, .int .i64 0, .int .i64 0, .int .i64 0, .slice r1a r1n r1c] 29 (0, 0)) from row_held g rQ282_.out)
    clear rQ282_
    have rY313_ := Lib.hid (show (w14).heap[w6.heap.size]? = some (.cells #[.int .i64 i0, .slice p2a p2n p2c, .slice q2a q2n q2c] 26 (0, 0)) from row_held g rY283_.out)
    clear rY283_
    have rC314_ := Lib.hid (show (w14).heap[w6.heap.size + 1]? = some (.cells #[.int .i64 1, .int .i64 33, .int .i64 0, .int .i64 i0, .int .i64 0, .int .i64 0, .int .i64 0, .slice r2a r2n r2c] 29 (0, 0)) from row_held g rC284_.out)
    clear rC284_
    have rU315_ := Lib.hid (show (w14).heap[w7.heap.size]? = some (.cells #[.int .i64 i0, .slice p3a p3n p3c, .slice q3a q3n q3c] 26 (0, 0)) from row_held g rU285_.out)
    clear rU285_
    have rV316_ := Lib.hid (show (w14).heap[w7.heap.size + 1]? = some (.cells #[.int .i64 0, .int .i64 0, .int .i64 0, .int .i64 0, .int .i64 0, .int .i64 0, .int .i64 0, .slice r3a r3n r3c] 29 (0, 0)) from row_held g rV286_.out)
    clear rV286_
    have rZ317_ := Lib.hid (show (w14).heap[w7.heap.size + 1 + 1]? = some (.cells #[.int .i64 0, .int .i64 0, .int .i64 0, .int .i64 0, .int .i64 0, .int .i64 0, .int .i64 0, .slice none 0 0] 29 (0, 0)) from row_held g rZ287_.out)
    clear rZ287_
    have G318_ := Lib.hid (show (W).grownBy (w14) none from gby_trans G288_.out g)
    have HTt319_ := Lib.hid (show (w2).grownBy (w14) none from gby_trans HTt289_.out g)
    clear HTt289_
    have HTP320_ := Lib.hid (show (w3).grownBy (w14) none from gby_trans HTP290_.out g)
    clear HTP290_
    have HTm1321_ := Lib.hid (show (w4).grownBy (w14) none from gby_trans HTm1291_.out g)
    clear HTm1291_
    have HTm2322_ := Lib.hid (show (w5).grownBy (w14) none from gby_trans HTm2292_.out g)
    clear HTm2292_
    have HTm3323_ := Lib.hid (show (w6).grownBy (w14) none from gby_trans HTm3293_.out g)
    clear HTm3293_
    have HTm4324_ := Lib.hid (show (w7).grownBy (w14) none from gby_trans HTm4294_.out g)
    clear HTm4294_
    have HTl2325_ := Lib.hid (show (w11).grownBy (w14) none from gby_trans HTl2295_.out g)
    clear HTl2295_
    have HTl3326_ := Lib.hid (show (w13).grownBy (w14) none from gby_trans HTl3296_.out g)
    clear HTl3296_
    clear g
    have T_0_ : (w14).cell? ⟨w2.heap.size, 0, none⟩ = some (.int .i64 i0) := cell_of_row _ _ 0 _ _ _ rT308_.out
    have T_1_ : (w14).cell? ⟨w2.heap.size, 1, none⟩ = some (.slice a1 n c1) := cell_of_row _ _ 1 _ _ _ rT308_.out
    have T_2_ : (w14).cell? ⟨w2.heap.size, 2, none⟩ = some (.slice a2 n2 c2) := cell_of_row _ _ 2 _ _ _ rT308_.out
    have M_0_ : (w14).cell? ⟨w4.heap.size, 0, none⟩ = some (.int .i64 i0) := cell_of_row _ _ 0 _ _ _ rM309_.out
    have M_1_ : (w14).cell? ⟨w4.heap.size, 1, none⟩ = some (.slice p0a p0n p0c) := cell_of_row _ _ 1 _ _ _ rM309_.out
    have M_2_ : (w14).cell? ⟨w4.heap.size, 2, none⟩ = some (.slice q0a q0n q0c) := cell_of_row _ _ 2 _ _ _ rM309_.out
    have N_0_ : (w14).cell? ⟨w4.heap.size + 1, 0, none⟩ = some (.int .i64 0) := cell_of_row _ _ 0 _ _ _ rN310_.out
    have N_1_ : (w14).cell? ⟨w4.heap.size + 1, 1, none⟩ = some (.int .i64 0) := cell_of_row _ _ 1 _ _ _ rN310_.out
    have N_2_ : (w14).cell? ⟨w4.heap.size + 1, 2, none⟩ = some (.int .i64 0) := cell_of_row _ _ 2 _ _ _ rN310_.out
    have N_3_ : (w14).cell? ⟨w4.heap.size + 1, 3, none⟩ = some (.int .i64 0) := cell_of_row _ _ 3 _ _ _ rN310_.out
    have N_4_ : (w14).cell? ⟨w4.heap.size + 1, 4, none⟩ = some (.int .i64 0) := cell_of_row _ _ 4 _ _ _ rN310_.out
    have N_5_ : (w14).cell? ⟨w4.heap.size + 1, 5, none⟩ = some (.int .i64 0) := cell_of_row _ _ 5 _ _ _ rN310_.out
    have N_6_ : (w14).cell? ⟨w4.heap.size + 1, 6, none⟩ = some (.int .i64 0) := cell_of_row _ _ 6 _ _ _ rN310_.out
    have N_7_ : (w14).cell? ⟨w4.heap.size + 1, 7, none⟩ = some (.slice r0a r0n r0c) := cell_of_row _ _ 7 _ _ _ rN310_.out
    have X_0_ : (w14).cell? ⟨w5.heap.size, 0, none⟩ = some (.int .i64 i0) := cell_of_row _ _ 0 _ _ _ rX311_.out
    have X_1_ : (w14).cell? ⟨w5.heap.size, 1, none⟩ = some (.slice p1a p1n p1c) := cell_of_row _ _ 1 _ _ _ rX311_.out
    have X_2_ : (w14).cell? ⟨w5.heap.size, 2, none⟩ = some (.slice q1a q1n q1c) := cell_of_row _ _ 2 _ _ _ rX311_.out
    have Q_0_ : (w14).cell? ⟨w5.heap.size + 1, 0, none⟩ = some (.int .i64 0) := cell_of_row _ _ 0 _ _ _ rQ312_.out
    have Q_1_ : (w14).cell? ⟨w5.heap.size + 1, 1, none⟩ = some (.int .i64 0) := cell_of_row _ _ 1 _ _ _ rQ312_.out
    have Q_2_ : (w14).cell? ⟨w5.heap.size + 1, 2, none⟩ = some (.int .i64 0) := cell_of_row _ _ 2 _ _ _ rQ312_.out
    have Q_3_ : (w14).cell? ⟨w5.heap.size + 1, 3, none⟩ = some (.int .i64 0) := cell_of_row _ _ 3 _ _ _ rQ312_.out
    have Q_4_ : (w14).cell? ⟨w5.heap.size + 1, 4, none⟩ = some (.int .i64 0) := cell_of_row _ _ 4 _ _ _ rQ312_.out
    have Q_5_ : (w14).cell? ⟨w5.heap.size + 1, 5, none⟩ = some (.int .i64 0) := cell_of_row _ _ 5 _ _ _ rQ312_.out
    have Q_6_ : (w14).cell? ⟨w5.heap.size + 1, 6, none⟩ = some (.int .i64 0) := cell_of_row _ _ 6 _ _ _ rQ312_.out
    have Q_7_ : (w14).cell? ⟨w5.heap.size + 1, 7, none⟩ = some (.slice r1a r1n r1c) := cell_of_row _ _ 7 _ _ _ rQ312_.out
    have Y_0_ : (w14).cell? ⟨w6.heap.size, 0, none⟩ = some (.int .i64 i0) := cell_of_row _ _ 0 _ _ _ rY313_.out
    have Y_1_ : (w14).cell? ⟨w6.heap.size, 1, none⟩ = some (.slice p2a p2n p2c) := cell_of_row _ _ 1 _ _ _ rY313_.out
    have Y_2_ : (w14).cell? ⟨w6.heap.size, 2, none⟩ = some (.slice q2a q2n q2c) := cell_of_row _ _ 2 _ _ _ rY313_.out
    have C_0_ : (w14).cell? ⟨w6.heap.size + 1, 0, none⟩ = some (.int .i64 1) := cell_of_row _ _ 0 _ _ _ rC314_.out
    have C_1_ : (w14).cell? ⟨w6.heap.size + 1, 1, none⟩ = some (.int .i64 33) := cell_of_row _ _ 1 _ _ _ rC314_.out
    have C_2_ : (w14).cell? ⟨w6.heap.size + 1, 2, none⟩ = some (.int .i64 0) := cell_of_row _ _ 2 _ _ _ rC314_.out
    have C_3_ : (w14).cell? ⟨w6.heap.size + 1, 3, none⟩ = some (.int .i64 i0) := cell_of_row _ _ 3 _ _ _ rC314_.out
    have C_4_ : (w14).cell? ⟨w6.heap.size + 1, 4, none⟩ = some (.int .i64 0) := cell_of_row _ _ 4 _ _ _ rC314_.out
    have C_5_ : (w14).cell? ⟨w6.heap.size + 1, 5, none⟩ = some (.int .i64 0) := cell_of_row _ _ 5 _ _ _ rC314_.out
    have C_6_ : (w14).cell? ⟨w6.heap.size + 1, 6, none⟩ = some (.int .i64 0) := cell_of_row _ _ 6 _ _ _ rC314_.out
    have C_7_ : (w14).cell? ⟨w6.heap.size + 1, 7, none⟩ = some (.slice r2a r2n r2c) := cell_of_row _ _ 7 _ _ _ rC314_.out
    have U_0_ : (w14).cell? ⟨w7.heap.size, 0, none⟩ = some (.int .i64 i0) := cell_of_row _ _ 0 _ _ _ rU315_.out
    have U_1_ : (w14).cell? ⟨w7.heap.size, 1, none⟩ = some (.slice p3a p3n p3c) := cell_of_row _ _ 1 _ _ _ rU315_.out
    have U_2_ : (w14).cell? ⟨w7.heap.size, 2, none⟩ = some (.slice q3a q3n q3c) := cell_of_row _ _ 2 _ _ _ rU315_.out
    have V_0_ : (w14).cell? ⟨w7.heap.size + 1, 0, none⟩ = some (.int .i64 0) := cell_of_row _ _ 0 _ _ _ rV316_.out
    have V_1_ : (w14).cell? ⟨w7.heap.size + 1, 1, none⟩ = some (.int .i64 0) := cell_of_row _ _ 1 _ _ _ rV316_.out
    have V_2_ : (w14).cell? ⟨w7.heap.size + 1, 2, none⟩ = some (.int .i64 0) := cell_of_row _ _ 2 _ _ _ rV316_.out
    have V_3_ : (w14).cell? ⟨w7.heap.size + 1, 3, none⟩ = some (.int .i64 0) := cell_of_row _ _ 3 _ _ _ rV316_.out
    have V_4_ : (w14).cell? ⟨w7.heap.size + 1, 4, none⟩ = some (.int .i64 0) := cell_of_row _ _ 4 _ _ _ rV316_.out
    have V_5_ : (w14).cell? ⟨w7.heap.size + 1, 5, none⟩ = some (.int .i64 0) := cell_of_row _ _ 5 _ _ _ rV316_.out
    have V_6_ : (w14).cell? ⟨w7.heap.size + 1, 6, none⟩ = some (.int .i64 0) := cell_of_row _ _ 6 _ _ _ rV316_.out
    have V_7_ : (w14).cell? ⟨w7.heap.size + 1, 7, none⟩ = some (.slice r3a r3n r3c) := cell_of_row _ _ 7 _ _ _ rV316_.out
    have Z_0_ : (w14).cell? ⟨w7.heap.size + 1 + 1, 0, none⟩ = some (.int .i64 0) := cell_of_row _ _ 0 _ _ _ rZ317_.out
    have Z_1_ : (w14).cell? ⟨w7.heap.size + 1 + 1, 1, none⟩ = some (.int .i64 0) := cell_of_row _ _ 1 _ _ _ rZ317_.out
    have Z_2_ : (w14).cell? ⟨w7.heap.size + 1 + 1, 2, none⟩ = some (.int .i64 0) := cell_of_row _ _ 2 _ _ _ rZ317_.out
    have Z_3_ : (w14).cell? ⟨w7.heap.size + 1 + 1, 3, none⟩ = some (.int .i64 0) := cell_of_row _ _ 3 _ _ _ rZ317_.out
    have Z_4_ : (w14).cell? ⟨w7.heap.size + 1 + 1, 4, none⟩ = some (.int .i64 0) := cell_of_row _ _ 4 _ _ _ rZ317_.out
    have Z_5_ : (w14).cell? ⟨w7.heap.size + 1 + 1, 5, none⟩ = some (.int .i64 0) := cell_of_row _ _ 5 _ _ _ rZ317_.out
    have Z_6_ : (w14).cell? ⟨w7.heap.size + 1 + 1, 6, none⟩ = some (.int .i64 0) := cell_of_row _ _ 6 _ _ _ rZ317_.out
    have Z_7_ : (w14).cell? ⟨w7.heap.size + 1 + 1, 7, none⟩ = some (.slice none 0 0) := cell_of_row _ _ 7 _ _ _ rZ317_.out
    go_wp2_with fail
    go_at_call 30
    refine (implPkD _ ⟨1, 33, 0, i0, 0, 0, 0, [(k : Int)]⟩ _ (HC3.out.grow HTm3323_.out) (by rw [szL_I]; simp) true (by rw [decide_eq_true HCK.out])).mono ?_
    rintro e w15 ⟨rfl, g⟩
    have szw15 := g.size
    try simp only [World.size_alloc] at szw15
    clear T_0_ T_1_ T_2_ M_0_ M_1_ M_2_ N_0_ N_1_ N_2_ N_3_ N_4_ N_5_ N_6_ N_7_ X_0_ X_1_ X_2_ Q_0_ Q_1_ Q_2_ Q_3_ Q_4_ Q_5_ Q_6_ Q_7_ Y_0_ Y_1_ Y_2_ C_0_ C_1_ C_2_ C_3_ C_4_ C_5_ C_6_ C_7_ U_0_ U_1_ U_2_ V_0_ V_1_ V_2_ V_3_ V_4_ V_5_ V_6_ V_7_ Z_0_ Z_1_ Z_2_ Z_3_ Z_4_ Z_5_ Z_6_ Z_7_
    have rT327_ := Lib.hid (show (w15).heap[w2.heap.size]? = some (.cells #[.int .i64 i0, .slice a1 n c1, .slice a2 n2 c2] 26 (0, 0)) from row_held g rT308_.out)
    clear rT308_
    have rM328_ := Lib.hid (show (w15).heap[w4.heap.size]? = some (.cells #[.int .i64 i0, .slice p0a p0n p0c, .slice q0a q0n q0c] 26 (0, 0)) from row_held g rM309_.out)
    clear rM309_
    have rN329_ := Lib.hid (show (w15).heap[w4.heap.size + 1]? = some (.cells #[.int .i64 0, .int .i64 0, .int .i64 0, .int .i64 0, .int .i64 0, .int .i64 0, .int .i64 0, .slice r0a r0n r0c] 29 (0, 0)) from row_held g rN310_.out)
    clear rN310_
    have rX330_ := Lib.hid (show (w15).heap[w5.heap.size]? = some (.cells #[.int .i64 i0, .slice p1a p1n p1c, .slice q1a q1n q1c] 26 (0, 0)) from row_held g rX311_.out)
    clear rX311_
    have rQ331_ := Lib.hid (show (w15).heap[w5.heap.size + 1]? = some (.cells #[.int .i64 0, .int .i64 0, .int .i64 0, .int .i64 0, .int .i64 0, .int .i64 0, .int .i64 0, .slice r1a r1n r1c] 29 (0, 0)) from row_held g rQ312_.out)
    clear rQ312_
    have rY332_ := Lib.hid (show (w15).heap[w6.heap.size]? = some (.cells #[.int .i64 i0, .slice p2a p2n p2c, .slice q2a q2n q2c] 26 (0, 0)) from row_held g rY313_.out)
    clear rY313_
    have rC333_ := Lib.hid (show (w15).heap[w6.heap.size + 1]? = some (.cells #[.int .i64 1, .int .i64 33, .int .i64 0, .int .i64 i0, .int .i64 0, .int .i64 0, .int .i64 0, .slice r2a r2n r2c] 29 (0, 0)) from row_held g rC314_.out)
    clear rC314_
    have rU334_ := Lib.hid (show (w15).heap[w7.heap.size]? = some (.cells #[.int .i64 i0, .slice p3a p3n p3c, .slice q3a q3n q3c] 26 (0, 0)) from row_held g rU315_.out)
    clear rU315_
    have rV335_ := Lib.hid (show (w15).heap[w7.heap.size + 1]? = some (.cells #[.int .i64 0, .int .i64 0, .int .i64 0, .int .i64 0, .int .i64 0, .int .i64 0, .int .i64 0, .slice r3a r3n r3c] 29 (0, 0)) from row_held g rV316_.out)
    clear rV316_
    have rZ336_ := Lib.hid (show (w15).heap[w7.heap.size + 1 + 1]? = some (.cells #[.int .i64 0, .int .i64 0, .int .i64 0, .int .i64 0, .int .i64 0, .int .i64 0, .int .i64 0, .slice none 0 0] 29 (0, 0)) from row_held g rZ317_.out)
    clear rZ317_
    have G337_ := Lib.hid (show (W).grownBy (w15) none from gby_trans G318_.out g)
    have HTt338_ := Lib.hid (show (w2).grownBy (w15) none from gby_trans HTt319_.out g)
    clear HTt319_
    have HTP339_ := Lib.hid (show (w3).grownBy (w15) none from gby_trans HTP320_.out g)
    clear HTP320_
    have HTm1340_ := Lib.hid (show (w4).grownBy (w15) none from gby_trans HTm1321_.out g)
    clear HTm1321_
    have HTm2341_ := Lib.hid (show (w5).grownBy (w15) none from gby_trans HTm2322_.out g)
    clear HTm2322_
    have HTm3342_ := Lib.hid (show (w6).grownBy (w15) none from gby_trans HTm3323_.out g)
    clear HTm3323_
    have HTm4343_ := Lib.hid (show (w7).grownBy (w15) none from gby_trans HTm4324_.out g)
    clear HTm4324_
    have HTl2344_ := Lib.hid (show (w11).grownBy (w15) none from gby_trans HTl2325_.out g)
    clear HTl2325_
    have HTl3345_ := Lib.hid (show (w13).grownBy (w15) none from gby_trans HTl3326_.out g)
    clear HTl3326_
    clear g
    have T_0_ : (w15).cell? ⟨w2.heap.size, 0, none⟩ = some (.int .i64 i0) := cell_of_row _ _ 0 _ _ _ rT327_.out
    have T_1_ : (w15).cell? ⟨w2.heap.size, 1, none⟩ = some (.slice a1 n c1) := cell_of_row _ _ 1 _ _ _ rT327_.out
    have T_2_ : (w15).cell? ⟨w2.heap.size, 2, none⟩ = some (.slice a2 n2 c2) := cell_of_row _ _ 2 _ _ _ rT327_.out
    have M_0_ : (w15).cell? ⟨w4.heap.size, 0, none⟩ = some (.int .i64 i0) := cell_of_row _ _ 0 _ _ _ rM328_.out
    have M_1_ : (w15).cell? ⟨w4.heap.size, 1, none⟩ = some (.slice p0a p0n p0c) := cell_of_row _ _ 1 _ _ _ rM328_.out
    have M_2_ : (w15).cell? ⟨w4.heap.size, 2, none⟩ = some (.slice q0a q0n q0c) := cell_of_row _ _ 2 _ _ _ rM328_.out
    have N_0_ : (w15).cell? ⟨w4.heap.size + 1, 0, none⟩ = some (.int .i64 0) := cell_of_row _ _ 0 _ _ _ rN329_.out
    have N_1_ : (w15).cell? ⟨w4.heap.size + 1, 1, none⟩ = some (.int .i64 0) := cell_of_row _ _ 1 _ _ _ rN329_.out
    have N_2_ : (w15).cell? ⟨w4.heap.size + 1, 2, none⟩ = some (.int .i64 0) := cell_of_row _ _ 2 _ _ _ rN329_.out
    have N_3_ : (w15).cell? ⟨w4.heap.size + 1, 3, none⟩ = some (.int .i64 0) := cell_of_row _ _ 3 _ _ _ rN329_.out
    have N_4_ : (w15).cell? ⟨w4.heap.size + 1, 4, none⟩ = some (.int .i64 0) := cell_of_row _ _ 4 _ _ _ rN329_.out
    have N_5_ : (w15).cell? ⟨w4.heap.size + 1, 5, none⟩ = some (.int .i64 0) := cell_of_row _ _ 5 _ _ _ rN329_.out
    have N_6_ : (w15).cell? ⟨w4.heap.size + 1, 6, none⟩ = some (.int .i64 0) := cell_of_row _ _ 6 _ _ _ rN329_.out
    have N_7_ : (w15).cell? ⟨w4.heap.size + 1, 7, none⟩ = some (.slice r0a r0n r0c) := cell_of_row _ _ 7 _ _ _ rN329_.out
    have X_0_ : (w15).cell? ⟨w5.heap.size, 0, none⟩ = some (.int .i64 i0) := cell_of_row _ _ 0 _ _ _ rX330_.out
    have X_1_ : (w15).cell? ⟨w5.heap.size, 1, none⟩ = some (.slice p1a p1n p1c) := cell_of_row _ _ 1 _ _ _ rX330_.out
    have X_2_ : (w15).cell? ⟨w5.heap.size, 2, none⟩ = some (.slice q1a q1n q1c) := cell_of_row _ _ 2 _ _ _ rX330_.out
    have Q_0_ : (w15).cell? ⟨w5.heap.size + 1, 0, none⟩ = some (.int .i64 0) := cell_of_row _ _ 0 _ _ _ rQ331_.out
    have Q_1_ : (w15).cell? ⟨w5.heap.size + 1, 1, none⟩ = some (.int .i64 0) := cell_of_row _ _ 1 _ _ _ rQ331_.out
    have Q_2_ : (w15).cell? ⟨w5.heap.size + 1, 2, none⟩ = some (.int .i64 0) := cell_of_row _ _ 2 _ _ _ rQ331_.out
    have Q_3_ : (w15).cell? ⟨w5.heap.size + 1, 3, none⟩ = some (.int .i64 0) := cell_of_row _ _ 3 _ _ _ rQ331_.out
    have Q_4_ : (w15).cell? ⟨w5.heap.size + 1, 4, none⟩ = some (.int .i64 0) := cell_of_row _ _ 4 _ _ _ rQ331_.out
    have Q_5_ : (w15).cell? ⟨w5.heap.size + 1, 5, none⟩ = some (.int .i64 0) := cell_of_row _ _ 5 _ _ _ rQ331_.out
    have Q_6_ : (w15).cell? ⟨w5.heap.size + 1, 6, none⟩ = some (.int .i64 0) := cell_of_row _ _ 6 _ _ _ rQ331_.out
    have Q_7_ : (w15).cell? ⟨w5.heap.size + 1, 7, none⟩ = some (.slice r1a r1n r1c) := cell_of_row _ _ 7 _ _ _ rQ331_.out
    have Y_0_ : (w15).cell? ⟨w6.heap.size, 0, none⟩ = some (.int .i64 i0) := cell_of_row _ _ 0 _ _ _ rY332_.out
    have Y_1_ : (w15).cell? ⟨w6.heap.size, 1, none⟩ = some (.slice p2a p2n p2c) := cell_of_row _ _ 1 _ _ _ rY332_.out
    have Y_2_ : (w15).cell? ⟨w6.heap.size, 2, none⟩ = some (.slice q2a q2n q2c) := cell_of_row _ _ 2 _ _ _ rY332_.out
    have C_0_ : (w15).cell? ⟨w6.heap.size + 1, 0, none⟩ = some (.int .i64 1) := cell_of_row _ _ 0 _ _ _ rC333_.out
    have C_1_ : (w15).cell? ⟨w6.heap.size + 1, 1, none⟩ = some (.int .i64 33) := cell_of_row _ _ 1 _ _ _ rC333_.out
    have C_2_ : (w15).cell? ⟨w6.heap.size + 1, 2, none⟩ = some (.int .i64 0) := cell_of_row _ _ 2 _ _ _ rC333_.out
    have C_3_ : (w15).cell? ⟨w6.heap.size + 1, 3, none⟩ = some (.int .i64 i0) := cell_of_row _ _ 3 _ _ _ rC333_.out
    have C_4_ : (w15).cell? ⟨w6.heap.size + 1, 4, none⟩ = some (.int .i64 0) := cell_of_row _ _ 4 _ _ _ rC333_.out
    have C_5_ : (w15).cell? ⟨w6.heap.size + 1, 5, none⟩ = some (.int .i64 0) := cell_of_row _ _ 5 _ _ _ rC333_.out
    have C_6_ : (w15).cell? ⟨w6.heap.size + 1, 6, none⟩ = some (.int .i64 0) := cell_of_row _ _ 6 _ _ _ rC333_.out
    have C_7_ : (w15).cell? ⟨w6.heap.size + 1, 7, none⟩ = some (.slice r2a r2n r2c) := cell_of_row _ _ 7 _ _ _ rC333_.out
    have U_0_ : (w15).cell? ⟨w7.heap.size, 0, none⟩ = some (.int .i64 i0) := cell_of_row _ _ 0 _ _ _ rU334_.out
    have U_1_ : (w15).cell? ⟨w7.heap.size, 1, none⟩ = some (.slice p3a p3n p3c) := cell_of_row _ _ 1 _ _ _ rU334_.out
    have U_2_ : (w15).cell? ⟨w7.heap.size, 2, none⟩ = some (.slice q3a q3n q3c) := cell_of_row _ _ 2 _ _ _ rU334_.out
    have V_0_ : (w15).cell? ⟨w7.heap.size + 1, 0, none⟩ = some (.int .i64 0) := cell_of_row _ _ 0 _ _ _ rV335_.out
    have V_1_ : (w15).cell? ⟨w7.heap.size + 1, 1, none⟩ = some (.int .i64 0) := cell_of_row _ _ 1 _ _ _ rV335_.out
    have V_2_ : (w15).cell? ⟨w7.heap.size + 1, 2, none⟩ = some (.int .i64 0) := cell_of_row _ _ 2 _ _ _ rV335_.out
    have V_3_ : (w15).cell? ⟨w7.heap.size + 1, 3, none⟩ = some (.int .i64 0) := cell_of_row _ _ 3 _ _ _ rV335_.out
    have V_4_ : (w15).cell? ⟨w7.heap.size + 1, 4, none⟩ = some (.int .i64 0) := cell_of_row _ _ 4 _ _ _ rV335_.out
    have V_5_ : (w15).cell? ⟨w7.heap.size + 1, 5, none⟩ = some (.int .i64 0) := cell_of_row _ _ 5 _ _ _ rV335_.out
    have V_6_ : (w15).cell? ⟨w7.heap.size + 1, 6, none⟩ = some (.int .i64 0) := cell_of_row _ _ 6 _ _ _ rV335_.out
    have V_7_ : (w15).cell? ⟨w7.heap.size + 1, 7, none⟩ = some (.slice r3a r3n r3c) := cell_of_row _ _ 7 _ _ _ rV335_.out
    have Z_0_ : (w15).cell? ⟨w7.heap.size + 1 + 1, 0, none⟩ = some (.int .i64 0) := cell_of_row _ _ 0 _ _ _ rZ336_.out
    have Z_1_ : (w15).cell? ⟨w7.heap.size + 1 + 1, 1, none⟩ = some (.int .i64 0) := cell_of_row _ _ 1 _ _ _ rZ336_.out
    have Z_2_ : (w15).cell? ⟨w7.heap.size + 1 + 1, 2, none⟩ = some (.int .i64 0) := cell_of_row _ _ 2 _ _ _ rZ336_.out
    have Z_3_ : (w15).cell? ⟨w7.heap.size + 1 + 1, 3, none⟩ = some (.int .i64 0) := cell_of_row _ _ 3 _ _ _ rZ336_.out
    have Z_4_ : (w15).cell? ⟨w7.heap.size + 1 + 1, 4, none⟩ = some (.int .i64 0) := cell_of_row _ _ 4 _ _ _ rZ336_.out
    have Z_5_ : (w15).cell? ⟨w7.heap.size + 1 + 1, 5, none⟩ = some (.int .i64 0) := cell_of_row _ _ 5 _ _ _ rZ336_.out
    have Z_6_ : (w15).cell? ⟨w7.heap.size + 1 + 1, 6, none⟩ = some (.int .i64 0) := cell_of_row _ _ 6 _ _ _ rZ336_.out
    have Z_7_ : (w15).cell? ⟨w7.heap.size + 1 + 1, 7, none⟩ = some (.slice none 0 0) := cell_of_row _ _ 7 _ _ _ rZ336_.out
    have a1_ : (i0 == i0) = true := by simp
    go_wp2_with fail
    clear T_0_ T_1_ T_2_ M_0_ M_1_ M_2_ N_0_ N_1_ N_2_ N_3_ N_4_ N_5_ N_6_ N_7_ X_0_ X_1_ X_2_ Q_0_ Q_1_ Q_2_ Q_3_ Q_4_ Q_5_ Q_6_ Q_7_ Y_0_ Y_1_ Y_2_ C_0_ C_1_ C_2_ C_3_ C_4_ C_5_ C_6_ C_7_ U_0_ U_1_ U_2_ V_0_ V_1_ V_2_ V_3_ V_4_ V_5_ V_6_ V_7_ Z_0_ Z_1_ Z_2_ Z_3_ Z_4_ Z_5_ Z_6_ Z_7_
    have al_ : (w15).grownBy ((w15).alloc (.cells #[.int .i64 (k : Int)] 3)) none := gby_alloc (gby_refl _ _) _
    have rT346_ := Lib.hid (show ((w15.alloc (.cells #[.int .i64 (k : Int)] 3))).heap[w2.heap.size]? = some (.cells #[.int .i64 i0, .slice a1 n c1, .slice a2 n2 c2] 26 (0, 0)) from row_held al_ rT327_.out)
    clear rT327_
    have rM347_ := Lib.hid (show ((w15.alloc (.cells #[.int .i64 (k : Int)] 3))).heap[w4.heap.size]? = some (.cells #[.int .i64 i0, .slice p0a p0n p0c, .slice q0a q0n q0c] 26 (0, 0)) from row_held al_ rM328_.out)
    clear rM328_
    have rN348_ := Lib.hid (show ((w15.alloc (.cells #[.int .i64 (k : Int)] 3))).heap[w4.heap.size + 1]? = some (.cells #[.int .i64 0, .int .i64 0, .int .i64 0, .int .i64 0, .int .i64 0, .int .i64 0, .int .i64 0, .slice r0a r0n r0c] 29 (0, 0)) from row_held al_ rN329_.out)
    clear rN329_
    have rX349_ := Lib.hid (show ((w15.alloc (.cells #[.int .i64 (k : Int)] 3))).heap[w5.heap.size]? = some (.cells #[.int .i64 i0, .slice p1a p1n p1c, .slice q1a q1n q1c] 26 (0, 0)) from row_held al_ rX330_.out)
    clear rX330_
    have rQ350_ := Lib.hid (show ((w15.alloc (.cells #[.int .i64 (k : Int)] 3))).heap[w5.heap.size + 1]? = some (.cells #[.int .i64 0, .int .i64 0, .int .i64 0, .int .i64 0, .int .i64 0, .int .i64 0, .int .i64 0, .slice r1a r1n r1c] 29 (0, 0)) from row_held al_ rQ331_.out)
    clear rQ331_
    have rY351_ := Lib.hid (show ((w15.alloc (.cells #[.int .i64 (k : Int)] 3))).heap[w6.heap.size]? = some (.cells #[.int .i64 i0, .slice p2a p2n p2c, .slice q2a q2n q2c] 26 (0, 0)) from row_held al_ rY332_.out)
    clear rY332_
    have rC352_ := Lib.hid (show ((w15.alloc (.cells #[.int .i64 (k : Int)] 3))).heap[w6.heap.size + 1]? = some (.cells #[.int .i64 1, .int .i64 33, .int .i64 0, .int .i64 i0, .int .i64 0, .int .i64 0, .int .i64 0, .slice r2a r2n r2c] 29 (0, 0)) from row_held al_ rC333_.out)
    clear rC333_
    have rU353_ := Lib.hid (show ((w15.alloc (.cells #[.int .i64 (k : Int)] 3))).heap[w7.heap.size]? = some (.cells #[.int .i64 i0, .slice p3a p3n p3c, .slice q3a q3n q3c] 26 (0, 0)) from row_held al_ rU334_.out)
    clear rU334_
    have rV354_ := Lib.hid (show ((w15.alloc (.cells #[.int .i64 (k : Int)] 3))).heap[w7.heap.size + 1]? = some (.cells #[.int .i64 0, .int .i64 0, .int .i64 0, .int .i64 0, .int .i64 0, .int .i64 0, .int .i64 0, .slice r3a r3n r3c] 29 (0, 0)) from row_held al_ rV335_.out)
    clear rV335_
    have rZ355_ := Lib.hid (show ((w15.alloc (.cells #[.int .i64 (k : Int)] 3))).heap[w7.heap.size + 1 + 1]? = some (.cells #[.int .i64 0, .int .i64 0, .int .i64 0, .int .i64 0, .int .i64 0, .int .i64 0, .int .i64 0, .slice none 0 0] 29 (0, 0)) from row_held al_ rZ336_.out)
    clear rZ336_
    have G356_ := Lib.hid (show (W).grownBy ((w15.alloc (.cells #[.int .i64 (k : Int)] 3))) none from gby_trans G337_.out al_)
    have HTt357_ := Lib.hid (show (w2).grownBy ((w15.alloc (.cells #[.int .i64 (k : Int)] 3))) none from gby_trans HTt338_.out al_)
    clear HTt338_
    have HTP358_ := Lib.hid (show (w3).grownBy ((w15.alloc (.cells #[.int .i64 (k : Int)] 3))) none from gby_trans HTP339_.out al_)
    clear HTP339_
    have HTm1359_ := Lib.hid (show (w4).grownBy ((w15.alloc (.cells #[.int .i64 (k : Int)] 3))) none from gby_trans HTm1340_.out al_)
    clear HTm1340_
    have HTm2360_ := Lib.hid (show (w5).grownBy ((w15.alloc (.cells #[.int .i64 (k : Int)] 3))) none from gby_trans HTm2341_.out al_)
    clear HTm2341_
    have HTm3361_ := Lib.hid (show (w6).grownBy ((w15.alloc (.cells #[.int .i64 (k : Int)] 3))) none from gby_trans HTm3342_.out al_)
    clear HTm3342_
    have HTm4362_ := Lib.hid (show (w7).grownBy ((w15.alloc (.cells #[.int .i64 (k : Int)] 3))) none from gby_trans HTm4343_.out al_)
    clear HTm4343_
    have HTl2363_ := Lib.hid (show (w11).grownBy ((w15.alloc (.cells #[.int .i64 (k : Int)] 3))) none from gby_trans HTl2344_.out al_)
    clear HTl2344_
    have HTl3364_ := Lib.hid (show (w13).grownBy ((w15.alloc (.cells #[.int .i64 (k : Int)] 3))) none from gby_trans HTl3345_.out al_)
    clear HTl3345_
    have rK1365_ := Lib.hid (show ((w15.alloc (.cells #[.int .i64 (k : Int)] 3))).heap[w15.heap.size]? = some (.cells #[.int .i64 (k : Int)] 3 (0, 0)) from by first | exact heap_alloc_new _ _ | exact heap_pair _ _ _ | exact heap_trip _ _ _ _)
    clear al_
    have T_0_ : ((w15.alloc (.cells #[.int .i64 (k : Int)] 3))).cell? ⟨w2.heap.size, 0, none⟩ = some (.int .i64 i0) := cell_of_row _ _ 0 _ _ _ rT346_.out
    have T_1_ : ((w15.alloc (.cells #[.int .i64 (k : Int)] 3))).cell? ⟨w2.heap.size, 1, none⟩ = some (.slice a1 n c1) := cell_of_row _ _ 1 _ _ _ rT346_.out
    have T_2_ : ((w15.alloc (.cells #[.int .i64 (k : Int)] 3))).cell? ⟨w2.heap.size, 2, none⟩ = some (.slice a2 n2 c2) := cell_of_row _ _ 2 _ _ _ rT346_.out
    have M_0_ : ((w15.alloc (.cells #[.int .i64 (k : Int)] 3))).cell? ⟨w4.heap.size, 0, none⟩ = some (.int .i64 i0) := cell_of_row _ _ 0 _ _ _ rM347_.out
    have M_1_ : ((w15.alloc (.cells #[.int .i64 (k : Int)] 3))).cell? ⟨w4.heap.size, 1, none⟩ = some (.slice p0a p0n p0c) := cell_of_row _ _ 1 _ _ _ rM347_.out
    have M_2_ : ((w15.alloc (.cells #[.int .i64 (k : Int)] 3))).cell? ⟨w4.heap.size, 2, none⟩ = some (.slice q0a q0n q0c) := cell_of_row _ _ 2 _ _ _ rM347_.out
    have N_0_ : ((w15.alloc (.cells #[.int .i64 (k : Int)] 3))).cell? ⟨w4.heap.size + 1, 0, none⟩ = some (.int .i64 0) := cell_of_row _ _ 0 _ _ _ rN348_.out
    have N_1_ : ((w15.alloc (.cells #[.int .i64 (k : Int)] 3))).cell? ⟨w4.heap.size + 1, 1, none⟩ = some (.int .i64 0) := cell_of_row _ _ 1 _ _ _ rN348_.out
    have N_2_ : ((w15.alloc (.cells #[.int .i64 (k : Int)] 3))).cell? ⟨w4.heap.size + 1, 2, none⟩ = some (.int .i64 0) := cell_of_row _ _ 2 _ _ _ rN348_.out
    have N_3_ : ((w15.alloc (.cells #[.int .i64 (k : Int)] 3))).cell? ⟨w4.heap.size + 1, 3, none⟩ = some (.int .i64 0) := cell_of_row _ _ 3 _ _ _ rN348_.out
    have N_4_ : ((w15.alloc (.cells #[.int .i64 (k : Int)] 3))).cell? ⟨w4.heap.size + 1, 4, none⟩ = some (.int .i64 0) := cell_of_row _ _ 4 _ _ _ rN348_.out
    have N_5_ : ((w15.alloc (.cells #[.int .i64 (k : Int)] 3))).cell? ⟨w4.heap.size + 1, 5, none⟩ = some (.int .i64 0) := cell_of_row _ _ 5 _ _ _ rN348_.out
    have N_6_ : ((w15.alloc (.cells #[.int .i64 (k : Int)] 3))).cell? ⟨w4.heap.size + 1, 6, none⟩ = some (.int .i64 0) := cell_of_row _ _ 6 _ _ _ rN348_.out
    have N_7_ : ((w15.alloc (.cells #[.int .i64 (k : Int)] 3))).cell? ⟨w4.heap.size + 1, 7, none⟩ = some (.slice r0a r0n r0c) := cell_of_row _ _ 7 _ _ _ rN348_.out
    have X_0_ : ((w15.alloc (.cells #[.int .i64 (k : Int)] 3))).cell? ⟨w5.heap.size, 0, none⟩ = some (.int .i64 i0) := cell_of_row _ _ 0 _ _ _ rX349_.out
    have X_1_ : ((w15.alloc (.cells #[.int .i64 (k : Int)] 3))).cell? ⟨w5.heap.size, 1, none⟩ = some (.slice p1a p1n p1c) := cell_of_row _ _ 1 _ _ _ rX349_.out
    have X_2_ : ((w15.alloc (.cells #[.int .i64 (k : Int)] 3))).cell? ⟨w5.heap.size, 2, none⟩ = some (.slice q1a q1n q1c) := cell_of_row _ _ 2 _ _ _ rX349_.out
    have Q_0_ : ((w15.alloc (.cells #[.int .i64 (k : Int)] 3))).cell? ⟨w5.heap.size + 1, 0, none⟩ = some (.int .i64 0) := cell_of_row _ _ 0 _ _ _ rQ350_.out
    have Q_1_ : ((w15.alloc (.cells #[.int .i64 (k : Int)] 3))).cell? ⟨w5.heap.size + 1, 1, none⟩ = some (.int .i64 0) := cell_of_row _ _ 1 _ _ _ rQ350_.out
    have Q_2_ : ((w15.alloc (.cells #[.int .i64 (k : Int)] 3))).cell? ⟨w5.heap.size + 1, 2, none⟩ = some (.int .i64 0) := cell_of_row _ _ 2 _ _ _ rQ350_.out
    have Q_3_ : ((w15.alloc (.cells #[.int .i64 (k : Int)] 3))).cell? ⟨w5.heap.size + 1, 3, none⟩ = some (.int .i64 0) := cell_of_row _ _ 3 _ _ _ rQ350_.out
    have Q_4_ : ((w15.alloc (.cells #[.int .i64 (k : Int)] 3))).cell? ⟨w5.heap.size + 1, 4, none⟩ = some (.int .i64 0) := cell_of_row _ _ 4 _ _ _ rQ350_.out
    have Q_5_ : ((w15.alloc (.cells #[.int .i64 (k : Int)] 3))).cell? ⟨w5.heap.size + 1, 5, none⟩ = some (.int .i64 0) := cell_of_row _ _ 5 _ _ _ rQ350_.out
    have Q_6_ : ((w15.alloc (.cells #[.int .i64 (k : Int)] 3))).cell? ⟨w5.heap.size + 1, 6, none⟩ = some (.int .i64 0) := cell_of_row _ _ 6 _ _ _ rQ350_.out
    have Q_7_ : ((w15.alloc (.cells #[.int .i64 (k : Int)] 3))).cell? ⟨w5.heap.size + 1, 7, none⟩ = some (.slice r1a r1n r1c) := cell_of_row _ _ 7 _ _ _ rQ350_.out
    have Y_0_ : ((w15.alloc (.cells #[.int .i64 (k : Int)] 3))).cell? ⟨w6.heap.size, 0, none⟩ = some (.int .i64 i0) := cell_of_row _ _ 0 _ _ _ rY351_.out
    have Y_1_ : ((w15.alloc (.cells #[.int .i64 (k : Int)] 3))).cell? ⟨w6.heap.size, 1, none⟩ = some (.slice p2a p2n p2c) := cell_of_row _ _ 1 _ _ _ rY351_.out
    have Y_2_ : ((w15.alloc (.cells #[.int .i64 (k : Int)] 3))).cell? ⟨w6.heap.size, 2, none⟩ = some (.slice q2a q2n q2c) := cell_of_row _ _ 2 _ _ _ rY351_.out
    have C_0_ : ((w15.alloc (.cells #[.int .i64 (k : Int)] 3))).cell? ⟨w6.heap.size + 1, 0, none⟩ = some (.int .i64 1) := cell_of_row _ _ 0 _ _ _ rC352_.out
    have C_1_ : ((w15.alloc (.cells #[.int .i64 (k : Int)] 3))).cell? ⟨w6.heap.size + 1, 1, none⟩ = some (.int .i64 33) := cell_of_row _ _ 1 _ _ _ rC352_.out
    have C_2_ : ((w15.alloc (.cells #[.int .i64 (k : Int)] 3))).cell? ⟨w6.heap.size + 1, 2, none⟩ = some (.int .i64 0) := cell_of_row _ _ 2 _ _ _ rC352_.out
    have C_3_ : ((w15.alloc (.cells #[.int .i64 (k : Int)] 3))).cell? ⟨w6.heap.size + 1, 3, none⟩ = some (.int .i64 i0) := cell_of_row _ _ 3 _ _ _ rC352_.out
    have C_4_ : ((w15.alloc (.cells #[.int .i64 (k : Int)] 3))).cell? ⟨w6.heap.size + 1, 4, none⟩ = some (.int .i64 0) := cell_of_row _ _ 4 _ _ _ rC352_.out
    have C_5_ : ((w15.alloc (.cells #[.int .i64 (k : Int)] 3))).cell? ⟨w6.heap.size + 1, 5, none⟩ = some (.int .i64 0) := cell_of_row _ _ 5 _ _ _ rC352_.out
    have C_6_ : ((w15.alloc (.cells #[.int .i64 (k : Int)] 3))).cell? ⟨w6.heap.size + 1, 6, none⟩ = some (.int .i64 0) := cell_of_row _ _ 6 _ _ _ rC352_.out
    have C_7_ : ((w15.alloc (.cells #[.int .i64 (k : Int)] 3))).cell? ⟨w6.heap.size + 1, 7, none⟩ = some (.slice r2a r2n r2c) := cell_of_row _ _ 7 _ _ _ rC352_.out
    have U_0_ : ((w15.alloc (.cells #[.int .i64 (k : Int)] 3))).cell? ⟨w7.heap.size, 0, none⟩ = some (.int .i64 i0) := cell_of_row _ _ 0 _ _ _ rU353_.out
    have U_1_ : ((w15.alloc (.cells #[.int .i64 (k : Int)] 3))).cell? ⟨w7.heap.size, 1, none⟩ = some (.slice p3a p3n p3c) := cell_of_row _ _ 1 _ _ _ rU353_.out
    have U_2_ : ((w15.alloc (.cells #[.int .i64 (k : Int)] 3))).cell? ⟨w7.heap.size, 2, none⟩ = some (.slice q3a q3n q3c) := cell_of_row _ _ 2 _ _ _ rU353_.out
    have V_0_ : ((w15.alloc (.cells #[.int .i64 (k : Int)] 3))).cell? ⟨w7.heap.size + 1, 0, none⟩ = some (.int .i64 0) := cell_of_row _ _ 0 _ _ _ rV354_.out
    have V_1_ : ((w15.alloc (.cells #[.int .i64 (k : Int)] 3))).cell? ⟨w7.heap.size + 1, 1, none⟩ = some (.int .i64 0) := cell_of_row _ _ 1 _ _ _ rV354_.out
    have V_2_ : ((w15.alloc (.cells #[.int .i64 (k : Int)] 3))).cell? ⟨w7.heap.size + 1, 2, none⟩ = some (.int .i64 0) := cell_of_row _ _ 2 _ _ _ rV354_.out
    have V_3_ : ((w15.alloc (.cells #[.int .i64 (k : Int)] 3))).cell? ⟨w7.heap.size + 1, 3, none⟩ = some (.int .i64 0) := cell_of_row _ _ 3 _ _ _ rV354_.out
    have V_4_ : ((w15.alloc (.cells #[.int .i64 (k : Int)] 3))).cell? ⟨w7.heap.size + 1, 4, none⟩ = some (.int .i64 0) := cell_of_row _ _ 4 _ _ _ rV354_.out
    have V_5_ : ((w15.alloc (.cells #[.int .i64 (k : Int)] 3))).cell? ⟨w7.heap.size + 1, 5, none⟩ = some (.int .i64 0) := cell_of_row _ _ 5 _ _ _ rV354_.out
    have V_6_ : ((w15.alloc (.cells #[.int .i64 (k : Int)] 3))).cell? ⟨w7.heap.size + 1, 6, none⟩ = some (.int .i64 0) := cell_of_row _ _ 6 _ _ _ rV354_.out
    have V_7_ : ((w15.alloc (.cells #[.int .i64 (k : Int)] 3))).cell? ⟨w7.heap.size + 1, 7, none⟩ = some (.slice r3a r3n r3c) := cell_of_row _ _ 7 _ _ _ rV354_.out
    have Z_0_ : ((w15.alloc (.cells #[.int .i64 (k : Int)] 3))).cell? ⟨w7.heap.size + 1 + 1, 0, none⟩ = some (.int .i64 0) := cell_of_row _ _ 0 _ _ _ rZ355_.out
    have Z_1_ : ((w15.alloc (.cells #[.int .i64 (k : Int)] 3))).cell? ⟨w7.heap.size + 1 + 1, 1, none⟩ = some (.int .i64 0) := cell_of_row _ _ 1 _ _ _ rZ355_.out
    have Z_2_ : ((w15.alloc (.cells #[.int .i64 (k : Int)] 3))).cell? ⟨w7.heap.size + 1 + 1, 2, none⟩ = some (.int .i64 0) := cell_of_row _ _ 2 _ _ _ rZ355_.out
    have Z_3_ : ((w15.alloc (.cells #[.int .i64 (k : Int)] 3))).cell? ⟨w7.heap.size + 1 + 1, 3, none⟩ = some (.int .i64 0) := cell_of_row _ _ 3 _ _ _ rZ355_.out
    have Z_4_ : ((w15.alloc (.cells #[.int .i64 (k : Int)] 3))).cell? ⟨w7.heap.size + 1 + 1, 4, none⟩ = some (.int .i64 0) := cell_of_row _ _ 4 _ _ _ rZ355_.out
    have Z_5_ : ((w15.alloc (.cells #[.int .i64 (k : Int)] 3))).cell? ⟨w7.heap.size + 1 + 1, 5, none⟩ = some (.int .i64 0) := cell_of_row _ _ 5 _ _ _ rZ355_.out
    have Z_6_ : ((w15.alloc (.cells #[.int .i64 (k : Int)] 3))).cell? ⟨w7.heap.size + 1 + 1, 6, none⟩ = some (.int .i64 0) := cell_of_row _ _ 6 _ _ _ rZ355_.out
    have Z_7_ : ((w15.alloc (.cells #[.int .i64 (k : Int)] 3))).cell? ⟨w7.heap.size + 1 + 1, 7, none⟩ = some (.slice none 0 0) := cell_of_row _ _ 7 _ _ _ rZ355_.out
    have K1_0_ : ((w15.alloc (.cells #[.int .i64 (k : Int)] 3))).cell? ⟨w15.heap.size, 0, none⟩ = some (.int .i64 (k : Int)) := cell_of_row _ _ 0 _ _ _ rK1365_.out
    have isd_ := HC3.out.grow HTm3361_.out
    have HDI := Lib.hid (show ISl ((w15.alloc (.cells #[.int .i64 (k : Int)] 3))) r2a r2n [(k : Int)] from by
      obtain ⟨da_, dc_, hd_, di_, _⟩ := rdI_in isd_
      injection hd_ with d1_ d2_ d3_
      rw [d1_, d2_]
      exact di_)
    have hr2_ : r2n ≤ 1048576 := by have q := HDI.out.1; simp at q; omega
    clear isd_
    go_at_call 31
    refine (sameInts_any _ _ _ _ _ _ _ [(k : Int)] [(k : Int)] HDI.out ⟨rfl, .inr ⟨_, 0, rfl, fun j hj => by (obtain rfl : j = 0 := (by simpa using hj)); exact K1_0_⟩⟩ hr2_ (by simp)).mono ?_
    rintro e w16 ⟨rfl, hd⟩
    have g := hd.gby none
    clear hd
    have szw16 := g.size
    try simp only [World.size_alloc] at szw16
    clear T_0_ T_1_ T_2_ M_0_ M_1_ M_2_ N_0_ N_1_ N_2_ N_3_ N_4_ N_5_ N_6_ N_7_ X_0_ X_1_ X_2_ Q_0_ Q_1_ Q_2_ Q_3_ Q_4_ Q_5_ Q_6_ Q_7_ Y_0_ Y_1_ Y_2_ C_0_ C_1_ C_2_ C_3_ C_4_ C_5_ C_6_ C_7_ U_0_ U_1_ U_2_ V_0_ V_1_ V_2_ V_3_ V_4_ V_5_ V_6_ V_7_ Z_0_ Z_1_ Z_2_ Z_3_ Z_4_ Z_5_ Z_6_ Z_7_ K1_0_
    have rT366_ := Lib.hid (show (w16).heap[w2.heap.size]? = some (.cells #[.int .i64 i0, .slice a1 n c1, .slice a2 n2 c2] 26 (0, 0)) from row_held g rT346_.out)
    clear rT346_
    have rM367_ := Lib.hid (show (w16).heap[w4.heap.size]? = some (.cells #[.int .i64 i0, .slice p0a p0n p0c, .slice q0a q0n q0c] 26 (0, 0)) from row_held g rM347_.out)
    clear rM347_
    have rN368_ := Lib.hid (show (w16).heap[w4.heap.size + 1]? = some (.cells #[.int .i64 0, .int .i64 0, .int .i64 0, .int .i64 0, .int .i64 0, .int .i64 0, .int .i64 0, .slice r0a r0n r0c] 29 (0, 0)) from row_held g rN348_.out)
    clear rN348_
    have rX369_ := Lib.hid (show (w16).heap[w5.heap.size]? = some (.cells #[.int .i64 i0, .slice p1a p1n p1c, .slice q1a q1n q1c] 26 (0, 0)) from row_held g rX349_.out)
    clear rX349_
    have rQ370_ := Lib.hid (show (w16).heap[w5.heap.size + 1]? = some (.cells #[.int .i64 0, .int .i64 0, .int .i64 0, .int .i64 0, .int .i64 0, .int .i64 0, .int .i64 0, .slice r1a r1n r1c] 29 (0, 0)) from row_held g rQ350_.out)
    clear rQ350_
    have rY371_ := Lib.hid (show (w16).heap[w6.heap.size]? = some (.cells #[.int .i64 i0, .slice p2a p2n p2c, .slice q2a q2n q2c] 26 (0, 0)) from row_held g rY351_.out)
    clear rY351_
    have rC372_ := Lib.hid (show (w16).heap[w6.heap.size + 1]? = some (.cells #[.int .i64 1, .int .i64 33, .int .i64 0, .int .i64 i0, .int .i64 0, .int .i64 0, .int .i64 0, .slice r2a r2n r2c] 29 (0, 0)) from row_held g rC352_.out)
    clear rC352_
    have rU373_ := Lib.hid (show (w16).heap[w7.heap.size]? = some (.cells #[.int .i64 i0, .slice p3a p3n p3c, .slice q3a q3n q3c] 26 (0, 0)) from row_held g rU353_.out)
    clear rU353_
    have rV374_ := Lib.hid (show (w16).heap[w7.heap.size + 1]? = some (.cells #[.int .i64 0, .int .i64 0, .int .i64 0, .int .i64 0, .int .i64 0, .int .i64 0, .int .i64 0, .slice r3a r3n r3c] 29 (0, 0)) from row_held g rV354_.out)
    clear rV354_
    have rZ375_ := Lib.hid (show (w16).heap[w7.heap.size + 1 + 1]? = some (.cells #[.int .i64 0, .int .i64 0, .int .i64 0, .int .i64 0, .int .i64 0, .int .i64 0, .int .i64 0, .slice none 0 0] 29 (0, 0)) from row_held g rZ355_.out)
    clear rZ355_
    have rK1376_ := Lib.hid (show (w16).heap[w15.heap.size]? = some (.cells #[.int .i64 (k : Int)] 3 (0, 0)) from row_held g rK1365_.out)
    clear rK1365_
    have G377_ := Lib.hid (show (W).grownBy (w16) none from gby_trans G356_.out g)
    have HTt378_ := Lib.hid (show (w2).grownBy (w16) none from gby_trans HTt357_.out g)
    clear HTt357_
    have HTP379_ := Lib.hid (show (w3).grownBy (w16) none from gby_trans HTP358_.out g)
    clear HTP358_
    have HTm1380_ := Lib.hid (show (w4).grownBy (w16) none from gby_trans HTm1359_.out g)
    clear HTm1359_
    have HTm2381_ := Lib.hid (show (w5).grownBy (w16) none from gby_trans HTm2360_.out g)
    clear HTm2360_
    have HTm3382_ := Lib.hid (show (w6).grownBy (w16) none from gby_trans HTm3361_.out g)
    clear HTm3361_
    have HTm4383_ := Lib.hid (show (w7).grownBy (w16) none from gby_trans HTm4362_.out g)
    clear HTm4362_
    have HTl2384_ := Lib.hid (show (w11).grownBy (w16) none from gby_trans HTl2363_.out g)
    clear HTl2363_
    have HTl3385_ := Lib.hid (show (w13).grownBy (w16) none from gby_trans HTl3364_.out g)
    clear HTl3364_
    clear g
    have T_0_ : (w16).cell? ⟨w2.heap.size, 0, none⟩ = some (.int .i64 i0) := cell_of_row _ _ 0 _ _ _ rT366_.out
    have T_1_ : (w16).cell? ⟨w2.heap.size, 1, none⟩ = some (.slice a1 n c1) := cell_of_row _ _ 1 _ _ _ rT366_.out
    have T_2_ : (w16).cell? ⟨w2.heap.size, 2, none⟩ = some (.slice a2 n2 c2) := cell_of_row _ _ 2 _ _ _ rT366_.out
    have M_0_ : (w16).cell? ⟨w4.heap.size, 0, none⟩ = some (.int .i64 i0) := cell_of_row _ _ 0 _ _ _ rM367_.out
    have M_1_ : (w16).cell? ⟨w4.heap.size, 1, none⟩ = some (.slice p0a p0n p0c) := cell_of_row _ _ 1 _ _ _ rM367_.out
    have M_2_ : (w16).cell? ⟨w4.heap.size, 2, none⟩ = some (.slice q0a q0n q0c) := cell_of_row _ _ 2 _ _ _ rM367_.out
    have N_0_ : (w16).cell? ⟨w4.heap.size + 1, 0, none⟩ = some (.int .i64 0) := cell_of_row _ _ 0 _ _ _ rN368_.out
    have N_1_ : (w16).cell? ⟨w4.heap.size + 1, 1, none⟩ = some (.int .i64 0) := cell_of_row _ _ 1 _ _ _ rN368_.out
    have N_2_ : (w16).cell? ⟨w4.heap.size + 1, 2, none⟩ = some (.int .i64 0) := cell_of_row _ _ 2 _ _ _ rN368_.out
    have N_3_ : (w16).cell? ⟨w4.heap.size + 1, 3, none⟩ = some (.int .i64 0) := cell_of_row _ _ 3 _ _ _ rN368_.out
    have N_4_ : (w16).cell? ⟨w4.heap.size + 1, 4, none⟩ = some (.int .i64 0) := cell_of_row _ _ 4 _ _ _ rN368_.out
    have N_5_ : (w16).cell? ⟨w4.heap.size + 1, 5, none⟩ = some (.int .i64 0) := cell_of_row _ _ 5 _ _ _ rN368_.out
    have N_6_ : (w16).cell? ⟨w4.heap.size + 1, 6, none⟩ = some (.int .i64 0) := cell_of_row _ _ 6 _ _ _ rN368_.out
    have N_7_ : (w16).cell? ⟨w4.heap.size + 1, 7, none⟩ = some (.slice r0a r0n r0c) := cell_of_row _ _ 7 _ _ _ rN368_.out
    have X_0_ : (w16).cell? ⟨w5.heap.size, 0, none⟩ = some (.int .i64 i0) := cell_of_row _ _ 0 _ _ _ rX369_.out
    have X_1_ : (w16).cell? ⟨w5.heap.size, 1, none⟩ = some (.slice p1a p1n p1c) := cell_of_row _ _ 1 _ _ _ rX369_.out
    have X_2_ : (w16).cell? ⟨w5.heap.size, 2, none⟩ = some (.slice q1a q1n q1c) := cell_of_row _ _ 2 _ _ _ rX369_.out
    have Q_0_ : (w16).cell? ⟨w5.heap.size + 1, 0, none⟩ = some (.int .i64 0) := cell_of_row _ _ 0 _ _ _ rQ370_.out
    have Q_1_ : (w16).cell? ⟨w5.heap.size + 1, 1, none⟩ = some (.int .i64 0) := cell_of_row _ _ 1 _ _ _ rQ370_.out
    have Q_2_ : (w16).cell? ⟨w5.heap.size + 1, 2, none⟩ = some (.int .i64 0) := cell_of_row _ _ 2 _ _ _ rQ370_.out
    have Q_3_ : (w16).cell? ⟨w5.heap.size + 1, 3, none⟩ = some (.int .i64 0) := cell_of_row _ _ 3 _ _ _ rQ370_.out
    have Q_4_ : (w16).cell? ⟨w5.heap.size + 1, 4, none⟩ = some (.int .i64 0) := cell_of_row _ _ 4 _ _ _ rQ370_.out
    have Q_5_ : (w16).cell? ⟨w5.heap.size + 1, 5, none⟩ = some (.int .i64 0) := cell_of_row _ _ 5 _ _ _ rQ370_.out
    have Q_6_ : (w16).cell? ⟨w5.heap.size + 1, 6, none⟩ = some (.int .i64 0) := cell_of_row _ _ 6 _ _ _ rQ370_.out
    have Q_7_ : (w16).cell? ⟨w5.heap.size + 1, 7, none⟩ = some (.slice r1a r1n r1c) := cell_of_row _ _ 7 _ _ _ rQ370_.out
    have Y_0_ : (w16).cell? ⟨w6.heap.size, 0, none⟩ = some (.int .i64 i0) := cell_of_row _ _ 0 _ _ _ rY371_.out
    have Y_1_ : (w16).cell? ⟨w6.heap.size, 1, none⟩ = some (.slice p2a p2n p2c) := cell_of_row _ _ 1 _ _ _ rY371_.out
    have Y_2_ : (w16).cell? ⟨w6.heap.size, 2, none⟩ = some (.slice q2a q2n q2c) := cell_of_row _ _ 2 _ _ _ rY371_.out
    have C_0_ : (w16).cell? ⟨w6.heap.size + 1, 0, none⟩ = some (.int .i64 1) := cell_of_row _ _ 0 _ _ _ rC372_.out
    have C_1_ : (w16).cell? ⟨w6.heap.size + 1, 1, none⟩ = some (.int .i64 33) := cell_of_row _ _ 1 _ _ _ rC372_.out
    have C_2_ : (w16).cell? ⟨w6.heap.size + 1, 2, none⟩ = some (.int .i64 0) := cell_of_row _ _ 2 _ _ _ rC372_.out
    have C_3_ : (w16).cell? ⟨w6.heap.size + 1, 3, none⟩ = some (.int .i64 i0) := cell_of_row _ _ 3 _ _ _ rC372_.out
    have C_4_ : (w16).cell? ⟨w6.heap.size + 1, 4, none⟩ = some (.int .i64 0) := cell_of_row _ _ 4 _ _ _ rC372_.out
    have C_5_ : (w16).cell? ⟨w6.heap.size + 1, 5, none⟩ = some (.int .i64 0) := cell_of_row _ _ 5 _ _ _ rC372_.out
    have C_6_ : (w16).cell? ⟨w6.heap.size + 1, 6, none⟩ = some (.int .i64 0) := cell_of_row _ _ 6 _ _ _ rC372_.out
    have C_7_ : (w16).cell? ⟨w6.heap.size + 1, 7, none⟩ = some (.slice r2a r2n r2c) := cell_of_row _ _ 7 _ _ _ rC372_.out
    have U_0_ : (w16).cell? ⟨w7.heap.size, 0, none⟩ = some (.int .i64 i0) := cell_of_row _ _ 0 _ _ _ rU373_.out
    have U_1_ : (w16).cell? ⟨w7.heap.size, 1, none⟩ = some (.slice p3a p3n p3c) := cell_of_row _ _ 1 _ _ _ rU373_.out
    have U_2_ : (w16).cell? ⟨w7.heap.size, 2, none⟩ = some (.slice q3a q3n q3c) := cell_of_row _ _ 2 _ _ _ rU373_.out
    have V_0_ : (w16).cell? ⟨w7.heap.size + 1, 0, none⟩ = some (.int .i64 0) := cell_of_row _ _ 0 _ _ _ rV374_.out
    have V_1_ : (w16).cell? ⟨w7.heap.size + 1, 1, none⟩ = some (.int .i64 0) := cell_of_row _ _ 1 _ _ _ rV374_.out
    have V_2_ : (w16).cell? ⟨w7.heap.size + 1, 2, none⟩ = some (.int .i64 0) := cell_of_row _ _ 2 _ _ _ rV374_.out
    have V_3_ : (w16).cell? ⟨w7.heap.size + 1, 3, none⟩ = some (.int .i64 0) := cell_of_row _ _ 3 _ _ _ rV374_.out
    have V_4_ : (w16).cell? ⟨w7.heap.size + 1, 4, none⟩ = some (.int .i64 0) := cell_of_row _ _ 4 _ _ _ rV374_.out
    have V_5_ : (w16).cell? ⟨w7.heap.size + 1, 5, none⟩ = some (.int .i64 0) := cell_of_row _ _ 5 _ _ _ rV374_.out
    have V_6_ : (w16).cell? ⟨w7.heap.size + 1, 6, none⟩ = some (.int .i64 0) := cell_of_row _ _ 6 _ _ _ rV374_.out
    have V_7_ : (w16).cell? ⟨w7.heap.size + 1, 7, none⟩ = some (.slice r3a r3n r3c) := cell_of_row _ _ 7 _ _ _ rV374_.out
    have Z_0_ : (w16).cell? ⟨w7.heap.size + 1 + 1, 0, none⟩ = some (.int .i64 0) := cell_of_row _ _ 0 _ _ _ rZ375_.out
    have Z_1_ : (w16).cell? ⟨w7.heap.size + 1 + 1, 1, none⟩ = some (.int .i64 0) := cell_of_row _ _ 1 _ _ _ rZ375_.out
    have Z_2_ : (w16).cell? ⟨w7.heap.size + 1 + 1, 2, none⟩ = some (.int .i64 0) := cell_of_row _ _ 2 _ _ _ rZ375_.out
    have Z_3_ : (w16).cell? ⟨w7.heap.size + 1 + 1, 3, none⟩ = some (.int .i64 0) := cell_of_row _ _ 3 _ _ _ rZ375_.out
    have Z_4_ : (w16).cell? ⟨w7.heap.size + 1 + 1, 4, none⟩ = some (.int .i64 0) := cell_of_row _ _ 4 _ _ _ rZ375_.out
    have Z_5_ : (w16).cell? ⟨w7.heap.size + 1 + 1, 5, none⟩ = some (.int .i64 0) := cell_of_row _ _ 5 _ _ _ rZ375_.out
    have Z_6_ : (w16).cell? ⟨w7.heap.size + 1 + 1, 6, none⟩ = some (.int .i64 0) := cell_of_row _ _ 6 _ _ _ rZ375_.out
    have Z_7_ : (w16).cell? ⟨w7.heap.size + 1 + 1, 7, none⟩ = some (.slice none 0 0) := cell_of_row _ _ 7 _ _ _ rZ375_.out
    have K1_0_ : (w16).cell? ⟨w15.heap.size, 0, none⟩ = some (.int .i64 (k : Int)) := cell_of_row _ _ 0 _ _ _ rK1376_.out
    have d1_ : decide (([(k : Int)] : List Int) = [(k : Int)]) = true := decide_eq_true rfl
    go_wp2_with fail
    go_at_call 27
    refine (same_zero _ _ _ (HC4.out.grow HTm4383_.out) (rdI_none _)).mono ?_
    rintro e w17 ⟨rfl, g⟩
    have szw17 := g.size
    try simp only [World.size_alloc] at szw17
    clear T_0_ T_1_ T_2_ M_0_ M_1_ M_2_ N_0_ N_1_ N_2_ N_3_ N_4_ N_5_ N_6_ N_7_ X_0_ X_1_ X_2_ Q_0_ Q_1_ Q_2_ Q_3_ Q_4_ Q_5_ Q_6_ Q_7_ Y_0_ Y_1_ Y_2_ C_0_ C_1_ C_2_ C_3_ C_4_ C_5_ C_6_ C_7_ U_0_ U_1_ U_2_ V_0_ V_1_ V_2_ V_3_ V_4_ V_5_ V_6_ V_7_ Z_0_ Z_1_ Z_2_ Z_3_ Z_4_ Z_5_ Z_6_ Z_7_ K1_0_
    have rT386_ := Lib.hid (show (w17).heap[w2.heap.size]? = some (.cells #[.int .i64 i0, .slice a1 n c1, .slice a2 n2 c2] 26 (0, 0)) from row_held g rT366_.out)
    clear rT366_
    have rM387_ := Lib.hid (show (w17).heap[w4.heap.size]? = some (.cells #[.int .i64 i0, .slice p0a p0n p0c, .slice q0a q0n q0c] 26 (0, 0)) from row_held g rM367_.out)
    clear rM367_
    have rN388_ := Lib.hid (show (w17).heap[w4.heap.size + 1]? = some (.cells #[.int .i64 0, .int .i64 0, .int .i64 0, .int .i64 0, .int .i64 0, .int .i64 0, .int .i64 0, .slice r0a r0n r0c] 29 (0, 0)) from row_held g rN368_.out)
    clear rN368_
    have rX389_ := Lib.hid (show (w17).heap[w5.heap.size]? = some (.cells #[.int .i64 i0, .slice p1a p1n p1c, .slice q1a q1n q1c] 26 (0, 0)) from row_held g rX369_.out)
    clear rX369_
    have rQ390_ := Lib.hid (show (w17).heap[w5.heap.size + 1]? = some (.cells #[.int .i64 0, .int .i64 0, .int .i64 0, .int .i64 0, .int .i64 0, .int .i64 0, .int .i64 0, .slice r1a r1n r1c] 29 (0, 0)) from row_held g rQ370_.out)
    clear rQ370_
    have rY391_ := Lib.hid (show (w17).heap[w6.heap.size]? = some (.cells #[.int .i64 i0, .slice p2a p2n p2c, .slice q2a q2n q2c] 26 (0, 0)) from row_held g rY371_.out)
    clear rY371_
    have rC392_ := Lib.hid (show (w17).heap[w6.heap.size + 1]? = some (.cells #[.int .i64 1, .int .i64 33, .int .i64 0, .int .i64 i0, .int .i64 0, .int .i64 0, .int .i64 0, .slice r2a r2n r2c] 29 (0, 0)) from row_held g rC372_.out)
    clear rC372_
    have rU393_ := Lib.hid (show (w17).heap[w7.heap.size]? = some (.cells #[.int .i64 i0, .slice p3a p3n p3c, .slice q3a q3n q3c] 26 (0, 0)) from row_held g rU373_.out)
    clear rU373_
    have rV394_ := Lib.hid (show (w17).heap[w7.heap.size + 1]? = some (.cells #[.int .i64 0, .int .i64 0, .int .i64 0, .int .i64 0, .int .i64 0, .int .i64 0, .int .i64 0, .slice r3a r3n r3c] 29 (0, 0)) from row_held g rV374_.out)
    clear rV374_
    have rZ395_ := Lib.hid (show (w17).heap[w7.heap.size + 1 + 1]? = some (.cells #[.int .i64 0, .int .i64 0, .int .i64 0, .int .i64 0, .int .i64 0, .int .i64 0, .int .i64 0, .slice none 0 0] 29 (0, 0)) from row_held g rZ375_.out)
    clear rZ375_
    have rK1396_ := Lib.hid (show (w17).heap[w15.heap.size]? = some (.cells #[.int .i64 (k : Int)] 3 (0, 0)) from row_held g rK1376_.out)
    clear rK1376_
    have G397_ := Lib.hid (show (W).grownBy (w17) none from gby_trans G377_.out g)
    have HTt398_ := Lib.hid (show (w2).grownBy (w17) none from gby_trans HTt378_.out g)
    clear HTt378_
    have HTP399_ := Lib.hid (show (w3).grownBy (w17) none from gby_trans HTP379_.out g)
    clear HTP379_
    have HTm1400_ := Lib.hid (show (w4).grownBy (w17) none from gby_trans HTm1380_.out g)
    clear HTm1380_
    have HTm2401_ := Lib.hid (show (w5).grownBy (w17) none from gby_trans HTm2381_.out g)
    clear HTm2381_
    have HTm3402_ := Lib.hid (show (w6).grownBy (w17) none from gby_trans HTm3382_.out g)
    clear HTm3382_
    have HTm4403_ := Lib.hid (show (w7).grownBy (w17) none from gby_trans HTm4383_.out g)
    clear HTm4383_
    have HTl2404_ := Lib.hid (show (w11).grownBy (w17) none from gby_trans HTl2384_.out g)
    clear HTl2384_
    have HTl3405_ := Lib.hid (show (w13).grownBy (w17) none from gby_trans HTl3385_.out g)
    clear HTl3385_
    clear g
    have T_0_ : (w17).cell? ⟨w2.heap.size, 0, none⟩ = some (.int .i64 i0) := cell_of_row _ _ 0 _ _ _ rT386_.out
    have T_1_ : (w17).cell? ⟨w2.heap.size, 1, none⟩ = some (.slice a1 n c1) := cell_of_row _ _ 1 _ _ _ rT386_.out
    have T_2_ : (w17).cell? ⟨w2.heap.size, 2, none⟩ = some (.slice a2 n2 c2) := cell_of_row _ _ 2 _ _ _ rT386_.out
    have M_0_ : (w17).cell? ⟨w4.heap.size, 0, none⟩ = some (.int .i64 i0) := cell_of_row _ _ 0 _ _ _ rM387_.out
    have M_1_ : (w17).cell? ⟨w4.heap.size, 1, none⟩ = some (.slice p0a p0n p0c) := cell_of_row _ _ 1 _ _ _ rM387_.out
    have M_2_ : (w17).cell? ⟨w4.heap.size, 2, none⟩ = some (.slice q0a q0n q0c) := cell_of_row _ _ 2 _ _ _ rM387_.out
    have N_0_ : (w17).cell? ⟨w4.heap.size + 1, 0, none⟩ = some (.int .i64 0) := cell_of_row _ _ 0 _ _ _ rN388_.out
    have N_1_ : (w17).cell? ⟨w4.heap.size + 1, 1, none⟩ = some (.int .i64 0) := cell_of_row _ _ 1 _ _ _ rN388_.out
    have N_2_ : (w17).cell? ⟨w4.heap.size + 1, 2, none⟩ = some (.int .i64 0) := cell_of_row _ _ 2 _ _ _ rN388_.out
    have N_3_ : (w17).cell? ⟨w4.heap.size + 1, 3, none⟩ = some (.int .i64 0) := cell_of_row _ _ 3 _ _ _ rN388_.out
    have N_4_ : (w17).cell? ⟨w4.heap.size + 1, 4, none⟩ = some (.int .i64 0) := cell_of_row _ _ 4 _ _ _ rN388_.out
    have N_5_ : (w17).cell? ⟨w4.heap.size + 1, 5, none⟩ = some (.int .i64 0) := cell_of_row _ _ 5 _ _ _ rN388_.out
    have N_6_ : (w17).cell? ⟨w4.heap.size + 1, 6, none⟩ = some (.int .i64 0) := cell_of_row _ _ 6 _ _ _ rN388_.out
    have N_7_ : (w17).cell? ⟨w4.heap.size + 1, 7, none⟩ = some (.slice r0a r0n r0c) := cell_of_row _ _ 7 _ _ _ rN388_.out
    have X_0_ : (w17).cell? ⟨w5.heap.size, 0, none⟩ = some (.int .i64 i0) := cell_of_row _ _ 0 _ _ _ rX389_.out
    have X_1_ : (w17).cell? ⟨w5.heap.size, 1, none⟩ = some (.slice p1a p1n p1c) := cell_of_row _ _ 1 _ _ _ rX389_.out
    have X_2_ : (w17).cell? ⟨w5.heap.size, 2, none⟩ = some (.slice q1a q1n q1c) := cell_of_row _ _ 2 _ _ _ rX389_.out
    have Q_0_ : (w17).cell? ⟨w5.heap.size + 1, 0, none⟩ = some (.int .i64 0) := cell_of_row _ _ 0 _ _ _ rQ390_.out
    have Q_1_ : (w17).cell? ⟨w5.heap.size + 1, 1, none⟩ = some (.int .i64 0) := cell_of_row _ _ 1 _ _ _ rQ390_.out
    have Q_2_ : (w17).cell? ⟨w5.heap.size + 1, 2, none⟩ = some (.int .i64 0) := cell_of_row _ _ 2 _ _ _ rQ390_.out
    have Q_3_ : (w17).cell? ⟨w5.heap.size + 1, 3, none⟩ = some (.int .i64 0) := cell_of_row _ _ 3 _ _ _ rQ390_.out
    have Q_4_ : (w17).cell? ⟨w5.heap.size + 1, 4, none⟩ = some (.int .i64 0) := cell_of_row _ _ 4 _ _ _ rQ390_.out
    have Q_5_ : (w17).cell? ⟨w5.heap.size + 1, 5, none⟩ = some (.int .i64 0) := cell_of_row _ _ 5 _ _ _ rQ390_.out
    have Q_6_ : (w17).cell? ⟨w5.heap.size + 1, 6, none⟩ = some (.int .i64 0) := cell_of_row _ _ 6 _ _ _ rQ390_.out
    have Q_7_ : (w17).cell? ⟨w5.heap.size + 1, 7, none⟩ = some (.slice r1a r1n r1c) := cell_of_row _ _ 7 _ _ _ rQ390_.out
    have Y_0_ : (w17).cell? ⟨w6.heap.size, 0, none⟩ = some (.int .i64 i0) := cell_of_row _ _ 0 _ _ _ rY391_.out
    have Y_1_ : (w17).cell? ⟨w6.heap.size, 1, none⟩ = some (.slice p2a p2n p2c) := cell_of_row _ _ 1 _ _ _ rY391_.out
    have Y_2_ : (w17).cell? ⟨w6.heap.size, 2, none⟩ = some (.slice q2a q2n q2c) := cell_of_row _ _ 2 _ _ _ rY391_.out
    have C_0_ : (w17).cell? ⟨w6.heap.size + 1, 0, none⟩ = some (.int .i64 1) := cell_of_row _ _ 0 _ _ _ rC392_.out
    have C_1_ : (w17).cell? ⟨w6.heap.size + 1, 1, none⟩ = some (.int .i64 33) := cell_of_row _ _ 1 _ _ _ rC392_.out
    have C_2_ : (w17).cell? ⟨w6.heap.size + 1, 2, none⟩ = some (.int .i64 0) := cell_of_row _ _ 2 _ _ _ rC392_.out
    have C_3_ : (w17).cell? ⟨w6.heap.size + 1, 3, none⟩ = some (.int .i64 i0) := cell_of_row _ _ 3 _ _ _ rC392_.out
    have C_4_ : (w17).cell? ⟨w6.heap.size + 1, 4, none⟩ = some (.int .i64 0) := cell_of_row _ _ 4 _ _ _ rC392_.out
    have C_5_ : (w17).cell? ⟨w6.heap.size + 1, 5, none⟩ = some (.int .i64 0) := cell_of_row _ _ 5 _ _ _ rC392_.out
    have C_6_ : (w17).cell? ⟨w6.heap.size + 1, 6, none⟩ = some (.int .i64 0) := cell_of_row _ _ 6 _ _ _ rC392_.out
    have C_7_ : (w17).cell? ⟨w6.heap.size + 1, 7, none⟩ = some (.slice r2a r2n r2c) := cell_of_row _ _ 7 _ _ _ rC392_.out
    have U_0_ : (w17).cell? ⟨w7.heap.size, 0, none⟩ = some (.int .i64 i0) := cell_of_row _ _ 0 _ _ _ rU393_.out
    have U_1_ : (w17).cell? ⟨w7.heap.size, 1, none⟩ = some (.slice p3a p3n p3c) := cell_of_row _ _ 1 _ _ _ rU393_.out
    have U_2_ : (w17).cell? ⟨w7.heap.size, 2, none⟩ = some (.slice q3a q3n q3c) := cell_of_row _ _ 2 _ _ _ rU393_.out
    have V_0_ : (w17).cell? ⟨w7.heap.size + 1, 0, none⟩ = some (.int .i64 0) := cell_of_row _ _ 0 _ _ _ rV394_.out
    have V_1_ : (w17).cell? ⟨w7.heap.size + 1, 1, none⟩ = some (.int .i64 0) := cell_of_row _ _ 1 _ _ _ rV394_.out
    have V_2_ : (w17).cell? ⟨w7.heap.size + 1, 2, none⟩ = some (.int .i64 0) := cell_of_row _ _ 2 _ _ _ rV394_.out
    have V_3_ : (w17).cell? ⟨w7.heap.size + 1, 3, none⟩ = some (.int .i64 0) := cell_of_row _ _ 3 _ _ _ rV394_.out
    have V_4_ : (w17).cell? ⟨w7.heap.size + 1, 4, none⟩ = some (.int .i64 0) := cell_of_row _ _ 4 _ _ _ rV394_.out
    have V_5_ : (w17).cell? ⟨w7.heap.size + 1, 5, none⟩ = some (.int .i64 0) := cell_of_row _ _ 5 _ _ _ rV394_.out
    have V_6_ : (w17).cell? ⟨w7.heap.size + 1, 6, none⟩ = some (.int .i64 0) := cell_of_row _ _ 6 _ _ _ rV394_.out
    have V_7_ : (w17).cell? ⟨w7.heap.size + 1, 7, none⟩ = some (.slice r3a r3n r3c) := cell_of_row _ _ 7 _ _ _ rV394_.out
    have Z_0_ : (w17).cell? ⟨w7.heap.size + 1 + 1, 0, none⟩ = some (.int .i64 0) := cell_of_row _ _ 0 _ _ _ rZ395_.out
    have Z_1_ : (w17).cell? ⟨w7.heap.size + 1 + 1, 1, none⟩ = some (.int .i64 0) := cell_of_row _ _ 1 _ _ _ rZ395_.out
    have Z_2_ : (w17).cell? ⟨w7.heap.size + 1 + 1, 2, none⟩ = some (.int .i64 0) := cell_of_row _ _ 2 _ _ _ rZ395_.out
    have Z_3_ : (w17).cell? ⟨w7.heap.size + 1 + 1, 3, none⟩ = some (.int .i64 0) := cell_of_row _ _ 3 _ _ _ rZ395_.out
    have Z_4_ : (w17).cell? ⟨w7.heap.size + 1 + 1, 4, none⟩ = some (.int .i64 0) := cell_of_row _ _ 4 _ _ _ rZ395_.out
    have Z_5_ : (w17).cell? ⟨w7.heap.size + 1 + 1, 5, none⟩ = some (.int .i64 0) := cell_of_row _ _ 5 _ _ _ rZ395_.out
    have Z_6_ : (w17).cell? ⟨w7.heap.size + 1 + 1, 6, none⟩ = some (.int .i64 0) := cell_of_row _ _ 6 _ _ _ rZ395_.out
    have Z_7_ : (w17).cell? ⟨w7.heap.size + 1 + 1, 7, none⟩ = some (.slice none 0 0) := cell_of_row _ _ 7 _ _ _ rZ395_.out
    have K1_0_ : (w17).cell? ⟨w15.heap.size, 0, none⟩ = some (.int .i64 (k : Int)) := cell_of_row _ _ 0 _ _ _ rK1396_.out
    go_wp2_with fail
    go_at_call 26
    refine ((implVOk _ i0 _ _ x3 y3 (HA3.out.grow HTm3402_.out) (HB3.out.grow HTm3402_.out)).mono (fun e w q => bpost_yes V3.out e w q)).mono ?_
    rintro e w18 ⟨rfl, g⟩
    have szw18 := g.size
    try simp only [World.size_alloc] at szw18
    clear T_0_ T_1_ T_2_ M_0_ M_1_ M_2_ N_0_ N_1_ N_2_ N_3_ N_4_ N_5_ N_6_ N_7_ X_0_ X_1_ X_2_ Q_0_ Q_1_ Q_2_ Q_3_ Q_4_ Q_5_ Q_6_ Q_7_ Y_0_ Y_1_ Y_2_ C_0_ C_1_ C_2_ C_3_ C_4_ C_5_ C_6_ C_7_ U_0_ U_1_ U_2_ V_0_ V_1_ V_2_ V_3_ V_4_ V_5_ V_6_ V_7_ Z_0_ Z_1_ Z_2_ Z_3_ Z_4_ Z_5_ Z_6_ Z_7_ K1_0_
    have rT406_ := Lib.hid (show (w18).heap[w2.heap.size]? = some (.cells #[.int .i64 i0, .slice a1 n c1, .slice a2 n2 c2] 26 (0, 0)) from row_held g rT386_.out)
    clear rT386_
    have rM407_ := Lib.hid (show (w18).heap[w4.heap.size]? = some (.cells #[.int .i64 i0, .slice p0a p0n p0c, .slice q0a q0n q0c] 26 (0, 0)) from row_held g rM387_.out)
    clear rM387_
    have rN408_ := Lib.hid (show (w18).heap[w4.heap.size + 1]? = some (.cells #[.int .i64 0, .int .i64 0, .int .i64 0, .int .i64 0, .int .i64 0, .int .i64 0, .int .i64 0, .slice r0a r0n r0c] 29 (0, 0)) from row_held g rN388_.out)
    clear rN388_
    have rX409_ := Lib.hid (show (w18).heap[w5.heap.size]? = some (.cells #[.int .i64 i0, .slice p1a p1n p1c, .slice q1a q1n q1c] 26 (0, 0)) from row_held g rX389_.out)
    clear rX389_
    have rQ410_ := Lib.hid (show (w18).heap[w5.heap.size + 1]? = some (.cells #[.int .i64 0, .int .i64 0, .int .i64 0, .int .i64 0, .int .i64 0, .int .i64 0, .int .i64 0, .slice r1a r1n r1c] 29 (0, 0)) from row_held g rQ390_.out)
    clear rQ390_
    have rY411_ := Lib.hid (show (w18).heap[w6.heap.size]? = some (.cells #[.int .i64 i0, .slice p2a p2n p2c, .slice q2a q2n q2c] 26 (0, 0)) from row_held g rY391_.out)
    clear rY391_
    have rC412_ := Lib.hid (show (w18).heap[w6.heap.size + 1]? = some (.cells #[.int .i64 1, .int .i64 33, .int .i64 0, .int .i64 i0, .int .i64 0, .int .i64 0, .int .i64 0, .slice r2a r2n r2c] 29 (0, 0)) from row_held g rC392_.out)
    clear rC392_
    have rU413_ := Lib.hid (show (w18).heap[w7.heap.size]? = some (.cells #[.int .i64 i0, .slice p3a p3n p3c, .slice q3a q3n q3c] 26 (0, 0)) from row_held g rU393_.out)
    clear rU393_
    have rV414_ := Lib.hid (show (w18).heap[w7.heap.size + 1]? = some (.cells #[.int .i64 0, .int .i64 0, .int .i64 0, .int .i64 0, .int .i64 0, .int .i64 0, .int .i64 0, .slice r3a r3n r3c] 29 (0, 0)) from row_held g rV394_.out)
    clear rV394_
    have rZ415_ := Lib.hid (show (w18).heap[w7.heap.size + 1 + 1]? = some (.cells #[.int .i64 0, .int .i64 0, .int .i64 0, .int .i64 0, .int .i64 0, .int .i64 0, .int .i64 0, .slice none 0 0] 29 (0, 0)) from row_held g rZ395_.out)
    clear rZ395_
    have rK1416_ := Lib.hid (show (w18).heap[w15.heap.size]? = some (.cells #[.int .i64 (k : Int)] 3 (0, 0)) from row_held g rK1396_.out)
    clear rK1396_
    have G417_ := Lib.hid (show (W).grownBy (w18) none from gby_trans G397_.out g)
    have HTt418_ := Lib.hid (show (w2).grownBy (w18) none from gby_trans HTt398_.out g)
    clear HTt398_
    have HTP419_ := Lib.hid (show (w3).grownBy (w18) none from gby_trans HTP399_.out g)
    clear HTP399_
    have HTm1420_ := Lib.hid (show (w4).grownBy (w18) none from gby_trans HTm1400_.out g)
    clear HTm1400_
    have HTm2421_ := Lib.hid (show (w5).grownBy (w18) none from gby_trans HTm2401_.out g)
    clear HTm2401_
    have HTm3422_ := Lib.hid (show (w6).grownBy (w18) none from gby_trans HTm3402_.out g)
    clear HTm3402_
    have HTm4423_ := Lib.hid (show (w7).grownBy (w18) none from gby_trans HTm4403_.out g)
    clear HTm4403_
    have HTl2424_ := Lib.hid (show (w11).grownBy (w18) none from gby_trans HTl2404_.out g)
    clear HTl2404_
    have HTl3425_ := Lib.hid (show (w13).grownBy (w18) none from gby_trans HTl3405_.out g)
    clear HTl3405_
    clear g
    have T_0_ : (w18).cell? ⟨w2.heap.size, 0, none⟩ = some (.int .i64 i0) := cell_of_row _ _ 0 _ _ _ rT406_.out
    have T_1_ : (w18).cell? ⟨w2.heap.size, 1, none⟩ = some (.slice a1 n c1) := cell_of_row _ _ 1 _ _ _ rT406_.out
    have T_2_ : (w18).cell? ⟨w2.heap.size, 2, none⟩ = some (.slice a2 n2 c2) := cell_of_row _ _ 2 _ _ _ rT406_.out
    have M_0_ : (w18).cell? ⟨w4.heap.size, 0, none⟩ = some (.int .i64 i0) := cell_of_row _ _ 0 _ _ _ rM407_.out
    have M_1_ : (w18).cell? ⟨w4.heap.size, 1, none⟩ = some (.slice p0a p0n p0c) := cell_of_row _ _ 1 _ _ _ rM407_.out
    have M_2_ : (w18).cell? ⟨w4.heap.size, 2, none⟩ = some (.slice q0a q0n q0c) := cell_of_row _ _ 2 _ _ _ rM407_.out
    have N_0_ : (w18).cell? ⟨w4.heap.size + 1, 0, none⟩ = some (.int .i64 0) := cell_of_row _ _ 0 _ _ _ rN408_.out
    have N_1_ : (w18).cell? ⟨w4.heap.size + 1, 1, none⟩ = some (.int .i64 0) := cell_of_row _ _ 1 _ _ _ rN408_.out
    have N_2_ : (w18).cell? ⟨w4.heap.size + 1, 2, none⟩ = some (.int .i64 0) := cell_of_row _ _ 2 _ _ _ rN408_.out
    have N_3_ : (w18).cell? ⟨w4.heap.size + 1, 3, none⟩ = some (.int .i64 0) := cell_of_row _ _ 3 _ _ _ rN408_.out
    have N_4_ : (w18).cell? ⟨w4.heap.size + 1, 4, none⟩ = some (.int .i64 0) := cell_of_row _ _ 4 _ _ _ rN408_.out
    have N_5_ : (w18).cell? ⟨w4.heap.size + 1, 5, none⟩ = some (.int .i64 0) := cell_of_row _ _ 5 _ _ _ rN408_.out
    have N_6_ : (w18).cell? ⟨w4.heap.size + 1, 6, none⟩ = some (.int .i64 0) := cell_of_row _ _ 6 _ _ _ rN408_.out
    have N_7_ : (w18).cell? ⟨w4.heap.size + 1, 7, none⟩ = some (.slice r0a r0n r0c) := cell_of_row _ _ 7 _ _ _ rN408_.out
    have X_0_ : (w18).cell? ⟨w5.heap.size, 0, none⟩ = some (.int .i64 i0) := cell_of_row _ _ 0 _ _ _ rX409_.out
    have X_1_ : (w18).cell? ⟨w5.heap.size, 1, none⟩ = some (.slice p1a p1n p1c) := cell_of_row _ _ 1 _ _ _ rX409_.out
    have X_2_ : (w18).cell? ⟨w5.heap.size, 2, none⟩ = some (.slice q1a q1n q1c) := cell_of_row _ _ 2 _ _ _ rX409_.out
    have Q_0_ : (w18).cell? ⟨w5.heap.size + 1, 0, none⟩ = some (.int .i64 0) := cell_of_row _ _ 0 _ _ _ rQ410_.out
    have Q_1_ : (w18).cell? ⟨w5.heap.size + 1, 1, none⟩ = some (.int .i64 0) := cell_of_row _ _ 1 _ _ _ rQ410_.out
    have Q_2_ : (w18).cell? ⟨w5.heap.size + 1, 2, none⟩ = some (.int .i64 0) := cell_of_row _ _ 2 _ _ _ rQ410_.out
    have Q_3_ : (w18).cell? ⟨w5.heap.size + 1, 3, none⟩ = some (.int .i64 0) := cell_of_row _ _ 3 _ _ _ rQ410_.out
    have Q_4_ : (w18).cell? ⟨w5.heap.size + 1, 4, none⟩ = some (.int .i64 0) := cell_of_row _ _ 4 _ _ _ rQ410_.out
    have Q_5_ : (w18).cell? ⟨w5.heap.size + 1, 5, none⟩ = some (.int .i64 0) := cell_of_row _ _ 5 _ _ _ rQ410_.out
    have Q_6_ : (w18).cell? ⟨w5.heap.size + 1, 6, none⟩ = some (.int .i64 0) := cell_of_row _ _ 6 _ _ _ rQ410_.out
    have Q_7_ : (w18).cell? ⟨w5.heap.size + 1, 7, none⟩ = some (.slice r1a r1n r1c) := cell_of_row _ _ 7 _ _ _ rQ410_.out
    have Y_0_ : (w18).cell? ⟨w6.heap.size, 0, none⟩ = some (.int .i64 i0) := cell_of_row _ _ 0 _ _ _ rY411_.out
    have Y_1_ : (w18).cell? ⟨w6.heap.size, 1, none⟩ = some (.slice p2a p2n p2c) := cell_of_row _ _ 1 _ _ _ rY411_.out
    have Y_2_ : (w18).cell? ⟨w6.heap.size, 2, none⟩ = some (.slice q2a q2n q2c) := cell_of_row _ _ 2 _ _ _ rY411_.out
    have C_0_ : (w18).cell? ⟨w6.heap.size + 1, 0, none⟩ = some (.int .i64 1) := cell_of_row _ _ 0 _ _ _ rC412_.out
    have C_1_ : (w18).cell? ⟨w6.heap.size + 1, 1, none⟩ = some (.int .i64 33) := cell_of_row _ _ 1 _ _ _ rC412_.out
    have C_2_ : (w18).cell? ⟨w6.heap.size + 1, 2, none⟩ = some (.int .i64 0) := cell_of_row _ _ 2 _ _ _ rC412_.out
    have C_3_ : (w18).cell? ⟨w6.heap.size + 1, 3, none⟩ = some (.int .i64 i0) := cell_of_row _ _ 3 _ _ _ rC412_.out
    have C_4_ : (w18).cell? ⟨w6.heap.size + 1, 4, none⟩ = some (.int .i64 0) := cell_of_row _ _ 4 _ _ _ rC412_.out
    have C_5_ : (w18).cell? ⟨w6.heap.size + 1, 5, none⟩ = some (.int .i64 0) := cell_of_row _ _ 5 _ _ _ rC412_.out
    have C_6_ : (w18).cell? ⟨w6.heap.size + 1, 6, none⟩ = some (.int .i64 0) := cell_of_row _ _ 6 _ _ _ rC412_.out
    have C_7_ : (w18).cell? ⟨w6.heap.size + 1, 7, none⟩ = some (.slice r2a r2n r2c) := cell_of_row _ _ 7 _ _ _ rC412_.out
    have U_0_ : (w18).cell? ⟨w7.heap.size, 0, none⟩ = some (.int .i64 i0) := cell_of_row _ _ 0 _ _ _ rU413_.out
    have U_1_ : (w18).cell? ⟨w7.heap.size, 1, none⟩ = some (.slice p3a p3n p3c) := cell_of_row _ _ 1 _ _ _ rU413_.out
    have U_2_ : (w18).cell? ⟨w7.heap.size, 2, none⟩ = some (.slice q3a q3n q3c) := cell_of_row _ _ 2 _ _ _ rU413_.out
    have V_0_ : (w18).cell? ⟨w7.heap.size + 1, 0, none⟩ = some (.int .i64 0) := cell_of_row _ _ 0 _ _ _ rV414_.out
    have V_1_ : (w18).cell? ⟨w7.heap.size + 1, 1, none⟩ = some (.int .i64 0) := cell_of_row _ _ 1 _ _ _ rV414_.out
    have V_2_ : (w18).cell? ⟨w7.heap.size + 1, 2, none⟩ = some (.int .i64 0) := cell_of_row _ _ 2 _ _ _ rV414_.out
    have V_3_ : (w18).cell? ⟨w7.heap.size + 1, 3, none⟩ = some (.int .i64 0) := cell_of_row _ _ 3 _ _ _ rV414_.out
    have V_4_ : (w18).cell? ⟨w7.heap.size + 1, 4, none⟩ = some (.int .i64 0) := cell_of_row _ _ 4 _ _ _ rV414_.out
    have V_5_ : (w18).cell? ⟨w7.heap.size + 1, 5, none⟩ = some (.int .i64 0) := cell_of_row _ _ 5 _ _ _ rV414_.out
    have V_6_ : (w18).cell? ⟨w7.heap.size + 1, 6, none⟩ = some (.int .i64 0) := cell_of_row _ _ 6 _ _ _ rV414_.out
    have V_7_ : (w18).cell? ⟨w7.heap.size + 1, 7, none⟩ = some (.slice r3a r3n r3c) := cell_of_row _ _ 7 _ _ _ rV414_.out
    have Z_0_ : (w18).cell? ⟨w7.heap.size + 1 + 1, 0, none⟩ = some (.int .i64 0) := cell_of_row _ _ 0 _ _ _ rZ415_.out
    have Z_1_ : (w18).cell? ⟨w7.heap.size + 1 + 1, 1, none⟩ = some (.int .i64 0) := cell_of_row _ _ 1 _ _ _ rZ415_.out
    have Z_2_ : (w18).cell? ⟨w7.heap.size + 1 + 1, 2, none⟩ = some (.int .i64 0) := cell_of_row _ _ 2 _ _ _ rZ415_.out
    have Z_3_ : (w18).cell? ⟨w7.heap.size + 1 + 1, 3, none⟩ = some (.int .i64 0) := cell_of_row _ _ 3 _ _ _ rZ415_.out
    have Z_4_ : (w18).cell? ⟨w7.heap.size + 1 + 1, 4, none⟩ = some (.int .i64 0) := cell_of_row _ _ 4 _ _ _ rZ415_.out
    have Z_5_ : (w18).cell? ⟨w7.heap.size + 1 + 1, 5, none⟩ = some (.int .i64 0) := cell_of_row _ _ 5 _ _ _ rZ415_.out
    have Z_6_ : (w18).cell? ⟨w7.heap.size + 1 + 1, 6, none⟩ = some (.int .i64 0) := cell_of_row _ _ 6 _ _ _ rZ415_.out
    have Z_7_ : (w18).cell? ⟨w7.heap.size + 1 + 1, 7, none⟩ = some (.slice none 0 0) := cell_of_row _ _ 7 _ _ _ rZ415_.out
    have K1_0_ : (w18).cell? ⟨w15.heap.size, 0, none⟩ = some (.int .i64 (k : Int)) := cell_of_row _ _ 0 _ _ _ rK1416_.out
    go_wp2
    go_ret
    exact ⟨rfl, gby_below G417_.out⟩

end Go.Proofs.Ytomiicegkdogkaa
