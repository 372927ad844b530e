/-
  The walk of FnSlots.
-/
import Derived.Test.YtodfbodagjmfmabDrawNumber
import Derived.Test.YtodfbodagjmfmabInts
import Derived.Test.YtodfbodagjmfmabChg
import Derived.Test.YtodfbodagjmfmabBPost0
import Derived.Test.YtodfbodagjmfmabShelfRev
import Derived.Test.YtodfbodagjmfmabPlainRow
import Derived.Test.YtodfbodagjmfmabSlots
import Derived.Test.YtodfbodagjmfmabShpI
import Derived.Test.YtodfbodagjmfmabDNode
import Derived.Test.YtodfbodagjmfmabCloneNode
import Derived.Test.YtodfbodagjmfmabTreeB
import Derived.Test.YtodfbodagjmfmabTreeI
import Derived.Test.YtodfbodagjmfmabProg
import Derived.Test.YtodfbodagjmfmabPlain
import Derived.Test.YtodfbodagjmfmabDrawTree
import Derived.Test.YtodfbodagjmfmabKidsB
import Derived.Deep.QuietTactic
import Derived.Deep.RegionHeld3
namespace Go.Proofs.Ytodfbodagjmfmab
open Go Go.RowKit

theorem own_kept {w w' : World} {base c n size : Nat} {e : TypeId} {v : Value} {xs : List Value} (h : w.ownsRow base e size v n xs) (g : w.grownBy w' (some c)) (hc : c < base) : w'.ownsRow base e size v n xs :=
  h.kept g (by
    rcases hv : v.ownBlock with _ | b
    · exact .inl rfl
    · right; intro q; have := own_from h b hv; have := Option.some.inj q; omega)

def IsW (x : Int) : Prop := 0 ≤ x ∧ x ≤ 65535

theorem data_cells (w : World) (x y : Int) (hx : IsW x) (hy : IsW y) : ∀ k, k < 5 → ∃ n, (w.alloc (.cells #[.int .i64 0, .int .i64 1, .int .i64 65535, .int .i64 x, .int .i64 y] 3)).cell? ⟨w.heap.size, k, none⟩ = some (.int .i64 n) ∧ IsW n := by
  intro k hk
  rw [cell_of_row _ _ _ _ _ _ (heap_alloc_new w _)]
  match k, hk with
  | 0, _ => exact ⟨_, rfl, by unfold IsW; omega⟩
  | 1, _ => exact ⟨_, rfl, by unfold IsW; omega⟩
  | 2, _ => exact ⟨_, rfl, by unfold IsW; omega⟩
  | 3, _ => exact ⟨_, rfl, hx⟩
  | 4, _ => exact ⟨_, rfl, hy⟩
  | n + 5, h => omega

/-- a drawn list of n words -/
def DrawnData (n : Nat) (w : World) (c : Nat) (e : Ending) (w' : World) : Prop := ∃ a cap xs, e = .returned (.slice a n cap) ∧ AreW xs ∧ ISl w' a n xs ∧ (∀ p, a = some p → w.heap.size ≤ p.block) ∧ Cur w' c ∧ w.grownBy w' (some c)

theorem isl_own {w : World} {base n : Nat} {v : Value} {xs : List Int} (h : w.ownsRow base 3 1 v n (i64s xs)) (hn : xs.length = n) : ∃ a cap, v = .slice a n cap ∧ ISl w a n xs ∧ ∀ p, a = some p → base ≤ p.block := by
  rcases h.2 with ⟨hv, h0⟩ | ⟨g, cp, cur, hv, hg, _⟩
  · subst hv
    subst h0
    exact ⟨none, 0, rfl, ⟨hn.symm, .inl rfl⟩, fun p hp => by cases hp⟩
  · subst hv
    refine ⟨_, cp, rfl, ⟨hn.symm, .inr ⟨g, 0, rfl, fun j hj => ?_⟩⟩, fun p hp => by obtain rfl := Option.some.inj hp; exact hg⟩
    have := h.cellAt j (by omega)
    rw [i64s, List.getElem?_map, List.getElem?_eq_getElem (by omega)] at this
    rw [List.getD_eq_getElem?_getD, List.getElem?_eq_getElem (by omega)]
    simpa using this

end Go.Proofs.Ytodfbodagjmfmab

namespace Go.Proofs.Ytodfbodagjmfmab
open Go Go.RowKit

def IsP (x : Int) : Prop := 0 ≤ x ∧ x < 10000

/-- twelve drawn numbers -/
def DrawnPlaces (w : World) (e : Ending) (w' : World) : Prop := ∃ v xs, e = .returned v ∧ xs.length = 12 ∧ (∀ x ∈ xs, IsP x) ∧ OwI w' w.heap.size w'.heap.size v xs ∧ w.grownBy w' none

set_option maxHeartbeats 2000000 in
theorem places_any (w : World) (a : Option Addr) (len cap : Nat) (zs : List Int) (hB : Bytes w a len zs) (hl : len ≤ 1048576) :
    Calls Try.prog 32 #[.slice a len cap] w (DrawnPlaces w) := by
  obtain ⟨i0, hi0, hz0, hz1, hz2⟩ := info_parts infoInt
  have HB := Lib.hid hB
  clear hB
  go_enter Try.func32, Try.ntmps32
  go_wp2_with fail
  go_at_call 60
  refine (new_any _ _ _ _ _ HB.out hl).mono ?_
  rintro e w1 ⟨c, rfl, hc, H1, G1⟩
  have HG1 := Lib.hid G1
  have HC1 := Lib.hid H1
  have hcl := cur_lt H1
  have hs1 := G1.size
  clear G1 H1
  go_wp2
  go_loopw [4, 5] (fun v i wr => ∃ (k : Nat) (xs : List Int), k ≤ 12 ∧ i = .int .i64 (k : Int) ∧ xs.length = k ∧ (∀ x ∈ xs, IsP x) ∧ wr.ownsRow w1.heap.size 3 1 v k (i64s xs) ∧ Cur wr c ∧ w1.grownBy wr (some c)) (fun _ i _ => 12 - (intOf i).toNat)
  case atStart =>
    refine ⟨0, [], Nat.zero_le _, rfl, rfl, by intro x hx; simp at hx, ?_, cur_kept HC1.out (World.grownBy_alloc w1 _ none) (by simp), gby_alloc (gby_refl _ _) _⟩
    exact World.ownsRow_made w1 #[] 0 (Nat.le_refl _) (by unfold maxLen; omega) rfl
  case round =>
    obtain ⟨k, xs, hk, rfl, hlen, hb, hown, hcur, hg⟩ := hrel
    have hsz := hg.size
    have HO := Lib.hid hown
    have HG := Lib.hid hg
    have HC := Lib.hid hcur
    have HL := Lib.hid hlen
    have HBD := Lib.hid hb
    clear hown hg hcur hlen hb
    by_cases hlt : k < 12
    · have hki : (k : Int) < 12 := by omega
      go_wp2_with fail
      go_at_call 61
      refine (below_any _ _ _ HC.out (by omega) (by omega)).mono ?_
      rintro e w2 ⟨z, ⟨hz, hz'⟩, rfl, H2, G2⟩
      have HO2 := Lib.hid (own_kept HO.out G2 hcl)
      have HG2 := Lib.hid (gby_trans HG.out G2)
      have HC2 := Lib.hid H2
      have hs4 := HG2.out.size
      clear G2 H2
      go_wp2_with (at_builtin; refine wpList_append_lies _ (by rfl) _ _ _ (by rfl) w1.heap.size 3 i0 _ 1 8 Try.underlying24 hi0 hz0 hz1 hz2 rfl (by omega) _ k (i64s xs) (by rfl) (HO2.out.alloc _) ⟨w2.heap.size, 0, none⟩ 1 1 _ (by rfl) (by rfl) (World.news_of_block (t := 3) (fr := (0, 0)) (heap_alloc_new w2 _)) (by simp [Value.oneCell']) (by omega) (by unfold maxLen; omega) (by omega) (by simp; omega) (w2.heap.size + 1) (by simp) ?_; intro gg cap2 w5 hown5 hgrow5 hat hlt1; have HO5 := Lib.hid hown5; have HG5 := Lib.hid hgrow5; clear hown5 hgrow5 hat hlt1)
      refine ⟨⟨k + 1, xs ++ [z], by omega, by go_num, by have := HL.out; simp [this], ?_, by rw [i64s_append]; exact HO5.out, ?_, ?_⟩, by simp [intOf]; omega⟩
      · intro q hq
        rcases List.mem_append.1 hq with hq | hq
        · exact HBD.out q hq
        · obtain rfl := List.mem_singleton.1 hq; exact ⟨hz, hz'⟩
      · exact cur_other (cur_kept HC2.out (World.grownBy_alloc w2 _ none) (by simp)) HG5.out (fun b hb => by have := own_from HO2.out b hb; omega)
      · exact gby_new (gby_alloc HG2.out _) HG5.out (fun b hb => own_from HO2.out b hb)
    · have hki : ¬ (k : Int) < 12 := by omega
      obtain rfl : k = 12 := by omega
      go_wp2
      go_ret
      exact ⟨_, xs, rfl, HL.out, HBD.out, (owI_row HO.out).wide hs1 (Nat.le_refl _), gby_own HG1.out HG.out hc⟩

end Go.Proofs.Ytodfbodagjmfmab

namespace Go.Proofs.Ytodfbodagjmfmab
open Go Go.RowKit
set_option linter.unusedVariables false

theorem iff_no' {p : Prop} (h : ¬ p) : false = true ↔ p := ⟨fun q => (by cases q), fun q => absurd q h⟩
theorem iff_yes' {p : Prop} (h : p) : true = true ↔ p := ⟨fun _ => h, fun _ => rfl⟩
theorem mem_at {ys : List Int} {x : Int} : x ∈ ys ↔ ∃ k, k < ys.length ∧ ys.getD k 0 = x := by
  rw [List.mem_iff_getElem?]
  constructor
  · rintro ⟨k, hk⟩
    obtain ⟨h1, h2⟩ := List.getElem?_eq_some_iff.1 hk
    exact ⟨k, h1, by rw [List.getD_eq_getElem?_getD, hk]; rfl⟩
  · rintro ⟨k, h1, h2⟩
    exact ⟨k, by rw [List.getElem?_eq_getElem h1]; rw [List.getD_eq_getElem?_getD, List.getElem?_eq_getElem h1] at h2; exact congrArg some h2⟩

set_option maxRecDepth 8000 in
set_option maxHeartbeats 2000000 in
theorem has19_any (W : World) (v : Value) (ys : List Int) (x : Int) (H : RdL shI W v ys) (hl : ys.length ≤ 1048576) : Calls Try.prog 56 #[v, .int .i64 x] W (BPost (x ∈ ys) W) := by
  obtain ⟨a0, cap, rfl, hcap, hi⟩ := rdI1_in H
  have HA := Lib.hid hi
  obtain ⟨len, hlen⟩ : ∃ len, len = ys.length := ⟨_, rfl⟩
  have HE := Lib.hid hlen
  unfold RdN1 at HA
  rw [← hlen] at hl HA ⊢
  clear H hi hlen hcap
  go_enter Try.func56, Try.ntmps56
  go_wp2
  go_loopw [5] (fun i wr => ∃ n : Nat, n ≤ len ∧ i = .int .i64 (n : Int) ∧ (∀ j, j < n → ¬ ys.getD j 0 = x) ∧ (W).grownBy wr none) (fun i _ => len - (intOf i).toNat)
  case atStart => exact ⟨0, by omega, rfl, fun j hj => absurd hj (Nat.not_lt_zero _), gby_refl _ _⟩
  case round =>
    obtain ⟨n, hn, rfl, hj, hg⟩ := hrel
    have szrwr := hg.size
    try simp only [World.size_alloc] at szrwr
    try simp only [World.size_setCell] at szrwr
    have szr_ := szrwr
    have G1_ := Lib.hid (show (W).grownBy (wr) none from gby_trans (gby_refl _ _) hg)
    have HTB_ := Lib.hid hg
    clear hg
    have HJ := Lib.hid hj
    clear hj
    have hn0 : (0 : Int) ≤ (n : Int) := by omega
    have htn : ((n : Int)).toNat = n := by omega
    by_cases hlt : n < len
    · have hki : (n : Int) < (len : Int) := by omega
      obtain ⟨b, off, rfl, hcell⟩ := HA.out.resolve_left (by omega)
      obtain ⟨y, hy⟩ : ∃ y, y = ys.getD n 0 := ⟨_, rfl⟩
      have HY := Lib.hid hy
      have hyc := hcell n hlt
      rw [← hy] at hyc
      clear hy hcell
      have y_ := (G1_.out).cell hyc (by simp)
      clear hyc
      by_cases he : y = x
      · have hb : (y == x) = true := by simpa using he
        have HE1 := Lib.hid he
        clear he
        go_wp2
        go_ret
        exact ⟨true, rfl, iff_yes' (mem_at.2 ⟨n, by rw [← HE.out]; exact hlt, by rw [← HY.out]; exact HE1.out⟩), G1_.out⟩
      · have hb : (y == x) = false := by simpa using he
        have HE1 := Lib.hid he
        clear he
        go_wp2
        refine ⟨⟨n + 1, by omega, by go_num, fun j hj => ?_, HTB_.out⟩, by simp [intOf]; omega⟩
        by_cases e : j = n
        · subst e; rw [← HY.out]; exact HE1.out
        · exact HJ.out j (by omega)
    · obtain rfl : n = len := by omega
      have hki : ¬ (n : Int) < (n : Int) := by omega
      go_wp2
      go_ret
      exact ⟨false, rfl, iff_no' (fun q => by obtain ⟨k, h1, h2⟩ := mem_at.1 q; exact HJ.out k (by rw [HE.out]; exact h1) h2), G1_.out⟩

set_option maxRecDepth 8000 in
set_option maxHeartbeats 2000000 in
theorem hasL_any (W : World) (v : Value) (ys : List Int) (x : Int) (H : RdL shI W v ys) (hl : ys.length ≤ 1048576) : Calls Try.prog 34 #[v, .int .i64 x] W (BPost (x ∈ ys) W) := by
  obtain ⟨a0, cap, rfl, hcap, hi⟩ := rdI1_in H
  have HA := Lib.hid hi
  obtain ⟨len, hlen⟩ : ∃ len, len = ys.length := ⟨_, rfl⟩
  have HE := Lib.hid hlen
  unfold RdN1 at HA
  rw [← hlen] at hl HA ⊢
  clear H hi hlen hcap
  go_enter Try.func34, Try.ntmps34
  go_wp2
  go_loopw [5] (fun i wr => ∃ n : Nat, n ≤ len ∧ i = .int .i64 (n : Int) ∧ (∀ j, j < n → ¬ ys.getD j 0 = x) ∧ (W).grownBy wr none) (fun i _ => len - (intOf i).toNat)
  case atStart => exact ⟨0, by omega, rfl, fun j hj => absurd hj (Nat.not_lt_zero _), gby_refl _ _⟩
  case round =>
    obtain ⟨n, hn, rfl, hj, hg⟩ := hrel
    have szrwr := hg.size
    try simp only [World.size_alloc] at szrwr
    try simp only [World.size_setCell] at szrwr
    have szr_ := szrwr
    have G1_ := Lib.hid (show (W).grownBy (wr) none from gby_trans (gby_refl _ _) hg)
    have HTB_ := Lib.hid hg
    clear hg
    have HJ := Lib.hid hj
    clear hj
    have hn0 : (0 : Int) ≤ (n : Int) := by omega
    have htn : ((n : Int)).toNat = n := by omega
    by_cases hlt : n < len
    · have hki : (n : Int) < (len : Int) := by omega
      obtain ⟨b, off, rfl, hcell⟩ := HA.out.resolve_left (by omega)
      obtain ⟨y, hy⟩ : ∃ y, y = ys.getD n 0 := ⟨_, rfl⟩
      have HY := Lib.hid hy
      have hyc := hcell n hlt
      rw [← hy] at hyc
      clear hy hcell
      have y_ := (G1_.out).cell hyc (by simp)
      clear hyc
      by_cases he : y = x
      · have hb : (y == x) = true := by simpa using he
        have HE1 := Lib.hid he
        clear he
        go_wp2
        go_ret
        exact ⟨true, rfl, iff_yes' (mem_at.2 ⟨n, by rw [← HE.out]; exact hlt, by rw [← HY.out]; exact HE1.out⟩), G1_.out⟩
      · have hb : (y == x) = false := by simpa using he
        have HE1 := Lib.hid he
        clear he
        go_wp2
        refine ⟨⟨n + 1, by omega, by go_num, fun j hj => ?_, HTB_.out⟩, by simp [intOf]; omega⟩
        by_cases e : j = n
        · subst e; rw [← HY.out]; exact HE1.out
        · exact HJ.out j (by omega)
    · obtain rfl : n = len := by omega
      have hki : ¬ (n : Int) < (n : Int) := by omega
      go_wp2
      go_ret
      exact ⟨false, rfl, iff_no' (fun q => by obtain ⟨k, h1, h2⟩ := mem_at.1 q; exact HJ.out k (by rw [HE.out]; exact h1) h2), G1_.out⟩

theorem contains_any (W : World) (v : Value) (ys : List Int) (x : Int) (H : RdL shI W v ys) (hl : ys.length ≤ 1048576) : Calls Try.prog 57 #[v, .int .i64 x] W (BPost (x ∈ ys) W) := by
  obtain ⟨a0, cap, rfl, hcap, hi⟩ := rdI1_in H
  rcases hi with h0 | ⟨b, off, rfl, hc⟩
  · obtain rfl : ys = [] := List.eq_nil_of_length_eq_zero h0
    exact (Try.slices_Contains_int_empty a0 cap x W).mono (by rintro e w' ⟨rfl, rfl⟩; exact ⟨false, rfl, iff_no' (by simp), gby_refl _ _⟩)
  · exact (Try.slices_Contains_int b off ys.length cap ys x W (Nat.le_refl _) (by omega) hc).mono (by rintro e w' ⟨rfl, rfl⟩; exact ⟨_, rfl, by simp, gby_refl _ _⟩)

end Go.Proofs.Ytodfbodagjmfmab

namespace Go.Proofs.Ytodfbodagjmfmab
open Go Go.RowKit
set_option linter.unusedVariables false

theorem slot_mem {xs : List DNode} {k : Int} : ∀ {n : Nat} {ys : List Int}, SlotIs xs k n ys → ∀ d : Int, d ∈ ys ↔ (0 ≤ d ∧ d < (n : Int)) ∧ ¬ Taken xs k d
  | 0, ys, h, d => by
    have h : ys = [] := h
    subst h
    exact ⟨fun q => (by cases q), fun q => absurd q.1 (by omega)⟩
  | n + 1, ys, ⟨zs, hz, h2⟩, d => by
    have ih := slot_mem hz d
    rcases h2 with ⟨a, rfl⟩ | ⟨a, rfl⟩
    · rw [ih]
      constructor
      · rintro ⟨q1, q2⟩; exact ⟨⟨q1.1, by omega⟩, q2⟩
      · rintro ⟨q1, q2⟩
        refine ⟨⟨q1.1, ?_⟩, q2⟩
        by_cases e : d = (n : Int)
        · subst e; exact absurd a q2
        · omega
    · rw [List.mem_append, ih, List.mem_singleton]
      constructor
      · rintro (⟨q1, q2⟩ | rfl)
        · exact ⟨⟨q1.1, by omega⟩, q2⟩
        · exact ⟨⟨by omega, by omega⟩, a⟩
      · rintro ⟨q1, q2⟩
        by_cases e : d = (n : Int)
        · exact .inr e
        · exact .inl ⟨⟨q1.1, by omega⟩, q2⟩

theorem nd_app {xs : List DNode} {y : DNode} {k : Nat} (h : k < xs.length) : nd (xs ++ [y]) k = nd xs k := by
  unfold nd
  rw [List.getD_eq_getElem?_getD, List.getD_eq_getElem?_getD, List.getElem?_append_left h]

theorem nd_last (xs : List DNode) (y : DNode) : nd (xs ++ [y]) xs.length = y := by
  unfold nd
  rw [List.getD_eq_getElem?_getD]
  simp

theorem add_tok {xs : List DNode} (h : TOk xs) {k : Nat} (hk : k < xs.length) {d : Int} (h0 : 0 ≤ d) (h3 : d ≤ 3) : TOk (xs ++ [⟨(k : Int), d, 1⟩]) ↔ xs.length < 12 ∧ (nd xs k).f2 = 0 ∧ ¬ Taken xs (k : Int) d := by
  have hl : (xs ++ [(⟨(k : Int), d, 1⟩ : DNode)]).length = xs.length + 1 := by simp
  have h1 := h.1.1
  have hr := h.2.1.1
  constructor
  · intro q
    have p := q.2.2 xs.length h1 (by omega)
    obtain ⟨_, p2, _, _, p5⟩ := p
    rw [nd_last] at p2 p5
    have p2 : (nd (xs ++ [(⟨(k : Int), d, 1⟩ : DNode)]) ((k : Int)).toNat).f2 = 0 := p2
    rw [show ((k : Int)).toNat = k by omega, nd_app hk] at p2
    refine ⟨by have := q.1.2; omega, p2, ?_⟩
    rintro ⟨j, j1, j2, j3⟩
    by_cases j0 : j = 0
    · subst j0; omega
    · have := p5 j (by omega) j1
      rw [nd_app j1] at this
      exact this ⟨j2, j3⟩
  · rintro ⟨q1, q2, q3⟩
    refine ⟨by omega, by rw [nd_app (by omega)]; exact h.2.1, fun n n1 n2 => ?_⟩
    by_cases e : n = xs.length
    · subst e
      unfold Placed
      rw [nd_last]
      have e1 : ((k : Int)).toNat = k := by omega
      refine ⟨⟨?_, ?_⟩, ?_, ⟨h0, h3⟩, ⟨(show (0 : Int) ≤ 1 by omega), (show (1 : Int) ≤ 4 by omega)⟩, fun i i1 i2 => ?_⟩
      · show (0 : Int) ≤ (k : Int); omega
      · show (k : Int) ≤ _; omega
      · show (nd (xs ++ [_]) ((k : Int)).toNat).f2 = 0
        rw [e1, nd_app hk]; exact q2
      · rw [nd_app i2]
        exact fun s => q3 ⟨i, i2, s.1, s.2⟩
    · have nl : n < xs.length := by omega
      obtain ⟨p1, p2, p3, p4, p5⟩ := h.2.2 n n1 nl
      unfold Placed
      rw [nd_app nl, nd_app (show (nd xs n).f0.toNat < xs.length by omega)]
      refine ⟨p1, p2, p3, p4, fun i i1 i2 => ?_⟩
      rw [nd_app (by omega)]
      exact p5 i i1 i2

theorem kidD_one_if {xs : List DNode} (h : TOk xs) {k : Int} (hk : 0 ≤ k) (d : Nat) : (Taken xs k (d : Int) ∧ (kidD xs k d xs.length).length = 1) ∨ (¬ Taken xs k (d : Int) ∧ (kidD xs k d xs.length).length = 0) := by
  have hm : ∀ n, n ∈ kidD xs k d xs.length ↔ n < xs.length ∧ 1 ≤ n ∧ (nd xs n).f0 = k ∧ (nd xs n).f1 = (d : Int) := fun n => by
    rw [kidD, List.mem_filter, List.mem_range, isKid_iff]
  have hp : (kidD xs k d xs.length).Pairwise (· < ·) := List.Pairwise.filter _ List.pairwise_lt_range
  by_cases ht : Taken xs k (d : Int)
  · refine .inl ⟨ht, ?_⟩
    obtain ⟨j, j1, j2, j3⟩ := ht
    have j0 : 1 ≤ j := by
      by_cases e : j = 0
      · subst e; rw [h.2.1.1] at j2; omega
      · omega
    have hj := (hm j).2 ⟨j1, j0, j2, j3⟩
    cases e : kidD xs k d xs.length with
    | nil => rw [e] at hj; cases hj
    | cons a l =>
      cases l with
      | nil => rfl
      | cons b t =>
        rw [e] at hp hm
        have hab : a < b := (List.pairwise_cons.1 hp).1 b (by simp)
        have ha := (hm a).1 (by simp)
        have hb := (hm b).1 (by simp)
        exact absurd ⟨ha.2.2.1.trans hb.2.2.1.symm, ha.2.2.2.trans hb.2.2.2.symm⟩ ((h.2.2 b hb.2.1 hb.1).2.2.2.2 a ha.2.1 hab)
  · refine .inr ⟨ht, ?_⟩
    rw [List.length_eq_zero_iff, List.eq_nil_iff_forall_not_mem]
    intro n hn
    obtain ⟨n1, _, n3, n4⟩ := (hm n).1 hn
    exact ht ⟨n, n1, n3, n4⟩

theorem slot_count {xs : List DNode} (h : TOk xs) {k : Int} (hk : 0 ≤ k) : ∀ {n : Nat} {ys : List Int}, SlotIs xs k n ys → ys.length + (kidsN xs k n).length = n
  | 0, ys, e => by
    have e : ys = [] := e
    subst e; rfl
  | n + 1, ys, ⟨zs, hz, h2⟩ => by
    have ih := slot_count h hk hz
    rw [kidsN, List.length_append]
    rcases kidD_one_if h hk n with ⟨a, b⟩ | ⟨a, b⟩
    · rcases h2 with ⟨_, rfl⟩ | ⟨c, _⟩
      · omega
      · exact absurd a c
    · rcases h2 with ⟨c, _⟩ | ⟨_, rfl⟩
      · exact absurd c a
      · rw [List.length_append, List.length_singleton]; omega

/-- a node is a bridge if and only if its free devices and the nodes below it are four -/
theorem slots_four {xs : List DNode} (h : TOk xs) {k : Nat} (hk : k < xs.length) {ys : List Int} (hs : SlotL xs (k : Int) ys) : (nd xs k).f2 = 0 ↔ ys.length + (kidsN xs (k : Int) 4).length = 4 := by
  rcases hs with ⟨⟨_, b⟩, s⟩ | ⟨b, rfl⟩
  · exact ⟨fun _ => slot_count h (by omega) s, fun _ => b⟩
  · have b : ¬ (nd xs k).f2 = 0 := fun q => b ⟨⟨h, by omega, by omega⟩, q⟩
    have : kidsN xs (k : Int) 4 = [] := by
      rw [List.eq_nil_iff_forall_not_mem]
      intro n hn
      obtain ⟨n1, n2, n3⟩ := ((kids_is h (k : Int)).1 n).1 hn
      have p := (h.2.2 n n1 n2).2.1
      rw [n3] at p
      exact b p
    rw [this]
    exact ⟨fun q => absurd q b, fun q => by simp at q⟩

/-- the free devices, one by one: each can be taken by a new node -/
theorem slots_add {xs : List DNode} (h : TOk xs) {k : Nat} (hk : k < xs.length) {ys : List Int} (hs : SlotL xs (k : Int) ys) {d : Int} (h0 : 0 ≤ d) (h3 : d ≤ 3) : TOk (xs ++ [⟨(k : Int), d, 1⟩]) ↔ d ∈ ys ∧ xs.length < 12 := by
  rw [add_tok h hk h0 h3]
  rcases hs with ⟨⟨_, b⟩, s⟩ | ⟨b, rfl⟩
  · rw [slot_mem s d]
    exact ⟨fun ⟨q1, _, q3⟩ => ⟨⟨⟨h0, by omega⟩, q3⟩, q1⟩, fun ⟨⟨_, q2⟩, q3⟩ => ⟨q3, b, q2⟩⟩
  · have b : ¬ (nd xs k).f2 = 0 := fun q => b ⟨⟨h, by omega, by omega⟩, q⟩
    exact ⟨fun q => absurd q.2.1 b, fun q => (by cases q.1)⟩

end Go.Proofs.Ytodfbodagjmfmab

namespace Go.Proofs.Ytodfbodagjmfmab
open Go Go.RowKit

def ResSAddNode (xsr0 : List DNode) (br1 : Bool) (W : World) (e : Ending) (w' : World) : Prop := ∃ vr0, e = .returned (.tuple #[vr0, .bool br1]) ∧ RdL shNode w' vr0 xsr0 ∧ W.grownBy w' none
def ResIAddNode (xsr0 : List DNode) (br1 : Bool) (W : World) (e : Ending) (w' : World) : Prop := ∃ vr0, e = .returned (.tuple #[vr0, .bool br1]) ∧ OwU w' W.heap.size w'.heap.size [] [own shNode vr0 xsr0] ∧ W.grownBy w' none

theorem resS_ofAddNode {xsr0 : List DNode} {br1 : Bool} {W : World} (e : Ending) (w' : World) (h : ResIAddNode xsr0 br1 W e w') : ResSAddNode xsr0 br1 W e w' := by
  obtain ⟨vr0, rfl, h, g⟩ := h
  exact ⟨vr0, rfl, OwU.rd h, g⟩

end Go.Proofs.Ytodfbodagjmfmab

namespace Go.Proofs.Ytodfbodagjmfmab
open Go Go.RowKit
set_option linter.unusedVariables false

theorem gby_sz {w w' : World} {r : Option Nat} (g : w.grownBy w' r) : w.heap.size ≤ w'.heap.size := g.size
theorem owN_row {w : World} {base : Nat} {v : Value} {ys : List DNode} (hm : ys.length ≤ 2000000) (h : w.ownsRow base 41 3 v ys.length (ys.flatMap (fun x => [.int .i64 x.f0, .int .i64 x.f1, .int .i64 x.f2]))) : OwL shNode w base w.heap.size v ys :=
  owP_row _ plainNode.len plainNode.ow (by omega) h

set_option maxRecDepth 8000 in
set_option maxHeartbeats 2000000 in
theorem specAdd_bad (W : World) (v : Value) (xs : List DNode) (p d f : Int) (H : RdL shNode W v xs) (hl : szL shNode xs ≤ 1048576) (hp : ¬ TOk xs) : Calls Try.prog 40 #[v, .int .i64 p, .int .i64 d, .int .i64 f] W (ResIAddNode xs false W) := by
  obtain ⟨i1_, hi1_, hz0_, hz1_, hz2_⟩ := info_parts infoNodeS
  have HP_ := Lib.hid hp
  clear hp
  have HT := Lib.hid H
  have hlx : xs.length ≤ 1048576 := by have := szL_len shNode xs; omega
  have HL := Lib.hid hl
  obtain ⟨a0, n0, c0, rfl⟩ := RdL.form H
  have hn0 : n0 = xs.length := by obtain ⟨_, _, e, _⟩ := H; injection e
  have HE := Lib.hid hn0
  have hnb : n0 ≤ 1048576 := by omega
  clear H hn0 hl
  go_enter Try.func40, Try.ntmps40
  go_wp2_with (first
    | (at_builtin; refine wpList_append_plain plainNode slTNode _ rfl _ _ rfl (W.heap.size) _ 0 [] rfl (own_emptyP (heap_alloc_new _ _) (Nat.le_refl _)) a0 n0 c0 xs rfl (HT.out.grow (gby_alloc (gby_refl _ _) _)) (by omega) (by simp) ?_; intro v2_ w2 hown2 hg2; have HO2 := Lib.hid (show w2.ownsRow (W.heap.size) 41 3 v2_ n0 (xs.flatMap (fun x => [Value.int .i64 x.f0, Value.int .i64 x.f1, Value.int .i64 x.f2])) from by have q := hown2; rw [Nat.zero_add, List.nil_append] at q; exact q); have HG2 := Lib.hid (gby_new (gby_alloc (gby_refl W none) _) (show (W.alloc (.cells #[] 41)).grownBy w2 (some W.heap.size) from hg2) (fun i hi => by obtain rfl := Option.some.inj hi; exact Nat.le_refl _)); have hs2_ := gby_sz HG2.out; clear hown2 hg2)
    | (at_builtin; refine wpList_append_lies _ (by rfl) _ _ _ (by rfl) (W.heap.size) 41 i1_ _ 3 24 Try.underlying26 hi1_ hz0_ hz1_ hz2_ rfl (by omega) _ n0 (xs.flatMap (fun x => [Value.int .i64 x.f0, Value.int .i64 x.f1, Value.int .i64 x.f2])) (by rfl) (HO2.out.alloc _) ⟨w2.heap.size, 0, none⟩ 1 1 _ (by rfl) (by rfl) (World.news_of_block (t := 41) (fr := (0, 0)) (heap_alloc_new w2 _)) (by simp [Value.oneCell']) (by omega) (by unfold maxLen; omega) (by omega) (by first | (simp; omega) | simp) (w2.heap.size + 1) (by simp) ?_; intro gg5 cap5 w5 hown5 hgr5 hat5 hlt5; have HO5 := Lib.hid hown5; have HG5 := Lib.hid (gby_new (gby_alloc HG2.out _) hgr5 (fun i hi => by have := own_from HO2.out i hi; omega)); clear hown5 hgr5 hat5 hlt5))
  have HOY := Lib.hid (show OwL shNode w5 W.heap.size w5.heap.size _ (xs ++ [(⟨p, d, f⟩ : DNode)]) from owN_row (by rw [List.length_append, List.length_singleton]; omega) (by rw [List.length_append, List.length_singleton, ← HE.out, List.flatMap_append]; exact HO5.out))
  have G1_ := Lib.hid (show (W).grownBy (w5) none from HG5.out)
  have szW_ := gby_sz G1_.out
  go_at_call 68
  refine (specTree_no _ _ xs (HT.out.grow G1_.out) HL.out HP_.out).mono ?_
  rintro e t1 ⟨rfl, g⟩
  have HOY1 := Lib.hid (HOY.out.grow g)
  have szt1 := gby_sz g
  have G2_ := Lib.hid (show (W).grownBy (t1) none from gby_trans G1_.out g)
  clear g
  go_wp2_with (at_builtin; refine wpList_append_plain plainNode slTNode _ rfl _ _ rfl (t1.heap.size) _ 0 [] rfl (own_emptyP (heap_alloc_new _ _) (Nat.le_refl _)) a0 n0 c0 xs rfl (HT.out.grow (gby_alloc G2_.out _)) (by omega) (by simp) ?_; intro v2b_ w2b hown2 hg2; have HO2b := Lib.hid (show w2b.ownsRow (t1.heap.size) 41 3 v2b_ n0 (xs.flatMap (fun x => [Value.int .i64 x.f0, Value.int .i64 x.f1, Value.int .i64 x.f2])) from by have q := hown2; rw [Nat.zero_add, List.nil_append] at q; exact q); have HG2b := Lib.hid (gby_new (gby_alloc (gby_refl t1 none) _) (show (t1.alloc (.cells #[] 41)).grownBy w2b (some t1.heap.size) from hg2) (fun i hi => by obtain rfl := Option.some.inj hi; exact Nat.le_refl _)); have hs2b_ := gby_sz HG2b.out; clear hown2 hg2)
  go_ret2
  exact ⟨_, rfl, OwU.one (OwL.wide (owN_row (by omega) (by rw [← HE.out]; exact HO2b.out)) (by omega) (by omega)), gby_trans G2_.out HG2b.out⟩

set_option maxRecDepth 8000 in
set_option maxHeartbeats 2000000 in
theorem specAdd_worse (W : World) (v : Value) (xs : List DNode) (p d f : Int) (H : RdL shNode W v xs) (hl : szL shNode xs ≤ 1048576) (hp : TOk xs) (hq : ¬ TOk (xs ++ [⟨p, d, f⟩])) : Calls Try.prog 40 #[v, .int .i64 p, .int .i64 d, .int .i64 f] W (ResIAddNode xs false W) := by
  obtain ⟨i1_, hi1_, hz0_, hz1_, hz2_⟩ := info_parts infoNodeS
  have HP_ := Lib.hid hp
  have HQ_ := Lib.hid hq
  have HLY : Hid (szL shNode (xs ++ [(⟨p, d, f⟩ : DNode)]) ≤ 1048576) := Lib.hid (by rw [szL_size0 (fun _ => rfl), List.length_append, List.length_singleton]; have := hp.1.2; omega)
  clear hp hq
  have HT := Lib.hid H
  have hlx : xs.length ≤ 1048576 := by have := szL_len shNode xs; omega
  have HL := Lib.hid hl
  obtain ⟨a0, n0, c0, rfl⟩ := RdL.form H
  have hn0 : n0 = xs.length := by obtain ⟨_, _, e, _⟩ := H; injection e
  have HE := Lib.hid hn0
  have hnb : n0 ≤ 1048576 := by omega
  clear H hn0 hl
  go_enter Try.func40, Try.ntmps40
  go_wp2_with (first
    | (at_builtin; refine wpList_append_plain plainNode slTNode _ rfl _ _ rfl (W.heap.size) _ 0 [] rfl (own_emptyP (heap_alloc_new _ _) (Nat.le_refl _)) a0 n0 c0 xs rfl (HT.out.grow (gby_alloc (gby_refl _ _) _)) (by omega) (by simp) ?_; intro v2_ w2 hown2 hg2; have HO2 := Lib.hid (show w2.ownsRow (W.heap.size) 41 3 v2_ n0 (xs.flatMap (fun x => [Value.int .i64 x.f0, Value.int .i64 x.f1, Value.int .i64 x.f2])) from by have q := hown2; rw [Nat.zero_add, List.nil_append] at q; exact q); have HG2 := Lib.hid (gby_new (gby_alloc (gby_refl W none) _) (show (W.alloc (.cells #[] 41)).grownBy w2 (some W.heap.size) from hg2) (fun i hi => by obtain rfl := Option.some.inj hi; exact Nat.le_refl _)); have hs2_ := gby_sz HG2.out; clear hown2 hg2)
    | (at_builtin; refine wpList_append_lies _ (by rfl) _ _ _ (by rfl) (W.heap.size) 41 i1_ _ 3 24 Try.underlying26 hi1_ hz0_ hz1_ hz2_ rfl (by omega) _ n0 (xs.flatMap (fun x => [Value.int .i64 x.f0, Value.int .i64 x.f1, Value.int .i64 x.f2])) (by rfl) (HO2.out.alloc _) ⟨w2.heap.size, 0, none⟩ 1 1 _ (by rfl) (by rfl) (World.news_of_block (t := 41) (fr := (0, 0)) (heap_alloc_new w2 _)) (by simp [Value.oneCell']) (by omega) (by unfold maxLen; omega) (by omega) (by first | (simp; omega) | simp) (w2.heap.size + 1) (by simp) ?_; intro gg5 cap5 w5 hown5 hgr5 hat5 hlt5; have HO5 := Lib.hid hown5; have HG5 := Lib.hid (gby_new (gby_alloc HG2.out _) hgr5 (fun i hi => by have := own_from HO2.out i hi; omega)); clear hown5 hgr5 hat5 hlt5))
  have HOY := Lib.hid (show OwL shNode w5 W.heap.size w5.heap.size _ (xs ++ [(⟨p, d, f⟩ : DNode)]) from owN_row (by rw [List.length_append, List.length_singleton]; omega) (by rw [List.length_append, List.length_singleton, ← HE.out, List.flatMap_append]; exact HO5.out))
  have G1_ := Lib.hid (show (W).grownBy (w5) none from HG5.out)
  have szW_ := gby_sz G1_.out
  go_at_call 68
  refine (specTree_yes _ _ xs (HT.out.grow G1_.out) HL.out HP_.out).mono ?_
  rintro e t1 ⟨rfl, g⟩
  have HOY1 := Lib.hid (HOY.out.grow g)
  have szt1 := gby_sz g
  have G2_ := Lib.hid (show (W).grownBy (t1) none from gby_trans G1_.out g)
  clear g
  go_wp2_with fail
  go_at_call 68
  refine (specTree_no _ _ (xs ++ [(⟨p, d, f⟩ : DNode)]) (HOY1.out.rd) HLY.out HQ_.out).mono ?_
  rintro e t2 ⟨rfl, g⟩
  have HOY2 := Lib.hid (HOY1.out.grow g)
  have szt2 := gby_sz g
  have G3_ := Lib.hid (show (W).grownBy (t2) none from gby_trans G2_.out g)
  clear g
  go_wp2_with (at_builtin; refine wpList_append_plain plainNode slTNode _ rfl _ _ rfl (t2.heap.size) _ 0 [] rfl (own_emptyP (heap_alloc_new _ _) (Nat.le_refl _)) a0 n0 c0 xs rfl (HT.out.grow (gby_alloc G3_.out _)) (by omega) (by simp) ?_; intro v2b_ w2b hown2 hg2; have HO2b := Lib.hid (show w2b.ownsRow (t2.heap.size) 41 3 v2b_ n0 (xs.flatMap (fun x => [Value.int .i64 x.f0, Value.int .i64 x.f1, Value.int .i64 x.f2])) from by have q := hown2; rw [Nat.zero_add, List.nil_append] at q; exact q); have HG2b := Lib.hid (gby_new (gby_alloc (gby_refl t2 none) _) (show (t2.alloc (.cells #[] 41)).grownBy w2b (some t2.heap.size) from hg2) (fun i hi => by obtain rfl := Option.some.inj hi; exact Nat.le_refl _)); have hs2b_ := gby_sz HG2b.out; clear hown2 hg2)
  go_ret2
  exact ⟨_, rfl, OwU.one (OwL.wide (owN_row (by omega) (by rw [← HE.out]; exact HO2b.out)) (by omega) (by omega)), gby_trans G3_.out HG2b.out⟩

set_option maxRecDepth 8000 in
set_option maxHeartbeats 2000000 in
theorem specAdd_good (W : World) (v : Value) (xs : List DNode) (p d f : Int) (H : RdL shNode W v xs) (hl : szL shNode xs ≤ 1048576) (hp : TOk xs) (hq : TOk (xs ++ [⟨p, d, f⟩])) : Calls Try.prog 40 #[v, .int .i64 p, .int .i64 d, .int .i64 f] W (ResIAddNode (xs ++ [⟨p, d, f⟩]) true W) := by
  obtain ⟨i1_, hi1_, hz0_, hz1_, hz2_⟩ := info_parts infoNodeS
  have HP_ := Lib.hid hp
  have HQ_ := Lib.hid hq
  have HLY : Hid (szL shNode (xs ++ [(⟨p, d, f⟩ : DNode)]) ≤ 1048576) := Lib.hid (by rw [szL_size0 (fun _ => rfl), List.length_append, List.length_singleton]; have := hp.1.2; omega)
  clear hp hq
  have HT := Lib.hid H
  have hlx : xs.length ≤ 1048576 := by have := szL_len shNode xs; omega
  have HL := Lib.hid hl
  obtain ⟨a0, n0, c0, rfl⟩ := RdL.form H
  have hn0 : n0 = xs.length := by obtain ⟨_, _, e, _⟩ := H; injection e
  have HE := Lib.hid hn0
  have hnb : n0 ≤ 1048576 := by omega
  clear H hn0 hl
  go_enter Try.func40, Try.ntmps40
  go_wp2_with (first
    | (at_builtin; refine wpList_append_plain plainNode slTNode _ rfl _ _ rfl (W.heap.size) _ 0 [] rfl (own_emptyP (heap_alloc_new _ _) (Nat.le_refl _)) a0 n0 c0 xs rfl (HT.out.grow (gby_alloc (gby_refl _ _) _)) (by omega) (by simp) ?_; intro v2_ w2 hown2 hg2; have HO2 := Lib.hid (show w2.ownsRow (W.heap.size) 41 3 v2_ n0 (xs.flatMap (fun x => [Value.int .i64 x.f0, Value.int .i64 x.f1, Value.int .i64 x.f2])) from by have q := hown2; rw [Nat.zero_add, List.nil_append] at q; exact q); have HG2 := Lib.hid (gby_new (gby_alloc (gby_refl W none) _) (show (W.alloc (.cells #[] 41)).grownBy w2 (some W.heap.size) from hg2) (fun i hi => by obtain rfl := Option.some.inj hi; exact Nat.le_refl _)); have hs2_ := gby_sz HG2.out; clear hown2 hg2)
    | (at_builtin; refine wpList_append_lies _ (by rfl) _ _ _ (by rfl) (W.heap.size) 41 i1_ _ 3 24 Try.underlying26 hi1_ hz0_ hz1_ hz2_ rfl (by omega) _ n0 (xs.flatMap (fun x => [Value.int .i64 x.f0, Value.int .i64 x.f1, Value.int .i64 x.f2])) (by rfl) (HO2.out.alloc _) ⟨w2.heap.size, 0, none⟩ 1 1 _ (by rfl) (by rfl) (World.news_of_block (t := 41) (fr := (0, 0)) (heap_alloc_new w2 _)) (by simp [Value.oneCell']) (by omega) (by unfold maxLen; omega) (by omega) (by first | (simp; omega) | simp) (w2.heap.size + 1) (by simp) ?_; intro gg5 cap5 w5 hown5 hgr5 hat5 hlt5; have HO5 := Lib.hid hown5; have HG5 := Lib.hid (gby_new (gby_alloc HG2.out _) hgr5 (fun i hi => by have := own_from HO2.out i hi; omega)); clear hown5 hgr5 hat5 hlt5))
  have HOY := Lib.hid (show OwL shNode w5 W.heap.size w5.heap.size _ (xs ++ [(⟨p, d, f⟩ : DNode)]) from owN_row (by rw [List.length_append, List.length_singleton]; omega) (by rw [List.length_append, List.length_singleton, ← HE.out, List.flatMap_append]; exact HO5.out))
  have G1_ := Lib.hid (show (W).grownBy (w5) none from HG5.out)
  have szW_ := gby_sz G1_.out
  go_at_call 68
  refine (specTree_yes _ _ xs (HT.out.grow G1_.out) HL.out HP_.out).mono ?_
  rintro e t1 ⟨rfl, g⟩
  have HOY1 := Lib.hid (HOY.out.grow g)
  have szt1 := gby_sz g
  have G2_ := Lib.hid (show (W).grownBy (t1) none from gby_trans G1_.out g)
  clear g
  go_wp2_with fail
  go_at_call 68
  refine (specTree_yes _ _ (xs ++ [(⟨p, d, f⟩ : DNode)]) (HOY1.out.rd) HLY.out HQ_.out).mono ?_
  rintro e t2 ⟨rfl, g⟩
  have HOY2 := Lib.hid (HOY1.out.grow g)
  have szt2 := gby_sz g
  have G3_ := Lib.hid (show (W).grownBy (t2) none from gby_trans G2_.out g)
  clear g
  go_wp2
  go_ret2
  exact ⟨_, rfl, OwU.one (OwL.wide HOY2.out (by omega) (by omega)), G3_.out⟩

set_option maxRecDepth 8000 in
set_option maxHeartbeats 2000000 in
theorem implAdd_bad (W : World) (v : Value) (xs : List DNode) (p d f : Int) (H : RdL shNode W v xs) (hl : szL shNode xs ≤ 1048576) (hp : ¬ TOk xs) : Calls Try.prog 38 #[v, .int .i64 p, .int .i64 d, .int .i64 f] W (ResIAddNode xs false W) := by
  obtain ⟨i1_, hi1_, hz0_, hz1_, hz2_⟩ := info_parts infoNodeS
  have HP_ := Lib.hid hp
  clear hp
  have HT := Lib.hid H
  have hlx : xs.length ≤ 1048576 := by have := szL_len shNode xs; omega
  have HL := Lib.hid hl
  obtain ⟨a0, n0, c0, rfl⟩ := RdL.form H
  have hn0 : n0 = xs.length := by obtain ⟨_, _, e, _⟩ := H; injection e
  have HE := Lib.hid hn0
  have hnb : n0 ≤ 1048576 := by omega
  clear H hn0 hl
  go_enter Try.func38, Try.ntmps38
  go_wp2_with fail
  go_at_call 67
  refine (cloneNode_row _ _ xs (HT.out.grow (gby_refl _ _)) HL.out).mono ?_
  rintro e w2 ⟨v2_, rfl, o_, g⟩
  have HO2 := Lib.hid (show w2.ownsRow W.heap.size 41 3 v2_ n0 (xs.flatMap (fun x => [Value.int .i64 x.f0, Value.int .i64 x.f1, Value.int .i64 x.f2])) from by rw [HE.out]; exact o_)
  have HG2 := Lib.hid g
  have hs2_ := gby_sz g
  clear o_ g
  go_wp2_with (at_builtin; refine wpList_append_lies _ (by rfl) _ _ _ (by rfl) (W.heap.size) 41 i1_ _ 3 24 Try.underlying26 hi1_ hz0_ hz1_ hz2_ rfl (by omega) _ n0 (xs.flatMap (fun x => [Value.int .i64 x.f0, Value.int .i64 x.f1, Value.int .i64 x.f2])) (by rfl) (HO2.out.alloc _) ⟨w2.heap.size, 0, none⟩ 1 1 _ (by rfl) (by rfl) (World.news_of_block (t := 41) (fr := (0, 0)) (heap_alloc_new w2 _)) (by simp [Value.oneCell']) (by omega) (by unfold maxLen; omega) (by omega) (by first | (simp; omega) | simp) (w2.heap.size + 1) (by simp) ?_; intro gg5 cap5 w5 hown5 hgr5 hat5 hlt5; have HO5 := Lib.hid hown5; have HG5 := Lib.hid (gby_new (gby_alloc HG2.out _) hgr5 (fun i hi => by have := own_from HO2.out i hi; omega)); clear hown5 hgr5 hat5 hlt5)
  have HOY := Lib.hid (show OwL shNode w5 W.heap.size w5.heap.size _ (xs ++ [(⟨p, d, f⟩ : DNode)]) from owN_row (by rw [List.length_append, List.length_singleton]; omega) (by rw [List.length_append, List.length_singleton, ← HE.out, List.flatMap_append]; exact HO5.out))
  have G1_ := Lib.hid (show (W).grownBy (w5) none from HG5.out)
  have szW_ := gby_sz G1_.out
  go_at_call 35
  refine (implTree_no _ _ xs (HT.out.grow G1_.out) HL.out HP_.out).mono ?_
  rintro e t1 ⟨rfl, g⟩
  have HOY1 := Lib.hid (HOY.out.grow g)
  have szt1 := gby_sz g
  have G2_ := Lib.hid (show (W).grownBy (t1) none from gby_trans G1_.out g)
  clear g
  go_wp2_with fail
  go_at_call 67
  refine (cloneNode_d _ _ xs (HT.out.grow G2_.out) HL.out).mono ?_
  rintro e w9 ⟨v9_, rfl, o_, g⟩
  have HO9 := Lib.hid o_
  have HG9 := Lib.hid g
  have sz9 := gby_sz g
  clear o_ g
  go_wp2
  go_ret2
  exact ⟨_, rfl, OwU.one (OwL.wide HO9.out (by omega) (by omega)), gby_trans G2_.out HG9.out⟩

set_option maxRecDepth 8000 in
set_option maxHeartbeats 2000000 in
theorem implAdd_worse (W : World) (v : Value) (xs : List DNode) (p d f : Int) (H : RdL shNode W v xs) (hl : szL shNode xs ≤ 1048576) (hp : TOk xs) (hq : ¬ TOk (xs ++ [⟨p, d, f⟩])) : Calls Try.prog 38 #[v, .int .i64 p, .int .i64 d, .int .i64 f] W (ResIAddNode xs false W) := by
  obtain ⟨i1_, hi1_, hz0_, hz1_, hz2_⟩ := info_parts infoNodeS
  have HP_ := Lib.hid hp
  have HQ_ := Lib.hid hq
  have HLY : Hid (szL shNode (xs ++ [(⟨p, d, f⟩ : DNode)]) ≤ 1048576) := Lib.hid (by rw [szL_size0 (fun _ => rfl), List.length_append, List.length_singleton]; have := hp.1.2; omega)
  clear hp hq
  have HT := Lib.hid H
  have hlx : xs.length ≤ 1048576 := by have := szL_len shNode xs; omega
  have HL := Lib.hid hl
  obtain ⟨a0, n0, c0, rfl⟩ := RdL.form H
  have hn0 : n0 = xs.length := by obtain ⟨_, _, e, _⟩ := H; injection e
  have HE := Lib.hid hn0
  have hnb : n0 ≤ 1048576 := by omega
  clear H hn0 hl
  go_enter Try.func38, Try.ntmps38
  go_wp2_with fail
  go_at_call 67
  refine (cloneNode_row _ _ xs (HT.out.grow (gby_refl _ _)) HL.out).mono ?_
  rintro e w2 ⟨v2_, rfl, o_, g⟩
  have HO2 := Lib.hid (show w2.ownsRow W.heap.size 41 3 v2_ n0 (xs.flatMap (fun x => [Value.int .i64 x.f0, Value.int .i64 x.f1, Value.int .i64 x.f2])) from by rw [HE.out]; exact o_)
  have HG2 := Lib.hid g
  have hs2_ := gby_sz g
  clear o_ g
  go_wp2_with (at_builtin; refine wpList_append_lies _ (by rfl) _ _ _ (by rfl) (W.heap.size) 41 i1_ _ 3 24 Try.underlying26 hi1_ hz0_ hz1_ hz2_ rfl (by omega) _ n0 (xs.flatMap (fun x => [Value.int .i64 x.f0, Value.int .i64 x.f1, Value.int .i64 x.f2])) (by rfl) (HO2.out.alloc _) ⟨w2.heap.size, 0, none⟩ 1 1 _ (by rfl) (by rfl) (World.news_of_block (t := 41) (fr := (0, 0)) (heap_alloc_new w2 _)) (by simp [Value.oneCell']) (by omega) (by unfold maxLen; omega) (by omega) (by first | (simp; omega) | simp) (w2.heap.size + 1) (by simp) ?_; intro gg5 cap5 w5 hown5 hgr5 hat5 hlt5; have HO5 := Lib.hid hown5; have HG5 := Lib.hid (gby_new (gby_alloc HG2.out _) hgr5 (fun i hi => by have := own_from HO2.out i hi; omega)); clear hown5 hgr5 hat5 hlt5)
  have HOY := Lib.hid (show OwL shNode w5 W.heap.size w5.heap.size _ (xs ++ [(⟨p, d, f⟩ : DNode)]) from owN_row (by rw [List.length_append, List.length_singleton]; omega) (by rw [List.length_append, List.length_singleton, ← HE.out, List.flatMap_append]; exact HO5.out))
  have G1_ := Lib.hid (show (W).grownBy (w5) none from HG5.out)
  have szW_ := gby_sz G1_.out
  go_at_call 35
  refine (implTree_yes _ _ xs (HT.out.grow G1_.out) HL.out HP_.out).mono ?_
  rintro e t1 ⟨rfl, g⟩
  have HOY1 := Lib.hid (HOY.out.grow g)
  have szt1 := gby_sz g
  have G2_ := Lib.hid (show (W).grownBy (t1) none from gby_trans G1_.out g)
  clear g
  go_wp2_with fail
  go_at_call 35
  refine (implTree_no _ _ (xs ++ [(⟨p, d, f⟩ : DNode)]) (HOY1.out.rd) HLY.out HQ_.out).mono ?_
  rintro e t2 ⟨rfl, g⟩
  have HOY2 := Lib.hid (HOY1.out.grow g)
  have szt2 := gby_sz g
  have G3_ := Lib.hid (show (W).grownBy (t2) none from gby_trans G2_.out g)
  clear g
  go_wp2_with fail
  go_at_call 67
  refine (cloneNode_d _ _ xs (HT.out.grow G3_.out) HL.out).mono ?_
  rintro e w9 ⟨v9_, rfl, o_, g⟩
  have HO9 := Lib.hid o_
  have HG9 := Lib.hid g
  have sz9 := gby_sz g
  clear o_ g
  go_wp2
  go_ret2
  exact ⟨_, rfl, OwU.one (OwL.wide HO9.out (by omega) (by omega)), gby_trans G3_.out HG9.out⟩

set_option maxRecDepth 8000 in
set_option maxHeartbeats 2000000 in
theorem implAdd_good (W : World) (v : Value) (xs : List DNode) (p d f : Int) (H : RdL shNode W v xs) (hl : szL shNode xs ≤ 1048576) (hp : TOk xs) (hq : TOk (xs ++ [⟨p, d, f⟩])) : Calls Try.prog 38 #[v, .int .i64 p, .int .i64 d, .int .i64 f] W (ResIAddNode (xs ++ [⟨p, d, f⟩]) true W) := by
  obtain ⟨i1_, hi1_, hz0_, hz1_, hz2_⟩ := info_parts infoNodeS
  have HP_ := Lib.hid hp
  have HQ_ := Lib.hid hq
  have HLY : Hid (szL shNode (xs ++ [(⟨p, d, f⟩ : DNode)]) ≤ 1048576) := Lib.hid (by rw [szL_size0 (fun _ => rfl), List.length_append, List.length_singleton]; have := hp.1.2; omega)
  clear hp hq
  have HT := Lib.hid H
  have hlx : xs.length ≤ 1048576 := by have := szL_len shNode xs; omega
  have HL := Lib.hid hl
  obtain ⟨a0, n0, c0, rfl⟩ := RdL.form H
  have hn0 : n0 = xs.length := by obtain ⟨_, _, e, _⟩ := H; injection e
  have HE := Lib.hid hn0
  have hnb : n0 ≤ 1048576 := by omega
  clear H hn0 hl
  go_enter Try.func38, Try.ntmps38
  go_wp2_with fail
  go_at_call 67
  refine (cloneNode_row _ _ xs (HT.out.grow (gby_refl _ _)) HL.out).mono ?_
  rintro e w2 ⟨v2_, rfl, o_, g⟩
  have HO2 := Lib.hid (show w2.ownsRow W.heap.size 41 3 v2_ n0 (xs.flatMap (fun x => [Value.int .i64 x.f0, Value.int .i64 x.f1, Value.int .i64 x.f2])) from by rw [HE.out]; exact o_)
  have HG2 := Lib.hid g
  have hs2_ := gby_sz g
  clear o_ g
  go_wp2_with (at_builtin; refine wpList_append_lies _ (by rfl) _ _ _ (by rfl) (W.heap.size) 41 i1_ _ 3 24 Try.underlying26 hi1_ hz0_ hz1_ hz2_ rfl (by omega) _ n0 (xs.flatMap (fun x => [Value.int .i64 x.f0, Value.int .i64 x.f1, Value.int .i64 x.f2])) (by rfl) (HO2.out.alloc _) ⟨w2.heap.size, 0, none⟩ 1 1 _ (by rfl) (by rfl) (World.news_of_block (t := 41) (fr := (0, 0)) (heap_alloc_new w2 _)) (by simp [Value.oneCell']) (by omega) (by unfold maxLen; omega) (by omega) (by first | (simp; omega) | simp) (w2.heap.size + 1) (by simp) ?_; intro gg5 cap5 w5 hown5 hgr5 hat5 hlt5; have HO5 := Lib.hid hown5; have HG5 := Lib.hid (gby_new (gby_alloc HG2.out _) hgr5 (fun i hi => by have := own_from HO2.out i hi; omega)); clear hown5 hgr5 hat5 hlt5)
  have HOY := Lib.hid (show OwL shNode w5 W.heap.size w5.heap.size _ (xs ++ [(⟨p, d, f⟩ : DNode)]) from owN_row (by rw [List.length_append, List.length_singleton]; omega) (by rw [List.length_append, List.length_singleton, ← HE.out, List.flatMap_append]; exact HO5.out))
  have G1_ := Lib.hid (show (W).grownBy (w5) none from HG5.out)
  have szW_ := gby_sz G1_.out
  go_at_call 35
  refine (implTree_yes _ _ xs (HT.out.grow G1_.out) HL.out HP_.out).mono ?_
  rintro e t1 ⟨rfl, g⟩
  have HOY1 := Lib.hid (HOY.out.grow g)
  have szt1 := gby_sz g
  have G2_ := Lib.hid (show (W).grownBy (t1) none from gby_trans G1_.out g)
  clear g
  go_wp2_with fail
  go_at_call 35
  refine (implTree_yes _ _ (xs ++ [(⟨p, d, f⟩ : DNode)]) (HOY1.out.rd) HLY.out HQ_.out).mono ?_
  rintro e t2 ⟨rfl, g⟩
  have HOY2 := Lib.hid (HOY1.out.grow g)
  have szt2 := gby_sz g
  have G3_ := Lib.hid (show (W).grownBy (t2) none from gby_trans G2_.out g)
  clear g
  go_wp2
  go_ret2
  exact ⟨_, rfl, OwU.one (OwL.wide HOY2.out (by omega) (by omega)), G3_.out⟩

theorem addNode_both (xs0 : List DNode) (i1 i2 i3 : Int) (h0 : szL shNode xs0 ≤ 1048576) : ∃ (xsr0 : List DNode) (br1 : Bool), szL shNode xsr0 ≤ 1048576 ∧ (∀ (W : World), ∀ u0, RdL shNode W u0 xs0 → Calls Try.prog 40 #[u0, .int .i64 i1, .int .i64 i2, .int .i64 i3] W (ResSAddNode xsr0 br1 W)) ∧ ∀ (W : World), ∀ u0, RdL shNode W u0 xs0 → Calls Try.prog 38 #[u0, .int .i64 i1, .int .i64 i2, .int .i64 i3] W (ResIAddNode xsr0 br1 W) := by
  by_cases hp : TOk xs0
  · by_cases hq : TOk (xs0 ++ [⟨i1, i2, i3⟩])
    · exact ⟨_, true, by rw [szL_size0 (fun _ => rfl), List.length_append, List.length_singleton]; have := hp.1.2; omega, fun W u H => (specAdd_good W u xs0 i1 i2 i3 H h0 hp hq).mono (fun e w q => resS_ofAddNode e w q), fun W u H => implAdd_good W u xs0 i1 i2 i3 H h0 hp hq⟩
    · exact ⟨xs0, false, h0, fun W u H => (specAdd_worse W u xs0 i1 i2 i3 H h0 hp hq).mono (fun e w q => resS_ofAddNode e w q), fun W u H => implAdd_worse W u xs0 i1 i2 i3 H h0 hp hq⟩
  · exact ⟨xs0, false, h0, fun W u H => (specAdd_bad W u xs0 i1 i2 i3 H h0 hp).mono (fun e w q => resS_ofAddNode e w q), fun W u H => implAdd_bad W u xs0 i1 i2 i3 H h0 hp⟩

end Go.Proofs.Ytodfbodagjmfmab

namespace Go.Proofs.Ytodfbodagjmfmab
open Go Go.RowKit

def ResSCountBridges (ir0 : Int) (W : World) (e : Ending) (w' : World) : Prop := e = .returned (.int .i64 ir0) ∧ W.grownBy w' none
def ResICountBridges (ir0 : Int) (W : World) (e : Ending) (w' : World) : Prop := e = .returned (.int .i64 ir0) ∧ W.grownBy w' none

end Go.Proofs.Ytodfbodagjmfmab

namespace Go.Proofs.Ytodfbodagjmfmab
open Go Go.RowKit

def ResSSameTree (br0 : Bool) (W : World) (e : Ending) (w' : World) : Prop := e = .returned (.bool br0) ∧ W.grownBy w' none
def ResISameTree (br0 : Bool) (W : World) (e : Ending) (w' : World) : Prop := e = .returned (.bool br0) ∧ W.grownBy w' none

end Go.Proofs.Ytodfbodagjmfmab

namespace Go.Proofs.Ytodfbodagjmfmab
open Go Go.RowKit
set_option linter.unusedVariables false

/-- the bridges of the first n nodes -/
def cntB (xs : List DNode) : Nat → Nat
  | 0 => 0
  | n + 1 => cntB xs n + if (nd xs n).f2 = 0 then 1 else 0
theorem cntB_le (xs : List DNode) : ∀ n, cntB xs n ≤ n
  | 0 => Nat.le_refl _
  | n + 1 => by have := cntB_le xs n; unfold cntB; split <;> omega

set_option maxRecDepth 8000 in
set_option maxHeartbeats 2000000 in
theorem implCnt (W : World) (v : Value) (xs : List DNode) (H : RdL shNode W v xs) (hl : szL shNode xs ≤ 1048576) : Calls Try.prog 39 #[v] W (AnsN (.int .i64 (cntB xs xs.length : Int)) W) := by
  have hlx : xs.length ≤ 1048576 := by have := szL_len shNode xs; omega
  obtain ⟨a0, cap, rfl, hcap, hi⟩ := rdN_in H
  have HA := Lib.hid hi
  obtain ⟨len, hlen⟩ : ∃ len, len = xs.length := ⟨_, rfl⟩
  have HE := Lib.hid hlen
  unfold RdN at HA
  rw [← hlen] at hlx HA ⊢
  clear H hi hlen hl hcap
  go_enter Try.func39, Try.ntmps39
  go_wp2
  go_loopw [3, 5, 8] (fun v z i wr => ∃ n : Nat, n ≤ len ∧ (∃ q, z = q) ∧ i = .int .i64 (n : Int) ∧ v = .int .i64 (cntB xs n : Int) ∧ (W).grownBy wr none) (fun _ _ i _ => len - (intOf i).toNat)
  case atStart => exact ⟨0, by omega, ⟨_, rfl⟩, rfl, rfl, gby_refl _ _⟩
  case round =>
    obtain ⟨n, hn, ⟨z, rfl⟩, rfl, rfl, hg⟩ := hrel
    have szrwr := hg.size
    try simp only [World.size_alloc] at szrwr
    have szr_ := szrwr
    have G1_ := Lib.hid (show (W).grownBy (wr) none from gby_trans (gby_refl _ _) hg)
    have HTB_ := Lib.hid hg
    clear hg
    have hn0 : (0 : Int) ≤ (n : Int) := by omega
    have htn : ((n : Int)).toNat = n := by omega
    have hcl := cntB_le xs n
    obtain ⟨c, hc⟩ : ∃ c, c = cntB xs n := ⟨_, rfl⟩
    rw [← hc] at hcl ⊢
    have HCC := Lib.hid hc
    clear hc
    by_cases hlt : n < len
    · have hki : (n : Int) < (len : Int) := by omega
      obtain ⟨b, off, rfl, hcell⟩ := HA.out.resolve_left (by omega)
      obtain ⟨y, hy⟩ : ∃ y, y = nd xs n := ⟨_, rfl⟩
      have hyc := hcell n hlt
      rw [← hy] at hyc
      have HY := Lib.hid hy
      clear hy hcell
      obtain ⟨y0, y1, y2⟩ := y
      dsimp only at hyc
      have HY0C := Lib.hid hyc.1
      have HY1C := Lib.hid hyc.2.1
      have HY2C := Lib.hid hyc.2.2
      clear hyc
      have y0_ := (G1_.out).cell HY0C.out (by simp)
      have y1_ := (G1_.out).cell HY1C.out (by simp)
      have y2_ := (G1_.out).cell HY2C.out (by simp)
      by_cases h0 : y2 = 0
      · have HB := Lib.hid h0
        have hyb : (y2 == 0) = true := by simpa using h0
        clear h0
        go_wp2_with fail
        clear y0_ y1_ y2_
        have al_ : (wr).grownBy ((wr).alloc (.cells #[.int .i64 y0, .int .i64 y1, .int .i64 y2] 41)) none := gby_alloc (gby_refl _ _) _
        have G2_ := Lib.hid (show (W).grownBy ((wr.alloc (.cells #[.int .i64 y0, .int .i64 y1, .int .i64 y2] 41))) none from gby_trans G1_.out al_)
        have HTB3_ := Lib.hid (show (W).grownBy ((wr.alloc (.cells #[.int .i64 y0, .int .i64 y1, .int .i64 y2] 41))) none from gby_trans HTB_.out al_)
        clear HTB_
        have rY4_ := Lib.hid (show ((wr.alloc (.cells #[.int .i64 y0, .int .i64 y1, .int .i64 y2] 41))).heap[wr.heap.size]? = some (.cells #[.int .i64 y0, .int .i64 y1, .int .i64 y2] 41 (0, 0)) from by first | exact heap_alloc_new _ _ | exact heap_pair _ _ _ | exact heap_trip _ _ _ _)
        clear al_
        have Y_0_ : ((wr.alloc (.cells #[.int .i64 y0, .int .i64 y1, .int .i64 y2] 41))).cell? ⟨wr.heap.size, 0, none⟩ = some (.int .i64 y0) := cell_of_row _ _ 0 _ _ _ rY4_.out
        have Y_1_ : ((wr.alloc (.cells #[.int .i64 y0, .int .i64 y1, .int .i64 y2] 41))).cell? ⟨wr.heap.size, 1, none⟩ = some (.int .i64 y1) := cell_of_row _ _ 1 _ _ _ rY4_.out
        have Y_2_ : ((wr.alloc (.cells #[.int .i64 y0, .int .i64 y1, .int .i64 y2] 41))).cell? ⟨wr.heap.size, 2, none⟩ = some (.int .i64 y2) := cell_of_row _ _ 2 _ _ _ rY4_.out
        have y0_ := (G2_.out).cell HY0C.out (by simp)
        have y1_ := (G2_.out).cell HY1C.out (by simp)
        have y2_ := (G2_.out).cell HY2C.out (by simp)
        go_wp2_with fail
        go_at_call 64
        refine (bridge_yes _ _ _ _ HB.out).mono ?_
        rintro e w1 ⟨rfl, g⟩
        have szw1 := g.size
        try simp only [World.size_alloc] at szw1
        clear Y_0_ Y_1_ Y_2_ y0_ y1_ y2_
        have rY5_ := Lib.hid (show (w1).heap[wr.heap.size]? = some (.cells #[.int .i64 y0, .int .i64 y1, .int .i64 y2] 41 (0, 0)) from row_held g rY4_.out)
        clear rY4_
        have G6_ := Lib.hid (show (W).grownBy (w1) none from gby_trans G2_.out g)
        have HTB7_ := Lib.hid (show (W).grownBy (w1) none from gby_trans HTB3_.out g)
        clear HTB3_
        clear g
        have Y_0_ : (w1).cell? ⟨wr.heap.size, 0, none⟩ = some (.int .i64 y0) := cell_of_row _ _ 0 _ _ _ rY5_.out
        have Y_1_ : (w1).cell? ⟨wr.heap.size, 1, none⟩ = some (.int .i64 y1) := cell_of_row _ _ 1 _ _ _ rY5_.out
        have Y_2_ : (w1).cell? ⟨wr.heap.size, 2, none⟩ = some (.int .i64 y2) := cell_of_row _ _ 2 _ _ _ rY5_.out
        have y0_ := (G6_.out).cell HY0C.out (by simp)
        have y1_ := (G6_.out).cell HY1C.out (by simp)
        have y2_ := (G6_.out).cell HY2C.out (by simp)
        go_wp2
        exact ⟨⟨n + 1, by omega, ⟨_, rfl⟩, by go_num, congrArg (Value.int .i64) (by show _ = ((cntB xs (n + 1) : Nat) : Int); unfold cntB; rw [← HCC.out, ← HY.out]; rw [if_pos HB.out]; omega), HTB7_.out⟩, by simp [intOf]; omega⟩
      · have HB := Lib.hid h0
        have hyb : (y2 == 0) = false := by simpa using h0
        clear h0
        go_wp2_with fail
        clear y0_ y1_ y2_
        have al_ : (wr).grownBy ((wr).alloc (.cells #[.int .i64 y0, .int .i64 y1, .int .i64 y2] 41)) none := gby_alloc (gby_refl _ _) _
        have G2_ := Lib.hid (show (W).grownBy ((wr.alloc (.cells #[.int .i64 y0, .int .i64 y1, .int .i64 y2] 41))) none from gby_trans G1_.out al_)
        have HTB3_ := Lib.hid (show (W).grownBy ((wr.alloc (.cells #[.int .i64 y0, .int .i64 y1, .int .i64 y2] 41))) none from gby_trans HTB_.out al_)
        clear HTB_
        have rY4_ := Lib.hid (show ((wr.alloc (.cells #[.int .i64 y0, .int .i64 y1, .int .i64 y2] 41))).heap[wr.heap.size]? = some (.cells #[.int .i64 y0, .int .i64 y1, .int .i64 y2] 41 (0, 0)) from by first | exact heap_alloc_new _ _ | exact heap_pair _ _ _ | exact heap_trip _ _ _ _)
        clear al_
        have Y_0_ : ((wr.alloc (.cells #[.int .i64 y0, .int .i64 y1, .int .i64 y2] 41))).cell? ⟨wr.heap.size, 0, none⟩ = some (.int .i64 y0) := cell_of_row _ _ 0 _ _ _ rY4_.out
        have Y_1_ : ((wr.alloc (.cells #[.int .i64 y0, .int .i64 y1, .int .i64 y2] 41))).cell? ⟨wr.heap.size, 1, none⟩ = some (.int .i64 y1) := cell_of_row _ _ 1 _ _ _ rY4_.out
        have Y_2_ : ((wr.alloc (.cells #[.int .i64 y0, .int .i64 y1, .int .i64 y2] 41))).cell? ⟨wr.heap.size, 2, none⟩ = some (.int .i64 y2) := cell_of_row _ _ 2 _ _ _ rY4_.out
        have y0_ := (G2_.out).cell HY0C.out (by simp)
        have y1_ := (G2_.out).cell HY1C.out (by simp)
        have y2_ := (G2_.out).cell HY2C.out (by simp)
        go_wp2_with fail
        go_at_call 64
        refine (bridge_no _ _ _ _ HB.out).mono ?_
        rintro e w1 ⟨rfl, g⟩
        have szw1 := g.size
        try simp only [World.size_alloc] at szw1
        clear Y_0_ Y_1_ Y_2_ y0_ y1_ y2_
        have rY5_ := Lib.hid (show (w1).heap[wr.heap.size]? = some (.cells #[.int .i64 y0, .int .i64 y1, .int .i64 y2] 41 (0, 0)) from row_held g rY4_.out)
        clear rY4_
        have G6_ := Lib.hid (show (W).grownBy (w1) none from gby_trans G2_.out g)
        have HTB7_ := Lib.hid (show (W).grownBy (w1) none from gby_trans HTB3_.out g)
        clear HTB3_
        clear g
        have Y_0_ : (w1).cell? ⟨wr.heap.size, 0, none⟩ = some (.int .i64 y0) := cell_of_row _ _ 0 _ _ _ rY5_.out
        have Y_1_ : (w1).cell? ⟨wr.heap.size, 1, none⟩ = some (.int .i64 y1) := cell_of_row _ _ 1 _ _ _ rY5_.out
        have Y_2_ : (w1).cell? ⟨wr.heap.size, 2, none⟩ = some (.int .i64 y2) := cell_of_row _ _ 2 _ _ _ rY5_.out
        have y0_ := (G6_.out).cell HY0C.out (by simp)
        have y1_ := (G6_.out).cell HY1C.out (by simp)
        have y2_ := (G6_.out).cell HY2C.out (by simp)
        go_wp2
        exact ⟨⟨n + 1, by omega, ⟨_, rfl⟩, by go_num, congrArg (Value.int .i64) (by show _ = ((cntB xs (n + 1) : Nat) : Int); unfold cntB; rw [← HCC.out, ← HY.out]; rw [if_neg HB.out]; omega), HTB7_.out⟩, by simp [intOf]; omega⟩
    · obtain rfl : n = len := by omega
      have hki : ¬ (n : Int) < (n : Int) := by omega
      go_wp2
      go_ret
      exact ⟨ret_i64 (by rw [HCC.out]), G1_.out⟩

theorem nodes_eq {xs ys : List DNode} (h : xs.length = ys.length) (he : ∀ j, j < xs.length → nd xs j = nd ys j) : xs = ys := by
  apply List.ext_getElem h
  intro j h1 h2
  have := he j h1
  unfold nd at this
  rwa [List.getD_eq_getElem?_getD, List.getD_eq_getElem?_getD, List.getElem?_eq_getElem h1, List.getElem?_eq_getElem h2] at this

set_option maxRecDepth 8000 in
set_option maxHeartbeats 2000000 in
theorem equalSame (W : World) (v u : Value) (xs ys : List DNode) (H : RdL shNode W v xs) (H1 : RdL shNode W u ys) (hl : szL shNode xs ≤ 1048576) (hl1 : szL shNode ys ≤ 1048576) : Calls Try.prog 72 #[v, u] W (BPost (xs = ys) W) := by
  have hlx : xs.length ≤ 1048576 := by have := szL_len shNode xs; omega
  have hly : ys.length ≤ 1048576 := by have := szL_len shNode ys; omega
  obtain ⟨a0, cap, rfl, hcap, hi⟩ := rdN_in H
  obtain ⟨a1, cap1, rfl, hcap1, hi1⟩ := rdN_in H1
  have HA := Lib.hid hi
  have HA1 := Lib.hid hi1
  obtain ⟨len, hlen⟩ : ∃ len, len = xs.length := ⟨_, rfl⟩
  obtain ⟨len1, hlen1⟩ : ∃ len, len = ys.length := ⟨_, rfl⟩
  have HE := Lib.hid hlen
  have HE1 := Lib.hid hlen1
  unfold RdN at HA HA1
  rw [← hlen] at hlx HA ⊢
  rw [← hlen1] at hly HA1 ⊢
  clear H hi hlen hl hcap H1 hi1 hlen1 hl1 hcap1
  by_cases hll : len = len1
  rotate_left
  · have hz : ((len : Int) != (len1 : Int)) = true := by simp; omega
    have HN := Lib.hid hll
    clear hll
    go_enter Try.func72, Try.ntmps72
    go_wp2
    go_ret
    exact ⟨false, rfl, iff_no (fun q => HN.out (by rw [HE.out, HE1.out, q])), (gby_refl _ _)⟩
  subst hll
  have hz : ((len : Int) != (len : Int)) = false := by simp
  go_enter Try.func72, Try.ntmps72
  go_wp2
  go_loopw [5, 13] (fun z i wr => ∃ n : Nat, n ≤ len ∧ (∃ q, z = q) ∧ i = .int .i64 (n : Int) ∧ (∀ j, j < n → nd xs j = nd ys j) ∧ (W).grownBy wr none) (fun _ i _ => len - (intOf i).toNat)
  case atStart => exact ⟨0, by omega, ⟨_, rfl⟩, rfl, fun j h => absurd h (Nat.not_lt_zero _), gby_refl _ _⟩
  case round =>
    obtain ⟨n, hn, ⟨z, rfl⟩, rfl, hj, hg⟩ := hrel
    have szrwr := hg.size
    try simp only [World.size_alloc] at szrwr
    have szr_ := szrwr
    have G1_ := Lib.hid (show (W).grownBy (wr) none from gby_trans (gby_refl _ _) hg)
    have HTB_ := Lib.hid hg
    clear hg
    have HJ := Lib.hid hj
    clear hj
    have hn0 : (0 : Int) ≤ (n : Int) := by omega
    have htn : ((n : Int)).toNat = n := by omega
    by_cases hlt : n < len
    · have hki : (n : Int) < (len : Int) := by omega
      obtain ⟨b, off, rfl, hcell⟩ := HA.out.resolve_left (by omega)
      obtain ⟨y, hy⟩ : ∃ y, y = nd xs n := ⟨_, rfl⟩
      have hyc := hcell n hlt
      rw [← hy] at hyc
      have HY := Lib.hid hy
      clear hy hcell
      obtain ⟨b1, off1, rfl, hcell⟩ := HA1.out.resolve_left (by omega)
      obtain ⟨z, hz_⟩ : ∃ z, z = nd ys n := ⟨_, rfl⟩
      have hzc := hcell n hlt
      rw [← hz_] at hzc
      have HZ := Lib.hid hz_
      clear hz_ hcell
      obtain ⟨y0, y1, y2⟩ := y
      obtain ⟨z0, z1, z2⟩ := z
      dsimp only at hyc hzc
      have HY0C := Lib.hid hyc.1
      have HY1C := Lib.hid hyc.2.1
      have HY2C := Lib.hid hyc.2.2
      have HZ0C := Lib.hid hzc.1
      have HZ1C := Lib.hid hzc.2.1
      have HZ2C := Lib.hid hzc.2.2
      clear hyc hzc
      have y0_ := (G1_.out).cell HY0C.out (by simp)
      have y1_ := (G1_.out).cell HY1C.out (by simp)
      have y2_ := (G1_.out).cell HY2C.out (by simp)
      have z0_ := (G1_.out).cell HZ0C.out (by simp)
      have z1_ := (G1_.out).cell HZ1C.out (by simp)
      have z2_ := (G1_.out).cell HZ2C.out (by simp)
      by_cases h0 : y0 = z0
      rotate_left
      · have hb0 : (y0 == z0) = false := by simpa using h0
        have HB := Lib.hid h0
        clear h0
        go_wp2_with fail
        go_quiet (fail)
        go_wp2
        go_ret
        exact ⟨false, rfl, iff_no (fun q => HB.out (by have e_ : (⟨y0, y1, y2⟩ : DNode) = ⟨z0, z1, z2⟩ := (by rw [HY.out, HZ.out, q]); injection e_)), by repeat (first | exact G1_.out | with_reducible refine gby_drewN ?_ _)⟩
      have hb0 : (y0 == z0) = true := by simpa using h0
      have HE_0 := Lib.hid h0
      clear h0
      by_cases h1 : y1 = z1
      rotate_left
      · have hb1 : (y1 == z1) = false := by simpa using h1
        have HB := Lib.hid h1
        clear h1
        go_wp2_with fail
        go_quiet (fail)
        go_wp2
        go_ret
        exact ⟨false, rfl, iff_no (fun q => HB.out (by have e_ : (⟨y0, y1, y2⟩ : DNode) = ⟨z0, z1, z2⟩ := (by rw [HY.out, HZ.out, q]); injection e_)), by repeat (first | exact G1_.out | with_reducible refine gby_drewN ?_ _)⟩
      have hb1 : (y1 == z1) = true := by simpa using h1
      have HE_1 := Lib.hid h1
      clear h1
      by_cases h2 : y2 = z2
      rotate_left
      · have hb2 : (y2 == z2) = false := by simpa using h2
        have HB := Lib.hid h2
        clear h2
        go_wp2_with fail
        go_quiet (fail)
        go_wp2
        go_ret
        exact ⟨false, rfl, iff_no (fun q => HB.out (by have e_ : (⟨y0, y1, y2⟩ : DNode) = ⟨z0, z1, z2⟩ := (by rw [HY.out, HZ.out, q]); injection e_)), by repeat (first | exact G1_.out | with_reducible refine gby_drewN ?_ _)⟩
      have hb2 : (y2 == z2) = true := by simpa using h2
      have HE_2 := Lib.hid h2
      clear h2
      go_wp2_with fail
      go_quiet (fail)
      go_wp2
      refine ⟨⟨n + 1, by omega, ⟨_, rfl⟩, by go_num, fun j hj => ?_, by repeat (first | exact HTB_.out | with_reducible refine gby_drewN ?_ _)⟩, by simp [intOf]; omega⟩
      by_cases e : j = n
      · subst e; rw [← HY.out, ← HZ.out, HE_0.out, HE_1.out, HE_2.out]
      · exact HJ.out j (by omega)
    · obtain rfl : n = len := by omega
      have hki : ¬ (n : Int) < (n : Int) := by omega
      go_wp2
      go_ret
      exact ⟨true, rfl, iff_yes (nodes_eq (HE.out.symm.trans HE1.out) (fun j hj => HJ.out j (by rw [HE.out]; exact hj))), G1_.out⟩

theorem implSame (W : World) (v u : Value) (xs ys : List DNode) (H : RdL shNode W v xs) (H1 : RdL shNode W u ys) (hl : szL shNode xs ≤ 1048576) (hl1 : szL shNode ys ≤ 1048576) : Calls Try.prog 44 #[v, u] W (BPost (xs = ys) W) := by
  have HQ := Lib.hid (fun (_ : Unit) => equalSame W v u xs ys H H1 hl hl1)
  obtain ⟨a0, cap, rfl, _⟩ := rdN_in H
  obtain ⟨a1, cap1, rfl, _⟩ := rdN_in H1
  clear H H1
  go_enter Try.func44, Try.ntmps44
  go_wp2_with fail
  go_at_call 72
  refine (HQ.out ()).mono ?_
  rintro e w1 ⟨r, rfl, hr, g_⟩
  have G1_ := Lib.hid (show (W).grownBy (w1) none from gby_trans (gby_refl _ _) g_)
  have HR := Lib.hid hr
  clear hr g_
  go_wp2
  go_ret
  exact ⟨r, rfl, HR.out, G1_.out⟩

end Go.Proofs.Ytodfbodagjmfmab

namespace Go.Proofs.Ytodfbodagjmfmab
open Go Go.RowKit


theorem big_any (a : Option Addr) (len cap : Nat) (w : World) :
    Calls Try.prog 30 #[.slice a len cap] w (fun e w' => e = .returned (.bool (decide ((1048576 : Int) < (len : Int)))) ∧ w = w') := by
  go_enter Try.func30, Try.ntmps30
  go_wp2
  go_ret
  exact ⟨rfl, rfl⟩

end Go.Proofs.Ytodfbodagjmfmab

namespace Go.Proofs.Ytodfbodagjmfmab
open Go Go.RowKit
set_option linter.unusedVariables false

theorem cnt_pos {xs : List DNode} (h : TOk xs) : ∀ n, 1 ≤ n → 1 ≤ cntB xs n
  | 0, h0 => by omega
  | n + 1, _ => by
    unfold cntB
    by_cases e : n = 0
    · subst e; rw [if_pos h.2.1.2.2]; omega
    · have := cnt_pos h n (by omega); omega

set_option maxRecDepth 8000 in
set_option maxHeartbeats 8000000 in
theorem walk_slots (a : Option Addr) (len cap : Nat) (zs : List Int) (W : World) (hB : Bytes W a len zs) :
    Calls Try.prog 10 #[.slice a len cap] W fun e w' => e = .returned (.bool true) ∧ Below W.heap.size W w' := by
  have HB := Lib.hid hB
  clear hB
  by_cases hbig : (1048576 : Int) < (len : Int)
  · go_enter Try.func10, Try.ntmps10
    go_wp2
    go_ret
    exact ⟨rfl, Below.refl _ _⟩
  · skip
    go_enter Try.func10, Try.ntmps10
    go_wp2_with fail
    go_at_call 30
    refine (big_any _ _ _ _).mono ?_
    rintro e w1 ⟨rfl, rfl⟩
    go_wp2_with fail
    go_at_call 31
    refine (drawTree_any _ _ _ _ _ (bytes_grow HB.out (gby_refl _ _)) (by omega)).mono ?_
    rintro e w2 ⟨v_, xs, rfl, ht, o, g⟩
    have HTO := Lib.hid ht
    obtain ⟨ta_, tc, rfl, _, hi_⟩ := rdN_in o.rd
    obtain ⟨tb, to, rfl, hnc⟩ := hi_.resolve_left (by have := ht.1.1; omega)
    have HNC := Lib.hid hnc
    have HT0 := Lib.hid o.rd
    obtain ⟨n0, hn0⟩ : ∃ n, n = xs.length := ⟨_, rfl⟩
    have HE := Lib.hid hn0
    have hx1 : 1 ≤ n0 := by have := ht.1.1; omega
    have hx2 : n0 ≤ 12 := by have := ht.1.2; omega
    rw [← hn0] at HNC HT0 ⊢
    have HLx : Hid (szL shNode xs ≤ 1048576) := Lib.hid (by rw [szL_size0 (fun _ => rfl)]; have := ht.1.2; omega)
    clear ht o hn0 hnc
    have szw2 := g.size
    try simp only [World.size_alloc] at szw2
    have G1_ := Lib.hid (show (W).grownBy (w2) none from gby_trans (gby_refl _ _) g)
    clear g
    have HTT2_ := Lib.hid (gby_refl (w2) none)
    have MG3_ := Lib.hid (show (W).grownBy (w2) none from G1_.out)
    go_wp2_with fail
    go_at_call 32
    refine (places_any _ _ _ _ _ (bytes_grow HB.out G1_.out) (by omega)).mono ?_
    rintro e w3 ⟨v3, ps, rfl, hl12, hps, o3, g⟩
    obtain ⟨pb, po, pc, rfl, hpc⟩ := o3.twelve hl12
    have HPS := Lib.hid (fun j (hj : j < 12) => hps (ps.getD j 0) (by rw [List.getD_eq_getElem?_getD, List.getElem?_eq_getElem (by omega)]; exact List.getElem_mem _))
    have HPC := Lib.hid hpc
    clear o3 hpc hps hl12
    have szw3 := g.size
    try simp only [World.size_alloc] at szw3
    have G4_ := Lib.hid (show (W).grownBy (w3) none from gby_trans G1_.out g)
    have HTT5_ := Lib.hid (show (w2).grownBy (w3) none from gby_trans HTT2_.out g)
    clear HTT2_
    clear g
    have HTP6_ := Lib.hid (gby_refl (w3) none)
    have MG7_ := Lib.hid (show (W).grownBy (w3) none from G4_.out)
    obtain ⟨q0, hq0⟩ : ∃ q0, q0 = ps.getD 0 0 := ⟨_, rfl⟩
    obtain ⟨q01, q02⟩ := (show IsP q0 from by rw [hq0]; exact HPS.out 0 (by omega))
    have HCq0 := Lib.hid (HPC.out 0 (by omega))
    rw [← hq0] at HCq0
    clear hq0
    have p0_ : (w3).cell? ⟨pb, po, none⟩ = some (.int .i64 q0) := (HTP6_.out).cell HCq0.out (by simp)
    have hz0 : ¬ (n0 : Int) = 0 := by omega
    have hz0b : ((n0 : Int) == 0) = false := by simp; omega
    obtain ⟨u, hu⟩ : ∃ u : Nat, q0 % (n0 : Int) = (u : Int) := ⟨(q0 % (n0 : Int)).toNat, by have := Int.emod_nonneg q0 hz0; omega⟩
    have hut : Int.tmod q0 (n0 : Int) = (u : Int) := by rw [Int.tmod_eq_emod_of_nonneg (by omega)]; exact hu
    have hul : u < n0 := by have := Int.emod_lt_of_pos q0 (show (0 : Int) < (n0 : Int) by omega); omega
    have HU := Lib.hid (show u < xs.length by rw [← HE.out]; exact hul)
    obtain ⟨X, hX⟩ := slotL_ex xs (u : Int)
    have HX := Lib.hid hX
    clear hX
    have hX4 : X.length ≤ 4 := slotL_len HX.out
    go_wp2_with fail
    go_at_call 37
    refine ((implSlots_any _ _ xs (u : Int) (HT0.out.grow HTT5_.out) HLx.out X HX.out)).mono ?_
    rintro e w4 ⟨vX, rfl, o, g⟩
    have szw4 := g.size
    have G8_ := Lib.hid (show (W).grownBy (w4) none from gby_trans G4_.out g)
    have HTT9_ := Lib.hid (show (w2).grownBy (w4) none from gby_trans HTT5_.out g)
    clear HTT5_
    have HTP10_ := Lib.hid (show (w3).grownBy (w4) none from gby_trans HTP6_.out g)
    clear HTP6_
    clear g
    obtain ⟨pX, nX, cX, hv_⟩ := RdL.form (OwU.rd o)
    have hnX : nX = X.length := by obtain ⟨_, _, e, _⟩ := OwU.rd o; rw [hv_] at e; injection e
    subst hv_
    have HRX := Lib.hid (OwU.rd o)
    have HNX := Lib.hid hnX
    rw [← hnX] at hX4
    clear o hnX
    have HTX11_ := Lib.hid (gby_refl (w4) none)
    have MG12_ := Lib.hid (show (W).grownBy (w4) none from G8_.out)
    clear p0_ hu hut
    go_wp2
    go_loopw [7] (fun d wr => ∃ d_ : Nat, d = .int .i64 (d_ : Int) ∧ d_ ≤ 4 ∧ (w4).grownBy wr none) (fun d _ => 4 - (intOf d).toNat)
    case atStart => exact ⟨0, rfl, by omega, gby_refl _ _⟩
    case round =>
      obtain ⟨d_, rfl, hd, hg⟩ := hrel
      have szrwr := hg.size
      try simp only [World.size_alloc] at szrwr
      try simp only [World.size_setCell] at szrwr
      have szr_ := szrwr
      have G13_ := Lib.hid (show (W).grownBy (wr) none from gby_trans G8_.out hg)
      have HTT14_ := Lib.hid (show (w2).grownBy (wr) none from gby_trans HTT9_.out hg)
      clear HTT9_
      have HTP15_ := Lib.hid (show (w3).grownBy (wr) none from gby_trans HTP10_.out hg)
      clear HTP10_
      have HTX16_ := Lib.hid (show (w4).grownBy (wr) none from gby_trans HTX11_.out hg)
      clear HTX11_
      have HTB_ := Lib.hid hg
      clear hg
      obtain ⟨d, hdd⟩ : ∃ d, d = d_ := ⟨_, rfl⟩
      subst hdd
      have hd0 : (0 : Int) ≤ (d : Int) := by omega
      have htd : ((d : Int)).toNat = d := by omega
      by_cases hlt : d < 4
      rotate_left
      · obtain rfl : d = 4 := by omega
        have hki : ¬ (((4 : Nat) : Int)) ≤ 3 := by omega
        have hki2 : ¬ (4 : Int) ≤ 3 := by omega
        have hui : (u : Int) < (n0 : Int) := by omega
        have hu0 : (0 : Int) ≤ (u : Int) := by omega
        have htu : ((u : Int)).toNat = u := by omega
        obtain ⟨Z, hZ⟩ : ∃ Z, Z = nums (kidsN xs (u : Int) 4) := ⟨_, rfl⟩
        obtain ⟨n2, hn2⟩ : ∃ n2, n2 = Z.length := ⟨_, rfl⟩
        obtain ⟨c, hc⟩ : ∃ c, c = cntB xs xs.length := ⟨_, rfl⟩
        have hc1 : 1 ≤ c := by rw [hc]; exact cnt_pos HTO.out _ (by have := HE.out; omega)
        have hc12 : c ≤ 12 := by rw [hc]; have := cntB_le xs xs.length; have := HE.out; omega
        have hz48 : n2 ≤ 48 := by rw [hn2, hZ, nums_len]; have := kidsN_len xs (u : Int) 4; have := HE.out; omega
        have h4 := slots_four HTO.out HU.out HX.out
        rw [← HNX.out, ← nums_len, ← hZ, ← hn2] at h4
        have nf_ := (HTT14_.out).cell (HNC.out u hul).2.2 (by simp)
        obtain ⟨ff, hff⟩ : ∃ ff, ff = (nd xs u).f2 := ⟨_, rfl⟩
        rw [← hff] at nf_ h4
        have HZ := Lib.hid hZ
        have HN2 := Lib.hid hn2
        have HC := Lib.hid hc
        obtain ⟨s, hs⟩ : ∃ s, s = nX + n2 := ⟨_, rfl⟩
        have hw : IntKind.i64.wrap ((nX : Int) + (n2 : Int)) = (s : Int) := by rw [show (nX : Int) + (n2 : Int) = (s : Int) by omega]; exact IntWalk.i64_in _ (by omega)
        have hw2 : (nX : Int) + (n2 : Int) = (s : Int) := by omega
        rw [← hs] at h4
        clear hZ hn2 hc hff hs
        have hcg : (1 : Int) ≤ (c : Int) := by omega
        have hcg2 : decide ((1 : Int) ≤ (c : Int)) = true := decide_eq_true hcg
        have hcg3 : decide (1 ≤ c) = true := decide_eq_true hc1
        by_cases hf : ff = 0
        rotate_left
        · have hs4 : ¬ (s : Int) = 4 := fun q => hf (h4.2 (by omega))
          have hb1 : ((s : Int) == 4) = false := beq_eq_false_iff_ne.2 hs4
          have hs4n : ¬ s = 4 := by omega
          have hw3 : IntKind.i64.wrap (s : Int) = (s : Int) := IntWalk.i64_in _ (by omega)
          have hb2 : (ff == 0) = false := beq_eq_false_iff_ne.2 hf
          clear h4
          go_wp2_with fail
          go_region_held3 (fun w' => w'.cell? ⟨tb, to + u * 3 + 2, none⟩ = some (.int .i64 ff))
            (first | exact nf_ | exact mnf_ | exact nnf_ | fail)
            (first
              | (go_at_call 18; refine (show Calls _ _ _ _ (ResIChildrenOf Z _) from (by rw [HZ.out]; exact implKids_yes _ _ xs (u : Int) (HT0.out.grow (gby_drew HTT14_.out)) HLx.out ⟨HTO.out, hu0, by rw [← HE.out]; exact hui⟩)).mono ?_; rintro e wA ⟨vZ, rfl, oZ, gA⟩; obtain ⟨pZ, nZ, cZ, hvZ⟩ := RdL.form (OwU.rd oZ); have hnZ : nZ = Z.length := (by obtain ⟨_, _, e, _⟩ := OwU.rd oZ; rw [hvZ] at e; injection e); rw [← HN2.out] at hnZ; subst hvZ; subst hnZ; clear oZ; have mnf_ : wA.cell? _ = some _ := gA.cell nf_ (by simp))
              | (go_at_call 39; refine (implCnt _ _ xs (HT0.out.grow (gby_trans (gby_drew HTT14_.out) gA)) HLx.out).mono ?_; rw [← HC.out]; rintro e wB ⟨rfl, gB⟩; have nnf_ : wB.cell? _ = some _ := gB.cell mnf_ (by simp))
              | fail)
          all_goals
            have g : (wr).grownBy wB none := gby_trans (gby_trans (gby_drew (gby_refl _ _)) gA) gB
            clear gA gB mnf_ nnf_
          have G17_ := Lib.hid (show (W).grownBy (wB) none from gby_trans G13_.out g)
          have HTT18_ := Lib.hid (show (w2).grownBy (wB) none from gby_trans HTT14_.out g)
          clear HTT14_
          have HTP19_ := Lib.hid (show (w3).grownBy (wB) none from gby_trans HTP15_.out g)
          clear HTP15_
          have HTX20_ := Lib.hid (show (w4).grownBy (wB) none from gby_trans HTX16_.out g)
          clear HTX16_
          have HTB21_ := Lib.hid (show (w4).grownBy (wB) none from gby_trans HTB_.out g)
          clear HTB_
          clear g
          go_wp2
          go_ret
          exact ⟨rfl, gby_below G17_.out⟩
        subst hf
        have hs4 : s = 4 := h4.1 rfl
        subst hs4
        clear h4
        go_wp2_with fail
        go_region_held3 (fun w' => w'.cell? ⟨tb, to + u * 3 + 2, none⟩ = some (.int .i64 0))
          (first | exact nf_ | exact mnf_ | exact nnf_ | fail)
          (first
            | (go_at_call 18; refine (show Calls _ _ _ _ (ResIChildrenOf Z _) from (by rw [HZ.out]; exact implKids_yes _ _ xs (u : Int) (HT0.out.grow (gby_drew HTT14_.out)) HLx.out ⟨HTO.out, hu0, by rw [← HE.out]; exact hui⟩)).mono ?_; rintro e wA ⟨vZ, rfl, oZ, gA⟩; obtain ⟨pZ, nZ, cZ, hvZ⟩ := RdL.form (OwU.rd oZ); have hnZ : nZ = Z.length := (by obtain ⟨_, _, e, _⟩ := OwU.rd oZ; rw [hvZ] at e; injection e); rw [← HN2.out] at hnZ; subst hvZ; subst hnZ; clear oZ; have mnf_ : wA.cell? _ = some _ := gA.cell nf_ (by simp))
            | (go_at_call 39; refine (implCnt _ _ xs (HT0.out.grow (gby_trans (gby_drew HTT14_.out) gA)) HLx.out).mono ?_; rw [← HC.out]; rintro e wB ⟨rfl, gB⟩; have nnf_ : wB.cell? _ = some _ := gB.cell mnf_ (by simp))
            | fail)
        all_goals
          have g : (wr).grownBy wB none := gby_trans (gby_trans (gby_drew (gby_refl _ _)) gA) gB
          clear gA gB mnf_ nnf_
        have G17_ := Lib.hid (show (W).grownBy (wB) none from gby_trans G13_.out g)
        have HTT18_ := Lib.hid (show (w2).grownBy (wB) none from gby_trans HTT14_.out g)
        clear HTT14_
        have HTP19_ := Lib.hid (show (w3).grownBy (wB) none from gby_trans HTP15_.out g)
        clear HTP15_
        have HTX20_ := Lib.hid (show (w4).grownBy (wB) none from gby_trans HTX16_.out g)
        clear HTX16_
        have HTB21_ := Lib.hid (show (w4).grownBy (wB) none from gby_trans HTB_.out g)
        clear HTB_
        clear g
        go_wp2
        go_ret
        exact ⟨rfl, gby_below G17_.out⟩
      have hki : (d : Int) ≤ 3 := by omega
      have hsa := slots_add HTO.out HU.out HX.out hd0 hki
      have HSA := Lib.hid hsa
      clear hsa
      by_cases hq : TOk (xs ++ [⟨(u : Int), (d : Int), 1⟩])
      · have hm := (HSA.out.1 hq).1
        have hl12 : (n0 : Int) < 12 := by have := (HSA.out.1 hq).2; have := HE.out; omega
        have HM := Lib.hid hm
        have HQ := Lib.hid hq
        clear hm hq
        go_wp2_with fail
        go_at_call 38
        refine ((implAdd_good _ _ xs (u : Int) (d : Int) 1 (HT0.out.grow HTT14_.out) HLx.out HTO.out HQ.out)).mono ?_
        rintro e w5 ⟨va, rfl, o, g⟩
        have szw5 := g.size
        have G17_ := Lib.hid (show (W).grownBy (w5) none from gby_trans G13_.out g)
        have HTT18_ := Lib.hid (show (w2).grownBy (w5) none from gby_trans HTT14_.out g)
        clear HTT14_
        have HTP19_ := Lib.hid (show (w3).grownBy (w5) none from gby_trans HTP15_.out g)
        clear HTP15_
        have HTX20_ := Lib.hid (show (w4).grownBy (w5) none from gby_trans HTX16_.out g)
        clear HTX16_
        have HTB21_ := Lib.hid (show (w4).grownBy (w5) none from gby_trans HTB_.out g)
        clear HTB_
        clear g
        clear o
        go_wp2_with fail
        go_at_call 34
        refine ((hasL_any _ _ X (d : Int) (HRX.out.grow HTX20_.out) (by rw [← HNX.out]; omega)).mono (bpost_yes HM.out)).mono ?_
        rintro e w6 ⟨rfl, g⟩
        have szw6 := g.size
        try simp only [World.size_alloc] at szw6
        try simp only [World.size_setCell] at szw6
        have G22_ := Lib.hid (show (W).grownBy (w6) none from gby_trans G17_.out g)
        have HTT23_ := Lib.hid (show (w2).grownBy (w6) none from gby_trans HTT18_.out g)
        clear HTT18_
        have HTP24_ := Lib.hid (show (w3).grownBy (w6) none from gby_trans HTP19_.out g)
        clear HTP19_
        have HTX25_ := Lib.hid (show (w4).grownBy (w6) none from gby_trans HTX20_.out g)
        clear HTX20_
        have HTB26_ := Lib.hid (show (w4).grownBy (w6) none from gby_trans HTB21_.out g)
        clear HTB21_
        clear g
        go_wp2
        refine ⟨⟨d + 1, by go_num, by omega, by repeat (first | exact HTB26_.out | with_reducible refine gby_drewN ?_ _)⟩, by simp [intOf]; omega⟩
      have HQ := Lib.hid hq
      by_cases hm : (d : Int) ∈ X
      rotate_left
      · have HM := Lib.hid hm
        clear hm hq
        go_wp2_with fail
        go_at_call 38
        refine ((implAdd_worse _ _ xs (u : Int) (d : Int) 1 (HT0.out.grow HTT14_.out) HLx.out HTO.out HQ.out)).mono ?_
        rintro e w5 ⟨va, rfl, o, g⟩
        have szw5 := g.size
        have G17_ := Lib.hid (show (W).grownBy (w5) none from gby_trans G13_.out g)
        have HTT18_ := Lib.hid (show (w2).grownBy (w5) none from gby_trans HTT14_.out g)
        clear HTT14_
        have HTP19_ := Lib.hid (show (w3).grownBy (w5) none from gby_trans HTP15_.out g)
        clear HTP15_
        have HTX20_ := Lib.hid (show (w4).grownBy (w5) none from gby_trans HTX16_.out g)
        clear HTX16_
        have HTB21_ := Lib.hid (show (w4).grownBy (w5) none from gby_trans HTB_.out g)
        clear HTB_
        clear g
        clear o
        go_wp2_with fail
        go_at_call 34
        refine ((hasL_any _ _ X (d : Int) (HRX.out.grow HTX20_.out) (by rw [← HNX.out]; omega)).mono (bpost_no HM.out)).mono ?_
        rintro e w6 ⟨rfl, g⟩
        have szw6 := g.size
        try simp only [World.size_alloc] at szw6
        try simp only [World.size_setCell] at szw6
        have G22_ := Lib.hid (show (W).grownBy (w6) none from gby_trans G17_.out g)
        have HTT23_ := Lib.hid (show (w2).grownBy (w6) none from gby_trans HTT18_.out g)
        clear HTT18_
        have HTP24_ := Lib.hid (show (w3).grownBy (w6) none from gby_trans HTP19_.out g)
        clear HTP19_
        have HTX25_ := Lib.hid (show (w4).grownBy (w6) none from gby_trans HTX20_.out g)
        clear HTX20_
        have HTB26_ := Lib.hid (show (w4).grownBy (w6) none from gby_trans HTB21_.out g)
        clear HTB21_
        clear g
        go_wp2
        refine ⟨⟨d + 1, by go_num, by omega, by repeat (first | exact HTB26_.out | with_reducible refine gby_drewN ?_ _)⟩, by simp [intOf]; omega⟩
      have hl12 : ¬ (n0 : Int) < 12 := fun q => hq (HSA.out.2 ⟨hm, by have := HE.out; omega⟩)
      have HM := Lib.hid hm
      clear hm hq
      go_wp2_with fail
      go_at_call 38
      refine ((implAdd_worse _ _ xs (u : Int) (d : Int) 1 (HT0.out.grow HTT14_.out) HLx.out HTO.out HQ.out)).mono ?_
      rintro e w5 ⟨va, rfl, o, g⟩
      have szw5 := g.size
      have G17_ := Lib.hid (show (W).grownBy (w5) none from gby_trans G13_.out g)
      have HTT18_ := Lib.hid (show (w2).grownBy (w5) none from gby_trans HTT14_.out g)
      clear HTT14_
      have HTP19_ := Lib.hid (show (w3).grownBy (w5) none from gby_trans HTP15_.out g)
      clear HTP15_
      have HTX20_ := Lib.hid (show (w4).grownBy (w5) none from gby_trans HTX16_.out g)
      clear HTX16_
      have HTB21_ := Lib.hid (show (w4).grownBy (w5) none from gby_trans HTB_.out g)
      clear HTB_
      clear g
      clear o
      go_wp2_with fail
      go_at_call 34
      refine ((hasL_any _ _ X (d : Int) (HRX.out.grow HTX20_.out) (by rw [← HNX.out]; omega)).mono (bpost_yes HM.out)).mono ?_
      rintro e w6 ⟨rfl, g⟩
      have szw6 := g.size
      try simp only [World.size_alloc] at szw6
      try simp only [World.size_setCell] at szw6
      have G22_ := Lib.hid (show (W).grownBy (w6) none from gby_trans G17_.out g)
      have HTT23_ := Lib.hid (show (w2).grownBy (w6) none from gby_trans HTT18_.out g)
      clear HTT18_
      have HTP24_ := Lib.hid (show (w3).grownBy (w6) none from gby_trans HTP19_.out g)
      clear HTP19_
      have HTX25_ := Lib.hid (show (w4).grownBy (w6) none from gby_trans HTX20_.out g)
      clear HTX20_
      have HTB26_ := Lib.hid (show (w4).grownBy (w6) none from gby_trans HTB21_.out g)
      clear HTB21_
      clear g
      go_wp2
      refine ⟨⟨d + 1, by go_num, by omega, by repeat (first | exact HTB26_.out | with_reducible refine gby_drewN ?_ _)⟩, by simp [intOf]; omega⟩

end Go.Proofs.Ytodfbodagjmfmab
