/-
  Contracts of the model's DrawField and DrawPlaces.
-/
import Derived.Test.YteaaobklfhlgiaaDraw
import Derived.Test.YteaaobklfhlgiaaHexMath
import Derived.LoopTactic
import Derived.Deep.AppendLies
import Derived.WalkSpells
import Derived.OwnWalk
import Derived.KernelRfl
namespace Go.Proofs.Yteaaobklfhlgiaa
open Go Go.RowKit

/-- a number, a place and a width that fit together -/
def DrawnField (w : World) (e : Ending) (w' : World) : Prop := ∃ x low wd : Nat, x ≤ 65535 ∧ low ≤ 15 ∧ 1 ≤ wd ∧ wd + low ≤ 16 ∧ e = .returned (.tuple #[.int .i64 (x : Int), .int .i64 (low : Int), .int .i64 (wd : Int)]) ∧ w.grownBy w' none

theorem ret_iii {a b c x y z : Int} (h1 : a = x) (h2 : b = y) (h3 : c = z) : Ending.returned (.tuple #[.int .i64 a, .int .i64 b, .int .i64 c]) = .returned (.tuple #[.int .i64 x, .int .i64 y, .int .i64 z]) := by rw [h1, h2, h3]

set_option maxHeartbeats 400000 in
theorem drawField_any (w : World) (a : Option Addr) (len cap : Nat) (zs : List Int) (hB : Bytes w a len zs) (hl : len ≤ 1048576) :
    Calls Try.prog 15 #[.slice a len cap] w (DrawnField w) := by
  have HB := Lib.hid hB
  clear hB
  go_enter Try.func15, Try.ntmps15
  go_wp2_with fail
  go_at_call 37
  refine (new_any _ _ _ _ _ HB.out hl).mono ?_
  rintro e w1 ⟨c, rfl, hc, H1, G1⟩
  have HG1 := Lib.hid G1
  clear G1
  go_wp2_with fail
  go_at_call 38
  refine (below_any _ _ _ H1 (by omega) (by omega)).mono ?_
  rintro e w2 ⟨lo, ⟨hx0, hx1⟩, rfl, H2, G2⟩
  have HG2 := Lib.hid (gby_own HG1.out G2 hc)
  clear G2
  go_wp2_with fail
  go_at_call 38
  refine (below_any _ _ _ H2 (by omega) (by omega)).mono ?_
  rintro e w3 ⟨x, ⟨hy0, hy1⟩, rfl, H3, G3⟩
  have HG3 := Lib.hid (gby_own HG2.out G3 hc)
  clear G3
  go_wp2_with fail
  go_at_call 38
  refine (below_any _ _ _ H3 (by omega) (by omega)).mono ?_
  rintro e w4 ⟨z, ⟨hz0, hz1⟩, rfl, H4, G4⟩
  have HG4 := Lib.hid (gby_own HG3.out G4 hc)
  clear G4
  go_wp2
  go_ret3
  exact ⟨x.toNat, lo.toNat, (1 + z).toNat, by omega, by omega, by omega, by omega, ret_iii (by omega) (by omega) (by omega), HG4.out⟩

theorem infoInt : (Try.prog.info? 3).map (fun i => (i.zero, i.size, i.bytes)) = some (some (.int .i64 0), 1, 8) := by kernel_rfl
/-- the cells of a row of numbers -/
def i64s (xs : List Int) : List Value := xs.map (Value.int .i64)
theorem i64s_append (a b : List Int) : i64s (a ++ b) = i64s a ++ i64s b := by simp [i64s]

/-- twelve numbers below 10000, in a row of the call's own -/
def DrawnPlaces (w : World) (e : Ending) (w' : World) : Prop := ∃ (v : Value) (xs : List Int), e = .returned v ∧ xs.length = 12 ∧ (∀ x ∈ xs, 0 ≤ x ∧ x < 10000) ∧ w'.ownsRow w.heap.size 3 1 v 12 (i64s xs) ∧ w.grownBy w' none

set_option maxHeartbeats 1000000 in
theorem drawPlaces_any (w : World) (a : Option Addr) (len cap : Nat) (zs : List Int) (hB : Bytes w a len zs) (hl : len ≤ 1048576) :
    Calls Try.prog 16 #[.slice a len cap] w (DrawnPlaces w) := by
  have HB := Lib.hid hB
  clear hB
  obtain ⟨i0, hi0, hz0, hz1, hz2⟩ := info_parts infoInt
  go_enter Try.func16, Try.ntmps16
  go_wp2_with fail
  go_at_call 37
  refine (new_any _ _ _ _ _ HB.out hl).mono ?_
  rintro e w1 ⟨c, rfl, hc, H1, G1⟩
  have hs1 := G1.size
  have hcl := cur_lt H1
  have HG1 := Lib.hid G1
  have HC1 := Lib.hid H1
  clear G1 H1
  go_wp2
  go_loopw [4, 5] (fun v i wr => ∃ (k : Nat) (xs : List Int), k ≤ 12 ∧ i = .int .i64 (k : Int) ∧ xs.length = k ∧ (∀ x ∈ xs, 0 ≤ x ∧ x < 10000) ∧ wr.ownsRow w1.heap.size 3 1 v k (i64s xs) ∧ Cur wr c ∧ w.grownBy wr none ∧ w1.heap.size ≤ wr.heap.size) (fun _ i _ => 12 - (intOf i).toNat)
  case atStart =>
    refine ⟨0, [], Nat.zero_le _, rfl, rfl, by simp, ?_, cur_kept HC1.out (World.grownBy_alloc w1 _ none) (by simp), gby_alloc HG1.out _, by simp⟩
    exact World.ownsRow_made w1 #[] 0 (Nat.le_refl _) (by unfold maxLen; omega) rfl
  case round =>
    obtain ⟨k, xs, hk, rfl, hlen, hb, hown, hcur, hg, hsz⟩ := hrel
    have HO := Lib.hid hown
    have HG := Lib.hid hg
    have HC := Lib.hid hcur
    have HL := Lib.hid hlen
    have HBD := Lib.hid hb
    clear hown hg hcur hlen hb
    by_cases hlt : k < 12
    · have hki : (k : Int) < 12 := by omega
      go_wp2_with fail
      go_at_call 38
      refine (below_any _ _ _ HC.out (by omega) (by omega)).mono ?_
      rintro e w2 ⟨x, ⟨hx0, hx1⟩, rfl, H2, G2⟩
      have hs2 := G2.size
      have HO1 := Lib.hid (HO.out.kept G2 (by
        rcases hv : u4.ownBlock with _ | g
        · exact .inl rfl
        · right; intro e; have := own_from HO.out g hv; have := Option.some.inj e; omega))
      have HG2 := Lib.hid (gby_own HG.out G2 hc)
      have HC2 := Lib.hid H2
      clear G2 H2
      go_wp2_with (at_builtin; refine wpList_append_lies _ (by rfl) _ _ _ (by rfl) w1.heap.size 3 i0 _ 1 8 Try.underlying26 hi0 hz0 hz1 hz2 rfl (by omega) _ k (i64s xs) (by rfl) (HO1.out.alloc _) ⟨w2.heap.size, 0, none⟩ 1 1 _ (by rfl) (by rfl) (World.news_of_block (t := 3) (fr := (0, 0)) (heap_alloc_new w2 _)) (by simp [Value.oneCell']) (by omega) (by unfold maxLen; omega) (by omega) (by simp; omega) (w2.heap.size + 1) (by simp) ?_; intro gg cap2 w3 hown3 hgrow3 hat hlt1; have HO3 := Lib.hid hown3; have HG3 := Lib.hid hgrow3; clear hown3 hgrow3 hat hlt1)
      have hs3 := HG3.out.size
      refine ⟨⟨k + 1, xs ++ [x], by omega, by go_num, by have := HL.out; simp [this], ?_, by rw [i64s_append]; exact HO3.out, ?_, ?_, by simp at hs3; omega⟩, by simp [intOf]; omega⟩
      · intro y hy
        rcases List.mem_append.1 hy with hy | hy
        · exact HBD.out y hy
        · obtain rfl := List.mem_singleton.1 hy; exact ⟨hx0, hx1⟩
      · exact cur_other (cur_kept HC2.out (World.grownBy_alloc w2 _ none) (by simp)) HG3.out (fun b hb => by have := own_from HO1.out b hb; omega)
      · exact gby_new (gby_alloc HG2.out _) HG3.out (fun b hb => by have := own_from HO1.out b hb; omega)
    · have hki : ¬ (k : Int) < 12 := by omega
      obtain rfl : k = 12 := by omega
      go_wp2
      go_ret
      exact ⟨_, xs, rfl, HL.out, HBD.out, ⟨HO.out.1, HO.out.2.elim Or.inl (fun ⟨g, cap, cur, hv, hg, r⟩ => Or.inr ⟨g, cap, cur, hv, Nat.le_trans hs1 hg, r⟩)⟩, HG.out⟩

end Go.Proofs.Yteaaobklfhlgiaa
