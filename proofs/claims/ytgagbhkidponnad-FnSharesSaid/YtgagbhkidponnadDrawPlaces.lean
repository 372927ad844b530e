/-
  Contract of the model's DrawPlaces: twelve drawn numbers below 10000.
-/
import Derived.Test.YtgagbhkidponnadDrawPk1
import Derived.Test.YtgagbhkidponnadChg
namespace Go.Proofs.Ytgagbhkidponnad
open Go Go.RowKit

def IsP (x : Int) : Prop := 0 ≤ x ∧ x < 10000

/-- twelve drawn numbers -/
def DrawnPlaces (w : World) (e : Ending) (w' : World) : Prop := ∃ v xs, e = .returned v ∧ xs.length = 12 ∧ (∀ x ∈ xs, IsP x) ∧ OwI w' w.heap.size w'.heap.size v xs ∧ w.grownBy w' none

set_option maxHeartbeats 2000000 in
theorem places_any (w : World) (a : Option Addr) (len cap : Nat) (zs : List Int) (hB : Bytes w a len zs) (hl : len ≤ 1048576) :
    Calls Try.prog 22 #[.slice a len cap] w (DrawnPlaces w) := by
  obtain ⟨i0, hi0, hz0, hz1, hz2⟩ := info_parts infoInt
  have HB := Lib.hid hB
  clear hB
  go_enter Try.func22, Try.ntmps22
  go_wp2_with fail
  go_at_call 55
  refine (new_any _ _ _ _ _ HB.out hl).mono ?_
  rintro e w1 ⟨c, rfl, hc, H1, G1⟩
  have HG1 := Lib.hid G1
  have HC1 := Lib.hid H1
  have hcl := cur_lt H1
  have hs1 := G1.size
  clear G1 H1
  go_wp2
  go_loopw [4, 5] (fun v i wr => ∃ (k : Nat) (xs : List Int), k ≤ 12 ∧ i = .int .i64 (k : Int) ∧ xs.length = k ∧ (∀ x ∈ xs, IsP x) ∧ wr.ownsRow w1.heap.size 3 1 v k (i64s xs) ∧ Cur wr c ∧ w1.grownBy wr (some c)) (fun _ i _ => 12 - (intOf i).toNat)
  case atStart =>
    refine ⟨0, [], Nat.zero_le _, rfl, rfl, by intro x hx; simp at hx, ?_, cur_kept HC1.out (World.grownBy_alloc w1 _ none) (by simp), gby_alloc (gby_refl _ _) _⟩
    exact World.ownsRow_made w1 #[] 0 (Nat.le_refl _) (by unfold maxLen; omega) rfl
  case round =>
    obtain ⟨k, xs, hk, rfl, hlen, hb, hown, hcur, hg⟩ := hrel
    have hsz := hg.size
    have HO := Lib.hid hown
    have HG := Lib.hid hg
    have HC := Lib.hid hcur
    have HL := Lib.hid hlen
    have HBD := Lib.hid hb
    clear hown hg hcur hlen hb
    by_cases hlt : k < 12
    · have hki : (k : Int) < 12 := by omega
      go_wp2_with fail
      go_at_call 56
      refine (below_any _ _ _ HC.out (by omega) (by omega)).mono ?_
      rintro e w2 ⟨z, ⟨hz, hz'⟩, rfl, H2, G2⟩
      have HO2 := Lib.hid (own_kept HO.out G2 hcl)
      have HG2 := Lib.hid (gby_trans HG.out G2)
      have HC2 := Lib.hid H2
      have hs4 := HG2.out.size
      clear G2 H2
      go_wp2_with (at_builtin; refine wpList_append_lies _ (by rfl) _ _ _ (by rfl) w1.heap.size 3 i0 _ 1 8 Try.underlying22 hi0 hz0 hz1 hz2 rfl (by omega) _ k (i64s xs) (by rfl) (HO2.out.alloc _) ⟨w2.heap.size, 0, none⟩ 1 1 _ (by rfl) (by rfl) (World.news_of_block (t := 3) (fr := (0, 0)) (heap_alloc_new w2 _)) (by simp [Value.oneCell']) (by omega) (by unfold maxLen; omega) (by omega) (by simp; omega) (w2.heap.size + 1) (by simp) ?_; intro gg cap2 w5 hown5 hgrow5 hat hlt1; have HO5 := Lib.hid hown5; have HG5 := Lib.hid hgrow5; clear hown5 hgrow5 hat hlt1)
      refine ⟨⟨k + 1, xs ++ [z], by omega, by go_num, by have := HL.out; simp [this], ?_, by rw [i64s_append]; exact HO5.out, ?_, ?_⟩, by simp [intOf]; omega⟩
      · intro q hq
        rcases List.mem_append.1 hq with hq | hq
        · exact HBD.out q hq
        · obtain rfl := List.mem_singleton.1 hq; exact ⟨hz, hz'⟩
      · exact cur_other (cur_kept HC2.out (World.grownBy_alloc w2 _ none) (by simp)) HG5.out (fun b hb => by have := own_from HO2.out b hb; omega)
      · exact gby_new (gby_alloc HG2.out _) HG5.out (fun b hb => own_from HO2.out b hb)
    · have hki : ¬ (k : Int) < 12 := by omega
      obtain rfl : k = 12 := by omega
      go_wp2
      go_ret
      exact ⟨_, xs, rfl, HL.out, HBD.out, (owI_row HO.out).wide hs1 (Nat.le_refl _), gby_own HG1.out HG.out hc⟩

end Go.Proofs.Ytgagbhkidponnad
