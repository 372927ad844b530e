/-
  Contract of the model's l04Data: a drawn list of words.
-/
import Derived.Test.YtokpmbagidokkaaDrawNumber
import Derived.Test.YtokpmbagidokkaaInts
namespace Go.Proofs.Ytokpmbagidokkaa
open Go Go.RowKit

theorem own_kept {w w' : World} {base c n size : Nat} {e : TypeId} {v : Value} {xs : List Value} (h : w.ownsRow base e size v n xs) (g : w.grownBy w' (some c)) (hc : c < base) : w'.ownsRow base e size v n xs :=
  h.kept g (by
    rcases hv : v.ownBlock with _ | b
    · exact .inl rfl
    · right; intro q; have := own_from h b hv; have := Option.some.inj q; omega)

def IsW (x : Int) : Prop := 0 ≤ x ∧ x ≤ 65535

theorem data_cells (w : World) (x y : Int) (hx : IsW x) (hy : IsW y) : ∀ k, k < 5 → ∃ n, (w.alloc (.cells #[.int .i64 0, .int .i64 1, .int .i64 65535, .int .i64 x, .int .i64 y] 3)).cell? ⟨w.heap.size, k, none⟩ = some (.int .i64 n) ∧ IsW n := by
  intro k hk
  rw [cell_of_row _ _ _ _ _ _ (heap_alloc_new w _)]
  match k, hk with
  | 0, _ => exact ⟨_, rfl, by unfold IsW; omega⟩
  | 1, _ => exact ⟨_, rfl, by unfold IsW; omega⟩
  | 2, _ => exact ⟨_, rfl, by unfold IsW; omega⟩
  | 3, _ => exact ⟨_, rfl, hx⟩
  | 4, _ => exact ⟨_, rfl, hy⟩
  | n + 5, h => omega

/-- a drawn list of n words -/
def DrawnData (n : Nat) (w : World) (c : Nat) (e : Ending) (w' : World) : Prop := ∃ a cap xs, e = .returned (.slice a n cap) ∧ AreW xs ∧ ISl w' a n xs ∧ (∀ p, a = some p → w.heap.size ≤ p.block) ∧ Cur w' c ∧ w.grownBy w' (some c)

theorem isl_own {w : World} {base n : Nat} {v : Value} {xs : List Int} (h : w.ownsRow base 3 1 v n (i64s xs)) (hn : xs.length = n) : ∃ a cap, v = .slice a n cap ∧ ISl w a n xs ∧ ∀ p, a = some p → base ≤ p.block := by
  rcases h.2 with ⟨hv, h0⟩ | ⟨g, cp, cur, hv, hg, _⟩
  · subst hv
    subst h0
    exact ⟨none, 0, rfl, ⟨hn.symm, .inl rfl⟩, fun p hp => by cases hp⟩
  · subst hv
    refine ⟨_, cp, rfl, ⟨hn.symm, .inr ⟨g, 0, rfl, fun j hj => ?_⟩⟩, fun p hp => by obtain rfl := Option.some.inj hp; exact hg⟩
    have := h.cellAt j (by omega)
    rw [i64s, List.getElem?_map, List.getElem?_eq_getElem (by omega)] at this
    rw [List.getD_eq_getElem?_getD, List.getElem?_eq_getElem (by omega)]
    simpa using this

set_option maxHeartbeats 2000000 in
theorem data_any (w : World) (c n : Nat) (H : Cur w c) (hn : n ≤ 8) :
    Calls Try.prog 70 #[.pointer (some ⟨c, 0, none⟩), .int .i64 (n : Int)] w (DrawnData n w c) := by
  obtain ⟨i0, hi0, hz0, hz1, hz2⟩ := info_parts infoInt
  have hcl := cur_lt H
  have HC1 := Lib.hid H
  clear H
  go_enter Try.func70, Try.ntmps70
  go_wp2
  go_loopw [5, 6] (fun v i wr => ∃ (k : Nat) (xs : List Int), k ≤ n ∧ i = .int .i64 (k : Int) ∧ xs.length = k ∧ AreW xs ∧ wr.ownsRow w.heap.size 3 1 v k (i64s xs) ∧ Cur wr c ∧ w.grownBy wr (some c)) (fun _ i _ => n - (intOf i).toNat)
  case atStart =>
    refine ⟨0, [], Nat.zero_le _, rfl, rfl, by intro x hx; simp at hx, ?_, cur_kept HC1.out (World.grownBy_alloc w _ none) (by simp), gby_alloc (gby_refl _ _) _⟩
    exact World.ownsRow_made w #[] 0 (Nat.le_refl _) (by unfold maxLen; omega) rfl
  case round =>
    obtain ⟨k, xs, hk, rfl, hlen, hb, hown, hcur, hg⟩ := hrel
    have hsz := hg.size
    have HO := Lib.hid hown
    have HG := Lib.hid hg
    have HC := Lib.hid hcur
    have HL := Lib.hid hlen
    have HBD := Lib.hid hb
    clear hown hg hcur hlen hb
    by_cases hlt : k < n
    · have hki : (k : Int) < (n : Int) := by omega
      go_wp2_with fail
      go_at_call 62
      refine (below_any _ _ _ HC.out (by omega) (by omega)).mono ?_
      rintro e w2 ⟨x, ⟨hx0, hx1⟩, rfl, H2, G2⟩
      have HO2 := Lib.hid (own_kept HO.out G2 hcl)
      have HG2 := Lib.hid (gby_trans HG.out G2)
      have HC2 := Lib.hid H2
      clear G2 H2
      go_wp2_with fail
      go_at_call 62
      refine (below_any _ _ _ HC2.out (by omega) (by omega)).mono ?_
      rintro e w3 ⟨y, ⟨hy0, hy1⟩, rfl, H3, G3⟩
      have HO3 := Lib.hid (own_kept HO2.out G3 hcl)
      have HG3 := Lib.hid (gby_trans HG2.out G3)
      have HC3 := Lib.hid H3
      have hs3 := HG3.out.size
      clear G3 H3
      go_wp2_with fail
      go_at_call 67
      refine (pickInt_any _ _ _ _ _ IsW (cur_kept HC3.out (World.grownBy_alloc w3 _ none) (by simp)) (by omega) (by omega) (by omega) (data_cells w3 x y ⟨by omega, by omega⟩ ⟨by omega, by omega⟩)).mono ?_
      rintro e w4 ⟨z, hz, rfl, H4, G4⟩
      have HO4 := Lib.hid (own_kept (HO3.out.alloc _) G4 hcl)
      have HG4 := Lib.hid (gby_trans (gby_alloc HG3.out _) G4)
      have HC4 := Lib.hid H4
      have hs4 := HG4.out.size
      have HZ := Lib.hid hz
      clear G4 H4 hz
      go_wp2_with (at_builtin; refine wpList_append_lies _ (by rfl) _ _ _ (by rfl) w.heap.size 3 i0 _ 1 8 Try.underlying24 hi0 hz0 hz1 hz2 rfl (by omega) _ k (i64s xs) (by rfl) (HO4.out.alloc _) ⟨w4.heap.size, 0, none⟩ 1 1 _ (by rfl) (by rfl) (World.news_of_block (t := 3) (fr := (0, 0)) (heap_alloc_new w4 _)) (by simp [Value.oneCell']) (by omega) (by unfold maxLen; omega) (by omega) (by simp; omega) (w4.heap.size + 1) (by simp) ?_; intro gg cap2 w5 hown5 hgrow5 hat hlt1; have HO5 := Lib.hid hown5; have HG5 := Lib.hid hgrow5; clear hown5 hgrow5 hat hlt1)
      refine ⟨⟨k + 1, xs ++ [z], by omega, by go_num, by have := HL.out; simp [this], ?_, by rw [i64s_append]; exact HO5.out, ?_, ?_⟩, by simp [intOf]; omega⟩
      · intro q hq
        rcases List.mem_append.1 hq with hq | hq
        · exact HBD.out q hq
        · obtain rfl := List.mem_singleton.1 hq; exact HZ.out
      · exact cur_other (cur_kept HC4.out (World.grownBy_alloc w4 _ none) (by simp)) HG5.out (fun b hb => by have := own_from HO4.out b hb; omega)
      · exact gby_new (gby_alloc HG4.out _) HG5.out (fun b hb => own_from HO4.out b hb)
    · have hki : ¬ (k : Int) < (n : Int) := by omega
      obtain rfl : k = n := by omega
      obtain ⟨a, cap, hv, hi, hfar⟩ := isl_own HO.out HL.out
      have HI := Lib.hid hi
      subst hv
      clear hi
      go_wp2
      go_ret
      exact ⟨a, cap, xs, rfl, HBD.out, HI.out, hfar, HC.out, HG.out⟩

end Go.Proofs.Ytokpmbagidokkaa
