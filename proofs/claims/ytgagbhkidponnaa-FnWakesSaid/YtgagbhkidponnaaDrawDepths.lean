/-
  A depth for each node, drawn by the model; a tree and its depths.
-/
import Derived.Test.YtgagbhkidponnaaDrawTree
import Derived.Test.YtgagbhkidponnaaSetI
import Derived.Test.YtgagbhkidponnaaDrawPlaces
import Derived.Test.YtgagbhkidponnaaSleep
namespace Go.Proofs.Ytgagbhkidponnaa
open Go Go.RowKit
set_option linter.unusedVariables false

def IsD (x : Int) : Prop := 0 ≤ x ∧ x ≤ 3

def Dep35 (w1 : World) (c n : Nat) (e : Ending) (w' : World) : Prop := ∃ (v : Value) (xs : List Int), e = .returned v ∧ xs.length = n ∧ (∀ x ∈ xs, IsD x) ∧ OwI w' w1.heap.size w'.heap.size v xs ∧ Cur w' c ∧ w1.grownBy w' (some c)
set_option maxRecDepth 8000 in
set_option maxHeartbeats 2000000 in
theorem depths35_any (w1 : World) (c : Nat) (H : Cur w1 c) (v0 : Value) (ts : List DNode) (hT : RdL shNode w1 v0 ts) (hto : TOk ts) : Calls Try.prog 59 #[.pointer (some ⟨c, 0, none⟩), v0] w1 (Dep35 w1 c ts.length) := by
  obtain ⟨i0, hi0, hz0, hz1, hz2⟩ := info_parts infoInt
  have HC1 := Lib.hid H
  have hcl := cur_lt H
  have hx2 := hto.1.2
  have hx1 := hto.1.1
  obtain ⟨a0, n0, c0, rfl⟩ := RdL.form hT
  have hn0 : n0 = ts.length := by obtain ⟨_, _, e, _⟩ := hT; injection e
  have HE := Lib.hid hn0
  rw [← hn0] at hx2 hx1 ⊢
  clear H hT hto hn0
  go_enter Try.func59, Try.ntmps59
  go_wp2
  go_loopw [5, 6] (fun v i wr => ∃ (k : Nat) (xs : List Int), k ≤ n0 ∧ i = .int .i64 (k : Int) ∧ xs.length = k ∧ (∀ x ∈ xs, IsD x) ∧ wr.ownsRow w1.heap.size 3 1 v k (i64s xs) ∧ Cur wr c ∧ w1.grownBy wr (some c)) (fun _ i _ => n0 - (intOf i).toNat)
  case atStart =>
    refine ⟨0, [], Nat.zero_le _, rfl, rfl, by intro x hx; simp at hx, ?_, cur_kept HC1.out (World.grownBy_alloc w1 _ none) (by simp), gby_alloc (gby_refl _ _) _⟩
    exact World.ownsRow_made w1 #[] 0 (Nat.le_refl _) (by unfold maxLen; omega) rfl
  case round =>
    obtain ⟨k, xs, hk, rfl, hlen, hb, hown, hcur, hg⟩ := hrel
    have hsz := hg.size
    have HO := Lib.hid hown
    have HG := Lib.hid hg
    have HC := Lib.hid hcur
    have HL := Lib.hid hlen
    have HBD := Lib.hid hb
    clear hown hg hcur hlen hb
    by_cases hlt : k < n0
    · have hki : (k : Int) < (n0 : Int) := by omega
      go_wp2_with fail
      go_at_call 61
      refine (below_any _ _ _ HC.out (by omega) (by omega)).mono ?_
      rintro e w2 ⟨z, ⟨hz, hz'⟩, rfl, H2, G2⟩
      have HO2 := Lib.hid (own_kept HO.out G2 hcl)
      have HG2 := Lib.hid (gby_trans HG.out G2)
      have HC2 := Lib.hid H2
      have hs4 := HG2.out.size
      clear G2 H2
      go_wp2_with (at_builtin; refine wpList_append_lies _ (by rfl) _ _ _ (by rfl) w1.heap.size 3 i0 _ 1 8 Try.underlying23 hi0 hz0 hz1 hz2 rfl (by omega) _ k (i64s xs) (by rfl) (HO2.out.alloc _) ⟨w2.heap.size, 0, none⟩ 1 1 _ (by rfl) (by rfl) (World.news_of_block (t := 3) (fr := (0, 0)) (heap_alloc_new w2 _)) (by simp [Value.oneCell']) (by omega) (by unfold maxLen; omega) (by omega) (by simp; omega) (w2.heap.size + 1) (by simp) ?_; intro gg cap2 w5 hown5 hgrow5 hat hlt1; have HO5 := Lib.hid hown5; have HG5 := Lib.hid hgrow5; clear hown5 hgrow5 hat hlt1)
      refine ⟨⟨k + 1, xs ++ [z], by omega, by go_num, by have := HL.out; simp [this], ?_, by rw [i64s_append]; exact HO5.out, ?_, ?_⟩, by simp [intOf]; omega⟩
      · intro q hq
        rcases List.mem_append.1 hq with hq | hq
        · exact HBD.out q hq
        · obtain rfl := List.mem_singleton.1 hq; exact ⟨hz, by omega⟩
      · exact cur_other (cur_kept HC2.out (World.grownBy_alloc w2 _ none) (by simp)) HG5.out (fun b hb => by have := own_from HO2.out b hb; omega)
      · exact gby_new (gby_alloc HG2.out _) HG5.out (fun b hb => own_from HO2.out b hb)
    · have hki : ¬ (k : Int) < (n0 : Int) := by omega
      obtain rfl : k = n0 := by omega
      go_wp2
      go_ret
      exact ⟨_, xs, rfl, HL.out, HBD.out, owI_row (HL.out ▸ HO.out), HC.out, HG.out⟩

def DrawnDepths (W : World) (e : Ending) (w' : World) : Prop := ∃ (v u : Value) (ts : List DNode) (ss : List Int), e = .returned (.tuple #[v, u]) ∧ TOk ts ∧ WishP ts ss ∧ OwL shNode w' W.heap.size w'.heap.size v ts ∧ OwL shI w' W.heap.size w'.heap.size u ss ∧ W.grownBy w' none
set_option maxHeartbeats 1000000 in
theorem drawDepths_any (W : World) (a : Option Addr) (len cap : Nat) (zs : List Int) (hB : Bytes W a len zs) (hl : len ≤ 1048576) : Calls Try.prog 22 #[.slice a len cap] W (DrawnDepths W) := by
  have HB := Lib.hid hB
  clear hB
  go_enter Try.func22, Try.ntmps22
  go_wp2_with fail
  go_at_call 57
  refine (new_any _ _ _ _ _ HB.out hl).mono ?_
  rintro e w1 ⟨c, rfl, hc, H1, G1⟩
  have HC1 := Lib.hid H1
  have HG1 := Lib.hid G1
  clear H1 G1
  go_wp2_with fail
  go_at_call 58
  refine (tree19_any _ c HC1.out).mono ?_
  rintro e w2 ⟨v, ts, rfl, ht, ho, hcu, g⟩
  have HT := Lib.hid ht
  have HO := Lib.hid ho
  have HCU := Lib.hid hcu
  have HG2 := Lib.hid g
  have hz := gsz HG1.out
  have hz2 := gsz g
  have hcl := cur_lt HC1.out
  clear ht ho g hcu
  go_wp2_with fail
  go_at_call 59
  refine (depths35_any _ c HCU.out v ts HO.out.rd HT.out).mono ?_
  rintro e w3 ⟨u, ss, rfl, hsl, hb, ho, _, g⟩
  have HS := Lib.hid hsl
  have HBD := Lib.hid hb
  have HOS := Lib.hid ho
  have hz3 := gsz g
  have HOT := Lib.hid (show OwL shNode w3 W.heap.size w3.heap.size v ts from OwL.wide (HO.out.keep (chg_cur g) (.inr (by omega))) hz (by omega))
  have HG3 := Lib.hid (gby_own HG1.out (gby_trans HG2.out g) (by omega))
  clear hsl hb ho g
  go_wp2
  go_ret2
  exact ⟨v, u, ts, ss, rfl, HT.out, ⟨fun k hk => HBD.out _ (by rw [List.getD_eq_getElem?_getD, List.getElem?_eq_getElem hk]; exact List.getElem_mem _), HT.out, HS.out⟩, HOT.out, owI_out (by have := HS.out; have := HT.out.1.2; omega) (HOS.out.wide (by omega) (Nat.le_refl _)), HG3.out⟩

end Go.Proofs.Ytgagbhkidponnaa
