/-
  A node added, on both sides.
-/
import Derived.Test.YtodfbodagjmfmabCloneNode
import Derived.Test.YtodfbodagjmfmabTreeB
import Derived.Test.YtodfbodagjmfmabRAddNode
namespace Go.Proofs.Ytodfbodagjmfmab
open Go Go.RowKit
set_option linter.unusedVariables false

theorem gby_sz {w w' : World} {r : Option Nat} (g : w.grownBy w' r) : w.heap.size ≤ w'.heap.size := g.size
theorem owN_row {w : World} {base : Nat} {v : Value} {ys : List DNode} (hm : ys.length ≤ 2000000) (h : w.ownsRow base 41 3 v ys.length (ys.flatMap (fun x => [.int .i64 x.f0, .int .i64 x.f1, .int .i64 x.f2]))) : OwL shNode w base w.heap.size v ys :=
  owP_row _ plainNode.len plainNode.ow (by omega) h

set_option maxRecDepth 8000 in
set_option maxHeartbeats 2000000 in
theorem specAdd_bad (W : World) (v : Value) (xs : List DNode) (p d f : Int) (H : RdL shNode W v xs) (hl : szL shNode xs ≤ 1048576) (hp : ¬ TOk xs) : Calls Try.prog 40 #[v, .int .i64 p, .int .i64 d, .int .i64 f] W (ResIAddNode xs false W) := by
  obtain ⟨i1_, hi1_, hz0_, hz1_, hz2_⟩ := info_parts infoNodeS
  have HP_ := Lib.hid hp
  clear hp
  have HT := Lib.hid H
  have hlx : xs.length ≤ 1048576 := by have := szL_len shNode xs; omega
  have HL := Lib.hid hl
  obtain ⟨a0, n0, c0, rfl⟩ := RdL.form H
  have hn0 : n0 = xs.length := by obtain ⟨_, _, e, _⟩ := H; injection e
  have HE := Lib.hid hn0
  have hnb : n0 ≤ 1048576 := by omega
  clear H hn0 hl
  go_enter Try.func40, Try.ntmps40
  go_wp2_with (first
    | (at_builtin; refine wpList_append_plain plainNode slTNode _ rfl _ _ rfl (W.heap.size) _ 0 [] rfl (own_emptyP (heap_alloc_new _ _) (Nat.le_refl _)) a0 n0 c0 xs rfl (HT.out.grow (gby_alloc (gby_refl _ _) _)) (by omega) (by simp) ?_; intro v2_ w2 hown2 hg2; have HO2 := Lib.hid (show w2.ownsRow (W.heap.size) 41 3 v2_ n0 (xs.flatMap (fun x => [Value.int .i64 x.f0, Value.int .i64 x.f1, Value.int .i64 x.f2])) from by have q := hown2; rw [Nat.zero_add, List.nil_append] at q; exact q); have HG2 := Lib.hid (gby_new (gby_alloc (gby_refl W none) _) (show (W.alloc (.cells #[] 41)).grownBy w2 (some W.heap.size) from hg2) (fun i hi => by obtain rfl := Option.some.inj hi; exact Nat.le_refl _)); have hs2_ := gby_sz HG2.out; clear hown2 hg2)
    | (at_builtin; refine wpList_append_lies _ (by rfl) _ _ _ (by rfl) (W.heap.size) 41 i1_ _ 3 24 Try.underlying26 hi1_ hz0_ hz1_ hz2_ rfl (by omega) _ n0 (xs.flatMap (fun x => [Value.int .i64 x.f0, Value.int .i64 x.f1, Value.int .i64 x.f2])) (by rfl) (HO2.out.alloc _) ⟨w2.heap.size, 0, none⟩ 1 1 _ (by rfl) (by rfl) (World.news_of_block (t := 41) (fr := (0, 0)) (heap_alloc_new w2 _)) (by simp [Value.oneCell']) (by omega) (by unfold maxLen; omega) (by omega) (by first | (simp; omega) | simp) (w2.heap.size + 1) (by simp) ?_; intro gg5 cap5 w5 hown5 hgr5 hat5 hlt5; have HO5 := Lib.hid hown5; have HG5 := Lib.hid (gby_new (gby_alloc HG2.out _) hgr5 (fun i hi => by have := own_from HO2.out i hi; omega)); clear hown5 hgr5 hat5 hlt5))
  have HOY := Lib.hid (show OwL shNode w5 W.heap.size w5.heap.size _ (xs ++ [(⟨p, d, f⟩ : DNode)]) from owN_row (by rw [List.length_append, List.length_singleton]; omega) (by rw [List.length_append, List.length_singleton, ← HE.out, List.flatMap_append]; exact HO5.out))
  have G1_ := Lib.hid (show (W).grownBy (w5) none from HG5.out)
  have szW_ := gby_sz G1_.out
  go_at_call 68
  refine (specTree_no _ _ xs (HT.out.grow G1_.out) HL.out HP_.out).mono ?_
  rintro e t1 ⟨rfl, g⟩
  have HOY1 := Lib.hid (HOY.out.grow g)
  have szt1 := gby_sz g
  have G2_ := Lib.hid (show (W).grownBy (t1) none from gby_trans G1_.out g)
  clear g
  go_wp2_with (at_builtin; refine wpList_append_plain plainNode slTNode _ rfl _ _ rfl (t1.heap.size) _ 0 [] rfl (own_emptyP (heap_alloc_new _ _) (Nat.le_refl _)) a0 n0 c0 xs rfl (HT.out.grow (gby_alloc G2_.out _)) (by omega) (by simp) ?_; intro v2b_ w2b hown2 hg2; have HO2b := Lib.hid (show w2b.ownsRow (t1.heap.size) 41 3 v2b_ n0 (xs.flatMap (fun x => [Value.int .i64 x.f0, Value.int .i64 x.f1, Value.int .i64 x.f2])) from by have q := hown2; rw [Nat.zero_add, List.nil_append] at q; exact q); have HG2b := Lib.hid (gby_new (gby_alloc (gby_refl t1 none) _) (show (t1.alloc (.cells #[] 41)).grownBy w2b (some t1.heap.size) from hg2) (fun i hi => by obtain rfl := Option.some.inj hi; exact Nat.le_refl _)); have hs2b_ := gby_sz HG2b.out; clear hown2 hg2)
  go_ret2
  exact ⟨_, rfl, OwU.one (OwL.wide (owN_row (by omega) (by rw [← HE.out]; exact HO2b.out)) (by omega) (by omega)), gby_trans G2_.out HG2b.out⟩

set_option maxRecDepth 8000 in
set_option maxHeartbeats 2000000 in
theorem specAdd_worse (W : World) (v : Value) (xs : List DNode) (p d f : Int) (H : RdL shNode W v xs) (hl : szL shNode xs ≤ 1048576) (hp : TOk xs) (hq : ¬ TOk (xs ++ [⟨p, d, f⟩])) : Calls Try.prog 40 #[v, .int .i64 p, .int .i64 d, .int .i64 f] W (ResIAddNode xs false W) := by
  obtain ⟨i1_, hi1_, hz0_, hz1_, hz2_⟩ := info_parts infoNodeS
  have HP_ := Lib.hid hp
  have HQ_ := Lib.hid hq
  have HLY : Hid (szL shNode (xs ++ [(⟨p, d, f⟩ : DNode)]) ≤ 1048576) := Lib.hid (by rw [szL_size0 (fun _ => rfl), List.length_append, List.length_singleton]; have := hp.1.2; omega)
  clear hp hq
  have HT := Lib.hid H
  have hlx : xs.length ≤ 1048576 := by have := szL_len shNode xs; omega
  have HL := Lib.hid hl
  obtain ⟨a0, n0, c0, rfl⟩ := RdL.form H
  have hn0 : n0 = xs.length := by obtain ⟨_, _, e, _⟩ := H; injection e
  have HE := Lib.hid hn0
  have hnb : n0 ≤ 1048576 := by omega
  clear H hn0 hl
  go_enter Try.func40, Try.ntmps40
  go_wp2_with (first
    | (at_builtin; refine wpList_append_plain plainNode slTNode _ rfl _ _ rfl (W.heap.size) _ 0 [] rfl (own_emptyP (heap_alloc_new _ _) (Nat.le_refl _)) a0 n0 c0 xs rfl (HT.out.grow (gby_alloc (gby_refl _ _) _)) (by omega) (by simp) ?_; intro v2_ w2 hown2 hg2; have HO2 := Lib.hid (show w2.ownsRow (W.heap.size) 41 3 v2_ n0 (xs.flatMap (fun x => [Value.int .i64 x.f0, Value.int .i64 x.f1, Value.int .i64 x.f2])) from by have q := hown2; rw [Nat.zero_add, List.nil_append] at q; exact q); have HG2 := Lib.hid (gby_new (gby_alloc (gby_refl W none) _) (show (W.alloc (.cells #[] 41)).grownBy w2 (some W.heap.size) from hg2) (fun i hi => by obtain rfl := Option.some.inj hi; exact Nat.le_refl _)); have hs2_ := gby_sz HG2.out; clear hown2 hg2)
    | (at_builtin; refine wpList_append_lies _ (by rfl) _ _ _ (by rfl) (W.heap.size) 41 i1_ _ 3 24 Try.underlying26 hi1_ hz0_ hz1_ hz2_ rfl (by omega) _ n0 (xs.flatMap (fun x => [Value.int .i64 x.f0, Value.int .i64 x.f1, Value.int .i64 x.f2])) (by rfl) (HO2.out.alloc _) ⟨w2.heap.size, 0, none⟩ 1 1 _ (by rfl) (by rfl) (World.news_of_block (t := 41) (fr := (0, 0)) (heap_alloc_new w2 _)) (by simp [Value.oneCell']) (by omega) (by unfold maxLen; omega) (by omega) (by first | (simp; omega) | simp) (w2.heap.size + 1) (by simp) ?_; intro gg5 cap5 w5 hown5 hgr5 hat5 hlt5; have HO5 := Lib.hid hown5; have HG5 := Lib.hid (gby_new (gby_alloc HG2.out _) hgr5 (fun i hi => by have := own_from HO2.out i hi; omega)); clear hown5 hgr5 hat5 hlt5))
  have HOY := Lib.hid (show OwL shNode w5 W.heap.size w5.heap.size _ (xs ++ [(⟨p, d, f⟩ : DNode)]) from owN_row (by rw [List.length_append, List.length_singleton]; omega) (by rw [List.length_append, List.length_singleton, ← HE.out, List.flatMap_append]; exact HO5.out))
  have G1_ := Lib.hid (show (W).grownBy (w5) none from HG5.out)
  have szW_ := gby_sz G1_.out
  go_at_call 68
  refine (specTree_yes _ _ xs (HT.out.grow G1_.out) HL.out HP_.out).mono ?_
  rintro e t1 ⟨rfl, g⟩
  have HOY1 := Lib.hid (HOY.out.grow g)
  have szt1 := gby_sz g
  have G2_ := Lib.hid (show (W).grownBy (t1) none from gby_trans G1_.out g)
  clear g
  go_wp2_with fail
  go_at_call 68
  refine (specTree_no _ _ (xs ++ [(⟨p, d, f⟩ : DNode)]) (HOY1.out.rd) HLY.out HQ_.out).mono ?_
  rintro e t2 ⟨rfl, g⟩
  have HOY2 := Lib.hid (HOY1.out.grow g)
  have szt2 := gby_sz g
  have G3_ := Lib.hid (show (W).grownBy (t2) none from gby_trans G2_.out g)
  clear g
  go_wp2_with (at_builtin; refine wpList_append_plain plainNode slTNode _ rfl _ _ rfl (t2.heap.size) _ 0 [] rfl (own_emptyP (heap_alloc_new _ _) (Nat.le_refl _)) a0 n0 c0 xs rfl (HT.out.grow (gby_alloc G3_.out _)) (by omega) (by simp) ?_; intro v2b_ w2b hown2 hg2; have HO2b := Lib.hid (show w2b.ownsRow (t2.heap.size) 41 3 v2b_ n0 (xs.flatMap (fun x => [Value.int .i64 x.f0, Value.int .i64 x.f1, Value.int .i64 x.f2])) from by have q := hown2; rw [Nat.zero_add, List.nil_append] at q; exact q); have HG2b := Lib.hid (gby_new (gby_alloc (gby_refl t2 none) _) (show (t2.alloc (.cells #[] 41)).grownBy w2b (some t2.heap.size) from hg2) (fun i hi => by obtain rfl := Option.some.inj hi; exact Nat.le_refl _)); have hs2b_ := gby_sz HG2b.out; clear hown2 hg2)
  go_ret2
  exact ⟨_, rfl, OwU.one (OwL.wide (owN_row (by omega) (by rw [← HE.out]; exact HO2b.out)) (by omega) (by omega)), gby_trans G3_.out HG2b.out⟩

set_option maxRecDepth 8000 in
set_option maxHeartbeats 2000000 in
theorem specAdd_good (W : World) (v : Value) (xs : List DNode) (p d f : Int) (H : RdL shNode W v xs) (hl : szL shNode xs ≤ 1048576) (hp : TOk xs) (hq : TOk (xs ++ [⟨p, d, f⟩])) : Calls Try.prog 40 #[v, .int .i64 p, .int .i64 d, .int .i64 f] W (ResIAddNode (xs ++ [⟨p, d, f⟩]) true W) := by
  obtain ⟨i1_, hi1_, hz0_, hz1_, hz2_⟩ := info_parts infoNodeS
  have HP_ := Lib.hid hp
  have HQ_ := Lib.hid hq
  have HLY : Hid (szL shNode (xs ++ [(⟨p, d, f⟩ : DNode)]) ≤ 1048576) := Lib.hid (by rw [szL_size0 (fun _ => rfl), List.length_append, List.length_singleton]; have := hp.1.2; omega)
  clear hp hq
  have HT := Lib.hid H
  have hlx : xs.length ≤ 1048576 := by have := szL_len shNode xs; omega
  have HL := Lib.hid hl
  obtain ⟨a0, n0, c0, rfl⟩ := RdL.form H
  have hn0 : n0 = xs.length := by obtain ⟨_, _, e, _⟩ := H; injection e
  have HE := Lib.hid hn0
  have hnb : n0 ≤ 1048576 := by omega
  clear H hn0 hl
  go_enter Try.func40, Try.ntmps40
  go_wp2_with (first
    | (at_builtin; refine wpList_append_plain plainNode slTNode _ rfl _ _ rfl (W.heap.size) _ 0 [] rfl (own_emptyP (heap_alloc_new _ _) (Nat.le_refl _)) a0 n0 c0 xs rfl (HT.out.grow (gby_alloc (gby_refl _ _) _)) (by omega) (by simp) ?_; intro v2_ w2 hown2 hg2; have HO2 := Lib.hid (show w2.ownsRow (W.heap.size) 41 3 v2_ n0 (xs.flatMap (fun x => [Value.int .i64 x.f0, Value.int .i64 x.f1, Value.int .i64 x.f2])) from by have q := hown2; rw [Nat.zero_add, List.nil_append] at q; exact q); have HG2 := Lib.hid (gby_new (gby_alloc (gby_refl W none) _) (show (W.alloc (.cells #[] 41)).grownBy w2 (some W.heap.size) from hg2) (fun i hi => by obtain rfl := Option.some.inj hi; exact Nat.le_refl _)); have hs2_ := gby_sz HG2.out; clear hown2 hg2)
    | (at_builtin; refine wpList_append_lies _ (by rfl) _ _ _ (by rfl) (W.heap.size) 41 i1_ _ 3 24 Try.underlying26 hi1_ hz0_ hz1_ hz2_ rfl (by omega) _ n0 (xs.flatMap (fun x => [Value.int .i64 x.f0, Value.int .i64 x.f1, Value.int .i64 x.f2])) (by rfl) (HO2.out.alloc _) ⟨w2.heap.size, 0, none⟩ 1 1 _ (by rfl) (by rfl) (World.news_of_block (t := 41) (fr := (0, 0)) (heap_alloc_new w2 _)) (by simp [Value.oneCell']) (by omega) (by unfold maxLen; omega) (by omega) (by first | (simp; omega) | simp) (w2.heap.size + 1) (by simp) ?_; intro gg5 cap5 w5 hown5 hgr5 hat5 hlt5; have HO5 := Lib.hid hown5; have HG5 := Lib.hid (gby_new (gby_alloc HG2.out _) hgr5 (fun i hi => by have := own_from HO2.out i hi; omega)); clear hown5 hgr5 hat5 hlt5))
  have HOY := Lib.hid (show OwL shNode w5 W.heap.size w5.heap.size _ (xs ++ [(⟨p, d, f⟩ : DNode)]) from owN_row (by rw [List.length_append, List.length_singleton]; omega) (by rw [List.length_append, List.length_singleton, ← HE.out, List.flatMap_append]; exact HO5.out))
  have G1_ := Lib.hid (show (W).grownBy (w5) none from HG5.out)
  have szW_ := gby_sz G1_.out
  go_at_call 68
  refine (specTree_yes _ _ xs (HT.out.grow G1_.out) HL.out HP_.out).mono ?_
  rintro e t1 ⟨rfl, g⟩
  have HOY1 := Lib.hid (HOY.out.grow g)
  have szt1 := gby_sz g
  have G2_ := Lib.hid (show (W).grownBy (t1) none from gby_trans G1_.out g)
  clear g
  go_wp2_with fail
  go_at_call 68
  refine (specTree_yes _ _ (xs ++ [(⟨p, d, f⟩ : DNode)]) (HOY1.out.rd) HLY.out HQ_.out).mono ?_
  rintro e t2 ⟨rfl, g⟩
  have HOY2 := Lib.hid (HOY1.out.grow g)
  have szt2 := gby_sz g
  have G3_ := Lib.hid (show (W).grownBy (t2) none from gby_trans G2_.out g)
  clear g
  go_wp2
  go_ret2
  exact ⟨_, rfl, OwU.one (OwL.wide HOY2.out (by omega) (by omega)), G3_.out⟩

set_option maxRecDepth 8000 in
set_option maxHeartbeats 2000000 in
theorem implAdd_bad (W : World) (v : Value) (xs : List DNode) (p d f : Int) (H : RdL shNode W v xs) (hl : szL shNode xs ≤ 1048576) (hp : ¬ TOk xs) : Calls Try.prog 38 #[v, .int .i64 p, .int .i64 d, .int .i64 f] W (ResIAddNode xs false W) := by
  obtain ⟨i1_, hi1_, hz0_, hz1_, hz2_⟩ := info_parts infoNodeS
  have HP_ := Lib.hid hp
  clear hp
  have HT := Lib.hid H
  have hlx : xs.length ≤ 1048576 := by have := szL_len shNode xs; omega
  have HL := Lib.hid hl
  obtain ⟨a0, n0, c0, rfl⟩ := RdL.form H
  have hn0 : n0 = xs.length := by obtain ⟨_, _, e, _⟩ := H; injection e
  have HE := Lib.hid hn0
  have hnb : n0 ≤ 1048576 := by omega
  clear H hn0 hl
  go_enter Try.func38, Try.ntmps38
  go_wp2_with fail
  go_at_call 67
  refine (cloneNode_row _ _ xs (HT.out.grow (gby_refl _ _)) HL.out).mono ?_
  rintro e w2 ⟨v2_, rfl, o_, g⟩
  have HO2 := Lib.hid (show w2.ownsRow W.heap.size 41 3 v2_ n0 (xs.flatMap (fun x => [Value.int .i64 x.f0, Value.int .i64 x.f1, Value.int .i64 x.f2])) from by rw [HE.out]; exact o_)
  have HG2 := Lib.hid g
  have hs2_ := gby_sz g
  clear o_ g
  go_wp2_with (at_builtin; refine wpList_append_lies _ (by rfl) _ _ _ (by rfl) (W.heap.size) 41 i1_ _ 3 24 Try.underlying26 hi1_ hz0_ hz1_ hz2_ rfl (by omega) _ n0 (xs.flatMap (fun x => [Value.int .i64 x.f0, Value.int .i64 x.f1, Value.int .i64 x.f2])) (by rfl) (HO2.out.alloc _) ⟨w2.heap.size, 0, none⟩ 1 1 _ (by rfl) (by rfl) (World.news_of_block (t := 41) (fr := (0, 0)) (heap_alloc_new w2 _)) (by simp [Value.oneCell']) (by omega) (by unfold maxLen; omega) (by omega) (by first | (simp; omega) | simp) (w2.heap.size + 1) (by simp) ?_; intro gg5 cap5 w5 hown5 hgr5 hat5 hlt5; have HO5 := Lib.hid hown5; have HG5 := Lib.hid (gby_new (gby_alloc HG2.out _) hgr5 (fun i hi => by have := own_from HO2.out i hi; omega)); clear hown5 hgr5 hat5 hlt5)
  have HOY := Lib.hid (show OwL shNode w5 W.heap.size w5.heap.size _ (xs ++ [(⟨p, d, f⟩ : DNode)]) from owN_row (by rw [List.length_append, List.length_singleton]; omega) (by rw [List.length_append, List.length_singleton, ← HE.out, List.flatMap_append]; exact HO5.out))
  have G1_ := Lib.hid (show (W).grownBy (w5) none from HG5.out)
  have szW_ := gby_sz G1_.out
  go_at_call 35
  refine (implTree_no _ _ xs (HT.out.grow G1_.out) HL.out HP_.out).mono ?_
  rintro e t1 ⟨rfl, g⟩
  have HOY1 := Lib.hid (HOY.out.grow g)
  have szt1 := gby_sz g
  have G2_ := Lib.hid (show (W).grownBy (t1) none from gby_trans G1_.out g)
  clear g
  go_wp2_with fail
  go_at_call 67
  refine (cloneNode_d _ _ xs (HT.out.grow G2_.out) HL.out).mono ?_
  rintro e w9 ⟨v9_, rfl, o_, g⟩
  have HO9 := Lib.hid o_
  have HG9 := Lib.hid g
  have sz9 := gby_sz g
  clear o_ g
  go_wp2
  go_ret2
  exact ⟨_, rfl, OwU.one (OwL.wide HO9.out (by omega) (by omega)), gby_trans G2_.out HG9.out⟩

set_option maxRecDepth 8000 in
set_option maxHeartbeats 2000000 in
theorem implAdd_worse (W : World) (v : Value) (xs : List DNode) (p d f : Int) (H : RdL shNode W v xs) (hl : szL shNode xs ≤ 1048576) (hp : TOk xs) (hq : ¬ TOk (xs ++ [⟨p, d, f⟩])) : Calls Try.prog 38 #[v, .int .i64 p, .int .i64 d, .int .i64 f] W (ResIAddNode xs false W) := by
  obtain ⟨i1_, hi1_, hz0_, hz1_, hz2_⟩ := info_parts infoNodeS
  have HP_ := Lib.hid hp
  have HQ_ := Lib.hid hq
  have HLY : Hid (szL shNode (xs ++ [(⟨p, d, f⟩ : DNode)]) ≤ 1048576) := Lib.hid (by rw [szL_size0 (fun _ => rfl), List.length_append, List.length_singleton]; have := hp.1.2; omega)
  clear hp hq
  have HT := Lib.hid H
  have hlx : xs.length ≤ 1048576 := by have := szL_len shNode xs; omega
  have HL := Lib.hid hl
  obtain ⟨a0, n0, c0, rfl⟩ := RdL.form H
  have hn0 : n0 = xs.length := by obtain ⟨_, _, e, _⟩ := H; injection e
  have HE := Lib.hid hn0
  have hnb : n0 ≤ 1048576 := by omega
  clear H hn0 hl
  go_enter Try.func38, Try.ntmps38
  go_wp2_with fail
  go_at_call 67
  refine (cloneNode_row _ _ xs (HT.out.grow (gby_refl _ _)) HL.out).mono ?_
  rintro e w2 ⟨v2_, rfl, o_, g⟩
  have HO2 := Lib.hid (show w2.ownsRow W.heap.size 41 3 v2_ n0 (xs.flatMap (fun x => [Value.int .i64 x.f0, Value.int .i64 x.f1, Value.int .i64 x.f2])) from by rw [HE.out]; exact o_)
  have HG2 := Lib.hid g
  have hs2_ := gby_sz g
  clear o_ g
  go_wp2_with (at_builtin; refine wpList_append_lies _ (by rfl) _ _ _ (by rfl) (W.heap.size) 41 i1_ _ 3 24 Try.underlying26 hi1_ hz0_ hz1_ hz2_ rfl (by omega) _ n0 (xs.flatMap (fun x => [Value.int .i64 x.f0, Value.int .i64 x.f1, Value.int .i64 x.f2])) (by rfl) (HO2.out.alloc _) ⟨w2.heap.size, 0, none⟩ 1 1 _ (by rfl) (by rfl) (World.news_of_block (t := 41) (fr := (0, 0)) (heap_alloc_new w2 _)) (by simp [Value.oneCell']) (by omega) (by unfold maxLen; omega) (by omega) (by first | (simp; omega) | simp) (w2.heap.size + 1) (by simp) ?_; intro gg5 cap5 w5 hown5 hgr5 hat5 hlt5; have HO5 := Lib.hid hown5; have HG5 := Lib.hid (gby_new (gby_alloc HG2.out _) hgr5 (fun i hi => by have := own_from HO2.out i hi; omega)); clear hown5 hgr5 hat5 hlt5)
  have HOY := Lib.hid (show OwL shNode w5 W.heap.size w5.heap.size _ (xs ++ [(⟨p, d, f⟩ : DNode)]) from owN_row (by rw [List.length_append, List.length_singleton]; omega) (by rw [List.length_append, List.length_singleton, ← HE.out, List.flatMap_append]; exact HO5.out))
  have G1_ := Lib.hid (show (W).grownBy (w5) none from HG5.out)
  have szW_ := gby_sz G1_.out
  go_at_call 35
  refine (implTree_yes _ _ xs (HT.out.grow G1_.out) HL.out HP_.out).mono ?_
  rintro e t1 ⟨rfl, g⟩
  have HOY1 := Lib.hid (HOY.out.grow g)
  have szt1 := gby_sz g
  have G2_ := Lib.hid (show (W).grownBy (t1) none from gby_trans G1_.out g)
  clear g
  go_wp2_with fail
  go_at_call 35
  refine (implTree_no _ _ (xs ++ [(⟨p, d, f⟩ : DNode)]) (HOY1.out.rd) HLY.out HQ_.out).mono ?_
  rintro e t2 ⟨rfl, g⟩
  have HOY2 := Lib.hid (HOY1.out.grow g)
  have szt2 := gby_sz g
  have G3_ := Lib.hid (show (W).grownBy (t2) none from gby_trans G2_.out g)
  clear g
  go_wp2_with fail
  go_at_call 67
  refine (cloneNode_d _ _ xs (HT.out.grow G3_.out) HL.out).mono ?_
  rintro e w9 ⟨v9_, rfl, o_, g⟩
  have HO9 := Lib.hid o_
  have HG9 := Lib.hid g
  have sz9 := gby_sz g
  clear o_ g
  go_wp2
  go_ret2
  exact ⟨_, rfl, OwU.one (OwL.wide HO9.out (by omega) (by omega)), gby_trans G3_.out HG9.out⟩

set_option maxRecDepth 8000 in
set_option maxHeartbeats 2000000 in
theorem implAdd_good (W : World) (v : Value) (xs : List DNode) (p d f : Int) (H : RdL shNode W v xs) (hl : szL shNode xs ≤ 1048576) (hp : TOk xs) (hq : TOk (xs ++ [⟨p, d, f⟩])) : Calls Try.prog 38 #[v, .int .i64 p, .int .i64 d, .int .i64 f] W (ResIAddNode (xs ++ [⟨p, d, f⟩]) true W) := by
  obtain ⟨i1_, hi1_, hz0_, hz1_, hz2_⟩ := info_parts infoNodeS
  have HP_ := Lib.hid hp
  have HQ_ := Lib.hid hq
  have HLY : Hid (szL shNode (xs ++ [(⟨p, d, f⟩ : DNode)]) ≤ 1048576) := Lib.hid (by rw [szL_size0 (fun _ => rfl), List.length_append, List.length_singleton]; have := hp.1.2; omega)
  clear hp hq
  have HT := Lib.hid H
  have hlx : xs.length ≤ 1048576 := by have := szL_len shNode xs; omega
  have HL := Lib.hid hl
  obtain ⟨a0, n0, c0, rfl⟩ := RdL.form H
  have hn0 : n0 = xs.length := by obtain ⟨_, _, e, _⟩ := H; injection e
  have HE := Lib.hid hn0
  have hnb : n0 ≤ 1048576 := by omega
  clear H hn0 hl
  go_enter Try.func38, Try.ntmps38
  go_wp2_with fail
  go_at_call 67
  refine (cloneNode_row _ _ xs (HT.out.grow (gby_refl _ _)) HL.out).mono ?_
  rintro e w2 ⟨v2_, rfl, o_, g⟩
  have HO2 := Lib.hid (show w2.ownsRow W.heap.size 41 3 v2_ n0 (xs.flatMap (fun x => [Value.int .i64 x.f0, Value.int .i64 x.f1, Value.int .i64 x.f2])) from by rw [HE.out]; exact o_)
  have HG2 := Lib.hid g
  have hs2_ := gby_sz g
  clear o_ g
  go_wp2_with (at_builtin; refine wpList_append_lies _ (by rfl) _ _ _ (by rfl) (W.heap.size) 41 i1_ _ 3 24 Try.underlying26 hi1_ hz0_ hz1_ hz2_ rfl (by omega) _ n0 (xs.flatMap (fun x => [Value.int .i64 x.f0, Value.int .i64 x.f1, Value.int .i64 x.f2])) (by rfl) (HO2.out.alloc _) ⟨w2.heap.size, 0, none⟩ 1 1 _ (by rfl) (by rfl) (World.news_of_block (t := 41) (fr := (0, 0)) (heap_alloc_new w2 _)) (by simp [Value.oneCell']) (by omega) (by unfold maxLen; omega) (by omega) (by first | (simp; omega) | simp) (w2.heap.size + 1) (by simp) ?_; intro gg5 cap5 w5 hown5 hgr5 hat5 hlt5; have HO5 := Lib.hid hown5; have HG5 := Lib.hid (gby_new (gby_alloc HG2.out _) hgr5 (fun i hi => by have := own_from HO2.out i hi; omega)); clear hown5 hgr5 hat5 hlt5)
  have HOY := Lib.hid (show OwL shNode w5 W.heap.size w5.heap.size _ (xs ++ [(⟨p, d, f⟩ : DNode)]) from owN_row (by rw [List.length_append, List.length_singleton]; omega) (by rw [List.length_append, List.length_singleton, ← HE.out, List.flatMap_append]; exact HO5.out))
  have G1_ := Lib.hid (show (W).grownBy (w5) none from HG5.out)
  have szW_ := gby_sz G1_.out
  go_at_call 35
  refine (implTree_yes _ _ xs (HT.out.grow G1_.out) HL.out HP_.out).mono ?_
  rintro e t1 ⟨rfl, g⟩
  have HOY1 := Lib.hid (HOY.out.grow g)
  have szt1 := gby_sz g
  have G2_ := Lib.hid (show (W).grownBy (t1) none from gby_trans G1_.out g)
  clear g
  go_wp2_with fail
  go_at_call 35
  refine (implTree_yes _ _ (xs ++ [(⟨p, d, f⟩ : DNode)]) (HOY1.out.rd) HLY.out HQ_.out).mono ?_
  rintro e t2 ⟨rfl, g⟩
  have HOY2 := Lib.hid (HOY1.out.grow g)
  have szt2 := gby_sz g
  have G3_ := Lib.hid (show (W).grownBy (t2) none from gby_trans G2_.out g)
  clear g
  go_wp2
  go_ret2
  exact ⟨_, rfl, OwU.one (OwL.wide HOY2.out (by omega) (by omega)), G3_.out⟩

theorem addNode_both (xs0 : List DNode) (i1 i2 i3 : Int) (h0 : szL shNode xs0 ≤ 1048576) : ∃ (xsr0 : List DNode) (br1 : Bool), szL shNode xsr0 ≤ 1048576 ∧ (∀ (W : World), ∀ u0, RdL shNode W u0 xs0 → Calls Try.prog 40 #[u0, .int .i64 i1, .int .i64 i2, .int .i64 i3] W (ResSAddNode xsr0 br1 W)) ∧ ∀ (W : World), ∀ u0, RdL shNode W u0 xs0 → Calls Try.prog 38 #[u0, .int .i64 i1, .int .i64 i2, .int .i64 i3] W (ResIAddNode xsr0 br1 W) := by
  by_cases hp : TOk xs0
  · by_cases hq : TOk (xs0 ++ [⟨i1, i2, i3⟩])
    · exact ⟨_, true, by rw [szL_size0 (fun _ => rfl), List.length_append, List.length_singleton]; have := hp.1.2; omega, fun W u H => (specAdd_good W u xs0 i1 i2 i3 H h0 hp hq).mono (fun e w q => resS_ofAddNode e w q), fun W u H => implAdd_good W u xs0 i1 i2 i3 H h0 hp hq⟩
    · exact ⟨xs0, false, h0, fun W u H => (specAdd_worse W u xs0 i1 i2 i3 H h0 hp hq).mono (fun e w q => resS_ofAddNode e w q), fun W u H => implAdd_worse W u xs0 i1 i2 i3 H h0 hp hq⟩
  · exact ⟨xs0, false, h0, fun W u H => (specAdd_bad W u xs0 i1 i2 i3 H h0 hp).mono (fun e w q => resS_ofAddNode e w q), fun W u H => implAdd_bad W u xs0 i1 i2 i3 H h0 hp⟩

end Go.Proofs.Ytodfbodagjmfmab
