/-
  Grants of a page taken back, on both sides.
-/
import Derived.Test.YtgagbhkidponnabQSPageGrant
import Derived.Test.YtgagbhkidponnabAppP
import Derived.Test.YtgagbhkidponnabRRevokePage
namespace Go.Proofs.Ytgagbhkidponnab
open Go Go.RowKit
set_option linter.unusedVariables false

/-- the cells of a grant -/
def cPg (x : DPageGrant) : List Value := [.int .i64 x.f0, .int .i64 x.f1, .int .i64 x.f2, .bool x.f3]
/-- the k-th grant -/
def pg (xs : List DPageGrant) (k : Nat) : DPageGrant := xs.getD k default
/-- those of the first n that are not for this page -/
def revL (p : Int) (xs : List DPageGrant) : Nat → List DPageGrant
  | 0 => []
  | n + 1 => revL p xs n ++ (if (pg xs n).f2 = p then [] else [pg xs n])
theorem revL_len (p : Int) (xs : List DPageGrant) : ∀ n, (revL p xs n).length ≤ n
  | 0 => Nat.le_refl _
  | n + 1 => by
    have := revL_len p xs n
    unfold revL
    rw [List.length_append]
    split <;> simp <;> omega
/-- the grants in cells -/
def RdG (w : World) (a : Option Addr) (xs : List DPageGrant) : Prop :=
  xs.length = 0 ∨ ∃ b off, a = some ⟨b, off, none⟩ ∧ ∀ k, k < xs.length → w.cell? ⟨b, off + k * 4, none⟩ = some (.int .i64 (pg xs k).f0) ∧ w.cell? ⟨b, off + k * 4 + 1, none⟩ = some (.int .i64 (pg xs k).f1) ∧ w.cell? ⟨b, off + k * 4 + 2, none⟩ = some (.int .i64 (pg xs k).f2) ∧ w.cell? ⟨b, off + k * 4 + 3, none⟩ = some (.bool (pg xs k).f3)
theorem rdG_in {w : World} {v : Value} {xs : List DPageGrant} (H : RdL shPageGrant w v xs) : ∃ a cap, v = .slice a xs.length cap ∧ CapOk a xs.length cap ∧ RdG w a xs := by
  obtain ⟨a, cap, rfl, hc, _, h⟩ := H
  refine ⟨a, cap, rfl, hc, ?_⟩
  rcases h with h0 | ⟨b, off, ha, h⟩
  · exact .inl h0
  · refine .inr ⟨b, off, ha, fun k hk => ?_⟩
    obtain ⟨cs, hat, hrd⟩ := h k hk
    obtain rfl := hrd
    exact ⟨at_cell (j := 0) hat rfl, at_cell (j := 1) hat rfl, at_cell (j := 2) hat rfl, at_cell (j := 3) hat rfl⟩

set_option maxRecDepth 8000 in
set_option maxHeartbeats 4000000 in
theorem implRev (W : World) (v : Value) (xs : List DPageGrant) (p : Int) (H : RdL shPageGrant W v xs) (hl : szL shPageGrant xs ≤ 1048576) : Calls Try.prog 29 #[v, .int .i64 p] W (ResIRevokePage (revL p xs xs.length) W) := by
  rw [szL_size0 (fun _ => rfl)] at hl
  have hmx := H.max
  obtain ⟨a0, cap, rfl, hcap, hi⟩ := rdG_in H
  have HA := Lib.hid hi
  obtain ⟨len, hlen⟩ : ∃ len, len = xs.length := ⟨_, rfl⟩
  have HE := Lib.hid hlen
  unfold RdG at HA
  rw [← hlen] at hl HA ⊢
  clear H hi hlen hcap hmx
  obtain ⟨i1_, hi1_, hz0_, hz1_, hz2_⟩ := info_parts infoPageGrantS
  go_enter Try.func29, Try.ntmps29
  have HTM1_ := Lib.hid (gby_refl (W) none)
  have MG2_ := Lib.hid (show (W).grownBy (W) none from (gby_refl _ _))
  go_wp2
  go_loopw [5, 7, 10] (fun v z i wr => ∃ n : Nat, n ≤ len ∧ (∃ q, z = q) ∧ i = .int .i64 (n : Int) ∧ wr.ownsRow W.heap.size 59 4 v (revL p xs n).length ((revL p xs n).flatMap cPg) ∧ (W).grownBy wr none) (fun _ _ i _ => len - (intOf i).toNat)
  case atStart => exact ⟨0, by omega, ⟨_, rfl⟩, rfl, World.ownsRow_nil _ _ _ _, HTM1_.out⟩
  case round =>
    clear HTM1_
    obtain ⟨n, hn, ⟨z, rfl⟩, rfl, hown, hg⟩ := hrel
    have szr_ := hg.size
    try simp only [World.size_alloc, World.size_setCell] at szr_
    have G3_ := Lib.hid (show (W).grownBy (wr) none from gby_trans MG2_.out hg)
    have HTM4_ := Lib.hid hg
    clear hg
    have HO := Lib.hid hown
    clear hown
    have hn0 : (0 : Int) ≤ (n : Int) := by omega
    have htn : ((n : Int)).toNat = n := by omega
    by_cases hlt : n < len
    · have hki : (n : Int) < (len : Int) := by omega
      obtain ⟨b, off, rfl, hcell⟩ := HA.out.resolve_left (by omega)
      obtain ⟨y, hy⟩ : ∃ y, y = pg xs n := ⟨_, rfl⟩
      have hyc := hcell n hlt
      rw [← hy] at hyc
      have HY := Lib.hid hy
      clear hy hcell
      obtain ⟨y0, y1, y2, y3⟩ := y
      dsimp only at hyc
      have HY0 := Lib.hid hyc.1
      have HY1 := Lib.hid hyc.2.1
      have HY2 := Lib.hid hyc.2.2.1
      have HY3 := Lib.hid hyc.2.2.2
      clear hyc
      have y0_ := (G3_.out).cell HY0.out (by simp)
      have y1_ := (G3_.out).cell HY1.out (by simp)
      have y2_ := (G3_.out).cell HY2.out (by simp)
      have y3_ := (G3_.out).cell HY3.out (by simp)
      by_cases h : y2 = p
      · have hb : (y2 != p) = false := by simpa using h
        have hb2 : (y2 == p) = true := by simpa using h
        have HB := Lib.hid h
        clear h
        go_wp2
        refine ⟨⟨n + 1, by omega, ⟨_, rfl⟩, by go_num, ?_, (gby_alloc HTM4_.out _)⟩, by simp [intOf]; omega⟩
        have e_ : revL p xs (n + 1) = revL p xs n := by show revL p xs n ++ (if (pg xs n).f2 = p then [] else [pg xs n]) = _; rw [← HY.out, if_pos HB.out, List.append_nil]
        rw [e_]
        exact (HO.out.alloc _)
      · have hb : (y2 != p) = true := by simpa using h
        have hb2 : (y2 == p) = false := by simpa using h
        have HB := Lib.hid h
        clear h
        have hrl := revL_len p xs n
        obtain ⟨m, hm⟩ : ∃ m, m = (revL p xs n).length := ⟨_, rfl⟩
        have HO2 := Lib.hid (show wr.ownsRow W.heap.size 59 4 _ m ((revL p xs n).flatMap cPg) from by rw [hm]; exact HO.out)
        have hm1 : m ≤ n := by omega
        have HM := Lib.hid hm
        clear hrl hm
        go_wp2_with (at_builtin; refine wpList_append_lies _ (by rfl) _ _ _ (by rfl) W.heap.size 59 i1_ _ 4 32 Try.underlying25 hi1_ hz0_ hz1_ hz2_ rfl (by omega) _ m ((revL p xs n).flatMap cPg) (by rfl) ((HO2.out.alloc _).alloc _) ⟨wr.heap.size + 1, 0, none⟩ 1 1 _ (by rfl) (by rfl) (World.news_of_block (t := 59) (fr := (0, 0)) (heap_pair wr _ _)) (by simp [Value.oneCell']) (by omega) (by unfold maxLen; omega) (by omega) (by simp; omega) (wr.heap.size + 1 + 1) (by simp) ?_; intro gg cap2 w5 hown5 hgrow5 hat hlt1; have HO5 := Lib.hid hown5; have HG5 := Lib.hid hgrow5; clear hown5 hgrow5 hat hlt1)
        refine ⟨⟨n + 1, by omega, ⟨_, rfl⟩, by go_num, ?_, ?_⟩, by simp [intOf]; omega⟩
        · have e_ : revL p xs (n + 1) = revL p xs n ++ [(⟨y0, y1, y2, y3⟩ : DPageGrant)] := by show revL p xs n ++ (if (pg xs n).f2 = p then [] else [pg xs n]) = _; rw [← HY.out, if_neg HB.out]
          rw [e_, List.length_append, ← HM.out, List.flatMap_append]
          exact HO5.out
        · exact gby_new (gby_alloc (gby_alloc HTM4_.out _) _) HG5.out (fun b hb => by have := own_from HO2.out b hb; omega)
    · obtain rfl : n = len := by omega
      have hki : ¬ (n : Int) < (n : Int) := by omega
      have hrl := revL_len p xs n
      go_wp2
      go_ret
      exact ⟨_, rfl, OwU.one (OwL.wide (owP_row (s := shPageGrant) cPg (fun _ => rfl) (fun _ _ _ _ => rfl) (by omega) HO.out) (Nat.le_refl _) (Nat.le_refl _)), HTM4_.out⟩

end Go.Proofs.Ytgagbhkidponnab
