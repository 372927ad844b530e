/-
  The program's PathTo.
-/
import Derived.Test.YtgagbhkidponnaaPathS
import Derived.Test.YtgagbhkidponnaaRevI
import Derived.ScopeJumps
import Derived.WalkMore
namespace Go.Proofs.Ytgagbhkidponnaa
open Go Go.RowKit
set_option linter.unusedVariables false

def PathRow (ys : List Int) (W : World) (e : Ending) (w' : World) : Prop := ∃ v, e = .returned v ∧ w'.ownsRow W.heap.size 3 1 v ys.length (i64s ys) ∧ W.grownBy w' none
set_option maxRecDepth 1000000 in
set_option maxHeartbeats 4000000 in
theorem implPathTo_row (W : World) (v : Value) (xs : List DNode) (k : Nat) (H : RdL shNode W v xs) (hl : szL shNode xs ≤ 1048576) (ht : TOk xs) (hkl : k < xs.length) : Calls Try.prog 63 #[v, .int .i64 (k : Int)] W (PathRow (pth xs k) W) := by
  have HTO := Lib.hid ht
  have HPL := Lib.hid (show (pth xs k).length ≤ 12 by have := (pth_len ht k hkl).2; have := ht.1.2; omega)
  clear ht
  have HT := Lib.hid H
  have HL := Lib.hid hl
  have HMX := Lib.hid H.max
  obtain ⟨a0, c0, rfl, hcap, hi⟩ := rdN_in H
  obtain ⟨n0, hlen⟩ : ∃ n, n = xs.length := ⟨_, rfl⟩
  have HE := Lib.hid hlen
  unfold RdN at hi
  rw [← hlen] at hi HT ⊢
  have HA := Lib.hid hi
  have hlx : n0 ≤ 1048576 := by have := szL_len shNode xs; omega
  clear H hi hlen hl hcap
  have hk : k < n0 := by have := HE.out; omega
  obtain ⟨b, off, rfl, hcell⟩ := HA.out.resolve_left (by omega)
  have HC := Lib.hid hcell
  clear hcell hkl
  obtain ⟨i1_, hi1_, hz0_, hz1_, hz2_⟩ := info_parts infoInt
  go_enter Try.func63, Try.ntmps63
  go_wp2
  refine wp_scope_jumps 0 (fun a' w' => ∃ (n : Nat) (ys : List Int) (v u6 u7 u8 u9 u10 u11 u12 u13 u14 u15 u16 u17 u18 u19 : Value), a' = { tmps := #[.slice (some ⟨b, off, none⟩) n0 c0, .int .i64 (n : Int), undef, undef, .slice none 0 0, v, u6, u7, u8, u9, u10, u11, u12, u13, u14, u15, u16, u17, u18, u19], defers := [] } ∧ n < n0 ∧ pth xs k = pth xs n ++ ys.reverse ∧ w'.ownsRow W.heap.size 3 1 v ys.length (i64s ys) ∧ W.grownBy w' none) (fun a' _ => (intOf (a'.tmps.getD 1 undef)).toNat) rfl ?_ ?_
  · go_wp2
    go_step3
    obtain ⟨n, hn_⟩ : ∃ n, n = k := ⟨_, rfl⟩
    obtain ⟨ys, hys⟩ : ∃ ys : List Int, ys = [] := ⟨_, rfl⟩
    have HZ : Hid (pth xs k = pth xs n ++ ys.reverse) := Lib.hid (by rw [hn_, hys]; simp)
    have HO : Hid (W.ownsRow W.heap.size 3 1 (.slice none 0 0) ys.length (i64s ys)) := Lib.hid (by rw [hys]; exact World.ownsRow_nil _ _ _ _)
    have HG := Lib.hid (gby_refl W none)
    have hn : n < n0 := by omega
    clear hys
    rw [show ((k : Nat) : Int) = (n : Int) by rw [hn_]]
    clear hn_
    have hyl : ys.length ≤ 12 := by have := HPL.out; rw [HZ.out, List.length_append, List.length_reverse] at this; omega
    have hn0 : (0 : Int) ≤ (n : Int) := by omega
    have htn : ((n : Int)).toNat = n := by omega
    have hki : (n : Int) < (n0 : Int) := by omega
    obtain ⟨m, hm⟩ : ∃ m, m = ys.length := ⟨_, rfl⟩
    have HO1 := Lib.hid (show W.ownsRow W.heap.size 3 1 _ m (i64s ys) from by rw [hm]; exact HO.out)
    have hb1 : m ≤ 12 := by omega
    have HM := Lib.hid hm
    clear hm
    have hwz : W.heap.size ≤ W.heap.size := gby_size HG.out
    by_cases h0 : n = 0
    · subst h0
      have hgt : decide ((0 : Int) < ((0 : Nat) : Int)) = false := by decide
      have hgt2 : ¬ (0 : Int) < ((0 : Nat) : Int) := by omega
      go_wp2_with (at_builtin; refine wpList_append_lies _ (by rfl) _ _ _ (by rfl) (W.heap.size) 3 i1_ _ 1 8 Try.underlying23 hi1_ hz0_ hz1_ hz2_ rfl (by omega) _ m (i64s ys) (by rfl) (HO1.out.alloc _) ⟨W.heap.size, 0, none⟩ 1 1 _ (by rfl) (by rfl) (World.news_of_block (t := 3) (fr := (0, 0)) (heap_alloc_new W _)) (by simp [Value.oneCell']) (by omega) (by unfold maxLen; omega) (by omega) (by first | (simp; omega) | simp) (W.heap.size + 1) (by simp) ?_; intro gg1 cap1 wa1 hown_ hgr_ hat_ hlt_; have HP1 := Lib.hid hown_; have HQ1 := Lib.hid (gby_new (gby_alloc HG.out _) hgr_ (fun i hi => own_from HO1.out i hi)); clear hown_ hgr_ hat_ hlt_)
      go_wp2_with fail
      go_at_call 91
      refine (rev_any _ W.heap.size _ (ys ++ [((0 : Nat) : Int)]) (by rw [List.length_append, List.length_singleton, ← HM.out]; simpa [i64s] using HP1.out) (by rw [List.length_append, List.length_singleton]; omega)).mono ?_
      rintro e w2 ⟨rfl, o2, g2⟩
      have HO2 := Lib.hid o2
      have HG2 := Lib.hid (gby_new HQ1.out g2 (fun i hi => own_from o2 i hi))
      clear o2 g2
      go_wp2
      try rw [Exit.noGoto_ret]
      try simp only [Exit.jump]
      go_ret
      refine ⟨_, rfl, ?_, HG2.out⟩
      have e_ : pth xs k = (ys ++ [((0 : Nat) : Int)]).reverse := by rw [HZ.out, pth_zero]; simp
      rw [e_, List.length_reverse]
      exact HO2.out
    · skip
      have hgt : (0 : Int) < (n : Int) := by omega
      obtain ⟨x, hx⟩ : ∃ x, x = (nd xs n).f0 := ⟨_, rfl⟩
      have hxc := (HC.out n hn).1
      rw [← hx] at hxc
      have HXC := Lib.hid hxc
      have HX := Lib.hid (show x = (par xs n : Int) by rw [hx]; exact par_eq HTO.out (by omega) (by rw [← HE.out]; exact hn))
      have hpl := par_lt HTO.out (k := n) (by omega) (by rw [← HE.out]; exact hn)
      clear hx hxc
      go_wp2_with (at_builtin; refine wpList_append_lies _ (by rfl) _ _ _ (by rfl) (W.heap.size) 3 i1_ _ 1 8 Try.underlying23 hi1_ hz0_ hz1_ hz2_ rfl (by omega) _ m (i64s ys) (by rfl) (HO1.out.alloc _) ⟨W.heap.size, 0, none⟩ 1 1 _ (by rfl) (by rfl) (World.news_of_block (t := 3) (fr := (0, 0)) (heap_alloc_new W _)) (by simp [Value.oneCell']) (by omega) (by unfold maxLen; omega) (by omega) (by first | (simp; omega) | simp) (W.heap.size + 1) (by simp) ?_; intro gg1 cap1 wa1 hown_ hgr_ hat_ hlt_; have HP1 := Lib.hid hown_; have HQ1 := Lib.hid (gby_new (gby_alloc HG.out _) hgr_ (fun i hi => own_from HO1.out i hi)); have hx_ := HQ1.out.cell HXC.out (by simp); clear hown_ hgr_ hat_ hlt_)
      go_step3
      refine ⟨rfl, par xs n, ys ++ [(n : Int)], _, _, _, _, _, _, _, _, _, _, _, _, _, _, _, by rw [HX.out], by omega, ?_, ?_, HQ1.out⟩
      · rw [HZ.out, pth_succ HTO.out (by omega) (by rw [← HE.out]; exact hn), List.reverse_append, List.append_assoc]; rfl
      · rw [List.length_append, List.length_singleton, ← HM.out]; simpa [i64s] using HP1.out
  · rintro a' wr ⟨n, ys, v, u6, u7, u8, u9, u10, u11, u12, u13, u14, u15, u16, u17, u18, u19, rfl, hn, hz, hown, hg⟩
    have HZ := Lib.hid hz
    have HO := Lib.hid hown
    have HG := Lib.hid hg
    clear hz hown hg
    have hyl : ys.length ≤ 12 := by have := HPL.out; rw [HZ.out, List.length_append, List.length_reverse] at this; omega
    have hn0 : (0 : Int) ≤ (n : Int) := by omega
    have htn : ((n : Int)).toNat = n := by omega
    have hki : (n : Int) < (n0 : Int) := by omega
    obtain ⟨m, hm⟩ : ∃ m, m = ys.length := ⟨_, rfl⟩
    have HO1 := Lib.hid (show wr.ownsRow W.heap.size 3 1 _ m (i64s ys) from by rw [hm]; exact HO.out)
    have hb1 : m ≤ 12 := by omega
    have HM := Lib.hid hm
    clear hm
    have hwz : W.heap.size ≤ wr.heap.size := gby_size HG.out
    by_cases h0 : n = 0
    · subst h0
      have hgt : decide ((0 : Int) < ((0 : Nat) : Int)) = false := by decide
      have hgt2 : ¬ (0 : Int) < ((0 : Nat) : Int) := by omega
      go_wp2_with (at_builtin; refine wpList_append_lies _ (by rfl) _ _ _ (by rfl) (W.heap.size) 3 i1_ _ 1 8 Try.underlying23 hi1_ hz0_ hz1_ hz2_ rfl (by omega) _ m (i64s ys) (by rfl) (HO1.out.alloc _) ⟨wr.heap.size, 0, none⟩ 1 1 _ (by rfl) (by rfl) (World.news_of_block (t := 3) (fr := (0, 0)) (heap_alloc_new wr _)) (by simp [Value.oneCell']) (by omega) (by unfold maxLen; omega) (by omega) (by first | (simp; omega) | simp) (wr.heap.size + 1) (by simp) ?_; intro gg1 cap1 wa1 hown_ hgr_ hat_ hlt_; have HP1 := Lib.hid hown_; have HQ1 := Lib.hid (gby_new (gby_alloc HG.out _) hgr_ (fun i hi => own_from HO1.out i hi)); clear hown_ hgr_ hat_ hlt_)
      go_wp2_with fail
      go_at_call 91
      refine (rev_any _ W.heap.size _ (ys ++ [((0 : Nat) : Int)]) (by rw [List.length_append, List.length_singleton, ← HM.out]; simpa [i64s] using HP1.out) (by rw [List.length_append, List.length_singleton]; omega)).mono ?_
      rintro e w2 ⟨rfl, o2, g2⟩
      have HO2 := Lib.hid o2
      have HG2 := Lib.hid (gby_new HQ1.out g2 (fun i hi => own_from o2 i hi))
      clear o2 g2
      go_wp2
      try rw [Exit.noGoto_ret]
      try simp only [Exit.jump]
      go_ret
      refine ⟨_, rfl, ?_, HG2.out⟩
      have e_ : pth xs k = (ys ++ [((0 : Nat) : Int)]).reverse := by rw [HZ.out, pth_zero]; simp
      rw [e_, List.length_reverse]
      exact HO2.out
    · skip
      have hgt : (0 : Int) < (n : Int) := by omega
      obtain ⟨x, hx⟩ : ∃ x, x = (nd xs n).f0 := ⟨_, rfl⟩
      have hxc := (HC.out n hn).1
      rw [← hx] at hxc
      have HXC := Lib.hid hxc
      have HX := Lib.hid (show x = (par xs n : Int) by rw [hx]; exact par_eq HTO.out (by omega) (by rw [← HE.out]; exact hn))
      have hpl := par_lt HTO.out (k := n) (by omega) (by rw [← HE.out]; exact hn)
      clear hx hxc
      go_wp2_with (at_builtin; refine wpList_append_lies _ (by rfl) _ _ _ (by rfl) (W.heap.size) 3 i1_ _ 1 8 Try.underlying23 hi1_ hz0_ hz1_ hz2_ rfl (by omega) _ m (i64s ys) (by rfl) (HO1.out.alloc _) ⟨wr.heap.size, 0, none⟩ 1 1 _ (by rfl) (by rfl) (World.news_of_block (t := 3) (fr := (0, 0)) (heap_alloc_new wr _)) (by simp [Value.oneCell']) (by omega) (by unfold maxLen; omega) (by omega) (by first | (simp; omega) | simp) (wr.heap.size + 1) (by simp) ?_; intro gg1 cap1 wa1 hown_ hgr_ hat_ hlt_; have HP1 := Lib.hid hown_; have HQ1 := Lib.hid (gby_new (gby_alloc HG.out _) hgr_ (fun i hi => own_from HO1.out i hi)); have hx_ := HQ1.out.cell HXC.out (by simp); clear hown_ hgr_ hat_ hlt_)
      go_step3
      refine ⟨rfl, ⟨par xs n, ys ++ [(n : Int)], _, _, _, _, _, _, _, _, _, _, _, _, _, _, _, by rw [HX.out], by omega, ?_, ?_, HQ1.out⟩, ?_⟩
      · rw [HZ.out, pth_succ HTO.out (by omega) (by rw [← HE.out]; exact hn), List.reverse_append, List.append_assoc]; rfl
      · rw [List.length_append, List.length_singleton, ← HM.out]; simpa [i64s] using HP1.out
      · simp [intOf]
        rw [HX.out]; omega

theorem implPathTo (W : World) (v : Value) (xs : List DNode) (k : Nat) (H : RdL shNode W v xs) (hl : szL shNode xs ≤ 1048576) (ht : TOk xs) (hkl : k < xs.length) : Calls Try.prog 63 #[v, .int .i64 (k : Int)] W (ResIPathTo (pth xs k) W) :=
  (implPathTo_row W v xs k H hl ht hkl).mono (by
    rintro e w ⟨v, rfl, h, g⟩
    have := (pth_len ht k hkl).2
    have := ht.1.2
    exact ⟨v, rfl, OwU.one (owI_out (by omega) (owI_row h)), g⟩)

end Go.Proofs.Ytgagbhkidponnaa
