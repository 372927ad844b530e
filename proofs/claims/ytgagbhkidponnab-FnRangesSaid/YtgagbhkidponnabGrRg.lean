/-
  A range of addresses translated, on both sides.
-/
import Derived.Test.YtgagbhkidponnabGrTr
import Derived.Test.YtgagbhkidponnabRTranslateRange
import Derived.Test.YtgagbhkidponnabBPost0
import Derived.Test.YtgagbhkidponnabSetI
import Derived.Deep.AppendLies
namespace Go.Proofs.Ytgagbhkidponnab
open Go Go.RowKit
set_option linter.unusedVariables false
open Go.Maps

/-- the first n, translated -/
noncomputable def trs (xs : List DPageGrant) (id a : Int) (wt : Bool) (n : Nat) : List Int := (List.range n).map fun k : Nat => (tr xs id (a + (k : Int)) wt).1
theorem trs_len (xs : List DPageGrant) (id a : Int) (wt : Bool) (n : Nat) : (trs xs id a wt n).length = n := by simp [trs]
theorem trs_succ (xs : List DPageGrant) (id a : Int) (wt : Bool) (n : Nat) : trs xs id a wt (n + 1) = trs xs id a wt n ++ [(tr xs id (a + (n : Int)) wt).1] := by simp [trs, List.range_succ]
theorem trs_at (xs : List DPageGrant) (id a : Int) (wt : Bool) (n k : Nat) (h : k < n) : (trs xs id a wt n).getD k 0 = (tr xs id (a + (k : Int)) wt).1 := by
  simp [trs, List.getD_eq_getElem?_getD, List.getElem?_eq_getElem, h]
theorem eq_lists {x y : List Int} (hl : x.length = y.length) (h : ∀ j, j < x.length → x.getD j 0 = y.getD j 0) : x = y := by
  refine List.ext_getElem hl (fun j h1 h2 => ?_)
  have := h j h1
  simpa [List.getD_eq_getElem?_getD, List.getElem?_eq_getElem, h1, h2] using this
/-- the first n can be translated -/
def TrOk (xs : List DPageGrant) (id a : Int) (wt : Bool) (n : Nat) : Prop := ∀ k : Nat, k < n → (tr xs id (a + (k : Int)) wt).2 = 0
theorem trOk_succ {xs : List DPageGrant} {id a : Int} {wt : Bool} {n : Nat} (h : TrOk xs id a wt n) (hn : (tr xs id (a + (n : Int)) wt).2 = 0) : TrOk xs id a wt (n + 1) := fun k hk => by
  by_cases e : k = n
  · subst e; exact hn
  · exact h k (by omega)
/-- the answer to a range -/
def RgIs (xs : List DPageGrant) (id a len : Int) (wt : Bool) (L : List Int) (c : Int) : Prop :=
  (((len < 1 ∨ 64 < len) ∨ (a < 0 ∨ 65535 < a)) ∧ L = [] ∧ c = 1) ∨
  ((1 ≤ len ∧ len ≤ 64) ∧ (0 ≤ a ∧ a ≤ 65535) ∧ ((TrOk xs id a wt len.toNat ∧ L = trs xs id a wt len.toNat ∧ c = 0) ∨ ∃ k : Nat, (k : Int) < len ∧ TrOk xs id a wt k ∧ (tr xs id (a + (k : Int)) wt).2 ≠ 0 ∧ L = [] ∧ c = (tr xs id (a + (k : Int)) wt).2))
theorem trOk_or (xs : List DPageGrant) (id a : Int) (wt : Bool) : ∀ n, TrOk xs id a wt n ∨ ∃ k, k < n ∧ TrOk xs id a wt k ∧ (tr xs id (a + (k : Int)) wt).2 ≠ 0
  | 0 => .inl (fun k hk => by omega)
  | n + 1 => by
    rcases trOk_or xs id a wt n with h | ⟨k, hk, h⟩
    · by_cases e : (tr xs id (a + (n : Int)) wt).2 = 0
      · exact .inl (trOk_succ h e)
      · exact .inr ⟨n, by omega, h, e⟩
    · exact .inr ⟨k, by omega, h⟩
theorem rg_ex (xs : List DPageGrant) (id a len : Int) (wt : Bool) : ∃ L c, RgIs xs id a len wt L c := by
  by_cases h1 : (len < 1 ∨ 64 < len) ∨ (a < 0 ∨ 65535 < a)
  · exact ⟨[], 1, .inl ⟨h1, rfl, rfl⟩⟩
  · rcases trOk_or xs id a wt len.toNat with h | ⟨k, hk, h, e⟩
    · exact ⟨_, 0, .inr ⟨by omega, by omega, .inl ⟨h, rfl, rfl⟩⟩⟩
    · exact ⟨[], _, .inr ⟨by omega, by omega, .inr ⟨k, by omega, h, e, rfl, rfl⟩⟩⟩
theorem trOk_one {xs : List DPageGrant} {id a : Int} {wt : Bool} {j k : Nat} (h1 : TrOk xs id a wt j) (h2 : (tr xs id (a + (j : Int)) wt).2 ≠ 0) (h3 : TrOk xs id a wt k) (h4 : (tr xs id (a + (k : Int)) wt).2 ≠ 0) : j = k := by
  rcases Nat.lt_trichotomy j k with c | c | c
  · exact absurd (h3 j c) h2
  · exact c
  · exact absurd (h1 k c) h4
theorem rg_one {xs : List DPageGrant} {id a len : Int} {wt : Bool} {L M : List Int} {c d : Int} (h : RgIs xs id a len wt L c) (g : RgIs xs id a len wt M d) : L = M ∧ c = d := by
  rcases h with ⟨h1, rfl, rfl⟩ | ⟨h1, h2, h⟩
  · rcases g with ⟨_, rfl, rfl⟩ | ⟨g1, g2, _⟩
    · exact ⟨rfl, rfl⟩
    · omega
  · rcases g with ⟨g1, _⟩ | ⟨_, _, g⟩
    · omega
    · rcases h with ⟨h3, rfl, rfl⟩ | ⟨k, k1, k2, k3, rfl, rfl⟩
      · rcases g with ⟨_, rfl, rfl⟩ | ⟨j, j1, j2, j3, _⟩
        · exact ⟨rfl, rfl⟩
        · exact absurd (h3 j (by omega)) j3
      · rcases g with ⟨g3, _⟩ | ⟨j, j1, j2, j3, rfl, rfl⟩
        · exact absurd (g3 k (by omega)) k3
        · obtain rfl := trOk_one k2 k3 j2 j3
          exact ⟨rfl, rfl⟩
def RgPost (xs : List DPageGrant) (id a len : Int) (wt : Bool) (W : World) (e : Ending) (w' : World) : Prop := ∃ L c, RgIs xs id a len wt L c ∧ ResITranslateRange L c W e w'
theorem rgPost_to {xs : List DPageGrant} {id a len : Int} {wt : Bool} {L : List Int} {c : Int} (h : RgIs xs id a len wt L c) {W : World} (e : Ending) (w' : World) (q : RgPost xs id a len wt W e w') : ResITranslateRange L c W e w' := by
  obtain ⟨M, d, hm, hq⟩ := q
  obtain ⟨rfl, rfl⟩ := rg_one h hm
  exact hq

set_option maxRecDepth 8000 in
set_option maxHeartbeats 2000000 in
theorem specRg (W : World) (v : Value) (xs : List DPageGrant) (id a len : Int) (wt : Bool) (H : RdL shPageGrant W v xs) (hl : szL shPageGrant xs ≤ 1048576) : Calls Try.prog 20 #[v, .int .i64 id, .int .i64 a, .int .i64 len, .bool wt] W (RgPost xs id a len wt W) := by
  obtain ⟨i1_, hi1_, hz0_, hz1_, hz2_⟩ := info_parts infoInt
  have HT := Lib.hid H
  have HLZ := Lib.hid hl
  rw [szL_size0 (fun _ => rfl)] at hl
  obtain ⟨a0, cap, rfl, hcap, hi⟩ := rdG_in H
  have HA := Lib.hid hi
  obtain ⟨xl, hlen⟩ : ∃ xl, xl = xs.length := ⟨_, rfl⟩
  have HE := Lib.hid hlen
  unfold RdG at HA
  rw [← hlen] at hl HA HT ⊢
  clear H hi hlen hcap
  go_enter Try.func20, Try.ntmps20
  have HTM1_ := Lib.hid (gby_refl (W) none)
  have MG2_ := Lib.hid (show (W).grownBy (W) none from (gby_refl _ _))
  have al_ : (W).grownBy ((W).alloc (.cells #[] 3)) none := gby_alloc (gby_refl _ _) _
  have G3_ := Lib.hid (show (W).grownBy ((W.alloc (.cells #[] 3))) none from gby_trans (gby_refl _ _) al_)
  have HTM4_ := Lib.hid (show (W).grownBy ((W.alloc (.cells #[] 3))) none from gby_trans HTM1_.out al_)
  clear HTM1_
  have rO5_ := Lib.hid (show ((W.alloc (.cells #[] 3))).heap[W.heap.size]? = some (.cells #[] 3 (0, 0)) from by first | exact heap_alloc_new _ _ | exact heap_pair _ _ _ | exact heap_trip _ _ _ _)
  clear al_
  rcases inr_or2 len 1 64 with ⟨l1, l2⟩ | hb
  rotate_left
  · have HB := Lib.hid hb
    clear hb
    go_wp2_with fail
    go_at_call 38
    refine (in_no _ _ _ _ HB.out).mono ?_
    rintro e w1_ ⟨rfl, rfl⟩
    go_wp2
    go_ret2
    exact ⟨[], 1, .inl ⟨.inl HB.out, rfl, rfl⟩, _, rfl, OwU.one (owL_empty (by omega) (by simp)), G3_.out⟩
  rcases inr_or2 a 0 65535 with ⟨ha0, ha1⟩ | hb
  rotate_left
  · have HB := Lib.hid hb
    clear hb
    go_wp2_with fail
    go_at_call 38
    refine (in_yes _ _ _ _ l1 l2).mono ?_
    rintro e w1_ ⟨rfl, rfl⟩
    go_wp2_with fail
    go_at_call 38
    refine (in_no _ _ _ _ HB.out).mono ?_
    rintro e w2_ ⟨rfl, rfl⟩
    go_wp2
    go_ret2
    exact ⟨[], 1, .inl ⟨.inr HB.out, rfl, rfl⟩, _, rfl, OwU.one (owL_empty (by omega) (by simp)), G3_.out⟩
  go_wp2_with fail
  go_at_call 38
  refine (in_yes _ _ _ _ l1 l2).mono ?_
  rintro e w1_ ⟨rfl, rfl⟩
  go_wp2_with fail
  go_at_call 38
  refine (in_yes _ _ _ _ ha0 ha1).mono ?_
  rintro e w2_ ⟨rfl, rfl⟩
  obtain ⟨cl, hcl⟩ : ∃ cl : Nat, len = (cl : Int) := ⟨len.toNat, by omega⟩
  subst hcl
  have hst_ : ((W.alloc (.cells #[] 3))).ownsRow (W.heap.size) 3 1 (.slice (some ⟨W.heap.size, 0, none⟩) 0 0) (trs xs id a wt 0).length (i64s (trs xs id a wt 0)) := own_emptyP (e := 3) (n := 1) rO5_.out (Nat.le_refl _)
  go_wp2
  go_loopw [12, 13] (fun v i wr => ∃ n : Nat, n ≤ cl ∧ i = .int .i64 (n : Int) ∧ TrOk xs id a wt n ∧ wr.ownsRow (W.heap.size) 3 1 v (trs xs id a wt n).length (i64s (trs xs id a wt n)) ∧ (W).grownBy wr none) (fun _ i _ => cl - (intOf i).toNat)
  case atStart => exact ⟨0, by omega, rfl, (fun k hk => absurd hk (Nat.not_lt_zero _)), hst_, HTM4_.out⟩
  case round =>
    clear rO5_
    clear HTM4_
    obtain ⟨n, hn, rfl, hok, hown, hg⟩ := hrel
    have szr_ := hg.size
    try simp only [World.size_alloc, World.size_setCell] at szr_
    have G6_ := Lib.hid (show (W).grownBy (wr) none from gby_trans MG2_.out hg)
    have HTM7_ := Lib.hid hg
    clear hg
    try clear hst_
    have HO_ := Lib.hid hown
    have HOK := Lib.hid hok
    clear hown hok
    have hn0 : (0 : Int) ≤ (n : Int) := by omega
    have htn : ((n : Int)).toNat = n := by omega
    by_cases hlt : n < cl
    rotate_left
    · obtain rfl : n = cl := by omega
      have hki : ¬ (n : Int) < (n : Int) := by omega
      go_wp2
      go_ret2
      exact ⟨(trs xs id a wt n), 0, .inr ⟨⟨l1, l2⟩, ⟨ha0, ha1⟩, .inl ⟨by rw [htn]; exact HOK.out, by rw [htn], rfl⟩⟩, _, rfl, OwU.one (OwL.wide (owI_out (by rw [trs_len]; omega) (owI_row HO_.out)) (by omega) (Nat.le_refl _)), G6_.out⟩
    have hki : (n : Int) < (cl : Int) := by omega
    have haw : IntKind.i64.wrap (a + (n : Int)) = (a + (n : Int)) := IntWalk.i64_in _ (by omega)
    obtain ⟨x, hx⟩ : ∃ x, x = (tr xs id (a + (n : Int)) wt).1 := ⟨_, rfl⟩
    obtain ⟨c, hc⟩ : ∃ c, c = (tr xs id (a + (n : Int)) wt).2 := ⟨_, rfl⟩
    have HX := Lib.hid hx
    have HC := Lib.hid hc
    clear hx hc
    go_wp2_with fail
    go_at_call 18
    refine (show Calls _ _ _ _ (fun e w' => e = .returned (.tuple #[.int .i64 x, .int .i64 c]) ∧ (wr).grownBy w' none) from by rw [HX.out, HC.out]; exact specTr _ _ xs id (a + (n : Int)) wt (HT.out.grow G6_.out) HLZ.out).mono ?_
    rintro e w3 ⟨rfl, g⟩
    have gN_ := Lib.hid g
    have szw3 := g.size
    try simp only [World.size_alloc, World.size_setCell] at szw3
    have G8_ := Lib.hid (show (W).grownBy (w3) none from gby_trans G6_.out g)
    have HTM9_ := Lib.hid (show (W).grownBy (w3) none from gby_trans HTM7_.out g)
    clear HTM7_
    clear g
    by_cases hc0 : c = 0
    rotate_left
    · have hb0 : (c != 0) = true := bne_iff_ne.2 hc0
      have HB := Lib.hid hc0
      clear hc0
      go_wp2
      go_ret2
      exact ⟨[], c, .inr ⟨⟨l1, l2⟩, ⟨ha0, ha1⟩, .inr ⟨n, hki, HOK.out, by rw [← HC.out]; exact HB.out, rfl, HC.out⟩⟩, _, rfl, OwU.one (owL_empty (by omega) (by simp)), gby_alloc G8_.out _⟩
    subst hc0
    have hb0 : ((0 : Int) != 0) = false := by decide
    have HO2_ := Lib.hid (HO_.out.grown (gN_.out))
    have hb_ : (trs xs id a wt n).length ≤ 1000000 := by rw [trs_len]; omega
    obtain ⟨m10, hm10⟩ : ∃ ml_, ml_ = (trs xs id a wt n).length := ⟨_, rfl⟩
    have HO10 := Lib.hid (show (w3).ownsRow (W.heap.size) 3 1 _ m10 (i64s (trs xs id a wt n)) from by rw [hm10]; exact HO2_.out)
    have hb10 : m10 ≤ 1000000 := by rw [hm10]; exact hb_
    have HM10 := Lib.hid hm10
    clear hm10 hb_
    go_wp2_with (at_builtin; refine wpList_append_lies _ (by rfl) _ _ _ (by rfl) (W.heap.size) 3 i1_ _ 1 8 Try.underlying34 hi1_ hz0_ hz1_ hz2_ rfl (by omega) _ m10 (i64s (trs xs id a wt n)) (by rfl) (HO10.out.alloc _) ⟨(w3).heap.size, 0, none⟩ 1 1 _ (by rfl) (by rfl) (World.news_of_block (t := 3) (fr := (0, 0)) (heap_alloc_new (w3) _)) (by simp [Value.oneCell']) (by omega) (by unfold maxLen; omega) (by omega) (by simp; omega) ((w3).heap.size + 1) (by simp) ?_; intro gg10 cap10 wa10 hown_ hgr_ hat_ hlt_; have HP10 := Lib.hid hown_; have HQ10 := Lib.hid hgr_; clear hown_ hgr_ hat_ hlt_)
    refine ⟨⟨n + 1, by omega, by go_num, trOk_succ HOK.out HC.out.symm, ?_, ?_⟩, by simp [intOf]; omega⟩
    · rw [trs_succ, List.length_append, ← HM10.out, i64s_append, ← HX.out]
      exact HP10.out
    · exact gby_new (gby_alloc HTM9_.out _) HQ10.out (fun b hb => by have := own_from HO10.out b hb; omega)

set_option maxRecDepth 8000 in
set_option maxHeartbeats 2000000 in
theorem implRg (W : World) (v : Value) (xs : List DPageGrant) (id a len : Int) (wt : Bool) (H : RdL shPageGrant W v xs) (hl : szL shPageGrant xs ≤ 1048576) (hi : I64 id) : Calls Try.prog 21 #[v, .int .i64 id, .int .i64 a, .int .i64 len, .bool wt] W (RgPost xs id a len wt W) := by
  obtain ⟨i1_, hi1_, hz0_, hz1_, hz2_⟩ := info_parts infoInt
  have HT := Lib.hid H
  have HLZ := Lib.hid hl
  rw [szL_size0 (fun _ => rfl)] at hl
  obtain ⟨a0, cap, rfl, hcap, hi2⟩ := rdG_in H
  have HA := Lib.hid hi2
  obtain ⟨xl, hlen⟩ : ∃ xl, xl = xs.length := ⟨_, rfl⟩
  have HE := Lib.hid hlen
  unfold RdG at HA
  rw [← hlen] at hl HA HT ⊢
  clear H hi2 hlen hcap
  go_enter Try.func21, Try.ntmps21
  by_cases hg : GOk xs
  rotate_left
  · have HNG := Lib.hid hg
    clear hg
    go_wp2_with fail
    go_at_call 14
    refine ((implGOk _ _ xs (HT.out.grow (gby_refl _ _)) HLZ.out).mono (bpost_no HNG.out)).mono ?_
    rintro e w1 ⟨rfl, g⟩
    have szw1 := g.size
    try simp only [World.size_alloc] at szw1
    try simp only [World.size_setCell] at szw1
    have G1_ := Lib.hid (show (W).grownBy (w1) none from gby_trans (gby_refl _ _) g)
    clear g
    go_wp2
    go_ret2
    refine ⟨[], 1, ?_, _, rfl, OwU.one owL_nil, G1_.out⟩
    by_cases h1 : (len < 1 ∨ 64 < len) ∨ (a < 0 ∨ 65535 < a)
    · exact .inl ⟨h1, rfl, rfl⟩
    · exact .inr ⟨by omega, by omega, .inr ⟨0, by omega, (fun k hk => absurd hk (Nat.not_lt_zero _)), by rw [tr_bad _ _ _ HNG.out]; decide, rfl, by rw [tr_bad _ _ _ HNG.out]⟩⟩
  have HG := Lib.hid hg
  clear hg
  go_wp2_with fail
  go_at_call 14
  refine ((implGOk _ _ xs (HT.out.grow (gby_refl _ _)) HLZ.out).mono (bpost_yes HG.out)).mono ?_
  rintro e w1 ⟨rfl, g⟩
  have szw1 := g.size
  try simp only [World.size_alloc] at szw1
  try simp only [World.size_setCell] at szw1
  have G1_ := Lib.hid (show (W).grownBy (w1) none from gby_trans (gby_refl _ _) g)
  clear g
  rcases inr_or2 len 1 64 with ⟨l1, l2⟩ | hb
  rotate_left
  · have HB := Lib.hid hb
    clear hb
    go_wp2_with fail
    go_at_call 45
    refine (rng_no _ _ _ _ HB.out).mono ?_
    rintro e w2_ ⟨rfl, rfl⟩
    go_wp2
    go_ret2
    exact ⟨[], 1, .inl ⟨.inl HB.out, rfl, rfl⟩, _, rfl, OwU.one owL_nil, G1_.out⟩
  rcases inr_or2 a 0 65535 with ⟨ha0, ha1⟩ | hb
  rotate_left
  · have HB := Lib.hid hb
    clear hb
    go_wp2_with fail
    go_at_call 45
    refine (rng_yes _ _ _ _ l1 l2).mono ?_
    rintro e w2_ ⟨rfl, rfl⟩
    go_wp2_with fail
    go_at_call 45
    refine (rng_no _ _ _ _ HB.out).mono ?_
    rintro e w3_ ⟨rfl, rfl⟩
    go_wp2
    go_ret2
    exact ⟨[], 1, .inl ⟨.inr HB.out, rfl, rfl⟩, _, rfl, OwU.one owL_nil, G1_.out⟩
  go_wp2_with fail
  go_at_call 45
  refine (rng_yes _ _ _ _ l1 l2).mono ?_
  rintro e w2_ ⟨rfl, rfl⟩
  go_wp2_with fail
  go_at_call 45
  refine (rng_yes _ _ _ _ ha0 ha1).mono ?_
  rintro e w3_ ⟨rfl, rfl⟩
  obtain ⟨cl, hcl⟩ : ∃ cl : Nat, len = (cl : Int) := ⟨len.toNat, by omega⟩
  subst hcl
  go_wp2_with fail
  go_at_call 42
  refine (table_any _ _ xs (HT.out.grow G1_.out) HLZ.out HG.out.2.1).mono ?_
  rintro e w9 ⟨bm, rfl, hb1, hb2, hown, g⟩
  have HMP := Lib.hid hown
  have szw9 := g.size
  clear hown
  have G2_ := Lib.hid (show (W).grownBy (w9) none from gby_trans G1_.out g)
  clear g
  have HTM3_ := Lib.hid (gby_refl (w9) none)
  have MG4_ := Lib.hid (show (W).grownBy (w9) none from G2_.out)
  go_wp2_with (at_make; refine wpList_make_full _ rfl _ _ 34 rfl w9.heap.size 3 i1_ (.int .i64 0) 1 Try.underlying34 hi1_ hz0_ hz1_ .i64 .i64 _ _ cl rfl rfl rfl rfl (by rw [hz2_]; omega) (by unfold maxLen; omega) (Nat.le_refl _) ?_; intro w0 hown0 hgrow0; have HO0 := Lib.hid hown0; have HG0 := Lib.hid hgrow0; clear hown0 hgrow0)
  have hsz0 := HG0.out.size
  have G5_ := Lib.hid (show (W).grownBy (w0) none from gby_trans G2_.out HG0.out)
  have HTM6_ := Lib.hid (show (w9).grownBy (w0) none from gby_trans HTM3_.out HG0.out)
  clear HTM3_
  have hst_ : w0.ownsRow (w9.heap.size) 3 1 (.slice (some ⟨w9.heap.size, 0, none⟩) cl cl) cl (i64s (List.replicate cl 0)) := by
    have := HO0.out
    rw [show (Value.int .i64 0).cells = #[Value.int .i64 0] from rfl, Nat.mul_one, toList_madeCells_one] at this
    simpa [i64s] using this
  go_wp2
  go_loopw [36] (fun i wr => ∃ (n : Nat) (ys : List Int), n ≤ cl ∧ i = .int .i64 (n : Int) ∧ ys.length = cl ∧ TrOk xs id a wt n ∧ (∀ j : Nat, j < n → ys.getD j 0 = (tr xs id (a + (j : Int)) wt).1) ∧ wr.ownsRow (w9.heap.size) 3 1 (.slice (some ⟨w9.heap.size, 0, none⟩) cl cl) cl (i64s ys) ∧ (w9).grownBy wr none) (fun i _ => cl - (intOf i).toNat)
  case atStart => exact ⟨0, _, by omega, rfl, by simp, (fun k hk => absurd hk (Nat.not_lt_zero _)), fun j hj => absurd hj (Nat.not_lt_zero _), hst_, HTM6_.out⟩
  case round =>
    clear HTM6_
    obtain ⟨n, ys, hn, rfl, hlen, hok, hys, hown, hg⟩ := hrel
    have szr_ := hg.size
    try simp only [World.size_alloc, World.size_setCell] at szr_
    have G7_ := Lib.hid (show (W).grownBy (wr) none from gby_trans MG4_.out hg)
    have HTM8_ := Lib.hid hg
    clear hg
    try clear hst_
    have HO_ := Lib.hid hown
    have HL_ := Lib.hid hlen
    have HY_ := Lib.hid hys
    have HOK := Lib.hid hok
    clear hown hlen hys hok
    have hn0 : (0 : Int) ≤ (n : Int) := by omega
    have htn : ((n : Int)).toNat = n := by omega
    by_cases hlt : n < cl
    rotate_left
    · obtain rfl : n = cl := by omega
      have hki : ¬ (n : Int) < (n : Int) := by omega
      have ey : ys = (trs xs id a wt n) := eq_lists (by rw [trs_len]; exact HL_.out) (fun j hj => by rw [HL_.out] at hj; rw [HY_.out j hj, trs_at _ _ _ _ _ _ hj])
      have hq := HO_.out
      rw [ey] at hq
      have HQ_ := Lib.hid hq
      clear hq ey
      go_wp2
      go_ret2
      exact ⟨(trs xs id a wt n), 0, .inr ⟨⟨l1, l2⟩, ⟨ha0, ha1⟩, .inl ⟨by rw [htn]; exact HOK.out, by rw [htn], rfl⟩⟩, _, rfl, OwU.one (OwL.wide (owI_out (by rw [trs_len]; omega) (owI_row HQ_.out)) (by omega) (Nat.le_refl _)), G7_.out⟩
    have hki : (n : Int) < (cl : Int) := by omega
    have haw : IntKind.i64.wrap (a + (n : Int)) = (a + (n : Int)) := IntWalk.i64_in _ (by omega)
    obtain ⟨x, hx⟩ : ∃ x, x = (tr xs id (a + (n : Int)) wt).1 := ⟨_, rfl⟩
    obtain ⟨c, hc⟩ : ∃ c, c = (tr xs id (a + (n : Int)) wt).2 := ⟨_, rfl⟩
    have HX := Lib.hid hx
    have HC := Lib.hid hc
    clear hx hc
    go_wp2_with fail
    go_at_call 44
    refine (show Calls _ _ _ _ (fun e w' => e = .returned (.tuple #[.int .i64 x, .int .i64 c]) ∧ (wr).grownBy w' none) from by rw [HX.out, HC.out]; exact look_any _ bm xs id (a + (n : Int)) wt (HMP.out.kept HTM8_.out (by simp)) HG.out hi).mono ?_
    rintro e w4 ⟨rfl, g⟩
    have gN_ := Lib.hid g
    have szw4 := g.size
    try simp only [World.size_alloc, World.size_setCell] at szw4
    have G9_ := Lib.hid (show (W).grownBy (w4) none from gby_trans G7_.out g)
    have HTM10_ := Lib.hid (show (w9).grownBy (w4) none from gby_trans HTM8_.out g)
    clear HTM8_
    clear g
    have HO2_ := Lib.hid (HO_.out.grown gN_.out)
    have hf_ := HO2_.out.frozenAt n
    have hc_ := HO2_.out.cellAt n (by omega)
    rw [i64s, List.getElem?_map, List.getElem?_eq_getElem (by have := HL_.out; omega)] at hc_
    generalize ys[n]'(by have := HL_.out; omega) = y_ at hc_
    by_cases hc0 : c = 0
    rotate_left
    · have hb0 : (c != 0) = true := bne_iff_ne.2 hc0
      have HB := Lib.hid hc0
      clear hc0
      go_wp2
      go_ret2
      exact ⟨[], c, .inr ⟨⟨l1, l2⟩, ⟨ha0, ha1⟩, .inr ⟨n, hki, HOK.out, by rw [← HC.out]; exact HB.out, rfl, HC.out⟩⟩, _, rfl, OwU.one owL_nil, G9_.out⟩
    subst hc0
    have hb0 : ((0 : Int) != 0) = false := by decide
    go_wp2
    refine ⟨⟨n + 1, ys.set n x, by omega, by go_num, by simp [HL_.out], trOk_succ HOK.out HC.out.symm, ?_, ?_, ?_⟩, by simp [intOf]; omega⟩
    · intro j hj
      rw [List.getD_eq_getElem?_getD, List.getElem?_set]
      by_cases e : n = j
      · subst e
        have := HL_.out
        rw [if_pos rfl, if_pos (by omega)]; exact HX.out
      · rw [if_neg e, ← List.getD_eq_getElem?_getD]
        exact HY_.out j (by omega)
    · have := HO2_.out.stored n (.int .i64 x)
      rw [i64s, ← List.map_set] at this
      exact this.1
    · exact gby_setnew HTM10_.out _ (by dsimp only; omega) _

theorem rg_size {xs : List DPageGrant} {id a len : Int} {wt : Bool} {L : List Int} {c : Int} (h : RgIs xs id a len wt L c) : szL shI L ≤ 1048576 := by
  rw [szL_I]
  rcases h with ⟨_, rfl, _⟩ | ⟨h1, _, ⟨_, rfl, _⟩ | ⟨_, _, _, _, rfl, _⟩⟩
  · simp
  · rw [trs_len]; omega
  · simp
theorem translateRange_both (xs0 : List DPageGrant) (i1 i2 i3 : Int) (b4 : Bool) (hI1 : I64 i1) (h0 : szL shPageGrant xs0 ≤ 1048576) : ∃ (xsr0 : List Int) (ir1 : Int), szL shI xsr0 ≤ 1048576 ∧ (∀ (W : World), ∀ u0, RdL shPageGrant W u0 xs0 → Calls Try.prog 20 #[u0, .int .i64 i1, .int .i64 i2, .int .i64 i3, .bool b4] W (ResSTranslateRange xsr0 ir1 W)) ∧ ∀ (W : World), ∀ u0, RdL shPageGrant W u0 xs0 → Calls Try.prog 21 #[u0, .int .i64 i1, .int .i64 i2, .int .i64 i3, .bool b4] W (ResITranslateRange xsr0 ir1 W) := by
  obtain ⟨L, c, h⟩ := rg_ex xs0 i1 i2 i3 b4
  exact ⟨L, c, rg_size h, fun W u H => ((specRg W u xs0 i1 i2 i3 b4 H h0).mono (rgPost_to h)).mono (fun e w q => resS_ofTranslateRange e w q), fun W u H => (implRg W u xs0 i1 i2 i3 b4 H h0 hI1).mono (rgPost_to h)⟩

end Go.Proofs.Ytgagbhkidponnab
