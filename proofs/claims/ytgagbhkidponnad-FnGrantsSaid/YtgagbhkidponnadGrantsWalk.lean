/-
  The walk of FnGrants.
-/
import Derived.Test.YtgagbhkidponnadDrawArb
import Derived.Test.YtgagbhkidponnadRunG
import Derived.Test.YtgagbhkidponnadShares
import Derived.Test.YtgagbhkidponnadBig
import Derived.Test.YtgagbhkidponnadDrawPlaces
import Derived.Test.YtgagbhkidponnadAppP
import Derived.Test.YtgagbhkidponnadPlainRow
import Derived.Deep.QuietTactic
import Derived.Deep.RegionHeld3
import Derived.Deep.AppendLies
namespace Go.Proofs.Ytgagbhkidponnad
open Go Go.RowKit
set_option linter.unusedVariables false

def bls (xs : List Bool) : List Value := xs.flatMap (fun x => [Value.bool x])
theorem bls_append (xs ys : List Bool) : bls (xs ++ ys) = bls xs ++ bls ys := by simp [bls]
theorem owB_row' {w : World} {base : Nat} {v : Value} {xs : List Bool} {n : Nat} (hn : xs.length = n) (hm : n ≤ 1000000) (h : w.ownsRow base 4 1 v n (bls xs)) : OwL shB w base w.heap.size v xs := owP_row _ plainB.len plainB.ow (by omega) (by subst hn; exact h)
theorem own_shape {w : World} {base : Nat} {e : TypeId} {size : Nat} {v : Value} {n : Nat} {xs : List Value} (h : w.ownsRow base e size v n xs) : ∃ a c, v = .slice a n c := by
  obtain ⟨_, h2⟩ := h
  rcases h2 with ⟨rfl, h0⟩ | ⟨g, cap, cur, rfl, _⟩
  · exact ⟨none, 0, by rw [h0]⟩
  · exact ⟨_, cap, rfl⟩
theorem all_asks {n : Nat} {j : Nat} (h : j < n) : ak (List.replicate n true) j = true := by unfold ak; rw [List.getD_eq_getElem?_getD, List.getElem?_replicate, if_pos h]; rfl

/-- who asks: the first m places that are even -/
def askL (ps : List Int) (m : Nat) : List Bool := (List.range m).map (fun j => decide (ps.getD j 0 % 2 = 0))
theorem askL_len (ps : List Int) (m : Nat) : (askL ps m).length = m := by simp [askL]
theorem askL_succ (ps : List Int) (m : Nat) : askL ps (m + 1) = askL ps m ++ [decide (ps.getD m 0 % 2 = 0)] := by simp [askL, List.range_succ]
theorem none_asks {ask : List Bool} {n t : Nat} (h : ask.any id = false) (hl : ask.length = n) (hn : 1 ≤ n) : NoneAt ask t n := by
  intro j _ _
  have hm : (t + j) % n < ask.length := by rw [hl]; exact Nat.mod_lt _ (by omega)
  unfold ak
  rw [List.getD_eq_getElem?_getD, List.getElem?_eq_getElem hm]
  have := (List.any_eq_false.1 h) (ask[(t + j) % n]) (List.getElem_mem _)
  simpa using this
theorem some_asks {ask : List Bool} (h : ask.any id = true) : ∃ i, i < ask.length ∧ ak ask i = true := by
  obtain ⟨b, hb, h2⟩ := List.any_eq_true.1 h
  obtain ⟨i, hi, rfl⟩ := List.mem_iff_getElem.1 hb
  refine ⟨i, hi, ?_⟩
  unfold ak
  rw [List.getD_eq_getElem?_getD, List.getElem?_eq_getElem hi]
  exact h2
theorem cnt_iff {gp : List Int} {ask : List Bool} {j : Nat} (h1 : ∀ p ∈ gp, ak ask p.toNat = true) (h2 : ak ask j = true → (j : Int) ∈ gp) : ak ask j = true ↔ 0 < gp.count (j : Int) := by
  constructor
  · intro h; exact List.count_pos_iff.2 (h2 h)
  · intro h; have := h1 _ (List.count_pos_iff.1 h); rwa [Int.toNat_natCast] at this
theorem implGrant_step (W : World) (t l : Int) (v u : Value) (xs : List Int) (ask : List Bool) (H : RdL shI W v xs) (Hu : RdL shB W u ask) (hl : szL shI xs ≤ 1048576) (hlu : szL shB ask ≤ 1048576) (h : GOkS xs ask (t, l)) : Calls Try.prog 29 #[vArbiter v t l, u] W (ResIGrant xs (gstep xs ask (t, l)).1 (gstep xs ask (t, l)).2 (gstep xs ask (t, l)).1 W) := by
  obtain ⟨k, hN, hp, hy1, hy9⟩ := gok_y h
  unfold gstep
  split
  · next q => exact implGrant_direct W t l v u xs ask H Hu hl hlu h.1 h.2.1 q.1 q.2 k hN
  · next q =>
    have hd : ak ask t.toNat = false ∨ ¬ 0 < l := by
      cases e : ak ask t.toNat with
      | false => exact .inl rfl
      | true => exact .inr (fun z => q ⟨e, z⟩)
    exact implGrant_found W t l v u xs ask H Hu hl hlu h.1 h.2.1 hd k _ _ hN ⟨hp.symm, by rw [hp]⟩ (by rw [hp]; exact hy1) (by rw [hp]; exact hy9)
set_option maxRecDepth 8000 in
set_option maxHeartbeats 8000000 in
theorem walk_grants (a : Option Addr) (len cap : Nat) (zs : List Int) (W : World) (hB : Bytes W a len zs) :
    Calls Try.prog 9 #[.slice a len cap] W fun e w' => e = .returned (.bool true) ∧ Below W.heap.size W w' := by
  have HB := Lib.hid hB
  clear hB
  by_cases hbig : (1048576 : Int) < (len : Int)
  · go_enter Try.func9, Try.ntmps9
    go_wp2
    go_ret
    exact ⟨rfl, Below.refl _ _⟩
  · skip
    go_enter Try.func9, Try.ntmps9
    go_wp2_with fail
    go_at_call 20
    refine (big_any _ _ _ _).mono ?_
    rintro e w1 ⟨rfl, rfl⟩
    obtain ⟨i1_, hi1_, hz0_, hz1_, hz2_⟩ := info_parts infoBool
    go_wp2_with fail
    go_at_call 40
    refine (drawArb_any _ _ _ _ _ (bytes_grow HB.out (gby_refl _ _)) (by omega)).mono ?_
    rintro e w2 ⟨t, l, v_, xs, rfl, hok, hx4, o, g⟩
    have HOK := Lib.hid hok
    have HX4 := Lib.hid hx4
    have h14 : 1 ≤ xs.length ∧ xs.length ≤ 4 := ⟨hok.2.1, hok.2.2.1⟩
    have HLX : Hid (szL shI xs ≤ 1048576) := Lib.hid (by rw [szL_I]; omega)
    obtain ⟨xa_, xc, rfl, _, hi_⟩ := rdI1_in (OwU.rd o)
    obtain ⟨xb, xo, rfl, hxc⟩ := hi_.resolve_left (by omega)
    obtain ⟨n, hn⟩ : ∃ n, n = xs.length := ⟨_, rfl⟩
    have HRx_ := OwU.rd o
    rw [← hn] at HRx_ hxc h14 ⊢
    have HRx := Lib.hid HRx_
    have HXC := Lib.hid hxc
    have HN := Lib.hid hn
    clear hok hx4 o hxc hn HRx_
    have szw2 := g.size
    try simp only [World.size_alloc] at szw2
    have G1_ := Lib.hid (show (W).grownBy (w2) none from gby_trans (gby_refl _ _) g)
    clear g
    have HTx2_ := Lib.hid (gby_refl (w2) none)
    have MG3_ := Lib.hid (show (W).grownBy (w2) none from G1_.out)
    have al_ : (w2).grownBy ((w2).alloc (.cells #[.slice (some ⟨xb, xo, none⟩) n xc, .int .i64 t, .int .i64 l] 44)) none := gby_alloc (gby_refl _ _) _
    have G4_ := Lib.hid (show (W).grownBy ((w2.alloc (.cells #[.slice (some ⟨xb, xo, none⟩) n xc, .int .i64 t, .int .i64 l] 44))) none from gby_trans G1_.out al_)
    have HTx5_ := Lib.hid (show (w2).grownBy ((w2.alloc (.cells #[.slice (some ⟨xb, xo, none⟩) n xc, .int .i64 t, .int .i64 l] 44))) none from gby_trans HTx2_.out al_)
    clear HTx2_
    have rA6_ := Lib.hid (show ((w2.alloc (.cells #[.slice (some ⟨xb, xo, none⟩) n xc, .int .i64 t, .int .i64 l] 44))).heap[w2.heap.size]? = some (.cells #[.slice (some ⟨xb, xo, none⟩) n xc, .int .i64 t, .int .i64 l] 44 (0, 0)) from by first | exact heap_alloc_new _ _ | exact heap_pair _ _ _ | exact heap_trip _ _ _ _)
    clear al_
    have A_0_ : ((w2.alloc (.cells #[.slice (some ⟨xb, xo, none⟩) n xc, .int .i64 t, .int .i64 l] 44))).cell? ⟨w2.heap.size, 0, none⟩ = some (.slice (some ⟨xb, xo, none⟩) n xc) := cell_of_row _ _ 0 _ _ _ rA6_.out
    have A_1_ : ((w2.alloc (.cells #[.slice (some ⟨xb, xo, none⟩) n xc, .int .i64 t, .int .i64 l] 44))).cell? ⟨w2.heap.size, 1, none⟩ = some (.int .i64 t) := cell_of_row _ _ 1 _ _ _ rA6_.out
    have A_2_ : ((w2.alloc (.cells #[.slice (some ⟨xb, xo, none⟩) n xc, .int .i64 t, .int .i64 l] 44))).cell? ⟨w2.heap.size, 2, none⟩ = some (.int .i64 l) := cell_of_row _ _ 2 _ _ _ rA6_.out
    go_wp2_with fail
    go_at_call 22
    refine (places_any _ _ _ _ _ (bytes_grow HB.out G4_.out) (by omega)).mono ?_
    rintro e w3 ⟨v3, ps, rfl, hl12, hps, o3, g⟩
    obtain ⟨pb, po, pc, rfl, hpc⟩ := o3.twelve hl12
    have HPS := Lib.hid (fun j (hj : j < 12) => hps (ps.getD j 0) (by rw [List.getD_eq_getElem?_getD, List.getElem?_eq_getElem (by omega)]; exact List.getElem_mem _))
    have HPC := Lib.hid hpc
    clear o3 hpc hps hl12
    have szw3 := g.size
    try simp only [World.size_alloc] at szw3
    clear A_0_ A_1_ A_2_
    have rA7_ := Lib.hid (show (w3).heap[w2.heap.size]? = some (.cells #[.slice (some ⟨xb, xo, none⟩) n xc, .int .i64 t, .int .i64 l] 44 (0, 0)) from row_held g rA6_.out)
    clear rA6_
    have G8_ := Lib.hid (show (W).grownBy (w3) none from gby_trans G4_.out g)
    have HTx9_ := Lib.hid (show (w2).grownBy (w3) none from gby_trans HTx5_.out g)
    clear HTx5_
    clear g
    have A_0_ : (w3).cell? ⟨w2.heap.size, 0, none⟩ = some (.slice (some ⟨xb, xo, none⟩) n xc) := cell_of_row _ _ 0 _ _ _ rA7_.out
    have A_1_ : (w3).cell? ⟨w2.heap.size, 1, none⟩ = some (.int .i64 t) := cell_of_row _ _ 1 _ _ _ rA7_.out
    have A_2_ : (w3).cell? ⟨w2.heap.size, 2, none⟩ = some (.int .i64 l) := cell_of_row _ _ 2 _ _ _ rA7_.out
    have HTP10_ := Lib.hid (gby_refl (w3) none)
    have MG11_ := Lib.hid (show (W).grownBy (w3) none from G8_.out)
    have MR12_ := Lib.hid rA7_.out
    have HTM13_ := Lib.hid (gby_refl (w3) none)
    have MG14_ := Lib.hid (show (W).grownBy (w3) none from G8_.out)
    have MR15_ := Lib.hid rA7_.out
    have HXM := Lib.hid HTx9_.out
    have HPM := Lib.hid HTP10_.out
    clear A_0_ A_1_ A_2_
    have al_ : (w3).grownBy ((w3).alloc (.cells #[] 4)) none := gby_alloc (gby_refl _ _) _
    have rA16_ := Lib.hid (show ((w3.alloc (.cells #[] 4))).heap[w2.heap.size]? = some (.cells #[.slice (some ⟨xb, xo, none⟩) n xc, .int .i64 t, .int .i64 l] 44 (0, 0)) from row_held al_ rA7_.out)
    clear rA7_
    have G17_ := Lib.hid (show (W).grownBy ((w3.alloc (.cells #[] 4))) none from gby_trans G8_.out al_)
    have HTx18_ := Lib.hid (show (w2).grownBy ((w3.alloc (.cells #[] 4))) none from gby_trans HTx9_.out al_)
    clear HTx9_
    have HTP19_ := Lib.hid (show (w3).grownBy ((w3.alloc (.cells #[] 4))) none from gby_trans HTP10_.out al_)
    clear HTP10_
    have HTM20_ := Lib.hid (show (w3).grownBy ((w3.alloc (.cells #[] 4))) none from gby_trans HTM13_.out al_)
    clear HTM13_
    have rT021_ := Lib.hid (show ((w3.alloc (.cells #[] 4))).heap[w3.heap.size]? = some (.cells #[] 4 (0, 0)) from by first | exact heap_alloc_new _ _ | exact heap_pair _ _ _ | exact heap_trip _ _ _ _)
    clear al_
    have A_0_ : ((w3.alloc (.cells #[] 4))).cell? ⟨w2.heap.size, 0, none⟩ = some (.slice (some ⟨xb, xo, none⟩) n xc) := cell_of_row _ _ 0 _ _ _ rA16_.out
    have A_1_ : ((w3.alloc (.cells #[] 4))).cell? ⟨w2.heap.size, 1, none⟩ = some (.int .i64 t) := cell_of_row _ _ 1 _ _ _ rA16_.out
    have A_2_ : ((w3.alloc (.cells #[] 4))).cell? ⟨w2.heap.size, 2, none⟩ = some (.int .i64 l) := cell_of_row _ _ 2 _ _ _ rA16_.out
    have hpb_ : pb < w3.heap.size := World.block_lt_of_cell? _ _ (HPC.out 0 (by omega))
    have hst_ : ((w3.alloc (.cells #[] 4))).ownsRow (w3.heap.size) 4 1 (.slice (some ⟨w3.heap.size, 0, none⟩) 0 0) 0 (bls (askL ps 0)) := own_emptyP (e := 4) (n := 1) rT021_.out (Nat.le_refl _)
    go_wp2
    go_loopw [5, 6, 7] (fun v an k wr => ∃ m : Nat, m ≤ n ∧ an = .bool ((askL ps m).any id) ∧ k = .int .i64 (m : Int) ∧ wr.ownsRow (w3.heap.size) 4 1 v m (bls (askL ps m)) ∧ (w3).grownBy wr none) (fun _ _ k _ => n - (intOf k).toNat)
    case atStart => exact ⟨0, by omega, rfl, rfl, hst_, HTM20_.out⟩
    case round =>
      clear A_0_ A_1_ A_2_
      clear rA16_
      clear rT021_
      clear HTx18_
      clear HTP19_
      clear HTM20_
      obtain ⟨m, hm, rfl, rfl, hown, hg⟩ := hrel
      have szr_ := hg.size
      try simp only [World.size_alloc] at szr_
      try simp only [World.size_setCell] at szr_
      have G22_ := Lib.hid (show (W).grownBy (wr) none from gby_trans MG14_.out hg)
      have rA23_ := Lib.hid (show (wr).heap[w2.heap.size]? = some (.cells #[.slice (some ⟨xb, xo, none⟩) n xc, .int .i64 t, .int .i64 l] 44 (0, 0)) from row_held hg MR15_.out)
      have HTM24_ := Lib.hid hg
      clear hg
      have A_0_ : (wr).cell? ⟨w2.heap.size, 0, none⟩ = some (.slice (some ⟨xb, xo, none⟩) n xc) := cell_of_row _ _ 0 _ _ _ rA23_.out
      have A_1_ : (wr).cell? ⟨w2.heap.size, 1, none⟩ = some (.int .i64 t) := cell_of_row _ _ 1 _ _ _ rA23_.out
      have A_2_ : (wr).cell? ⟨w2.heap.size, 2, none⟩ = some (.int .i64 l) := cell_of_row _ _ 2 _ _ _ rA23_.out
      try clear hst_
      have HO_ := Lib.hid hown
      clear hown
      have hn0 : (0 : Int) ≤ (m : Int) := by omega
      have htn : ((m : Int)).toNat = m := by omega
      have hbw_ : w3.heap.size ≤ wr.heap.size := by have := szr_; (try simp only [World.size_alloc] at this); omega
      by_cases hlt : m < n
      rotate_left
      · obtain rfl : m = n := by omega
        have hki : ¬ (m : Int) < (m : Int) := by omega
        obtain ⟨wl, hwl⟩ : ∃ w, w = wr := ⟨_, rfl⟩
        subst hwl
        obtain ⟨av, ac, hv_⟩ := own_shape HO_.out
        subst hv_
        have HU := Lib.hid (owB_row' (xs := askL ps m) (askL_len ps m) (by omega) HO_.out)
        clear HO_
        have HRu := Lib.hid HU.out.rd
        have HLU : Hid (szL shB (askL ps m) ≤ 1048576) := Lib.hid (by rw [szL_B, askL_len]; omega)
        have HAX := Lib.hid (show (askL ps m).length = xs.length from by rw [askL_len]; exact HN.out)
        obtain ⟨ask, hask⟩ : ∃ a, a = askL ps m := ⟨_, rfl⟩
        rw [← hask] at HU HRu HLU HAX ⊢
        have hal : ask.length = m := by rw [hask, askL_len]
        have HAL := Lib.hid hal
        clear hask hal HU
        have HTu25_ := Lib.hid (gby_refl (wl) none)
        have MG26_ := Lib.hid (show (W).grownBy (wl) none from G22_.out)
        have MR27_ := Lib.hid rA23_.out
        cases hany : ask.any id
        · have HNN := Lib.hid (none_asks (t := t.toNat) hany HAX.out HOK.out.2.1)
          clear hany
          go_wp2_with fail
          go_at_call 29
          refine (implGrant_none _ t l _ _ xs ask (HRx.out.grow (gby_trans HXM.out HTM24_.out)) (HRu.out.grow HTu25_.out) HLX.out HLU.out HOK.out HAX.out HNN.out).mono ?_
          rintro e w4 ⟨d_, rfl, o, g⟩
          have szw4 := g.size
          obtain ⟨ga, gn, gc, hv_⟩ := RdL.form (OwU.rd o)
          subst hv_
          clear o
          clear A_0_ A_1_ A_2_
          have rA28_ := Lib.hid (show (w4).heap[w2.heap.size]? = some (.cells #[.slice (some ⟨xb, xo, none⟩) m xc, .int .i64 t, .int .i64 l] 44 (0, 0)) from row_held g rA23_.out)
          clear rA23_
          have G29_ := Lib.hid (show (W).grownBy (w4) none from gby_trans G22_.out g)
          have HTM30_ := Lib.hid (show (w3).grownBy (w4) none from gby_trans HTM24_.out g)
          clear HTM24_
          have HTu31_ := Lib.hid (show (wl).grownBy (w4) none from gby_trans HTu25_.out g)
          clear HTu25_
          clear g
          have A_0_ : (w4).cell? ⟨w2.heap.size, 0, none⟩ = some (.slice (some ⟨xb, xo, none⟩) m xc) := cell_of_row _ _ 0 _ _ _ rA28_.out
          have A_1_ : (w4).cell? ⟨w2.heap.size, 1, none⟩ = some (.int .i64 t) := cell_of_row _ _ 1 _ _ _ rA28_.out
          have A_2_ : (w4).cell? ⟨w2.heap.size, 2, none⟩ = some (.int .i64 l) := cell_of_row _ _ 2 _ _ _ rA28_.out
          clear A_0_ A_1_ A_2_
          have al_ : (w4).grownBy ((w4).alloc (.cells #[.slice ga gn gc, .int .i64 t, .int .i64 l] 44)) none := gby_alloc (gby_refl _ _) _
          have rA32_ := Lib.hid (show ((w4.alloc (.cells #[.slice ga gn gc, .int .i64 t, .int .i64 l] 44))).heap[w2.heap.size]? = some (.cells #[.slice (some ⟨xb, xo, none⟩) m xc, .int .i64 t, .int .i64 l] 44 (0, 0)) from row_held al_ rA28_.out)
          clear rA28_
          have G33_ := Lib.hid (show (W).grownBy ((w4.alloc (.cells #[.slice ga gn gc, .int .i64 t, .int .i64 l] 44))) none from gby_trans G29_.out al_)
          have HTM34_ := Lib.hid (show (w3).grownBy ((w4.alloc (.cells #[.slice ga gn gc, .int .i64 t, .int .i64 l] 44))) none from gby_trans HTM30_.out al_)
          clear HTM30_
          have HTu35_ := Lib.hid (show (wl).grownBy ((w4.alloc (.cells #[.slice ga gn gc, .int .i64 t, .int .i64 l] 44))) none from gby_trans HTu31_.out al_)
          clear HTu31_
          have rB36_ := Lib.hid (show ((w4.alloc (.cells #[.slice ga gn gc, .int .i64 t, .int .i64 l] 44))).heap[w4.heap.size]? = some (.cells #[.slice ga gn gc, .int .i64 t, .int .i64 l] 44 (0, 0)) from by first | exact heap_alloc_new _ _ | exact heap_pair _ _ _ | exact heap_trip _ _ _ _)
          clear al_
          have A_0_ : ((w4.alloc (.cells #[.slice ga gn gc, .int .i64 t, .int .i64 l] 44))).cell? ⟨w2.heap.size, 0, none⟩ = some (.slice (some ⟨xb, xo, none⟩) m xc) := cell_of_row _ _ 0 _ _ _ rA32_.out
          have A_1_ : ((w4.alloc (.cells #[.slice ga gn gc, .int .i64 t, .int .i64 l] 44))).cell? ⟨w2.heap.size, 1, none⟩ = some (.int .i64 t) := cell_of_row _ _ 1 _ _ _ rA32_.out
          have A_2_ : ((w4.alloc (.cells #[.slice ga gn gc, .int .i64 t, .int .i64 l] 44))).cell? ⟨w2.heap.size, 2, none⟩ = some (.int .i64 l) := cell_of_row _ _ 2 _ _ _ rA32_.out
          have B_0_ : ((w4.alloc (.cells #[.slice ga gn gc, .int .i64 t, .int .i64 l] 44))).cell? ⟨w4.heap.size, 0, none⟩ = some (.slice ga gn gc) := cell_of_row _ _ 0 _ _ _ rB36_.out
          have B_1_ : ((w4.alloc (.cells #[.slice ga gn gc, .int .i64 t, .int .i64 l] 44))).cell? ⟨w4.heap.size, 1, none⟩ = some (.int .i64 t) := cell_of_row _ _ 1 _ _ _ rB36_.out
          have B_2_ : ((w4.alloc (.cells #[.slice ga gn gc, .int .i64 t, .int .i64 l] 44))).cell? ⟨w4.heap.size, 2, none⟩ = some (.int .i64 l) := cell_of_row _ _ 2 _ _ _ rB36_.out
          have q1_ : ((-1 : Int) == -1) = true := rfl
          go_wp2
          go_ret
          exact ⟨rfl, gby_below G33_.out⟩
        · obtain ⟨i0, hi0, ha0⟩ := some_asks hany
          have HGO := Lib.hid (show GOkS xs ask (t, l) from ⟨HOK.out, HAX.out, next_all (show i0 < xs.length by rw [← HAX.out]; exact hi0) ha0 t.toNat (by have h3 := HOK.out.2.2.2.1; have h4 := HOK.out.2.2.2.2.1; omega)⟩)
          clear hany hi0 ha0
          have HGR := Lib.hid (show ∀ (w : World) (v u : Value), RdL shI w v xs → RdL shB w u ask → Calls Try.prog 29 #[vArbiter v t l, u] w (ResIGrant xs (gstep xs ask (t, l)).1 (gstep xs ask (t, l)).2 (gstep xs ask (t, l)).1 w) from fun w v u h1 h2 => implGrant_step w t l v u xs ask h1 h2 HLX.out HLU.out HGO.out)
          have HG2 := Lib.hid (gok_step HGO.out)
          have HAS := Lib.hid (gstep_asks HGO.out)
          obtain ⟨s2, hs2⟩ : ∃ s, s = gstep xs ask (t, l) := ⟨_, rfl⟩
          rw [← hs2] at HGR HG2 HAS
          clear hs2
          obtain ⟨t2, l2, hs2, ht2, _, hl20, hl29⟩ := gok_data HG2.out
          subst hs2
          have HG3 := Lib.hid HG2.out.1
          dsimp only at HGR HG3 HAS
          go_wp2_with fail
          go_at_call 29
          refine (HGR.out _ _ _ (HRx.out.grow (gby_trans HXM.out HTM24_.out)) (HRu.out.grow HTu25_.out)).mono ?_
          rintro e w4 ⟨d_, rfl, o, g⟩
          have szw4 := g.size
          obtain ⟨ga, gc, rfl, _, _⟩ := rdI1_in (OwU.rd o)
          have HRb_ := OwU.rd o
          rw [← HN.out] at HRb_ ⊢
          have HRb := Lib.hid HRb_
          clear o HRb_
          clear A_0_ A_1_ A_2_
          have rA28_ := Lib.hid (show (w4).heap[w2.heap.size]? = some (.cells #[.slice (some ⟨xb, xo, none⟩) m xc, .int .i64 t, .int .i64 l] 44 (0, 0)) from row_held g rA23_.out)
          clear rA23_
          have G29_ := Lib.hid (show (W).grownBy (w4) none from gby_trans G22_.out g)
          have HTM30_ := Lib.hid (show (w3).grownBy (w4) none from gby_trans HTM24_.out g)
          clear HTM24_
          have HTu31_ := Lib.hid (show (wl).grownBy (w4) none from gby_trans HTu25_.out g)
          clear HTu25_
          clear g
          have A_0_ : (w4).cell? ⟨w2.heap.size, 0, none⟩ = some (.slice (some ⟨xb, xo, none⟩) m xc) := cell_of_row _ _ 0 _ _ _ rA28_.out
          have A_1_ : (w4).cell? ⟨w2.heap.size, 1, none⟩ = some (.int .i64 t) := cell_of_row _ _ 1 _ _ _ rA28_.out
          have A_2_ : (w4).cell? ⟨w2.heap.size, 2, none⟩ = some (.int .i64 l) := cell_of_row _ _ 2 _ _ _ rA28_.out
          have HTb32_ := Lib.hid (gby_refl (w4) none)
          have MG33_ := Lib.hid (show (W).grownBy (w4) none from G29_.out)
          have MR34_ := Lib.hid rA28_.out
          clear A_0_ A_1_ A_2_
          have al_ : (w4).grownBy ((w4).alloc (.cells #[.slice ga m gc, .int .i64 (t2 : Int), .int .i64 l2] 44)) none := gby_alloc (gby_refl _ _) _
          have rA35_ := Lib.hid (show ((w4.alloc (.cells #[.slice ga m gc, .int .i64 (t2 : Int), .int .i64 l2] 44))).heap[w2.heap.size]? = some (.cells #[.slice (some ⟨xb, xo, none⟩) m xc, .int .i64 t, .int .i64 l] 44 (0, 0)) from row_held al_ rA28_.out)
          clear rA28_
          have G36_ := Lib.hid (show (W).grownBy ((w4.alloc (.cells #[.slice ga m gc, .int .i64 (t2 : Int), .int .i64 l2] 44))) none from gby_trans G29_.out al_)
          have HTM37_ := Lib.hid (show (w3).grownBy ((w4.alloc (.cells #[.slice ga m gc, .int .i64 (t2 : Int), .int .i64 l2] 44))) none from gby_trans HTM30_.out al_)
          clear HTM30_
          have HTu38_ := Lib.hid (show (wl).grownBy ((w4.alloc (.cells #[.slice ga m gc, .int .i64 (t2 : Int), .int .i64 l2] 44))) none from gby_trans HTu31_.out al_)
          clear HTu31_
          have HTb39_ := Lib.hid (show (w4).grownBy ((w4.alloc (.cells #[.slice ga m gc, .int .i64 (t2 : Int), .int .i64 l2] 44))) none from gby_trans HTb32_.out al_)
          clear HTb32_
          have rB40_ := Lib.hid (show ((w4.alloc (.cells #[.slice ga m gc, .int .i64 (t2 : Int), .int .i64 l2] 44))).heap[w4.heap.size]? = some (.cells #[.slice ga m gc, .int .i64 (t2 : Int), .int .i64 l2] 44 (0, 0)) from by first | exact heap_alloc_new _ _ | exact heap_pair _ _ _ | exact heap_trip _ _ _ _)
          clear al_
          have A_0_ : ((w4.alloc (.cells #[.slice ga m gc, .int .i64 (t2 : Int), .int .i64 l2] 44))).cell? ⟨w2.heap.size, 0, none⟩ = some (.slice (some ⟨xb, xo, none⟩) m xc) := cell_of_row _ _ 0 _ _ _ rA35_.out
          have A_1_ : ((w4.alloc (.cells #[.slice ga m gc, .int .i64 (t2 : Int), .int .i64 l2] 44))).cell? ⟨w2.heap.size, 1, none⟩ = some (.int .i64 t) := cell_of_row _ _ 1 _ _ _ rA35_.out
          have A_2_ : ((w4.alloc (.cells #[.slice ga m gc, .int .i64 (t2 : Int), .int .i64 l2] 44))).cell? ⟨w2.heap.size, 2, none⟩ = some (.int .i64 l) := cell_of_row _ _ 2 _ _ _ rA35_.out
          have B_0_ : ((w4.alloc (.cells #[.slice ga m gc, .int .i64 (t2 : Int), .int .i64 l2] 44))).cell? ⟨w4.heap.size, 0, none⟩ = some (.slice ga m gc) := cell_of_row _ _ 0 _ _ _ rB40_.out
          have B_1_ : ((w4.alloc (.cells #[.slice ga m gc, .int .i64 (t2 : Int), .int .i64 l2] 44))).cell? ⟨w4.heap.size, 1, none⟩ = some (.int .i64 (t2 : Int)) := cell_of_row _ _ 1 _ _ _ rB40_.out
          have B_2_ : ((w4.alloc (.cells #[.slice ga m gc, .int .i64 (t2 : Int), .int .i64 l2] 44))).cell? ⟨w4.heap.size, 2, none⟩ = some (.int .i64 l2) := cell_of_row _ _ 2 _ _ _ rB40_.out
          go_wp2_with fail
          go_at_call 36
          refine (implRun_good _ t l _ _ xs ask (HRx.out.grow (gby_trans HXM.out HTM37_.out)) (HRu.out.grow HTu38_.out) HLX.out HLU.out 40 40 rfl (by omega) (by omega) HGO.out (fun w v u H1 H2 => by obtain ⟨k, hk⟩ := HGO.out.2.2; exact canGrant_yes w t l v u xs ask H1 H2 HLX.out HLU.out HOK.out HAX.out k hk)).mono ?_
          rintro e w5 ⟨v5_, rfl, o, g⟩
          have szw5 := g.size
          try simp only [World.size_alloc] at szw5
          obtain ⟨gp, hgp⟩ : ∃ gp, gp = gports xs ask (t, l) 40 := ⟨_, rfl⟩
          rw [← hgp] at o
          have hgl : gp.length = 40 := by rw [hgp, gports_len]
          have HGA := Lib.hid (show ∀ p ∈ gp, ak ask p.toNat = true from fun p hp => (gports_asks HGO.out 40 p (by rw [← hgp]; exact hp)).1)
          have HGT := Lib.hid (show ∀ j, j < m → ak ask j = true → (j : Int) ∈ gp from fun j hj ha => by rw [hgp]; exact ga_turn HX4.out (by rw [← HN.out]; exact hj) ha HGO.out)
          obtain ⟨pa, pc_, rfl, _, _⟩ := rdI1_in (OwU.rd o)
          have HRg_ := OwU.rd o
          rw [hgl] at HRg_ ⊢
          have HRg := Lib.hid HRg_
          have HGL := Lib.hid hgl
          clear o hgp HRg_ hgl
          clear A_0_ A_1_ A_2_ B_0_ B_1_ B_2_
          have rA41_ := Lib.hid (show (w5).heap[w2.heap.size]? = some (.cells #[.slice (some ⟨xb, xo, none⟩) m xc, .int .i64 t, .int .i64 l] 44 (0, 0)) from row_held g rA35_.out)
          clear rA35_
          have rB42_ := Lib.hid (show (w5).heap[w4.heap.size]? = some (.cells #[.slice ga m gc, .int .i64 (t2 : Int), .int .i64 l2] 44 (0, 0)) from row_held g rB40_.out)
          clear rB40_
          have G43_ := Lib.hid (show (W).grownBy (w5) none from gby_trans G36_.out g)
          have HTM44_ := Lib.hid (show (w3).grownBy (w5) none from gby_trans HTM37_.out g)
          clear HTM37_
          have HTu45_ := Lib.hid (show (wl).grownBy (w5) none from gby_trans HTu38_.out g)
          clear HTu38_
          have HTb46_ := Lib.hid (show (w4).grownBy (w5) none from gby_trans HTb39_.out g)
          clear HTb39_
          clear g
          have A_0_ : (w5).cell? ⟨w2.heap.size, 0, none⟩ = some (.slice (some ⟨xb, xo, none⟩) m xc) := cell_of_row _ _ 0 _ _ _ rA41_.out
          have A_1_ : (w5).cell? ⟨w2.heap.size, 1, none⟩ = some (.int .i64 t) := cell_of_row _ _ 1 _ _ _ rA41_.out
          have A_2_ : (w5).cell? ⟨w2.heap.size, 2, none⟩ = some (.int .i64 l) := cell_of_row _ _ 2 _ _ _ rA41_.out
          have B_0_ : (w5).cell? ⟨w4.heap.size, 0, none⟩ = some (.slice ga m gc) := cell_of_row _ _ 0 _ _ _ rB42_.out
          have B_1_ : (w5).cell? ⟨w4.heap.size, 1, none⟩ = some (.int .i64 (t2 : Int)) := cell_of_row _ _ 1 _ _ _ rB42_.out
          have B_2_ : (w5).cell? ⟨w4.heap.size, 2, none⟩ = some (.int .i64 l2) := cell_of_row _ _ 2 _ _ _ rB42_.out
          have HTg47_ := Lib.hid (gby_refl (w5) none)
          have MG48_ := Lib.hid (show (W).grownBy (w5) none from G43_.out)
          have MR49_ := Lib.hid rA41_.out
          have MR50_ := Lib.hid rB42_.out
          have HUg := Lib.hid HTu45_.out
          have HBg := Lib.hid HTb46_.out
          go_wp2
          obtain ⟨bu_, ou_, cu_, hvu_, hcu_⟩ := rdB_at HRu.out (by have := HAL.out; omega)
          have hcu2_ := hcu_
          rw [HAL.out] at hvu_ hcu2_
          injection hvu_ with hv1_ hv2_ hv3_
          subst hv1_
          have HUC := Lib.hid hcu2_
          clear hcu_ hcu2_ hv2_ hv3_
          go_loopw [11] (fun k wr => ∃ j : Nat, j ≤ m ∧ k = .int .i64 (j : Int) ∧ (w5).grownBy wr none) (fun k _ => m - (intOf k).toNat)
          case atStart => exact ⟨0, by omega, rfl, gby_refl _ _⟩
          case round =>
            clear A_0_ A_1_ A_2_ B_0_ B_1_ B_2_
            obtain ⟨j, hj, rfl, hg⟩ := hrel
            have szrwr := hg.size
            try simp only [World.size_alloc] at szrwr
            try simp only [World.size_setCell] at szrwr
            have szr_ := szrwr
            have rA51_ := Lib.hid (show (wr).heap[w2.heap.size]? = some (.cells #[.slice (some ⟨xb, xo, none⟩) m xc, .int .i64 t, .int .i64 l] 44 (0, 0)) from row_held hg rA41_.out)
            clear rA41_
            have rB52_ := Lib.hid (show (wr).heap[w4.heap.size]? = some (.cells #[.slice ga m gc, .int .i64 (t2 : Int), .int .i64 l2] 44 (0, 0)) from row_held hg rB42_.out)
            clear rB42_
            have G53_ := Lib.hid (show (W).grownBy (wr) none from gby_trans G43_.out hg)
            have HTM54_ := Lib.hid (show (w3).grownBy (wr) none from gby_trans HTM44_.out hg)
            clear HTM44_
            have HTu55_ := Lib.hid (show (wl).grownBy (wr) none from gby_trans HTu45_.out hg)
            clear HTu45_
            have HTb56_ := Lib.hid (show (w4).grownBy (wr) none from gby_trans HTb46_.out hg)
            clear HTb46_
            have HTg57_ := Lib.hid (show (w5).grownBy (wr) none from gby_trans HTg47_.out hg)
            clear HTg47_
            have HTB_ := Lib.hid hg
            clear hg
            have A_0_ : (wr).cell? ⟨w2.heap.size, 0, none⟩ = some (.slice (some ⟨xb, xo, none⟩) m xc) := cell_of_row _ _ 0 _ _ _ rA51_.out
            have A_1_ : (wr).cell? ⟨w2.heap.size, 1, none⟩ = some (.int .i64 t) := cell_of_row _ _ 1 _ _ _ rA51_.out
            have A_2_ : (wr).cell? ⟨w2.heap.size, 2, none⟩ = some (.int .i64 l) := cell_of_row _ _ 2 _ _ _ rA51_.out
            have B_0_ : (wr).cell? ⟨w4.heap.size, 0, none⟩ = some (.slice ga m gc) := cell_of_row _ _ 0 _ _ _ rB52_.out
            have B_1_ : (wr).cell? ⟨w4.heap.size, 1, none⟩ = some (.int .i64 (t2 : Int)) := cell_of_row _ _ 1 _ _ _ rB52_.out
            have B_2_ : (wr).cell? ⟨w4.heap.size, 2, none⟩ = some (.int .i64 l2) := cell_of_row _ _ 2 _ _ _ rB52_.out
            have hj0 : (0 : Int) ≤ (j : Int) := by omega
            have htj : ((j : Int)).toNat = j := by omega
            by_cases hjt : j < m
            rotate_left
            · obtain rfl : j = m := by omega
              have hkj : ¬ (j : Int) < (j : Int) := by omega
              have ht2n : t2 < j := by rw [HN.out]; exact ht2
              have ht0 : (0 : Int) ≤ (t2 : Int) := by omega
              have htt : ((t2 : Int)).toNat = t2 := by omega
              have hti : (t2 : Int) < (j : Int) := by omega
              have ge0_ : (t2 : Int) ≥ 0 := by omega
              have ge1_ : decide ((t2 : Int) ≥ 0) = true := decide_eq_true ge0_
              have ge2_ : decide ((0 : Int) ≤ (t2 : Int)) = true := decide_eq_true ht0
              have lt1_ : decide ((t2 : Int) < (j : Int)) = true := decide_eq_true hti
              have ac_ := (gby_trans HUg.out HTB_.out).cell (HUC.out t2 ht2n) (by simp)
              rw [show ak ask t2 = true from by have q := HAS.out; rw [Int.toNat_natCast] at q; exact q] at ac_
              have q1_ : ((t2 : Int) == (t2 : Int)) = true := by simp
              go_wp2_with fail
              go_at_call 42
              refine (implArb_yes _ _ _ _ xs _ _ (HRb.out.grow (gby_trans HBg.out HTB_.out)) (by omega) HG3.out).mono ?_
              rintro e w6 ⟨rfl, g⟩
              have szw6 := g.size
              try simp only [World.size_alloc] at szw6
              try simp only [World.size_setCell] at szw6
              clear A_0_ A_1_ A_2_ B_0_ B_1_ B_2_
              have rA58_ := Lib.hid (show (w6).heap[w2.heap.size]? = some (.cells #[.slice (some ⟨xb, xo, none⟩) j xc, .int .i64 t, .int .i64 l] 44 (0, 0)) from row_held g rA51_.out)
              clear rA51_
              have rB59_ := Lib.hid (show (w6).heap[w4.heap.size]? = some (.cells #[.slice ga j gc, .int .i64 (t2 : Int), .int .i64 l2] 44 (0, 0)) from row_held g rB52_.out)
              clear rB52_
              have G60_ := Lib.hid (show (W).grownBy (w6) none from gby_trans G53_.out g)
              have HTM61_ := Lib.hid (show (w3).grownBy (w6) none from gby_trans HTM54_.out g)
              clear HTM54_
              have HTu62_ := Lib.hid (show (wl).grownBy (w6) none from gby_trans HTu55_.out g)
              clear HTu55_
              have HTb63_ := Lib.hid (show (w4).grownBy (w6) none from gby_trans HTb56_.out g)
              clear HTb56_
              have HTg64_ := Lib.hid (show (w5).grownBy (w6) none from gby_trans HTg57_.out g)
              clear HTg57_
              have HTB65_ := Lib.hid (show (w5).grownBy (w6) none from gby_trans HTB_.out g)
              clear HTB_
              clear g
              have A_0_ : (w6).cell? ⟨w2.heap.size, 0, none⟩ = some (.slice (some ⟨xb, xo, none⟩) j xc) := cell_of_row _ _ 0 _ _ _ rA58_.out
              have A_1_ : (w6).cell? ⟨w2.heap.size, 1, none⟩ = some (.int .i64 t) := cell_of_row _ _ 1 _ _ _ rA58_.out
              have A_2_ : (w6).cell? ⟨w2.heap.size, 2, none⟩ = some (.int .i64 l) := cell_of_row _ _ 2 _ _ _ rA58_.out
              have B_0_ : (w6).cell? ⟨w4.heap.size, 0, none⟩ = some (.slice ga j gc) := cell_of_row _ _ 0 _ _ _ rB59_.out
              have B_1_ : (w6).cell? ⟨w4.heap.size, 1, none⟩ = some (.int .i64 (t2 : Int)) := cell_of_row _ _ 1 _ _ _ rB59_.out
              have B_2_ : (w6).cell? ⟨w4.heap.size, 2, none⟩ = some (.int .i64 l2) := cell_of_row _ _ 2 _ _ _ rB59_.out
              go_wp2
              go_ret
              exact ⟨rfl, gby_below G60_.out⟩
            have hkj : (j : Int) < (m : Int) := by omega
            obtain ⟨bv, hbv⟩ : ∃ b, b = ak ask j := ⟨_, rfl⟩
            have ac_ := (gby_trans HUg.out HTB_.out).cell (HUC.out j hjt) (by simp)
            rw [← hbv] at ac_
            have hcp := cnt_iff (gp := gp) (j := j) (fun p hp => HGA.out p hp) (HGT.out j hjt)
            rw [← hbv] at hcp
            obtain ⟨cj, hcj⟩ : ∃ c, c = gp.count (j : Int) := ⟨_, rfl⟩
            have HSH := Lib.hid (show ∀ (W : World) (v : Value), RdL shI W v gp → Calls Try.prog 41 #[v, .int .i64 (j : Int)] W (AnsN (.int .i64 (cj : Int)) W) from fun W v H => by have z := implShares_any W v gp (j : Int) (rdI_in H) (by rw [HGL.out]; omega); rw [← hcj] at z; exact z)
            rw [← hcj] at hcp
            have HRg0 := Lib.hid (HRg.out.grow HTg57_.out)
            clear hcj hbv
            cases bv
            · skip
              obtain rfl : cj = 0 := by have := hcp; simp at this; omega
              have r1_ : ¬ ((0 : Nat) : Int) > 0 := by omega
              have r2_ : decide (((0 : Nat) : Int) > 0) = false := decide_eq_false r1_
              clear hcp
              go_wp2_with fail
              refine wp_region_held_drew (S := fun w' => w'.cell? ⟨bu_, ou_ + j, none⟩ = some (.bool false)) (by kernel_rfl) (by (try dsimp only); exact ac_) (fun hHeld => ?_)
              refine wpAnyH_take (i := 0) (oi := { dst := some 63, op := Op.move (Operand.tmp 5), type := 42, pos := "laws.go:586", after := #[], guard := none }) (v := ?v0_r1_1) rfl (by kernel_rfl) (by kernel_rfl) (by kernel_rfl) (fun _ _ _ h => h) (Or.inl ⟨by rfl, ?y0_r1_1⟩) (by assumption) ?r0_r1_1
              case y0_r1_1 => (intro w hSw; (try dsimp only at hSw); go_simp; all_goals (with_reducible rfl))
              try simp only [Act.put, List.setIfInBounds_toArray, List.set_cons_zero, List.set_cons_succ]
              refine wpAnyH_take (i := 1) (oi := { dst := some 64, op := Op.move (Operand.tmp 11), type := 3, pos := "laws.go:586", after := #[], guard := none }) (v := ?v1_r1_2) rfl (by kernel_rfl) (by kernel_rfl) (by kernel_rfl) (fun _ _ _ h => h) (Or.inl ⟨by rfl, ?y1_r1_2⟩) (by assumption) ?r1_r1_2
              case y1_r1_2 => (intro w hSw; (try dsimp only at hSw); go_simp; all_goals (with_reducible rfl))
              try simp only [Act.put, List.setIfInBounds_toArray, List.set_cons_zero, List.set_cons_succ]
              refine wpAnyH_take (i := 2) (oi := { dst := some 65, op := Op.indexAddr 42 (Operand.tmp 63) (Operand.tmp 64), type := 0, pos := "laws.go:586", after := #[{ on := 0, ground := Ground.data }, { on := 1, ground := Ground.data }], guard := none }) (v := ?v2_r1_3) rfl (by kernel_rfl) (by kernel_rfl) (by kernel_rfl) (fun _ _ _ h => h) (Or.inl ⟨by rfl, ?y2_r1_3⟩) (by assumption) ?r2_r1_3
              case y2_r1_3 => (intro w hSw; (try dsimp only at hSw); go_simp; all_goals (with_reducible rfl))
              try simp only [Act.put, List.setIfInBounds_toArray, List.set_cons_zero, List.set_cons_succ]
              refine wpAnyH_take (i := 3) (oi := { dst := some 66, op := Op.load 4 (Operand.tmp 65), type := 4, pos := "laws.go:586", after := #[{ on := 2, ground := Ground.data }], guard := none }) (v := ?v3_r1_4) rfl (by kernel_rfl) (by kernel_rfl) (by kernel_rfl) (fun _ _ _ h => h) (Or.inl ⟨by rfl, ?y3_r1_4⟩) (by assumption) ?r3_r1_4
              case y3_r1_4 => (intro w hSw; (try dsimp only at hSw); go_simp; all_goals (with_reducible rfl))
              try simp only [Act.put, List.setIfInBounds_toArray, List.set_cons_zero, List.set_cons_succ]
              refine wpAnyH_take (i := 4) (oi := { dst := some 67, op := Op.move (Operand.tmp 10), type := 22, pos := "laws.go:586", after := #[], guard := none }) (v := ?v4_r1_5) rfl (by kernel_rfl) (by kernel_rfl) (by kernel_rfl) (fun _ _ _ h => h) (Or.inl ⟨by rfl, ?y4_r1_5⟩) (by assumption) ?r4_r1_5
              case y4_r1_5 => (intro w hSw; (try dsimp only at hSw); go_simp; all_goals (with_reducible rfl))
              try simp only [Act.put, List.setIfInBounds_toArray, List.set_cons_zero, List.set_cons_succ]
              refine wpAnyH_take (i := 5) (oi := { dst := some 68, op := Op.move (Operand.tmp 11), type := 3, pos := "laws.go:586", after := #[], guard := none }) (v := ?v5_r1_6) rfl (by kernel_rfl) (by kernel_rfl) (by kernel_rfl) (fun _ _ _ h => h) (Or.inl ⟨by rfl, ?y5_r1_6⟩) (by assumption) ?r5_r1_6
              case y5_r1_6 => (intro w hSw; (try dsimp only at hSw); go_simp; all_goals (with_reducible rfl))
              try simp only [Act.put, List.setIfInBounds_toArray, List.set_cons_zero, List.set_cons_succ]
              refine wpAnyH_ready (rs := [6]) (by kernel_rfl) (by simp) ?_
              refine AllReadyH.cons (o := { dst := some 69, op := Op.call { callee := Callee.value (Operand.func 41), args := #[Operand.tmp 67, Operand.tmp 68], argTypes := #[22, 3] }, type := 3, pos := "laws.go:586", after := #[{ on := 4, ground := Ground.data }, { on := 5, ground := Ground.data }], guard := none }) rfl (fun K hK => ?_) AllReadyH.nil
              go_simp
              go_at_call 41
              refine (HSH.out _ _ (HRg0.out.grow (gby_drew (gby_refl _ none)))).mono ?_
              rintro e wH7_r1 ⟨rfl, gH7_r1⟩
              have m7_ac_ : wH7_r1.cell? _ = some _ := gH7_r1.cell ac_ (by simp)
              go_wp2_with fail
              clear hHeld
              refine hK.out _ _ ?s6_r1_7 (fun hHeld => ?_)
              case s6_r1_7 => exact m7_ac_
              clear hK K
              try simp only [Act.put, List.setIfInBounds_toArray, List.set_cons_zero, List.set_cons_succ]
              refine wpAnyH_take (i := 7) (oi := { dst := some 70, op := Op.binOp BinOp.gtr 3 (Operand.tmp 69) (Operand.const (Value.int IntKind.i64 0)) 3, type := 4, pos := "laws.go:586", after := #[{ on := 6, ground := Ground.data }], guard := none }) (v := ?v7_r1_8) rfl (by kernel_rfl) (by kernel_rfl) (by kernel_rfl) (fun _ _ _ h => h) (Or.inl ⟨by rfl, ?y7_r1_8⟩) (by assumption) ?r7_r1_8
              case y7_r1_8 => (intro w hSw; (try dsimp only at hSw); go_simp; all_goals (with_reducible rfl))
              try simp only [Act.put, List.setIfInBounds_toArray, List.set_cons_zero, List.set_cons_succ]
              refine wpAnyH_take (i := 8) (oi := { dst := some 71, op := Op.binOp BinOp.neq 4 (Operand.tmp 66) (Operand.tmp 70) 4, type := 4, pos := "laws.go:586", after := #[{ on := 3, ground := Ground.data }, { on := 7, ground := Ground.data }], guard := none }) (v := ?v8_r1_9) rfl (by kernel_rfl) (by kernel_rfl) (by kernel_rfl) (fun _ _ _ h => h) (Or.inl ⟨by rfl, ?y8_r1_9⟩) (by assumption) ?r8_r1_9
              case y8_r1_9 => (intro w hSw; (try dsimp only at hSw); go_simp; all_goals (with_reducible rfl))
              try simp only [Act.put, List.setIfInBounds_toArray, List.set_cons_zero, List.set_cons_succ]
              refine wpAnyH_done (by kernel_rfl) ?_ _
              go_wp2
              exact ⟨⟨j + 1, by omega, by go_num, gby_trans HTB_.out (gby_trans (gby_drew (gby_refl _ none)) gH7_r1)⟩, by simp [intOf]; omega⟩

            · skip
              have hcp2 : 0 < cj := hcp.1 rfl
              have r1_ : (cj : Int) > 0 := by omega
              have r3_ : (0 : Int) < (cj : Int) := by omega
              have r2_ : decide ((cj : Int) > 0) = true := decide_eq_true r1_
              clear hcp
              go_wp2_with fail
              refine wp_region_held_drew (S := fun w' => w'.cell? ⟨bu_, ou_ + j, none⟩ = some (.bool true)) (by kernel_rfl) (by (try dsimp only); exact ac_) (fun hHeld => ?_)
              refine wpAnyH_take (i := 0) (oi := { dst := some 63, op := Op.move (Operand.tmp 5), type := 42, pos := "laws.go:586", after := #[], guard := none }) (v := ?v0_r2_1) rfl (by kernel_rfl) (by kernel_rfl) (by kernel_rfl) (fun _ _ _ h => h) (Or.inl ⟨by rfl, ?y0_r2_1⟩) (by assumption) ?r0_r2_1
              case y0_r2_1 => (intro w hSw; (try dsimp only at hSw); go_simp; all_goals (with_reducible rfl))
              try simp only [Act.put, List.setIfInBounds_toArray, List.set_cons_zero, List.set_cons_succ]
              refine wpAnyH_take (i := 1) (oi := { dst := some 64, op := Op.move (Operand.tmp 11), type := 3, pos := "laws.go:586", after := #[], guard := none }) (v := ?v1_r2_2) rfl (by kernel_rfl) (by kernel_rfl) (by kernel_rfl) (fun _ _ _ h => h) (Or.inl ⟨by rfl, ?y1_r2_2⟩) (by assumption) ?r1_r2_2
              case y1_r2_2 => (intro w hSw; (try dsimp only at hSw); go_simp; all_goals (with_reducible rfl))
              try simp only [Act.put, List.setIfInBounds_toArray, List.set_cons_zero, List.set_cons_succ]
              refine wpAnyH_take (i := 2) (oi := { dst := some 65, op := Op.indexAddr 42 (Operand.tmp 63) (Operand.tmp 64), type := 0, pos := "laws.go:586", after := #[{ on := 0, ground := Ground.data }, { on := 1, ground := Ground.data }], guard := none }) (v := ?v2_r2_3) rfl (by kernel_rfl) (by kernel_rfl) (by kernel_rfl) (fun _ _ _ h => h) (Or.inl ⟨by rfl, ?y2_r2_3⟩) (by assumption) ?r2_r2_3
              case y2_r2_3 => (intro w hSw; (try dsimp only at hSw); go_simp; all_goals (with_reducible rfl))
              try simp only [Act.put, List.setIfInBounds_toArray, List.set_cons_zero, List.set_cons_succ]
              refine wpAnyH_take (i := 3) (oi := { dst := some 66, op := Op.load 4 (Operand.tmp 65), type := 4, pos := "laws.go:586", after := #[{ on := 2, ground := Ground.data }], guard := none }) (v := ?v3_r2_4) rfl (by kernel_rfl) (by kernel_rfl) (by kernel_rfl) (fun _ _ _ h => h) (Or.inl ⟨by rfl, ?y3_r2_4⟩) (by assumption) ?r3_r2_4
              case y3_r2_4 => (intro w hSw; (try dsimp only at hSw); go_simp; all_goals (with_reducible rfl))
              try simp only [Act.put, List.setIfInBounds_toArray, List.set_cons_zero, List.set_cons_succ]
              refine wpAnyH_take (i := 4) (oi := { dst := some 67, op := Op.move (Operand.tmp 10), type := 22, pos := "laws.go:586", after := #[], guard := none }) (v := ?v4_r2_5) rfl (by kernel_rfl) (by kernel_rfl) (by kernel_rfl) (fun _ _ _ h => h) (Or.inl ⟨by rfl, ?y4_r2_5⟩) (by assumption) ?r4_r2_5
              case y4_r2_5 => (intro w hSw; (try dsimp only at hSw); go_simp; all_goals (with_reducible rfl))
              try simp only [Act.put, List.setIfInBounds_toArray, List.set_cons_zero, List.set_cons_succ]
              refine wpAnyH_take (i := 5) (oi := { dst := some 68, op := Op.move (Operand.tmp 11), type := 3, pos := "laws.go:586", after := #[], guard := none }) (v := ?v5_r2_6) rfl (by kernel_rfl) (by kernel_rfl) (by kernel_rfl) (fun _ _ _ h => h) (Or.inl ⟨by rfl, ?y5_r2_6⟩) (by assumption) ?r5_r2_6
              case y5_r2_6 => (intro w hSw; (try dsimp only at hSw); go_simp; all_goals (with_reducible rfl))
              try simp only [Act.put, List.setIfInBounds_toArray, List.set_cons_zero, List.set_cons_succ]
              refine wpAnyH_ready (rs := [6]) (by kernel_rfl) (by simp) ?_
              refine AllReadyH.cons (o := { dst := some 69, op := Op.call { callee := Callee.value (Operand.func 41), args := #[Operand.tmp 67, Operand.tmp 68], argTypes := #[22, 3] }, type := 3, pos := "laws.go:586", after := #[{ on := 4, ground := Ground.data }, { on := 5, ground := Ground.data }], guard := none }) rfl (fun K hK => ?_) AllReadyH.nil
              go_simp
              go_at_call 41
              refine (HSH.out _ _ (HRg0.out.grow (gby_drew (gby_refl _ none)))).mono ?_
              rintro e wH7_r2 ⟨rfl, gH7_r2⟩
              have m7_ac_ : wH7_r2.cell? _ = some _ := gH7_r2.cell ac_ (by simp)
              go_wp2_with fail
              clear hHeld
              refine hK.out _ _ ?s6_r2_7 (fun hHeld => ?_)
              case s6_r2_7 => exact m7_ac_
              clear hK K
              try simp only [Act.put, List.setIfInBounds_toArray, List.set_cons_zero, List.set_cons_succ]
              refine wpAnyH_take (i := 7) (oi := { dst := some 70, op := Op.binOp BinOp.gtr 3 (Operand.tmp 69) (Operand.const (Value.int IntKind.i64 0)) 3, type := 4, pos := "laws.go:586", after := #[{ on := 6, ground := Ground.data }], guard := none }) (v := ?v7_r2_8) rfl (by kernel_rfl) (by kernel_rfl) (by kernel_rfl) (fun _ _ _ h => h) (Or.inl ⟨by rfl, ?y7_r2_8⟩) (by assumption) ?r7_r2_8
              case y7_r2_8 => (intro w hSw; (try dsimp only at hSw); go_simp; all_goals (with_reducible rfl))
              try simp only [Act.put, List.setIfInBounds_toArray, List.set_cons_zero, List.set_cons_succ]
              refine wpAnyH_take (i := 8) (oi := { dst := some 71, op := Op.binOp BinOp.neq 4 (Operand.tmp 66) (Operand.tmp 70) 4, type := 4, pos := "laws.go:586", after := #[{ on := 3, ground := Ground.data }, { on := 7, ground := Ground.data }], guard := none }) (v := ?v8_r2_9) rfl (by kernel_rfl) (by kernel_rfl) (by kernel_rfl) (fun _ _ _ h => h) (Or.inl ⟨by rfl, ?y8_r2_9⟩) (by assumption) ?r8_r2_9
              case y8_r2_9 => (intro w hSw; (try dsimp only at hSw); go_simp; all_goals (with_reducible rfl))
              try simp only [Act.put, List.setIfInBounds_toArray, List.set_cons_zero, List.set_cons_succ]
              refine wpAnyH_done (by kernel_rfl) ?_ _
              go_wp2
              exact ⟨⟨j + 1, by omega, by go_num, gby_trans HTB_.out (gby_trans (gby_drew (gby_refl _ none)) gH7_r2)⟩, by simp [intOf]; omega⟩
      have hki : (m : Int) < (n : Int) := by omega
      obtain ⟨q, hq⟩ : ∃ q, q = ps.getD m 0 := ⟨_, rfl⟩
      obtain ⟨q1, q2⟩ := (show IsP q from by rw [hq]; exact HPS.out m (by omega))
      have pm_ : wr.cell? ⟨pb, po + m, none⟩ = some (.int .i64 q) := by have z := (gby_trans HPM.out HTM24_.out).cell (HPC.out m (by omega)) (by simp); rw [← hq] at z; exact z
      have hm12 : (m : Int) < 12 := by omega
      obtain ⟨bb, hbb⟩ : ∃ b : Bool, b = decide (q % 2 = 0) := ⟨_, rfl⟩
      have HLS := Lib.hid (show askL ps (m + 1) = askL ps m ++ [bb] from by rw [askL_succ, ← hq, ← hbb])
      have hbq : bb = true ↔ q % 2 = 0 := by rw [hbb]; simp
      clear hbb hq
      have e0_ : q.tmod 2 = q % 2 := by rw [Int.tmod_eq_emod_of_nonneg (by omega)]
      obtain ⟨gl, hgl⟩ : ∃ g, g = askL ps m := ⟨_, rfl⟩
      have HGL := Lib.hid hgl
      rw [← hgl] at HO_ ⊢
      clear hgl
      obtain ⟨an, han⟩ : ∃ a : Bool, a = gl.any id := ⟨_, rfl⟩
      rw [← han]
      have HAN := Lib.hid han
      clear han
      cases bb
      · skip
        have e1_ : q % 2 = 1 := by have := hbq; simp at this; omega
        rw [e1_] at e0_
        have e2_ : ((1 : Int) == 0) = false := rfl
        clear hbq e1_
        cases an
        · skip
          go_wp2_with (at_builtin; refine wpList_append_lies _ (by rfl) _ _ _ (by rfl) (w3.heap.size) 4 i1_ _ 1 1 Try.underlying42 hi1_ hz0_ hz1_ hz2_ rfl (by omega) _ m (bls gl) (by rfl) (HO_.out.alloc _) ⟨wr.heap.size, 0, none⟩ 1 1 [.bool false] (by rfl) (by rfl) (World.news_of_block (t := 4) (fr := (0, 0)) (heap_alloc_new wr _)) (by simp [Value.oneCell']) (by omega) (by unfold maxLen; omega) (by omega) (by simp; omega) _ (by rfl) ?_; intro gg cap2 wa hown_ hgr_ hat_ hlt2_; have HP := Lib.hid hown_; have HQ := Lib.hid hgr_; clear hown_ hgr_ hat_ hlt2_; have pw_ : wa.cell? ⟨pb, po + m, none⟩ = some (.int .i64 q) := HQ.out.cell ((gby_alloc (gby_refl wr none) _).cell pm_ (by simp)) (fun e => by have h2 := own_from HO_.out _ e.symm; dsimp only at h2; omega))
          refine ⟨⟨m + 1, by omega, ?_, by go_num, ?_, ?_⟩, by simp [intOf]; omega⟩
          · rw [HLS.out, ← HGL.out, List.any_append, ← HAN.out]; rfl
          · rw [HLS.out, ← HGL.out, bls_append]; exact HP.out
          · exact gby_new (gby_alloc HTM24_.out _) HQ.out (fun i hi => by have := own_from HO_.out i hi; (try simp only [World.size_alloc]); omega)

        · skip
          go_wp2_with (at_builtin; refine wpList_append_lies _ (by rfl) _ _ _ (by rfl) (w3.heap.size) 4 i1_ _ 1 1 Try.underlying42 hi1_ hz0_ hz1_ hz2_ rfl (by omega) _ m (bls gl) (by rfl) (HO_.out.alloc _) ⟨wr.heap.size, 0, none⟩ 1 1 [.bool false] (by rfl) (by rfl) (World.news_of_block (t := 4) (fr := (0, 0)) (heap_alloc_new wr _)) (by simp [Value.oneCell']) (by omega) (by unfold maxLen; omega) (by omega) (by simp; omega) _ (by rfl) ?_; intro gg cap2 wa hown_ hgr_ hat_ hlt2_; have HP := Lib.hid hown_; have HQ := Lib.hid hgr_; clear hown_ hgr_ hat_ hlt2_; have pw_ : wa.cell? ⟨pb, po + m, none⟩ = some (.int .i64 q) := HQ.out.cell ((gby_alloc (gby_refl wr none) _).cell pm_ (by simp)) (fun e => by have h2 := own_from HO_.out _ e.symm; dsimp only at h2; omega))
          refine ⟨⟨m + 1, by omega, ?_, by go_num, ?_, ?_⟩, by simp [intOf]; omega⟩
          · rw [HLS.out, ← HGL.out, List.any_append, ← HAN.out]; rfl
          · rw [HLS.out, ← HGL.out, bls_append]; exact HP.out
          · exact gby_new (gby_alloc HTM24_.out _) HQ.out (fun i hi => by have := own_from HO_.out i hi; (try simp only [World.size_alloc]); omega)

      · skip
        have e1_ : q % 2 = 0 := hbq.1 rfl
        rw [e1_] at e0_
        have e2_ : ((0 : Int) == 0) = true := rfl
        clear hbq e1_
        cases an
        · skip
          go_wp2_with (at_builtin; refine wpList_append_lies _ (by rfl) _ _ _ (by rfl) (w3.heap.size) 4 i1_ _ 1 1 Try.underlying42 hi1_ hz0_ hz1_ hz2_ rfl (by omega) _ m (bls gl) (by rfl) (HO_.out.alloc _) ⟨wr.heap.size, 0, none⟩ 1 1 [.bool true] (by rfl) (by rfl) (World.news_of_block (t := 4) (fr := (0, 0)) (heap_alloc_new wr _)) (by simp [Value.oneCell']) (by omega) (by unfold maxLen; omega) (by omega) (by simp; omega) _ (by rfl) ?_; intro gg cap2 wa hown_ hgr_ hat_ hlt2_; have HP := Lib.hid hown_; have HQ := Lib.hid hgr_; clear hown_ hgr_ hat_ hlt2_; have pw_ : wa.cell? ⟨pb, po + m, none⟩ = some (.int .i64 q) := HQ.out.cell ((gby_alloc (gby_refl wr none) _).cell pm_ (by simp)) (fun e => by have h2 := own_from HO_.out _ e.symm; dsimp only at h2; omega))
          refine ⟨⟨m + 1, by omega, ?_, by go_num, ?_, ?_⟩, by simp [intOf]; omega⟩
          · rw [HLS.out, ← HGL.out, List.any_append, ← HAN.out]; rfl
          · rw [HLS.out, ← HGL.out, bls_append]; exact HP.out
          · exact gby_new (gby_alloc HTM24_.out _) HQ.out (fun i hi => by have := own_from HO_.out i hi; (try simp only [World.size_alloc]); omega)

        · skip
          go_wp2_with (at_builtin; refine wpList_append_lies _ (by rfl) _ _ _ (by rfl) (w3.heap.size) 4 i1_ _ 1 1 Try.underlying42 hi1_ hz0_ hz1_ hz2_ rfl (by omega) _ m (bls gl) (by rfl) (HO_.out.alloc _) ⟨wr.heap.size, 0, none⟩ 1 1 [.bool true] (by rfl) (by rfl) (World.news_of_block (t := 4) (fr := (0, 0)) (heap_alloc_new wr _)) (by simp [Value.oneCell']) (by omega) (by unfold maxLen; omega) (by omega) (by simp; omega) _ (by rfl) ?_; intro gg cap2 wa hown_ hgr_ hat_ hlt2_; have HP := Lib.hid hown_; have HQ := Lib.hid hgr_; clear hown_ hgr_ hat_ hlt2_; have pw_ : wa.cell? ⟨pb, po + m, none⟩ = some (.int .i64 q) := HQ.out.cell ((gby_alloc (gby_refl wr none) _).cell pm_ (by simp)) (fun e => by have h2 := own_from HO_.out _ e.symm; dsimp only at h2; omega))
          refine ⟨⟨m + 1, by omega, ?_, by go_num, ?_, ?_⟩, by simp [intOf]; omega⟩
          · rw [HLS.out, ← HGL.out, List.any_append, ← HAN.out]; rfl
          · rw [HLS.out, ← HGL.out, bls_append]; exact HP.out
          · exact gby_new (gby_alloc HTM24_.out _) HQ.out (fun i hi => by have := own_from HO_.out i hi; (try simp only [World.size_alloc]); omega)

end Go.Proofs.Ytgagbhkidponnad
