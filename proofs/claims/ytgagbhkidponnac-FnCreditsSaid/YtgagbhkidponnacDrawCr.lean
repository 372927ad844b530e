/-
  Credits drawn by the model.
-/
import Derived.Test.YtgagbhkidponnacCrAdd
import Derived.Test.YtgagbhkidponnacDrawKit
import Derived.Test.YtgagbhkidponnacDrawNumber
import Derived.Test.YtgagbhkidponnacAppP
import Derived.Deep.AppendLies
import Derived.Deep.RegionLaw
namespace Go.Proofs.Ytgagbhkidponnac
open Go Go.RowKit
set_option linter.unusedVariables false

theorem own_shapeC {w : World} {base : Nat} {e : TypeId} {size : Nat} {v : Value} {n : Nat} {xs : List Value} (h : w.ownsRow base e size v n xs) : ∃ a c, v = .slice a n c := by
  obtain ⟨_, h2⟩ := h
  rcases h2 with ⟨rfl, h0⟩ | ⟨g, cap, cur, rfl, _⟩
  · exact ⟨none, 0, by rw [h0]⟩
  · exact ⟨_, cap, rfl⟩
theorem own_keptC {w w' : World} {base c n size : Nat} {e : TypeId} {v : Value} {xs : List Value} (h : w.ownsRow base e size v n xs) (g : w.grownBy w' (some c)) (hc : c < base) : w'.ownsRow base e size v n xs :=
  h.kept g (.inr (fun e => by have := own_from h c e; omega))
/-- two rows of the call's own lie in different blocks -/
def ApartC (a b : Value) : Prop := ∀ i, a.ownBlock = some i → ¬ b.ownBlock = some i
theorem ApartC.symm {a b : Value} (h : ApartC a b) : ApartC b a := fun i h1 h2 => h i h2 h1
theorem own_asideC {w w' : World} {base n size : Nat} {e : TypeId} {v u : Value} {xs : List Value} (h : w.ownsRow base e size v n xs) (g : w.grownBy w' u.ownBlock) (ha : ApartC u v) : w'.ownsRow base e size v n xs := by
  refine h.kept g ?_
  cases hv : v.ownBlock with
  | none => exact .inl rfl
  | some i => exact .inr (fun e => ha i e.symm hv)
theorem apart_newC {w : World} {base n size gg H : Nat} {e : TypeId} {v u : Value} {xs : List Value} {m c : Nat} (h : w.ownsRow base e size v n xs) (ha : ApartC u v) (hat : u.ownBlock = some gg ∨ gg = H) (hH : w.heap.size ≤ H) : ApartC (.slice (some ⟨gg, 0, none⟩) m c) v := by
  intro i h1 h2
  obtain rfl : gg = i := Option.some.inj h1
  rcases hat with q | q
  · exact ha _ q h2
  · have := (World.ownsRow.lt h _ h2).2; omega
theorem row_drewC {w : World} {b : Nat} {o : Obj} (h : w.heap[b]? = some o) : w.drew.heap[b]? = some o := h

/-- an owned row in an interval of its own block -/
theorem own_one_rowC {w : World} {base n : Nat} {v : Value} {xs : List Int} (h : w.ownsRow base 3 1 v n (i64s xs)) (hl : xs.length = n) (h0 : 0 < n) (hm : n ≤ 1000000) : ∃ g c, v = .slice (some ⟨g, 0, none⟩) n c ∧ base ≤ g ∧ g < w.heap.size ∧ OwL shI w g (g + 1) v xs := by
  subst hl
  obtain ⟨h1, h2⟩ := h
  rcases h2 with ⟨_, q⟩ | ⟨g, cap, cur, rfl, hb, hg, r⟩
  · omega
  · have q := owI_out (by omega) (owI_row (w := w) (base := g) (xs := xs) (show w.ownsRow g 3 1 (.slice (some ⟨g, 0, none⟩) xs.length cap) xs.length (i64s xs) from ⟨h1, .inr ⟨g, cap, cur, rfl, Nat.le_refl _, hg, r⟩⟩))
    refine ⟨g, cap, rfl, hb, block_in hg, ?_⟩
    obtain ⟨a, c2, e, hc, hm2, hp, hr⟩ := q
    injection e with e1 e2 e3
    subst e1 e3
    refine ⟨_, cap, rfl, hc, hm2, (fun p hp2 => by obtain rfl := Option.some.inj hp2; exact ⟨Nat.le_refl _, Nat.lt_succ_self _⟩), ?_⟩
    rcases hr with hr | ⟨b, off, P, Q, C, t, e4, hb4, hk4, hx4⟩
    · exact .inl hr
    · refine .inr ⟨b, off, fun _ => g, fun _ => g, C, t, e4, hb4, fun k hk => ?_, fun i k _ _ => .inl (Nat.le_refl _)⟩
      obtain ⟨_, _, _, cs, hcs, ho⟩ := hk4 k hk
      have e9 : g = b := by injection e4 with e5; injection e5
      exact ⟨Nat.le_refl g, Nat.le_succ g, .inr (Nat.le_of_eq e9), cs, hcs, ho⟩
theorem all_app {xs : List Int} {x : Int} (h : ∀ q ∈ xs, 0 ≤ q ∧ q ≤ 30) (h1 : 0 ≤ x) (h2 : x ≤ 30) : ∀ q ∈ xs ++ [x], 0 ≤ q ∧ q ≤ 30 := by
  intro q hq
  rcases List.mem_append.1 hq with hq | hq
  · exact h q hq
  · obtain rfl := List.mem_singleton.1 hq; exact ⟨h1, h2⟩

/-- drawn valid credits -/
def DrawnCr (r : Option Nat) (W : World) (e : Ending) (w' : World) : Prop := ∃ (v1 v2 : Value) (xs ys : List Int), e = .returned (.agg #[v1, v2]) ∧ CrdOk xs ys ∧ OwU w' W.heap.size w'.heap.size [] [own shI v1 xs, own shI v2 ys] ∧ W.grownBy w' r

set_option maxRecDepth 8000 in
set_option maxHeartbeats 4000000 in
theorem credits14_any (W : World) (c : Nat) (H : Cur W c) : Calls Try.prog 91 #[.pointer (some ⟨c, 0, none⟩)] W (DrawnCr (some c) W) := by
  have hcl_ := cur_lt H
  have HCU := Lib.hid H
  clear H
  obtain ⟨i1_, hi1_, hz0_, hz1_, hz2_⟩ := info_parts infoInt
  go_enter Try.func91, Try.ntmps91
  have rR1_ := Lib.hid (show ((W.alloc (.cells #[.slice none 0 0, .slice none 0 0] 54))).heap[W.heap.size]? = some (.cells #[.slice none 0 0, .slice none 0 0] 54 (0, 0)) from by exact heap_alloc_new _ _)
  have G2_ := Lib.hid (show (W).grownBy ((W.alloc (.cells #[.slice none 0 0, .slice none 0 0] 54))) (some c) from (gby_alloc (gby_refl _ _) _))
  have HCU3_ := Lib.hid (show Cur ((W.alloc (.cells #[.slice none 0 0, .slice none 0 0] 54))) c from cur_kept HCU.out (gby_alloc (gby_refl _ none) _) (by simp))
  have R_0_ : ((W.alloc (.cells #[.slice none 0 0, .slice none 0 0] 54))).cell? ⟨W.heap.size, 0, none⟩ = some (.slice none 0 0) := cell_of_row _ _ 0 _ _ _ rR1_.out
  have R_1_ : ((W.alloc (.cells #[.slice none 0 0, .slice none 0 0] 54))).cell? ⟨W.heap.size, 1, none⟩ = some (.slice none 0 0) := cell_of_row _ _ 1 _ _ _ rR1_.out
  have HTM4_ := Lib.hid (gby_refl ((W.alloc (.cells #[.slice none 0 0, .slice none 0 0] 54))) (some c))
  have MG5_ := Lib.hid (show (W).grownBy ((W.alloc (.cells #[.slice none 0 0, .slice none 0 0] 54))) (some c) from G2_.out)
  have MR6_ := Lib.hid rR1_.out
  clear R_0_ R_1_
  have al_ : ((W.alloc (.cells #[.slice none 0 0, .slice none 0 0] 54))).grownBy (((W.alloc (.cells #[.slice none 0 0, .slice none 0 0] 54))).alloc (.cells #[.slice none 0 0, .slice none 0 0] 54)) none := gby_alloc (gby_refl _ _) _
  have rR7_ := Lib.hid (show (((W.alloc (.cells #[.slice none 0 0, .slice none 0 0] 54)).alloc (.cells #[.slice none 0 0, .slice none 0 0] 54))).heap[W.heap.size]? = some (.cells #[.slice none 0 0, .slice none 0 0] 54 (0, 0)) from row_held al_ rR1_.out)
  clear rR1_
  have G8_ := Lib.hid (show (W).grownBy (((W.alloc (.cells #[.slice none 0 0, .slice none 0 0] 54)).alloc (.cells #[.slice none 0 0, .slice none 0 0] 54))) (some c) from gby_trans G2_.out (gby_some al_ _))
  have HCU9_ := Lib.hid (show Cur (((W.alloc (.cells #[.slice none 0 0, .slice none 0 0] 54)).alloc (.cells #[.slice none 0 0, .slice none 0 0] 54))) c from cur_kept HCU3_.out al_ (by simp))
  have HTM10_ := Lib.hid (show ((W.alloc (.cells #[.slice none 0 0, .slice none 0 0] 54))).grownBy (((W.alloc (.cells #[.slice none 0 0, .slice none 0 0] 54)).alloc (.cells #[.slice none 0 0, .slice none 0 0] 54))) (some c) from gby_trans HTM4_.out (gby_some al_ _))
  clear HTM4_
  have rB11_ := Lib.hid (show (((W.alloc (.cells #[.slice none 0 0, .slice none 0 0] 54)).alloc (.cells #[.slice none 0 0, .slice none 0 0] 54))).heap[W.heap.size + 1]? = some (.cells #[.slice none 0 0, .slice none 0 0] 54 (0, 0)) from by first | exact heap_alloc_new _ _ | exact heap_pair _ _ _ | exact heap_trip _ _ _ _)
  clear al_
  have R_0_ : (((W.alloc (.cells #[.slice none 0 0, .slice none 0 0] 54)).alloc (.cells #[.slice none 0 0, .slice none 0 0] 54))).cell? ⟨W.heap.size, 0, none⟩ = some (.slice none 0 0) := cell_of_row _ _ 0 _ _ _ rR7_.out
  have R_1_ : (((W.alloc (.cells #[.slice none 0 0, .slice none 0 0] 54)).alloc (.cells #[.slice none 0 0, .slice none 0 0] 54))).cell? ⟨W.heap.size, 1, none⟩ = some (.slice none 0 0) := cell_of_row _ _ 1 _ _ _ rR7_.out
  have B_0_ : (((W.alloc (.cells #[.slice none 0 0, .slice none 0 0] 54)).alloc (.cells #[.slice none 0 0, .slice none 0 0] 54))).cell? ⟨W.heap.size + 1, 0, none⟩ = some (.slice none 0 0) := cell_of_row _ _ 0 _ _ _ rB11_.out
  have B_1_ : (((W.alloc (.cells #[.slice none 0 0, .slice none 0 0] 54)).alloc (.cells #[.slice none 0 0, .slice none 0 0] 54))).cell? ⟨W.heap.size + 1, 1, none⟩ = some (.slice none 0 0) := cell_of_row _ _ 1 _ _ _ rB11_.out
  have HB0 := Lib.hid (show (((W.alloc (.cells #[.slice none 0 0, .slice none 0 0] 54)).alloc (.cells #[.slice none 0 0, .slice none 0 0] 54))).heap[W.heap.size + 1]? = some (.cells #[.slice none 0 0, .slice none 0 0] 54 (0, 0)) from rB11_.out)
  go_wp2
  go_loopw [4] (fun k wr => ∃ (j : Nat) (xs ys : List Int) (s1 s2 : Value), k = .int .i64 (j : Int) ∧ j ≤ 3 ∧ xs.length = j ∧ ys.length = j ∧ (∀ q ∈ xs, 0 ≤ q ∧ q ≤ 30) ∧ (∀ q ∈ ys, 0 ≤ q ∧ q ≤ 30) ∧ wr.heap[W.heap.size + 1]? = some (.cells #[s1, s2] 54 (0, 0)) ∧ wr.ownsRow (W.heap.size + 1 + 1) 3 1 s1 j (i64s xs) ∧ wr.ownsRow (W.heap.size + 1 + 1) 3 1 s2 j (i64s ys) ∧ ApartC s1 s2 ∧ Cur wr c ∧ ((W.alloc (.cells #[.slice none 0 0, .slice none 0 0] 54))).grownBy wr (some c)) (fun k _ => 3 - (intOf k).toNat)
  case atStart => exact ⟨0, [], [], _, _, rfl, by omega, rfl, rfl, (fun q hq => by cases hq), (fun q hq => by cases hq), HB0.out, ⟨rfl, .inl ⟨rfl, rfl⟩⟩, ⟨rfl, .inl ⟨rfl, rfl⟩⟩, (fun i h1 => by cases h1), HCU9_.out, HTM10_.out⟩
  case round =>
    clear R_0_ R_1_ B_0_ B_1_
    clear rR7_
    clear rB11_
    clear HTM10_
    clear HCU9_
    obtain ⟨j, xs, ys, s1, s2, rfl, hj, hlx, hly, hax, hay, hbx, ho1, ho2, hap, hcu, hg⟩ := hrel
    have szr_ := hg.size
    try simp only [World.size_alloc] at szr_
    try simp only [World.size_setCell] at szr_
    have G12_ := Lib.hid (show (W).grownBy (wr) (some c) from gby_trans MG5_.out hg)
    have rR13_ := Lib.hid (show (wr).heap[W.heap.size]? = some (.cells #[.slice none 0 0, .slice none 0 0] 54 (0, 0)) from Chg.keep (chg_cur hg) MR6_.out (by omega))
    have HCU14_ := Lib.hid (show Cur (wr) c from hcu)
    have HTM15_ := Lib.hid hg
    clear hg hcu
    have R_0_ : (wr).cell? ⟨W.heap.size, 0, none⟩ = some (.slice none 0 0) := cell_of_row _ _ 0 _ _ _ rR13_.out
    have R_1_ : (wr).cell? ⟨W.heap.size, 1, none⟩ = some (.slice none 0 0) := cell_of_row _ _ 1 _ _ _ rR13_.out
    have HLX := Lib.hid hlx
    have HLY := Lib.hid hly
    have HAX := Lib.hid hax
    have HAY := Lib.hid hay
    have HAP := Lib.hid hap
    obtain ⟨p1, d1, hv_⟩ := own_shapeC ho1
    subst hv_
    obtain ⟨p2, d2, hv_⟩ := own_shapeC ho2
    subst hv_
    have HO1 := Lib.hid ho1
    have HO2 := Lib.hid ho2
    clear hlx hly hax hay hap ho1 ho2
    have hn0 : (0 : Int) ≤ (j : Int) := by omega
    have htn : ((j : Int)).toNat = j := by omega
    have rB16_ := Lib.hid (show (wr).heap[W.heap.size + 1]? = some (.cells #[.slice p1 j d1, .slice p2 j d2] 54 (0, 0)) from hbx)
    clear hbx
    have hwr : W.heap.size + 1 < wr.heap.size := lt_of_block (rB16_.out)
    by_cases hlt : j < 3
    rotate_left
    · obtain rfl : j = 3 := by omega
      have hki : ¬ ((3 : Nat) : Int) < 3 := by omega
      clear R_0_ R_1_
      have R_0_ : (wr).cell? ⟨W.heap.size, 0, none⟩ = some (.slice none 0 0) := cell_of_row _ _ 0 _ _ _ rR13_.out
      have R_1_ : (wr).cell? ⟨W.heap.size, 1, none⟩ = some (.slice none 0 0) := cell_of_row _ _ 1 _ _ _ rR13_.out
      have B_0_ : (wr).cell? ⟨W.heap.size + 1, 0, none⟩ = some (.slice p1 3 d1) := cell_of_row _ _ 0 _ _ _ rB16_.out
      have B_1_ : (wr).cell? ⟨W.heap.size + 1, 1, none⟩ = some (.slice p2 3 d2) := cell_of_row _ _ 1 _ _ _ rB16_.out
      obtain ⟨g1, d1', hv1_, lg1, hg1, ow1⟩ := own_one_rowC HO1.out HLX.out (by omega) (by omega)
      obtain ⟨g2, d2', hv2_, lg2, hg2, ow2⟩ := own_one_rowC HO2.out HLY.out (by omega) (by omega)
      have hne_ : ¬ g1 = g2 := fun e => HAP.out g1 (by rw [hv1_]; rfl) (by rw [hv2_, e]; rfl)
      have HV := Lib.hid (show OwU wr (W.heap.size + 1 + 1) wr.heap.size [] [own shI (.slice p1 3 d1) xs, own shI (.slice p2 3 d2) ys] from ⟨g1, g1 + 1, by omega, by omega, (fun i hi => by cases hi), ow1, g2, g2 + 1, by omega, by omega, (fun i hi => by obtain rfl := List.mem_singleton.1 hi; dsimp only; omega), ow2, trivial⟩)
      have HOKV := Lib.hid (show CrdOk xs ys from ⟨⟨HLX.out, HAX.out⟩, ⟨HLY.out, HAY.out⟩⟩)
      clear ow1 ow2 hv1_ hv2_
      have FR0 := frozen_of_row _ _ 0 _ _ rR13_.out
      have FR1 := frozen_of_row _ _ 1 _ _ rR13_.out
      have zr_ := Lib.hid (show (((wr.setCell ⟨W.heap.size, 0, none⟩ (.slice p1 3 d1)).setCell ⟨W.heap.size, 1, none⟩ (.slice p2 3 d2))).heap[W.heap.size]? = some (.cells #[.slice p1 3 d1, .slice p2 3 d2] 54 (0, 0)) from (heap_setCell_same _ _ 1 _ _ _ (heap_setCell_same _ _ 0 _ _ _ rR13_.out)))
      have z0_ : (((wr.setCell ⟨W.heap.size, 0, none⟩ (.slice p1 3 d1)).setCell ⟨W.heap.size, 1, none⟩ (.slice p2 3 d2))).cell? ⟨W.heap.size, 0, none⟩ = some (.slice p1 3 d1) := cell_of_row _ _ 0 _ _ _ zr_.out
      have z1_ : (((wr.setCell ⟨W.heap.size, 0, none⟩ (.slice p1 3 d1)).setCell ⟨W.heap.size, 1, none⟩ (.slice p2 3 d2))).cell? ⟨W.heap.size, 1, none⟩ = some (.slice p2 3 d2) := cell_of_row _ _ 1 _ _ _ zr_.out
      go_wp2
      refine bodyPost_ret (v := .agg #[.slice p1 3 d1, .slice p2 3 d2]) (by simp [results, go_sem, z0_, z1_]) rfl ⟨_, _, xs, ys, rfl, HOKV.out, ?_, ?_⟩
      · exact OwU.wide (by omega) (by simp only [World.size_setCell]; omega) (OwU.keep (chg_one _ _ _ _) (.inr (by omega)) (OwU.keep (chg_one _ _ _ _) (.inr (by omega)) HV.out))
      · exact (gby_setnew (gby_setnew G12_.out _ (by dsimp only; omega) _) _ (by dsimp only; omega) _)
    clear R_0_ R_1_
    have hki : (j : Int) < 3 := by omega
    have hlit_ : ((wr.alloc (.cells #[.int .i64 1, .int .i64 2, .int .i64 4, .int .i64 0, .int .i64 30] 3)).drew).heap[wr.heap.size]? = some (.cells #[.int .i64 1, .int .i64 2, .int .i64 4, .int .i64 0, .int .i64 30] 3 (0, 0)) := heap_alloc_new wr (.cells #[.int .i64 1, .int .i64 2, .int .i64 4, .int .i64 0, .int .i64 30] 3)
    have HLIT := Lib.hid (show ∀ q, q < 5 → ∃ n : Int, ((wr.alloc (.cells #[.int .i64 1, .int .i64 2, .int .i64 4, .int .i64 0, .int .i64 30] 3)).drew).cell? ⟨wr.heap.size, q, none⟩ = some (.int .i64 n) ∧ (0 ≤ n ∧ n ≤ 30) from fun q hq => by match q, hq with | 0, _ => exact ⟨1, cell_of_row _ _ 0 _ _ _ hlit_, by omega⟩ | 1, _ => exact ⟨2, cell_of_row _ _ 1 _ _ _ hlit_, by omega⟩ | 2, _ => exact ⟨4, cell_of_row _ _ 2 _ _ _ hlit_, by omega⟩ | 3, _ => exact ⟨0, cell_of_row _ _ 3 _ _ _ hlit_, by omega⟩ | 4, _ => exact ⟨30, cell_of_row _ _ 4 _ _ _ hlit_, by omega⟩)
    clear hlit_
    have cf_ := cell_of_row _ _ 0 _ _ _ rB16_.out
    have rA_ := row_held (gby_alloc (gby_refl wr none) (.cells #[.int .i64 1, .int .i64 2, .int .i64 4, .int .i64 0, .int .i64 30] 3)) rB16_.out
    have cg_ := cell_of_row _ _ 0 _ _ _ rA_
    have HBD := Lib.hid (show ((wr.alloc (.cells #[.int .i64 1, .int .i64 2, .int .i64 4, .int .i64 0, .int .i64 30] 3)).drew).heap[W.heap.size + 1]? = some (.cells #[(.slice p1 j d1), (.slice p2 j d2)] 54 (0, 0)) from rA_)
    clear rA_
    have HCD := Lib.hid (show Cur ((wr.alloc (.cells #[.int .i64 1, .int .i64 2, .int .i64 4, .int .i64 0, .int .i64 30] 3)).drew) c from cur_kept HCU14_.out (gby_drew (gby_alloc (gby_refl _ none) _)) (by simp))
    have HD0 := Lib.hid (World.ownsRow.drew (HO1.out.alloc (.cells #[.int .i64 1, .int .i64 2, .int .i64 4, .int .i64 0, .int .i64 30] 3)))
    have HD1 := Lib.hid (World.ownsRow.drew (HO2.out.alloc (.cells #[.int .i64 1, .int .i64 2, .int .i64 4, .int .i64 0, .int .i64 30] 3)))
    have HTD := Lib.hid (show ((W.alloc (.cells #[.slice none 0 0, .slice none 0 0] 54))).grownBy ((wr.alloc (.cells #[.int .i64 1, .int .i64 2, .int .i64 4, .int .i64 0, .int .i64 30] 3)).drew) (some c) from gby_drew (gby_alloc HTM15_.out _))
    have hcw_ : ¬ wr.heap.size = c := by omega
    go_wp2_with fail
    go_region_law (first
      | (go_simp; go_at_call 111; refine (pickInt_any _ c wr.heap.size 5 5 (fun n => 0 ≤ n ∧ n ≤ 30) HCD.out (by omega) (by omega) hcw_ HLIT.out).mono ?_; rintro e wA ⟨x, ⟨x1, x2⟩, rfl, HA, gA⟩; have ZA := Chg.keep (chg_cur gA) HBD.out (by omega); have af_ := cell_of_row wA _ 0 _ _ _ ZA; have ZC := row_held (gby_alloc (gby_refl wA none) (.cells #[.int .i64 x] 3)) ZA; have ah_ := cell_of_row _ _ 0 _ _ _ ZC; have OA0 := own_keptC HD0.out gA (by omega); have OA1 := own_keptC HD1.out gA (by omega); have sA := gA.size; (try simp only [World.size_drew, World.size_alloc] at sA); have GA_ := gby_trans HTD.out gA)
      | (refine step_append_lies _ (by rfl) _ _ _ (by rfl) (W.heap.size + 1 + 1) 3 i1_ _ 1 8 Try.underlying27 hi1_ hz0_ hz1_ hz2_ rfl (by omega) _ j (i64s xs) (by rfl) (OA0.alloc _) ⟨wA.heap.size, 0, none⟩ 1 1 _ (by rfl) (by rfl) (World.news_of_block (t := 3) (fr := (0, 0)) (heap_alloc_new wA _)) (by simp [Value.oneCell']) (by omega) (by unfold maxLen; omega) (by omega) (by simp; omega) _ (by rfl) ?_; intro ga ca wB hownB hgB hatB hltB; have ZB : wB.heap[W.heap.size + 1]? = some (.cells #[(.slice p1 j d1), (.slice p2 j d2)] 54 (0, 0)) := (hgB.block (W.heap.size + 1) (by (try simp only [World.size_alloc]); omega) (fun e => by have := own_from OA0 _ e.symm; omega)).trans (row_held (gby_alloc (gby_refl wA none) _) ZA); have bf_ := cell_of_row wB _ 0 _ _ _ ZB; have ff_ := frozen_of_row wB _ 0 _ _ ZB)
      | fail)
    all_goals
      have sB := hgB.size
      (try simp only [World.size_alloc] at sB)
      have RNa := Lib.hid (show (wB.setCell ⟨W.heap.size + 1, 0, none⟩ (.slice (some ⟨ga, 0, none⟩) (j + 1) ca)).heap[W.heap.size + 1]? = some (.cells #[(.slice (some ⟨ga, 0, none⟩) (j + 1) ca), (.slice p2 j d2)] 54 (0, 0)) from heap_setCell_same _ _ 0 _ _ _ ZB)
      have ONa0 := Lib.hid (show (wB.setCell ⟨W.heap.size + 1, 0, none⟩ (.slice (some ⟨ga, 0, none⟩) (j + 1) ca)).ownsRow (W.heap.size + 1 + 1) 3 1 (.slice (some ⟨ga, 0, none⟩) (j + 1) ca) (j + 1) (i64s (xs ++ [x])) from by rw [i64s_append]; exact ownsRow_setCell_below hownB (by dsimp only; omega) _)
      have ONa1 := Lib.hid (show (wB.setCell ⟨W.heap.size + 1, 0, none⟩ (.slice (some ⟨ga, 0, none⟩) (j + 1) ca)).ownsRow (W.heap.size + 1 + 1) 3 1 (.slice p2 j d2) _ _ from ownsRow_setCell_below (own_asideC (OA1.alloc _) hgB HAP.out) (by dsimp only; omega) _)
      have ANa := Lib.hid (apart_newC (m := j + 1) (c := ca) OA1 HAP.out hatB (by simp only [World.size_alloc]; omega))
      have CNa := Lib.hid (show Cur (wB.setCell ⟨W.heap.size + 1, 0, none⟩ (.slice (some ⟨ga, 0, none⟩) (j + 1) ca)) c from cur_other (cur_other (cur_kept HA (World.grownBy_alloc _ _ none) (by simp)) hgB (fun i hi => by have := own_from OA0 i hi; omega)) (gby_set (gby_refl _ _) _ _) (fun i hi => by have h2 := Option.some.inj hi; omega))
      have GNa := Lib.hid (show ((W.alloc (.cells #[.slice none 0 0, .slice none 0 0] 54))).grownBy (wB.setCell ⟨W.heap.size + 1, 0, none⟩ (.slice (some ⟨ga, 0, none⟩) (j + 1) ca)) (some c) from gby_setnew (gby_new (gby_alloc GA_ _) hgB (fun i hi => by have := own_from OA0 i hi; (try simp only [World.size_alloc]); omega)) _ (by dsimp only; (try simp only [World.size_alloc]); omega) _)
      have hsza : wr.heap.size ≤ ((wB.setCell ⟨W.heap.size + 1, 0, none⟩ (.slice (some ⟨ga, 0, none⟩) (j + 1) ca))).heap.size := by simp only [World.size_setCell]; omega
      clear ZB bf_ ff_ hownB hgB hatB hltB
      try clear ah_ af_
      try clear ZA ZC
      try clear OA0 OA1 GA_ HA gA
      try clear cf_ cg_
      clear HBD HCD HD0 HD1 HTD HLIT
      go_wp2_with fail
      generalize (wB.setCell ⟨W.heap.size + 1, 0, none⟩ (.slice (some ⟨ga, 0, none⟩) (j + 1) ca)) = w5 at RNa ONa0 ONa1 CNa GNa hsza ⊢
      have hlit_ : ((w5.alloc (.cells #[.int .i64 2, .int .i64 4, .int .i64 0, .int .i64 1, .int .i64 30] 3)).drew).heap[w5.heap.size]? = some (.cells #[.int .i64 2, .int .i64 4, .int .i64 0, .int .i64 1, .int .i64 30] 3 (0, 0)) := heap_alloc_new w5 (.cells #[.int .i64 2, .int .i64 4, .int .i64 0, .int .i64 1, .int .i64 30] 3)
      have HLIT := Lib.hid (show ∀ q, q < 5 → ∃ n : Int, ((w5.alloc (.cells #[.int .i64 2, .int .i64 4, .int .i64 0, .int .i64 1, .int .i64 30] 3)).drew).cell? ⟨w5.heap.size, q, none⟩ = some (.int .i64 n) ∧ (0 ≤ n ∧ n ≤ 30) from fun q hq => by match q, hq with | 0, _ => exact ⟨2, cell_of_row _ _ 0 _ _ _ hlit_, by omega⟩ | 1, _ => exact ⟨4, cell_of_row _ _ 1 _ _ _ hlit_, by omega⟩ | 2, _ => exact ⟨0, cell_of_row _ _ 2 _ _ _ hlit_, by omega⟩ | 3, _ => exact ⟨1, cell_of_row _ _ 3 _ _ _ hlit_, by omega⟩ | 4, _ => exact ⟨30, cell_of_row _ _ 4 _ _ _ hlit_, by omega⟩)
      clear hlit_
      have cf_ := cell_of_row _ _ 1 _ _ _ RNa.out
      have rA_ := row_held (gby_alloc (gby_refl w5 none) (.cells #[.int .i64 2, .int .i64 4, .int .i64 0, .int .i64 1, .int .i64 30] 3)) RNa.out
      have cg_ := cell_of_row _ _ 1 _ _ _ rA_
      have HBD := Lib.hid (show ((w5.alloc (.cells #[.int .i64 2, .int .i64 4, .int .i64 0, .int .i64 1, .int .i64 30] 3)).drew).heap[W.heap.size + 1]? = some (.cells #[(.slice (some ⟨ga, 0, none⟩) (j + 1) ca), (.slice p2 j d2)] 54 (0, 0)) from rA_)
      clear rA_
      have HCD := Lib.hid (show Cur ((w5.alloc (.cells #[.int .i64 2, .int .i64 4, .int .i64 0, .int .i64 1, .int .i64 30] 3)).drew) c from cur_kept CNa.out (gby_drew (gby_alloc (gby_refl _ none) _)) (by simp))
      have HD0 := Lib.hid (World.ownsRow.drew (ONa0.out.alloc (.cells #[.int .i64 2, .int .i64 4, .int .i64 0, .int .i64 1, .int .i64 30] 3)))
      have HD1 := Lib.hid (World.ownsRow.drew (ONa1.out.alloc (.cells #[.int .i64 2, .int .i64 4, .int .i64 0, .int .i64 1, .int .i64 30] 3)))
      have HTD := Lib.hid (show ((W.alloc (.cells #[.slice none 0 0, .slice none 0 0] 54))).grownBy ((w5.alloc (.cells #[.int .i64 2, .int .i64 4, .int .i64 0, .int .i64 1, .int .i64 30] 3)).drew) (some c) from gby_drew (gby_alloc GNa.out _))
      have hcw_ : ¬ w5.heap.size = c := by omega
      go_wp2_with fail
      go_region_law (first
        | (go_simp; go_at_call 111; refine (pickInt_any _ c w5.heap.size 5 5 (fun n => 0 ≤ n ∧ n ≤ 30) HCD.out (by omega) (by omega) hcw_ HLIT.out).mono ?_; rintro e wA ⟨y, ⟨y1, y2⟩, rfl, HA, gA⟩; have ZA := Chg.keep (chg_cur gA) HBD.out (by omega); have af_ := cell_of_row wA _ 1 _ _ _ ZA; have ZC := row_held (gby_alloc (gby_refl wA none) (.cells #[.int .i64 y] 3)) ZA; have ah_ := cell_of_row _ _ 1 _ _ _ ZC; have OA0 := own_keptC HD0.out gA (by omega); have OA1 := own_keptC HD1.out gA (by omega); have sA := gA.size; (try simp only [World.size_drew, World.size_alloc] at sA); have GA_ := gby_trans HTD.out gA)
        | (refine step_append_lies _ (by rfl) _ _ _ (by rfl) (W.heap.size + 1 + 1) 3 i1_ _ 1 8 Try.underlying27 hi1_ hz0_ hz1_ hz2_ rfl (by omega) _ j (i64s ys) (by rfl) (OA1.alloc _) ⟨wA.heap.size, 0, none⟩ 1 1 _ (by rfl) (by rfl) (World.news_of_block (t := 3) (fr := (0, 0)) (heap_alloc_new wA _)) (by simp [Value.oneCell']) (by omega) (by unfold maxLen; omega) (by omega) (by simp; omega) _ (by rfl) ?_; intro gb cb wB hownB hgB hatB hltB; have ZB : wB.heap[W.heap.size + 1]? = some (.cells #[(.slice (some ⟨ga, 0, none⟩) (j + 1) ca), (.slice p2 j d2)] 54 (0, 0)) := (hgB.block (W.heap.size + 1) (by (try simp only [World.size_alloc]); omega) (fun e => by have := own_from OA1 _ e.symm; omega)).trans (row_held (gby_alloc (gby_refl wA none) _) ZA); have bf_ := cell_of_row wB _ 1 _ _ _ ZB; have ff_ := frozen_of_row wB _ 1 _ _ ZB)
        | fail)
      all_goals
        have sB := hgB.size
        (try simp only [World.size_alloc] at sB)
        have RNb := Lib.hid (show (wB.setCell ⟨W.heap.size + 1, 1, none⟩ (.slice (some ⟨gb, 0, none⟩) (j + 1) cb)).heap[W.heap.size + 1]? = some (.cells #[(.slice (some ⟨ga, 0, none⟩) (j + 1) ca), (.slice (some ⟨gb, 0, none⟩) (j + 1) cb)] 54 (0, 0)) from heap_setCell_same _ _ 1 _ _ _ ZB)
        have ONb1 := Lib.hid (show (wB.setCell ⟨W.heap.size + 1, 1, none⟩ (.slice (some ⟨gb, 0, none⟩) (j + 1) cb)).ownsRow (W.heap.size + 1 + 1) 3 1 (.slice (some ⟨gb, 0, none⟩) (j + 1) cb) (j + 1) (i64s (ys ++ [y])) from by rw [i64s_append]; exact ownsRow_setCell_below hownB (by dsimp only; omega) _)
        have ONb0 := Lib.hid (show (wB.setCell ⟨W.heap.size + 1, 1, none⟩ (.slice (some ⟨gb, 0, none⟩) (j + 1) cb)).ownsRow (W.heap.size + 1 + 1) 3 1 (.slice (some ⟨ga, 0, none⟩) (j + 1) ca) _ _ from ownsRow_setCell_below (own_asideC (OA0.alloc _) hgB ANa.out.symm) (by dsimp only; omega) _)
        have ANb := Lib.hid (apart_newC (m := j + 1) (c := cb) OA0 ANa.out.symm hatB (by simp only [World.size_alloc]; omega))
        have CNb := Lib.hid (show Cur (wB.setCell ⟨W.heap.size + 1, 1, none⟩ (.slice (some ⟨gb, 0, none⟩) (j + 1) cb)) c from cur_other (cur_other (cur_kept HA (World.grownBy_alloc _ _ none) (by simp)) hgB (fun i hi => by have := own_from OA1 i hi; omega)) (gby_set (gby_refl _ _) _ _) (fun i hi => by have h2 := Option.some.inj hi; omega))
        have GNb := Lib.hid (show ((W.alloc (.cells #[.slice none 0 0, .slice none 0 0] 54))).grownBy (wB.setCell ⟨W.heap.size + 1, 1, none⟩ (.slice (some ⟨gb, 0, none⟩) (j + 1) cb)) (some c) from gby_setnew (gby_new (gby_alloc GA_ _) hgB (fun i hi => by have := own_from OA1 i hi; (try simp only [World.size_alloc]); omega)) _ (by dsimp only; (try simp only [World.size_alloc]); omega) _)
        have hszb : w5.heap.size ≤ ((wB.setCell ⟨W.heap.size + 1, 1, none⟩ (.slice (some ⟨gb, 0, none⟩) (j + 1) cb))).heap.size := by simp only [World.size_setCell]; omega
        clear ZB bf_ ff_ hownB hgB hatB hltB
        try clear ah_ af_
        try clear ZA ZC
        try clear OA0 OA1 GA_ HA gA
        try clear cf_ cg_
        go_wp2
        refine ⟨⟨j + 1, xs ++ [x], ys ++ [y], _, _, by go_num, by omega, by have := HLX.out; simp [this], by have := HLY.out; simp [this], all_app HAX.out x1 x2, all_app HAY.out y1 y2, RNb.out, ONb0.out, ONb1.out, ANb.out.symm, CNb.out, GNb.out⟩, by simp [intOf]; omega⟩

set_option maxHeartbeats 1000000 in
theorem drawCr_any (W : World) (a : Option Addr) (len cap : Nat) (zs : List Int) (hB : Bytes W a len zs) (hl : len ≤ 1048576) : Calls Try.prog 43 #[.slice a len cap] W (DrawnCr none W) := by
  have HB := Lib.hid hB
  clear hB
  go_enter Try.func43, Try.ntmps43
  have HB0 := Lib.hid (bytes_grow HB.out (gby_alloc (gby_refl W none) (.cells #[.slice none 0 0, .slice none 0 0] 54)))
  have r0 := Lib.hid (heap_alloc_new W (.cells #[.slice none 0 0, .slice none 0 0] 54))
  have G0 := Lib.hid (gby_alloc (gby_refl W none) (.cells #[.slice none 0 0, .slice none 0 0] 54))
  go_wp2_with fail
  go_at_call 74
  refine (new_any _ _ _ _ _ HB0.out hl).mono ?_
  rintro e w1 ⟨c, rfl, hc, H1, G1⟩
  simp only [World.size_alloc] at hc
  have HC1 := Lib.hid H1
  have r1 := Lib.hid (row_held G1 r0.out)
  have hs1 := G1.size
  simp only [World.size_alloc] at hs1
  have HG1 := Lib.hid (gby_trans G0.out G1)
  have hcl := cur_lt H1
  clear H1 G1
  go_wp2_with fail
  go_at_call 91
  refine (credits14_any _ c HC1.out).mono ?_
  rintro e w2 ⟨v1, v2, xs, ys, rfl, hok, o, g⟩
  obtain ⟨p1, n1, c1, hv_⟩ := RdL.form (OwU.rd o)
  subst hv_
  obtain ⟨p2, n2, c2, hv_⟩ := RdL.form (OwU.rd (OwU.tail o))
  subst hv_
  have hs2 := g.size
  have r2 := Lib.hid (show w2.heap[W.heap.size]? = some (.cells #[.slice none 0 0, .slice none 0 0] 54 (0, 0)) from Chg.keep (chg_cur g) r1.out (by omega))
  have HG2 := Lib.hid (gby_own HG1.out g (by omega))
  have HO := Lib.hid o
  have HOK := Lib.hid hok
  clear g o hok
  have c0_ := cell_of_row _ _ 0 _ _ _ r2.out
  have f0_ := frozen_of_row _ _ 0 _ _ r2.out
  have c1_ := cell_of_row _ _ 1 _ _ _ r2.out
  have f1_ := frozen_of_row _ _ 1 _ _ r2.out
  have zr_ := Lib.hid (show (((w2.setCell ⟨W.heap.size, 0, none⟩ (.slice p1 n1 c1)).setCell ⟨W.heap.size, 1, none⟩ (.slice p2 n2 c2))).heap[W.heap.size]? = some (.cells #[.slice p1 n1 c1, .slice p2 n2 c2] 54 (0, 0)) from (heap_setCell_same _ _ 1 _ _ _ (heap_setCell_same _ _ 0 _ _ _ r2.out)))
  have z0_ : (((w2.setCell ⟨W.heap.size, 0, none⟩ (.slice p1 n1 c1)).setCell ⟨W.heap.size, 1, none⟩ (.slice p2 n2 c2))).cell? ⟨W.heap.size, 0, none⟩ = some (.slice p1 n1 c1) := cell_of_row _ _ 0 _ _ _ zr_.out
  have z1_ : (((w2.setCell ⟨W.heap.size, 0, none⟩ (.slice p1 n1 c1)).setCell ⟨W.heap.size, 1, none⟩ (.slice p2 n2 c2))).cell? ⟨W.heap.size, 1, none⟩ = some (.slice p2 n2 c2) := cell_of_row _ _ 1 _ _ _ zr_.out
  go_wp2
  refine bodyPost_ret (v := .agg #[.slice p1 n1 c1, .slice p2 n2 c2]) (by simp [results, go_sem, z0_, z1_]) rfl ⟨_, _, xs, ys, rfl, HOK.out, ?_, ?_⟩
  · exact OwU.wide (by omega) (by simp only [World.size_setCell]; omega) (OwU.keep (chg_one _ _ _ _) (.inr (by omega)) (OwU.keep (chg_one _ _ _ _) (.inr (by omega)) HO.out))
  · exact (gby_setnew (gby_setnew HG2.out _ (by dsimp only; omega) _) _ (by dsimp only; omega) _)

end Go.Proofs.Ytgagbhkidponnac
