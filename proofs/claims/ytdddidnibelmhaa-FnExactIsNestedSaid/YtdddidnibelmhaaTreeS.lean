/-
  The model's TreeOk.
-/
import Derived.Test.YtdddidnibelmhaaTreeMath
namespace Go.Proofs.Ytdddidnibelmhaa
open Go Go.RowKit
set_option linter.unusedVariables false

set_option maxRecDepth 8000 in
set_option maxHeartbeats 4000000 in
theorem specTree (W : World) (v : Value) (xs : List DNode) (H : RdL shNode W v xs) (hl : szL shNode xs ≤ 1048576) : Calls Try.prog 26 #[v] W (TPost xs W) := by
  rw [szL_size0 (fun _ => rfl)] at hl
  obtain ⟨a0, cap, rfl, _, hi⟩ := rdN_in H
  obtain ⟨len, hlen⟩ : ∃ len, len = xs.length := ⟨_, rfl⟩
  have HE := Lib.hid hlen
  unfold RdN at hi
  rw [← hlen] at hl hi ⊢
  have HA := Lib.hid hi
  clear H hi hlen
  rcases inr_or (len : Int) 1 12 with ⟨l1, l2⟩ | hn
  rotate_left
  · have HN := Lib.hid hn
    clear hn
    go_enter Try.func26, Try.ntmps26
    go_wp2_with fail
    go_at_call 40
    refine (in_no _ _ _ _ HN.out).mono ?_
    rintro e w1_ ⟨rfl, rfl⟩
    go_wp2
    go_ret
    exact ⟨false, rfl, iff_no (fun q => absurd q.1 (by have := HN.out; have := HE.out; omega)), (gby_refl _ _)⟩
  obtain ⟨b, off, rfl, hcell⟩ := HA.out.resolve_left (by omega)
  have HC := Lib.hid hcell
  clear hcell
  have hz0 := HC.out 0 (by omega)
  have hlen0 : (0 : Int) < (len : Int) := by omega
  obtain ⟨x, hx⟩ : ∃ x, x = nd xs 0 := ⟨_, rfl⟩
  rw [← hx] at hz0
  have HX := Lib.hid hx
  clear hx
  have a0_ : W.cell? ⟨b, off, none⟩ = some (.int .i64 x.f0) := by have := hz0.1; simpa using this
  have a1_ : W.cell? ⟨b, off + 1, none⟩ = some (.int .i64 x.f1) := by have := hz0.2.1; simpa using this
  have a2_ : W.cell? ⟨b, off + 2, none⟩ = some (.int .i64 x.f2) := by have := hz0.2.2; simpa using this
  clear hz0
  by_cases hf0 : x.f0 = -1
  rotate_left
  · have hbf0 : (x.f0 == -1) = false := by simpa using hf0
    have HN := Lib.hid hf0
    clear hf0
    go_enter Try.func26, Try.ntmps26
    go_wp2_with fail
    go_at_call 40
    refine (in_yes _ _ _ _ (by omega) (by omega)).mono ?_
    rintro e w1_ ⟨rfl, rfl⟩
    go_wp2
    go_ret
    exact ⟨false, rfl, iff_no (fun q => HN.out (by have := q.2.1.1; rw [HX.out]; exact this)), (gby_refl _ _)⟩
  have hbf0 : (x.f0 == -1) = true := by simpa using hf0
  have HXf0 := Lib.hid hf0
  clear hf0
  by_cases hf1 : x.f1 = 0
  rotate_left
  · have hbf1 : (x.f1 == 0) = false := by simpa using hf1
    have HN := Lib.hid hf1
    clear hf1
    go_enter Try.func26, Try.ntmps26
    go_wp2_with fail
    go_at_call 40
    refine (in_yes _ _ _ _ (by omega) (by omega)).mono ?_
    rintro e w1_ ⟨rfl, rfl⟩
    go_wp2
    go_ret
    exact ⟨false, rfl, iff_no (fun q => HN.out (by have := q.2.1.2.1; rw [HX.out]; exact this)), (gby_refl _ _)⟩
  have hbf1 : (x.f1 == 0) = true := by simpa using hf1
  have HXf1 := Lib.hid hf1
  clear hf1
  by_cases hf2 : x.f2 = 0
  rotate_left
  · have hbf2 : (x.f2 == 0) = false := by simpa using hf2
    have HN := Lib.hid hf2
    clear hf2
    go_enter Try.func26, Try.ntmps26
    go_wp2_with fail
    go_at_call 40
    refine (in_yes _ _ _ _ (by omega) (by omega)).mono ?_
    rintro e w1_ ⟨rfl, rfl⟩
    go_wp2
    go_ret
    exact ⟨false, rfl, iff_no (fun q => HN.out (by have := q.2.1.2.2; rw [HX.out]; exact this)), (gby_refl _ _)⟩
  have hbf2 : (x.f2 == 0) = true := by simpa using hf2
  have HXf2 := Lib.hid hf2
  clear hf2
  go_enter Try.func26, Try.ntmps26
  go_wp2_with fail
  go_at_call 40
  refine (in_yes _ _ _ _ (by omega) (by omega)).mono ?_
  rintro e w1_ ⟨rfl, rfl⟩
  go_wp2
  go_loopw [3, 4, 5] (fun i z1 z2 wr => ∃ n : Nat, 1 ≤ n ∧ n ≤ len ∧ i = .int .i64 (n : Int) ∧ (∃ q, z1 = q) ∧ (∃ q, z2 = q) ∧ (∀ j, 1 ≤ j → j < n → Placed xs j) ∧ (W).grownBy wr none) (fun i _ _ _ => len - (intOf i).toNat)
  case atStart => exact ⟨1, by omega, by omega, rfl, ⟨_, rfl⟩, ⟨_, rfl⟩, fun j h1 h2 => by omega, gby_refl _ _⟩
  case round =>
    obtain ⟨wo, hwo_⟩ : ∃ w_, w_ = wr := ⟨_, rfl⟩
    subst hwo_
    obtain ⟨n, hn1, hn, rfl, ⟨z1, rfl⟩, ⟨z2, rfl⟩, hj, hg⟩ := hrel
    have szrwo := hg.size
    try simp only [World.size_alloc] at szrwo
    have szr_ := szrwo
    have G1_ := Lib.hid (show (W).grownBy (wo) none from gby_trans (gby_refl _ _) hg)
    have HTB_ := Lib.hid hg
    clear hg
    have HJ := Lib.hid hj
    clear hj a0_ a1_ a2_ hbf0 hbf1 hbf2
    have hn0 : (0 : Int) ≤ (n : Int) := by omega
    have htn : ((n : Int)).toNat = n := by omega
    by_cases hlt : n < len
    · have hki : (n : Int) < (len : Int) := by omega
      have hnx : n < xs.length := by have := HE.out; omega
      have hm1 : IntKind.i64.wrap ((n : Int) - 1) = (n : Int) - 1 := IntWalk.i64_in _ (by omega)
      obtain ⟨y, hy⟩ : ∃ y, y = nd xs n := ⟨_, rfl⟩
      have HY := Lib.hid hy
      have hyc := HC.out n hlt
      rw [← hy] at hyc
      clear hy
      have y0_ := (G1_.out).cell hyc.1 (by simp)
      have y1_ := (G1_.out).cell hyc.2.1 (by simp)
      have y2_ := (G1_.out).cell hyc.2.2 (by simp)
      clear hyc
      rcases inr_or y.f0 0 ((n : Int) - 1) with ⟨p1, p2⟩ | hb
      rotate_left
      · have HB := Lib.hid hb
        clear hb
        go_wp2_with fail
        have al_ : (wo).grownBy ((wo).alloc (.cells #[.int .i64 y.f0, .int .i64 y.f1, .int .i64 y.f2] 48)) none := gby_alloc (gby_refl _ _) _
        have G2_ := Lib.hid (show (W).grownBy ((wo.alloc (.cells #[.int .i64 y.f0, .int .i64 y.f1, .int .i64 y.f2] 48))) none from gby_trans G1_.out al_)
        have HTB3_ := Lib.hid (show (W).grownBy ((wo.alloc (.cells #[.int .i64 y.f0, .int .i64 y.f1, .int .i64 y.f2] 48))) none from gby_trans HTB_.out al_)
        clear HTB_
        have rY4_ := Lib.hid (show ((wo.alloc (.cells #[.int .i64 y.f0, .int .i64 y.f1, .int .i64 y.f2] 48))).heap[wo.heap.size]? = some (.cells #[.int .i64 y.f0, .int .i64 y.f1, .int .i64 y.f2] 48 (0, 0)) from by first | exact heap_alloc_new _ _ | exact heap_pair _ _ _ | exact heap_trip _ _ _ _)
        clear al_
        have Y_0_ : ((wo.alloc (.cells #[.int .i64 y.f0, .int .i64 y.f1, .int .i64 y.f2] 48))).cell? ⟨wo.heap.size, 0, none⟩ = some (.int .i64 y.f0) := cell_of_row _ _ 0 _ _ _ rY4_.out
        have Y_1_ : ((wo.alloc (.cells #[.int .i64 y.f0, .int .i64 y.f1, .int .i64 y.f2] 48))).cell? ⟨wo.heap.size, 1, none⟩ = some (.int .i64 y.f1) := cell_of_row _ _ 1 _ _ _ rY4_.out
        have Y_2_ : ((wo.alloc (.cells #[.int .i64 y.f0, .int .i64 y.f1, .int .i64 y.f2] 48))).cell? ⟨wo.heap.size, 2, none⟩ = some (.int .i64 y.f2) := cell_of_row _ _ 2 _ _ _ rY4_.out
        go_wp2_with fail
        go_at_call 40
        refine (in_no _ _ _ _ HB.out).mono ?_
        rintro e w2_ ⟨rfl, rfl⟩
        go_wp2
        go_ret
        exact ⟨false, rfl, iff_no (tok_no hn1 hnx (fun q => by unfold Placed at q; rw [← HY.out] at q; have q_ := q.1; (try dsimp only at q_); have := HB.out; omega)), G2_.out⟩
      obtain ⟨p, hp⟩ : ∃ p : Nat, y.f0 = (p : Int) := ⟨y.f0.toNat, by omega⟩
      have hpn : p < n := by omega
      have HPc := HC.out p (by omega)
      obtain ⟨g, hg⟩ : ∃ g, g = (nd xs p).f2 := ⟨_, rfl⟩
      rw [← hg] at HPc
      have HG2 := Lib.hid HPc.2.2
      have g2_ := (G1_.out).cell HPc.2.2 (by simp)
      have HGp := Lib.hid (show (nd xs y.f0.toNat).f2 = g from by rw [hp, hg]; rfl)
      clear HPc hg
      obtain ⟨y0, y1, y2⟩ := y
      dsimp only at *
      subst hp
      have hpi : (p : Int) < (len : Int) := by omega
      have hp0 : (0 : Int) ≤ (p : Int) := by omega
      have htp : ((p : Int)).toNat = p := by omega
      by_cases hg0 : g = 0
      rotate_left
      · have hgb : (g == 0) = false := by simpa using hg0
        have HB := Lib.hid hg0
        clear hg0
        go_wp2_with fail
        have al_ : (wo).grownBy ((wo).alloc (.cells #[.int .i64 (p : Int), .int .i64 y1, .int .i64 y2] 48)) none := gby_alloc (gby_refl _ _) _
        have G2_ := Lib.hid (show (W).grownBy ((wo.alloc (.cells #[.int .i64 (p : Int), .int .i64 y1, .int .i64 y2] 48))) none from gby_trans G1_.out al_)
        have HTB3_ := Lib.hid (show (W).grownBy ((wo.alloc (.cells #[.int .i64 (p : Int), .int .i64 y1, .int .i64 y2] 48))) none from gby_trans HTB_.out al_)
        clear HTB_
        have rY4_ := Lib.hid (show ((wo.alloc (.cells #[.int .i64 (p : Int), .int .i64 y1, .int .i64 y2] 48))).heap[wo.heap.size]? = some (.cells #[.int .i64 (p : Int), .int .i64 y1, .int .i64 y2] 48 (0, 0)) from by first | exact heap_alloc_new _ _ | exact heap_pair _ _ _ | exact heap_trip _ _ _ _)
        clear al_
        have Y_0_ : ((wo.alloc (.cells #[.int .i64 (p : Int), .int .i64 y1, .int .i64 y2] 48))).cell? ⟨wo.heap.size, 0, none⟩ = some (.int .i64 (p : Int)) := cell_of_row _ _ 0 _ _ _ rY4_.out
        have Y_1_ : ((wo.alloc (.cells #[.int .i64 (p : Int), .int .i64 y1, .int .i64 y2] 48))).cell? ⟨wo.heap.size, 1, none⟩ = some (.int .i64 y1) := cell_of_row _ _ 1 _ _ _ rY4_.out
        have Y_2_ : ((wo.alloc (.cells #[.int .i64 (p : Int), .int .i64 y1, .int .i64 y2] 48))).cell? ⟨wo.heap.size, 2, none⟩ = some (.int .i64 y2) := cell_of_row _ _ 2 _ _ _ rY4_.out
        have g2n_ := (G2_.out).cell HG2.out (by simp)
        go_wp2_with fail
        go_at_call 40
        refine (in_yes _ _ _ _ (by omega) (by omega)).mono ?_
        rintro e w2_ ⟨rfl, rfl⟩
        go_wp2
        go_ret
        exact ⟨false, rfl, iff_no (tok_no hn1 hnx (fun q => by unfold Placed at q; rw [← HY.out] at q; exact HB.out (HGp.out.symm.trans q.2.1))), G2_.out⟩
      have hgb : (g == 0) = true := by simpa using hg0
      have HG0 := Lib.hid hg0
      clear hg0
      rcases inr_or y1 0 3 with ⟨d1, d2⟩ | hb
      rotate_left
      · have HB := Lib.hid hb
        clear hb
        go_wp2_with fail
        have al_ : (wo).grownBy ((wo).alloc (.cells #[.int .i64 (p : Int), .int .i64 y1, .int .i64 y2] 48)) none := gby_alloc (gby_refl _ _) _
        have G2_ := Lib.hid (show (W).grownBy ((wo.alloc (.cells #[.int .i64 (p : Int), .int .i64 y1, .int .i64 y2] 48))) none from gby_trans G1_.out al_)
        have HTB3_ := Lib.hid (show (W).grownBy ((wo.alloc (.cells #[.int .i64 (p : Int), .int .i64 y1, .int .i64 y2] 48))) none from gby_trans HTB_.out al_)
        clear HTB_
        have rY4_ := Lib.hid (show ((wo.alloc (.cells #[.int .i64 (p : Int), .int .i64 y1, .int .i64 y2] 48))).heap[wo.heap.size]? = some (.cells #[.int .i64 (p : Int), .int .i64 y1, .int .i64 y2] 48 (0, 0)) from by first | exact heap_alloc_new _ _ | exact heap_pair _ _ _ | exact heap_trip _ _ _ _)
        clear al_
        have Y_0_ : ((wo.alloc (.cells #[.int .i64 (p : Int), .int .i64 y1, .int .i64 y2] 48))).cell? ⟨wo.heap.size, 0, none⟩ = some (.int .i64 (p : Int)) := cell_of_row _ _ 0 _ _ _ rY4_.out
        have Y_1_ : ((wo.alloc (.cells #[.int .i64 (p : Int), .int .i64 y1, .int .i64 y2] 48))).cell? ⟨wo.heap.size, 1, none⟩ = some (.int .i64 y1) := cell_of_row _ _ 1 _ _ _ rY4_.out
        have Y_2_ : ((wo.alloc (.cells #[.int .i64 (p : Int), .int .i64 y1, .int .i64 y2] 48))).cell? ⟨wo.heap.size, 2, none⟩ = some (.int .i64 y2) := cell_of_row _ _ 2 _ _ _ rY4_.out
        have g2n_ := (G2_.out).cell HG2.out (by simp)
        go_wp2_with fail
        go_at_call 40
        refine (in_yes _ _ _ _ (by omega) (by omega)).mono ?_
        rintro e w2_ ⟨rfl, rfl⟩
        go_wp2_with fail
        go_at_call 40
        refine (in_no _ _ _ _ HB.out).mono ?_
        rintro e w3_ ⟨rfl, rfl⟩
        go_wp2
        go_ret
        exact ⟨false, rfl, iff_no (tok_no hn1 hnx (fun q => by unfold Placed at q; rw [← HY.out] at q; have q_ := q.2.2.1; (try dsimp only at q_); have := HB.out; omega)), G2_.out⟩
      rcases inr_or y2 0 4 with ⟨e1, e2⟩ | hb
      rotate_left
      · have HB := Lib.hid hb
        clear hb
        go_wp2_with fail
        have al_ : (wo).grownBy ((wo).alloc (.cells #[.int .i64 (p : Int), .int .i64 y1, .int .i64 y2] 48)) none := gby_alloc (gby_refl _ _) _
        have G2_ := Lib.hid (show (W).grownBy ((wo.alloc (.cells #[.int .i64 (p : Int), .int .i64 y1, .int .i64 y2] 48))) none from gby_trans G1_.out al_)
        have HTB3_ := Lib.hid (show (W).grownBy ((wo.alloc (.cells #[.int .i64 (p : Int), .int .i64 y1, .int .i64 y2] 48))) none from gby_trans HTB_.out al_)
        clear HTB_
        have rY4_ := Lib.hid (show ((wo.alloc (.cells #[.int .i64 (p : Int), .int .i64 y1, .int .i64 y2] 48))).heap[wo.heap.size]? = some (.cells #[.int .i64 (p : Int), .int .i64 y1, .int .i64 y2] 48 (0, 0)) from by first | exact heap_alloc_new _ _ | exact heap_pair _ _ _ | exact heap_trip _ _ _ _)
        clear al_
        have Y_0_ : ((wo.alloc (.cells #[.int .i64 (p : Int), .int .i64 y1, .int .i64 y2] 48))).cell? ⟨wo.heap.size, 0, none⟩ = some (.int .i64 (p : Int)) := cell_of_row _ _ 0 _ _ _ rY4_.out
        have Y_1_ : ((wo.alloc (.cells #[.int .i64 (p : Int), .int .i64 y1, .int .i64 y2] 48))).cell? ⟨wo.heap.size, 1, none⟩ = some (.int .i64 y1) := cell_of_row _ _ 1 _ _ _ rY4_.out
        have Y_2_ : ((wo.alloc (.cells #[.int .i64 (p : Int), .int .i64 y1, .int .i64 y2] 48))).cell? ⟨wo.heap.size, 2, none⟩ = some (.int .i64 y2) := cell_of_row _ _ 2 _ _ _ rY4_.out
        have g2n_ := (G2_.out).cell HG2.out (by simp)
        go_wp2_with fail
        go_at_call 40
        refine (in_yes _ _ _ _ (by omega) (by omega)).mono ?_
        rintro e w2_ ⟨rfl, rfl⟩
        go_wp2_with fail
        go_at_call 40
        refine (in_yes _ _ _ _ (by omega) (by omega)).mono ?_
        rintro e w3_ ⟨rfl, rfl⟩
        go_wp2_with fail
        go_at_call 40
        refine (in_no _ _ _ _ HB.out).mono ?_
        rintro e w4_ ⟨rfl, rfl⟩
        go_wp2
        go_ret
        exact ⟨false, rfl, iff_no (tok_no hn1 hnx (fun q => by unfold Placed at q; rw [← HY.out] at q; have q_ := q.2.2.2.1; (try dsimp only at q_); have := HB.out; omega)), G2_.out⟩
      go_wp2_with fail
      have al_ : (wo).grownBy ((wo).alloc (.cells #[.int .i64 (p : Int), .int .i64 y1, .int .i64 y2] 48)) none := gby_alloc (gby_refl _ _) _
      have G2_ := Lib.hid (show (W).grownBy ((wo.alloc (.cells #[.int .i64 (p : Int), .int .i64 y1, .int .i64 y2] 48))) none from gby_trans G1_.out al_)
      have HTB3_ := Lib.hid (show (W).grownBy ((wo.alloc (.cells #[.int .i64 (p : Int), .int .i64 y1, .int .i64 y2] 48))) none from gby_trans HTB_.out al_)
      clear HTB_
      have rY4_ := Lib.hid (show ((wo.alloc (.cells #[.int .i64 (p : Int), .int .i64 y1, .int .i64 y2] 48))).heap[wo.heap.size]? = some (.cells #[.int .i64 (p : Int), .int .i64 y1, .int .i64 y2] 48 (0, 0)) from by first | exact heap_alloc_new _ _ | exact heap_pair _ _ _ | exact heap_trip _ _ _ _)
      clear al_
      have Y_0_ : ((wo.alloc (.cells #[.int .i64 (p : Int), .int .i64 y1, .int .i64 y2] 48))).cell? ⟨wo.heap.size, 0, none⟩ = some (.int .i64 (p : Int)) := cell_of_row _ _ 0 _ _ _ rY4_.out
      have Y_1_ : ((wo.alloc (.cells #[.int .i64 (p : Int), .int .i64 y1, .int .i64 y2] 48))).cell? ⟨wo.heap.size, 1, none⟩ = some (.int .i64 y1) := cell_of_row _ _ 1 _ _ _ rY4_.out
      have Y_2_ : ((wo.alloc (.cells #[.int .i64 (p : Int), .int .i64 y1, .int .i64 y2] 48))).cell? ⟨wo.heap.size, 2, none⟩ = some (.int .i64 y2) := cell_of_row _ _ 2 _ _ _ rY4_.out
      have g2n_ := (G2_.out).cell HG2.out (by simp)
      go_wp2_with fail
      go_at_call 40
      refine (in_yes _ _ _ _ (by omega) (by omega)).mono ?_
      rintro e w2_ ⟨rfl, rfl⟩
      go_wp2_with fail
      go_at_call 40
      refine (in_yes _ _ _ _ (by omega) (by omega)).mono ?_
      rintro e w3_ ⟨rfl, rfl⟩
      go_wp2_with fail
      go_at_call 40
      refine (in_yes _ _ _ _ (by omega) (by omega)).mono ?_
      rintro e w4_ ⟨rfl, rfl⟩
      go_wp2
      clear y0_ y1_ y2_ g2_ g2n_
      go_loopw [5] (fun i wr => ∃ m : Nat, 1 ≤ m ∧ m ≤ n ∧ i = .int .i64 (m : Int) ∧ (∀ j, 1 ≤ j → j < m → ¬ ((nd xs j).f0 = (p : Int) ∧ (nd xs j).f1 = y1)) ∧ ((wo.alloc (.cells #[.int .i64 (p : Int), .int .i64 y1, .int .i64 y2] 48))).grownBy wr none) (fun i _ => n - (intOf i).toNat)
      case atStart => exact ⟨1, by omega, by omega, rfl, fun j h1 h2 => by omega, gby_refl _ _⟩
      case round =>
        clear Y_0_ Y_1_ Y_2_
        obtain ⟨m, hm1_, hm, rfl, hu, hg⟩ := hrel
        have szrwr := hg.size
        try simp only [World.size_alloc] at szrwr
        have szr_ := szrwr
        have rY5_ := Lib.hid (show (wr).heap[wo.heap.size]? = some (.cells #[.int .i64 (p : Int), .int .i64 y1, .int .i64 y2] 48 (0, 0)) from row_held hg rY4_.out)
        clear rY4_
        have G6_ := Lib.hid (show (W).grownBy (wr) none from gby_trans G2_.out hg)
        have HTB7_ := Lib.hid (show (W).grownBy (wr) none from gby_trans HTB3_.out hg)
        clear HTB3_
        have HTC_ := Lib.hid hg
        clear hg
        have Y_0_ : (wr).cell? ⟨wo.heap.size, 0, none⟩ = some (.int .i64 (p : Int)) := cell_of_row _ _ 0 _ _ _ rY5_.out
        have Y_1_ : (wr).cell? ⟨wo.heap.size, 1, none⟩ = some (.int .i64 y1) := cell_of_row _ _ 1 _ _ _ rY5_.out
        have Y_2_ : (wr).cell? ⟨wo.heap.size, 2, none⟩ = some (.int .i64 y2) := cell_of_row _ _ 2 _ _ _ rY5_.out
        have HU := Lib.hid hu
        clear hu
        have hm0 : (0 : Int) ≤ (m : Int) := by omega
        have htm : ((m : Int)).toNat = m := by omega
        by_cases hlm : m < n
        · have hmi : (m : Int) < (n : Int) := by omega
          have hml : (m : Int) < (len : Int) := by omega
          obtain ⟨u, hu⟩ : ∃ u, u = nd xs m := ⟨_, rfl⟩
          have HUU := Lib.hid hu
          have huc := HC.out m (by omega)
          rw [← hu] at huc
          clear hu
          have u0_ := (G6_.out).cell huc.1 (by simp)
          have u1_ := (G6_.out).cell huc.2.1 (by simp)
          have u2_ := (G6_.out).cell huc.2.2 (by simp)
          clear huc
          obtain ⟨v0, v1, v2⟩ := u
          dsimp only at *
          by_cases he0 : v0 = (p : Int)
          · by_cases he1 : v1 = y1
            · subst he0
              subst he1
              go_wp2_with fail
              go_quiet (fail)
              go_wp2
              go_ret
              exact ⟨false, rfl, iff_no (tok_no hn1 hnx (fun q => by unfold Placed at q; rw [← HY.out] at q; exact q.2.2.2.2 m hm1_ hlm (by rw [← HUU.out]; exact ⟨rfl, rfl⟩))), by repeat (first | exact G6_.out | with_reducible refine gby_drewN ?_ _)⟩
            · subst he0
              have hb1 : (v1 == y1) = false := by simpa using he1
              have HE1 := Lib.hid he1
              clear he1
              go_wp2_with fail
              go_quiet (fail)
              go_wp2
              refine ⟨⟨m + 1, by omega, by omega, by go_num, fun j h1 h2 => ?_, by repeat (first | exact HTC_.out | with_reducible refine gby_drewN ?_ _)⟩, by simp [intOf]; omega⟩
              by_cases e : j = m
              · subst e
                rw [← HUU.out]
                rintro ⟨q1, q2⟩
                exact HE1.out (by first | exact q1 | exact q2)
              · exact HU.out j h1 (by omega)
          · have hb1 : (v0 == (p : Int)) = false := by simpa using he0
            have HE1 := Lib.hid he0
            clear he0
            go_wp2_with fail
            go_quiet (fail)
            go_wp2
            refine ⟨⟨m + 1, by omega, by omega, by go_num, fun j h1 h2 => ?_, by repeat (first | exact HTC_.out | with_reducible refine gby_drewN ?_ _)⟩, by simp [intOf]; omega⟩
            by_cases e : j = m
            · subst e
              rw [← HUU.out]
              rintro ⟨q1, q2⟩
              exact HE1.out (by first | exact q1 | exact q2)
            · exact HU.out j h1 (by omega)
        · have hmi : ¬ (m : Int) < (n : Int) := by omega
          obtain rfl : m = n := by omega
          go_wp2
          refine ⟨⟨m + 1, by omega, by omega, by go_num, ⟨_, rfl⟩, ⟨_, rfl⟩, fun j h1 h2 => ?_, HTB7_.out⟩, by simp [intOf]; omega⟩
          by_cases e : j = m
          · subst e
            unfold Placed
            rw [← HY.out]
            exact ⟨⟨p1, p2⟩, HGp.out.trans HG0.out, ⟨d1, d2⟩, ⟨e1, e2⟩, HU.out⟩
          · exact HJ.out j h1 (by omega)
    · obtain rfl : n = len := by omega
      have hki : ¬ (n : Int) < (n : Int) := by omega
      go_wp2
      go_ret
      exact ⟨true, rfl, iff_yes ⟨by have := HE.out; omega, ⟨by rw [← HX.out]; exact HXf0.out, by rw [← HX.out]; exact HXf1.out, by rw [← HX.out]; exact HXf2.out⟩, fun k h1 h2 => HJ.out k h1 (by have := HE.out; omega)⟩, G1_.out⟩

end Go.Proofs.Ytdddidnibelmhaa
