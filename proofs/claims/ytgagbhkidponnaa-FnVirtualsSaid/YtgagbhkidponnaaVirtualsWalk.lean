/-
  The walk of FnVirtuals.
-/
import Derived.Test.YtgagbhkidponnaaDrawVirt
import Derived.Test.YtgagbhkidponnaaVirt4
import Derived.Test.YtgagbhkidponnaaVirt2
import Derived.Test.YtgagbhkidponnaaBPost0
import Derived.Test.YtgagbhkidponnaaBig
import Derived.Deep.QuietTactic
import Derived.Deep.RegionHeld3
namespace Go.Proofs.Ytgagbhkidponnaa
open Go Go.RowKit
set_option linter.unusedVariables false

theorem all_le {b a s : Int} {n m : Nat} (h : AllIn b a s n) (hm : m ≤ n) : AllIn b a s m := fun k hk => h k (by omega)
theorem all_iff {b a s : Int} {R c : Nat} (hr : RoomIs b a s R) (hc : c ≤ 64) : AllIn b a s c ↔ c ≤ R := by
  obtain ⟨r1, r2, r3⟩ := hr
  constructor
  · intro h
    by_cases q : c ≤ R
    · exact q
    · rcases r3 with r3 | r3
      · omega
      · have := h R (by omega); omega
  · exact fun h => all_le r2 h
theorem all_in {b a s : Int} {c k : Nat} (h0 : 0 ≤ b) (h1 : b ≤ 255) (hv : VOk a s (c : Int)) (h : AllIn b a s c) (hk : k < c) : VIn b a s (c : Int) (k : Int) := ⟨⟨h0, h1⟩, hv, ⟨by omega, by omega⟩, h k hk⟩
theorem implRoom_is (b a s : Int) (W : World) (c : Nat) (h0 : 0 ≤ b) (h1 : b ≤ 255) (hv : VOk a s (c : Int)) (R : Nat) (hr : RoomIs b a s R) : Calls Try.prog 34 #[.int .i64 b, .int .i64 a, .int .i64 s] W (AnsN (.int .i64 (R : Int)) W) := by
  have v1 := hv.1
  have v2 := hv.2.1
  have r1 := hr.1
  refine implRoom b a s (R : Int) W (by omega) (by omega) (fun m m1 m2 W => ?_) (fun _ W => ?_)
  · obtain ⟨n, rfl⟩ : ∃ n : Nat, m = (n : Int) := ⟨m.toNat, by omega⟩
    exact implIdsB_no b a s n W (.inr (.inr (fun q => by have := (all_iff hr (by omega)).1 q; omega)))
  · exact implIds_ok b a s R W h0 h1 ⟨v1, v2, by omega, by omega⟩ hr.2.1

set_option maxRecDepth 8000 in
set_option maxHeartbeats 8000000 in
theorem walk_virtuals (a : Option Addr) (len cap : Nat) (zs : List Int) (W : World) (hB : Bytes W a len zs) :
    Calls Try.prog 6 #[.slice a len cap] W fun e w' => e = .returned (.bool true) ∧ Below W.heap.size W w' := by
  have HB := Lib.hid hB
  clear hB
  by_cases hbig : (1048576 : Int) < (len : Int)
  · go_enter Try.func6, Try.ntmps6
    go_wp2
    go_ret
    exact ⟨rfl, Below.refl _ _⟩
  · skip
    go_enter Try.func6, Try.ntmps6
    go_wp2_with fail
    go_at_call 21
    refine (big_any _ _ _ _).mono ?_
    rintro e w1 ⟨rfl, rfl⟩
    go_wp2_with fail
    go_at_call 32
    refine (drawVirt_any _ _ _ _ _ (bytes_grow HB.out (gby_refl _ _)) (by omega)).mono ?_
    rintro e w2 ⟨b, a, s, c, b0, b1, hv, rfl, g⟩
    have HV := Lib.hid hv
    have v1 := hv.1
    have v2 := hv.2.1
    have v3 := hv.2.2
    have szw2 := g.size
    try simp only [World.size_alloc] at szw2
    have G1_ := Lib.hid (show (W).grownBy (w2) none from gby_trans (gby_refl _ _) g)
    clear g hv
    have al_ : (w2).grownBy ((w2).alloc (.cells #[.int .i64 a, .int .i64 s, .int .i64 (c : Int)] 48)) none := gby_alloc (gby_refl _ _) _
    have G2_ := Lib.hid (show (W).grownBy ((w2.alloc (.cells #[.int .i64 a, .int .i64 s, .int .i64 (c : Int)] 48))) none from gby_trans G1_.out al_)
    have rV3_ := Lib.hid (show ((w2.alloc (.cells #[.int .i64 a, .int .i64 s, .int .i64 (c : Int)] 48))).heap[w2.heap.size]? = some (.cells #[.int .i64 a, .int .i64 s, .int .i64 (c : Int)] 48 (0, 0)) from by first | exact heap_alloc_new _ _ | exact heap_pair _ _ _ | exact heap_trip _ _ _ _)
    clear al_
    have V_0_ : ((w2.alloc (.cells #[.int .i64 a, .int .i64 s, .int .i64 (c : Int)] 48))).cell? ⟨w2.heap.size, 0, none⟩ = some (.int .i64 a) := cell_of_row _ _ 0 _ _ _ rV3_.out
    have V_1_ : ((w2.alloc (.cells #[.int .i64 a, .int .i64 s, .int .i64 (c : Int)] 48))).cell? ⟨w2.heap.size, 1, none⟩ = some (.int .i64 s) := cell_of_row _ _ 1 _ _ _ rV3_.out
    have V_2_ : ((w2.alloc (.cells #[.int .i64 a, .int .i64 s, .int .i64 (c : Int)] 48))).cell? ⟨w2.heap.size, 2, none⟩ = some (.int .i64 (c : Int)) := cell_of_row _ _ 2 _ _ _ rV3_.out
    obtain ⟨R, hr⟩ := room_ex b a s
    have HR := Lib.hid hr
    have hR := hr.1
    clear hr
    by_cases ha : AllIn b a s c
    rotate_left
    · obtain ⟨k9, hk9, hf⟩ := (allIn_or b a s c).resolve_left ha
      have HF := Lib.hid hf
      have hcr0 : R < c := by have := mt (all_iff HR.out (by omega)).2 ha; omega
      clear hf ha
      go_wp2_with fail
      go_at_call 33
      refine (implIds_bad b a s c _ b0 b1 HV.out k9 hk9 HF.out).mono ?_
      rintro e w3 ⟨vx, rfl, o, g⟩
      have szw3 := g.size
      try simp only [World.size_alloc] at szw3
      clear V_0_ V_1_ V_2_
      have rV4_ := Lib.hid (show (w3).heap[w2.heap.size]? = some (.cells #[.int .i64 a, .int .i64 s, .int .i64 (c : Int)] 48 (0, 0)) from row_held g rV3_.out)
      clear rV3_
      have G5_ := Lib.hid (show (W).grownBy (w3) none from gby_trans G2_.out g)
      clear g
      obtain ⟨xa_, nx, xc, hv_⟩ := RdL.form (OwU.rd o)
      have hnx : nx = 0 := by obtain ⟨_, _, e, _⟩ := OwU.rd o; rw [hv_] at e; injection e
      subst hv_ hnx
      clear o
      have V_0_ : (w3).cell? ⟨w2.heap.size, 0, none⟩ = some (.int .i64 a) := cell_of_row _ _ 0 _ _ _ rV4_.out
      have V_1_ : (w3).cell? ⟨w2.heap.size, 1, none⟩ = some (.int .i64 s) := cell_of_row _ _ 1 _ _ _ rV4_.out
      have V_2_ : (w3).cell? ⟨w2.heap.size, 2, none⟩ = some (.int .i64 (c : Int)) := cell_of_row _ _ 2 _ _ _ rV4_.out
      have HTX6_ := Lib.hid (gby_refl (w3) none)
      have MG7_ := Lib.hid (show (W).grownBy (w3) none from G5_.out)
      have MR8_ := Lib.hid rV4_.out
      go_wp2_with fail
      go_at_call 34
      refine (implRoom_is b a s _ c b0 b1 HV.out R HR.out).mono ?_
      rintro e w4 ⟨rfl, g⟩
      have szw4 := g.size
      try simp only [World.size_alloc] at szw4
      try simp only [World.size_setCell] at szw4
      clear V_0_ V_1_ V_2_
      have rV9_ := Lib.hid (show (w4).heap[w2.heap.size]? = some (.cells #[.int .i64 a, .int .i64 s, .int .i64 (c : Int)] 48 (0, 0)) from row_held g rV4_.out)
      clear rV4_
      have G10_ := Lib.hid (show (W).grownBy (w4) none from gby_trans G5_.out g)
      have HTX11_ := Lib.hid (show (w3).grownBy (w4) none from gby_trans HTX6_.out g)
      clear HTX6_
      clear g
      have V_0_ : (w4).cell? ⟨w2.heap.size, 0, none⟩ = some (.int .i64 a) := cell_of_row _ _ 0 _ _ _ rV9_.out
      have V_1_ : (w4).cell? ⟨w2.heap.size, 1, none⟩ = some (.int .i64 s) := cell_of_row _ _ 1 _ _ _ rV9_.out
      have V_2_ : (w4).cell? ⟨w2.heap.size, 2, none⟩ = some (.int .i64 (c : Int)) := cell_of_row _ _ 2 _ _ _ rV9_.out
      have h00 : ¬ (0 : Int) < ((0 : Nat) : Int) := by omega
      have h01 : ¬ (0 : Int) < 0 := by omega
      go_wp2
      go_loopw [8] (fun k wr => k = .int .i64 0 ∧ (w4).grownBy wr none) (fun _ _ => 0)
      case atStart => exact ⟨rfl, gby_refl _ _⟩
      case round =>
        clear V_0_ V_1_ V_2_
        obtain ⟨rfl, hg⟩ := hrel
        have szrwr := hg.size
        try simp only [World.size_alloc] at szrwr
        try simp only [World.size_setCell] at szrwr
        have szr_ := szrwr
        have rV12_ := Lib.hid (show (wr).heap[w2.heap.size]? = some (.cells #[.int .i64 a, .int .i64 s, .int .i64 (c : Int)] 48 (0, 0)) from row_held hg rV9_.out)
        clear rV9_
        have G13_ := Lib.hid (show (W).grownBy (wr) none from gby_trans G10_.out hg)
        have HTX14_ := Lib.hid (show (w3).grownBy (wr) none from gby_trans HTX11_.out hg)
        clear HTX11_
        have HTB_ := Lib.hid hg
        clear hg
        have V_0_ : (wr).cell? ⟨w2.heap.size, 0, none⟩ = some (.int .i64 a) := cell_of_row _ _ 0 _ _ _ rV12_.out
        have V_1_ : (wr).cell? ⟨w2.heap.size, 1, none⟩ = some (.int .i64 s) := cell_of_row _ _ 1 _ _ _ rV12_.out
        have V_2_ : (wr).cell? ⟨w2.heap.size, 2, none⟩ = some (.int .i64 (c : Int)) := cell_of_row _ _ 2 _ _ _ rV12_.out
        go_wp2_with fail
        go_at_call 33
        refine (implIds_ok b a s R _ b0 b1 ⟨v1, v2, by omega, by omega⟩ HR.out.2.1).mono ?_
        rintro e w5 ⟨v9, rfl, g⟩
        have szw5 := g.size
        try simp only [World.size_alloc] at szw5
        clear V_0_ V_1_ V_2_
        have rV15_ := Lib.hid (show (w5).heap[w2.heap.size]? = some (.cells #[.int .i64 a, .int .i64 s, .int .i64 (c : Int)] 48 (0, 0)) from row_held g rV12_.out)
        clear rV12_
        have G16_ := Lib.hid (show (W).grownBy (w5) none from gby_trans G13_.out g)
        have HTX17_ := Lib.hid (show (w3).grownBy (w5) none from gby_trans HTX14_.out g)
        clear HTX14_
        have HTB18_ := Lib.hid (show (w4).grownBy (w5) none from gby_trans HTB_.out g)
        clear HTB_
        clear g
        have V_0_ : (w5).cell? ⟨w2.heap.size, 0, none⟩ = some (.int .i64 a) := cell_of_row _ _ 0 _ _ _ rV15_.out
        have V_1_ : (w5).cell? ⟨w2.heap.size, 1, none⟩ = some (.int .i64 s) := cell_of_row _ _ 1 _ _ _ rV15_.out
        have V_2_ : (w5).cell? ⟨w2.heap.size, 2, none⟩ = some (.int .i64 (c : Int)) := cell_of_row _ _ 2 _ _ _ rV15_.out
        go_wp2_with fail
        go_at_call 37
        refine (implVOk_yes a s (c : Int) _ HV.out).mono ?_
        rintro e w6 ⟨rfl, g⟩
        have szw6 := g.size
        try simp only [World.size_alloc] at szw6
        try simp only [World.size_setCell] at szw6
        clear V_0_ V_1_ V_2_
        have rV19_ := Lib.hid (show (w6).heap[w2.heap.size]? = some (.cells #[.int .i64 a, .int .i64 s, .int .i64 (c : Int)] 48 (0, 0)) from row_held g rV15_.out)
        clear rV15_
        have G20_ := Lib.hid (show (W).grownBy (w6) none from gby_trans G16_.out g)
        have HTX21_ := Lib.hid (show (w3).grownBy (w6) none from gby_trans HTX17_.out g)
        clear HTX17_
        have HTB22_ := Lib.hid (show (w4).grownBy (w6) none from gby_trans HTB18_.out g)
        clear HTB18_
        clear g
        have V_0_ : (w6).cell? ⟨w2.heap.size, 0, none⟩ = some (.int .i64 a) := cell_of_row _ _ 0 _ _ _ rV19_.out
        have V_1_ : (w6).cell? ⟨w2.heap.size, 1, none⟩ = some (.int .i64 s) := cell_of_row _ _ 1 _ _ _ rV19_.out
        have V_2_ : (w6).cell? ⟨w2.heap.size, 2, none⟩ = some (.int .i64 (c : Int)) := cell_of_row _ _ 2 _ _ _ rV19_.out
        have hcr : ¬ (c : Int) ≤ (R : Int) := by omega
        have hcr2 : decide ((c : Int) ≤ (R : Int)) = false := decide_eq_false hcr
        have hcr3 : decide (c ≤ R) = false := decide_eq_false (by omega)
        go_wp2
        go_ret
        exact ⟨rfl, gby_below G20_.out⟩
    have HA := Lib.hid ha
    have hcr0 : c ≤ R := (all_iff HR.out (by omega)).1 ha
    clear ha
    go_wp2_with fail
    go_at_call 33
    refine (implIds_good b a s c _ b0 b1 HV.out HA.out).mono ?_
    rintro e w3 ⟨vx, rfl, o, g⟩
    have szw3 := g.size
    try simp only [World.size_alloc] at szw3
    clear V_0_ V_1_ V_2_
    have rV4_ := Lib.hid (show (w3).heap[w2.heap.size]? = some (.cells #[.int .i64 a, .int .i64 s, .int .i64 (c : Int)] 48 (0, 0)) from row_held g rV3_.out)
    clear rV3_
    have G5_ := Lib.hid (show (W).grownBy (w3) none from gby_trans G2_.out g)
    clear g
    obtain ⟨xa_, xc, rfl, _, hi_⟩ := rdI1_in (OwU.rd o)
    unfold RdN1 at hi_
    rw [vids_len] at hi_ ⊢
    have HI := Lib.hid hi_
    clear hi_ o
    have V_0_ : (w3).cell? ⟨w2.heap.size, 0, none⟩ = some (.int .i64 a) := cell_of_row _ _ 0 _ _ _ rV4_.out
    have V_1_ : (w3).cell? ⟨w2.heap.size, 1, none⟩ = some (.int .i64 s) := cell_of_row _ _ 1 _ _ _ rV4_.out
    have V_2_ : (w3).cell? ⟨w2.heap.size, 2, none⟩ = some (.int .i64 (c : Int)) := cell_of_row _ _ 2 _ _ _ rV4_.out
    have HTX6_ := Lib.hid (gby_refl (w3) none)
    have MG7_ := Lib.hid (show (W).grownBy (w3) none from G5_.out)
    have MR8_ := Lib.hid rV4_.out
    go_wp2_with fail
    go_at_call 34
    refine (implRoom_is b a s _ c b0 b1 HV.out R HR.out).mono ?_
    rintro e w4 ⟨rfl, g⟩
    have szw4 := g.size
    try simp only [World.size_alloc] at szw4
    try simp only [World.size_setCell] at szw4
    clear V_0_ V_1_ V_2_
    have rV9_ := Lib.hid (show (w4).heap[w2.heap.size]? = some (.cells #[.int .i64 a, .int .i64 s, .int .i64 (c : Int)] 48 (0, 0)) from row_held g rV4_.out)
    clear rV4_
    have G10_ := Lib.hid (show (W).grownBy (w4) none from gby_trans G5_.out g)
    have HTX11_ := Lib.hid (show (w3).grownBy (w4) none from gby_trans HTX6_.out g)
    clear HTX6_
    clear g
    have V_0_ : (w4).cell? ⟨w2.heap.size, 0, none⟩ = some (.int .i64 a) := cell_of_row _ _ 0 _ _ _ rV9_.out
    have V_1_ : (w4).cell? ⟨w2.heap.size, 1, none⟩ = some (.int .i64 s) := cell_of_row _ _ 1 _ _ _ rV9_.out
    have V_2_ : (w4).cell? ⟨w2.heap.size, 2, none⟩ = some (.int .i64 (c : Int)) := cell_of_row _ _ 2 _ _ _ rV9_.out
    go_wp2
    go_loopw [8] (fun i wr => ∃ k_ : Nat, i = .int .i64 (k_ : Int) ∧ k_ ≤ c ∧ (w4).grownBy wr none) (fun i _ => c - (intOf i).toNat)
    case atStart => exact ⟨0, rfl, by omega, gby_refl _ _⟩
    case round =>
      clear V_0_ V_1_ V_2_
      obtain ⟨k_, rfl, hk, hg⟩ := hrel
      have szrwr := hg.size
      try simp only [World.size_alloc] at szrwr
      try simp only [World.size_setCell] at szrwr
      have szr_ := szrwr
      have rV12_ := Lib.hid (show (wr).heap[w2.heap.size]? = some (.cells #[.int .i64 a, .int .i64 s, .int .i64 (c : Int)] 48 (0, 0)) from row_held hg rV9_.out)
      clear rV9_
      have G13_ := Lib.hid (show (W).grownBy (wr) none from gby_trans G10_.out hg)
      have HTX14_ := Lib.hid (show (w3).grownBy (wr) none from gby_trans HTX11_.out hg)
      clear HTX11_
      have HTB_ := Lib.hid hg
      clear hg
      have V_0_ : (wr).cell? ⟨w2.heap.size, 0, none⟩ = some (.int .i64 a) := cell_of_row _ _ 0 _ _ _ rV12_.out
      have V_1_ : (wr).cell? ⟨w2.heap.size, 1, none⟩ = some (.int .i64 s) := cell_of_row _ _ 1 _ _ _ rV12_.out
      have V_2_ : (wr).cell? ⟨w2.heap.size, 2, none⟩ = some (.int .i64 (c : Int)) := cell_of_row _ _ 2 _ _ _ rV12_.out
      obtain ⟨k, hkk⟩ : ∃ k, k = k_ := ⟨_, rfl⟩
      subst hkk
      have hk0 : (0 : Int) ≤ (k : Int) := by omega
      have htk : ((k : Int)).toNat = k := by omega
      by_cases hlt : k < c
      rotate_left
      · obtain rfl : c = k := by omega
        have hki : ¬ (c : Int) < (c : Int) := by omega
        go_wp2_with fail
        go_at_call 33
        refine (implIds_ok b a s R _ b0 b1 ⟨v1, v2, by omega, by omega⟩ HR.out.2.1).mono ?_
        rintro e w5 ⟨v9, rfl, g⟩
        have szw5 := g.size
        try simp only [World.size_alloc] at szw5
        clear V_0_ V_1_ V_2_
        have rV15_ := Lib.hid (show (w5).heap[w2.heap.size]? = some (.cells #[.int .i64 a, .int .i64 s, .int .i64 (c : Int)] 48 (0, 0)) from row_held g rV12_.out)
        clear rV12_
        have G16_ := Lib.hid (show (W).grownBy (w5) none from gby_trans G13_.out g)
        have HTX17_ := Lib.hid (show (w3).grownBy (w5) none from gby_trans HTX14_.out g)
        clear HTX14_
        have HTB18_ := Lib.hid (show (w4).grownBy (w5) none from gby_trans HTB_.out g)
        clear HTB_
        clear g
        have V_0_ : (w5).cell? ⟨w2.heap.size, 0, none⟩ = some (.int .i64 a) := cell_of_row _ _ 0 _ _ _ rV15_.out
        have V_1_ : (w5).cell? ⟨w2.heap.size, 1, none⟩ = some (.int .i64 s) := cell_of_row _ _ 1 _ _ _ rV15_.out
        have V_2_ : (w5).cell? ⟨w2.heap.size, 2, none⟩ = some (.int .i64 (c : Int)) := cell_of_row _ _ 2 _ _ _ rV15_.out
        go_wp2_with fail
        go_at_call 37
        refine (implVOk_yes a s (c : Int) _ HV.out).mono ?_
        rintro e w6 ⟨rfl, g⟩
        have szw6 := g.size
        try simp only [World.size_alloc] at szw6
        try simp only [World.size_setCell] at szw6
        clear V_0_ V_1_ V_2_
        have rV19_ := Lib.hid (show (w6).heap[w2.heap.size]? = some (.cells #[.int .i64 a, .int .i64 s, .int .i64 (c : Int)] 48 (0, 0)) from row_held g rV15_.out)
        clear rV15_
        have G20_ := Lib.hid (show (W).grownBy (w6) none from gby_trans G16_.out g)
        have HTX21_ := Lib.hid (show (w3).grownBy (w6) none from gby_trans HTX17_.out g)
        clear HTX17_
        have HTB22_ := Lib.hid (show (w4).grownBy (w6) none from gby_trans HTB18_.out g)
        clear HTB18_
        clear g
        have V_0_ : (w6).cell? ⟨w2.heap.size, 0, none⟩ = some (.int .i64 a) := cell_of_row _ _ 0 _ _ _ rV19_.out
        have V_1_ : (w6).cell? ⟨w2.heap.size, 1, none⟩ = some (.int .i64 s) := cell_of_row _ _ 1 _ _ _ rV19_.out
        have V_2_ : (w6).cell? ⟨w2.heap.size, 2, none⟩ = some (.int .i64 (c : Int)) := cell_of_row _ _ 2 _ _ _ rV19_.out
        have hcr : (c : Int) ≤ (R : Int) := by omega
        have hcr2 : decide ((c : Int) ≤ (R : Int)) = true := decide_eq_true hcr
        have hcr3 : decide (c ≤ R) = true := decide_eq_true (by omega)
        have hcc : ((c : Int) == (c : Int)) = true := by simp
        go_wp2
        go_ret
        exact ⟨rfl, gby_below G20_.out⟩
      have hki : (k : Int) < (c : Int) := by omega
      obtain ⟨xb, xo, rfl, hcx⟩ := HI.out.resolve_left (by omega)
      have HCX := Lib.hid hcx
      obtain ⟨x, hx⟩ : ∃ x, x = b + a + (k : Int) * s := ⟨_, rfl⟩
      have hvin := all_in b0 b1 HV.out HA.out hlt
      have HHIT := Lib.hid (show Hit b a s (c : Int) x k from ⟨hvin, hx.symm⟩)
      have HVID := Lib.hid (show vidN b a s (c : Int) (k : Int) x from .inl ⟨hvin, hx⟩)
      have xk_ := (HTX14_.out).cell (hcx k hlt) (by simp)
      rw [vids_at _ _ _ _ _ hlt, ← hx] at xk_
      have hks := mul_bound (s := s) hk0 (by omega) v2.1 v2.2
      have hxb : ¬ x ≤ b := by omega
      have hxb2 : decide (x ≤ b) = false := decide_eq_false hxb
      have hkk : ((k : Int) != (k : Int)) = false := by simp
      have hxx : (x != x) = false := by simp
      clear hcx hvin
      by_cases k0 : k = 0
      · have hgt : ¬ (0 : Int) < (k : Int) := by omega
        have hgd : decide ((0 : Int) < (k : Int)) = false := decide_eq_false hgt
        have hgd2 : decide (0 < k) = false := decide_eq_false (by omega)
        clear k0 hx
        go_wp2_with fail
        refine wp_region_held_drew (S := fun w' => w'.cell? ⟨w2.heap.size, 0, none⟩ = some (.int .i64 a) ∧ w'.cell? ⟨w2.heap.size, 1, none⟩ = some (.int .i64 s) ∧ w'.cell? ⟨w2.heap.size, 2, none⟩ = some (.int .i64 (c : Int)) ∧ w'.cell? ⟨xb, xo + k, none⟩ = some (.int .i64 x)) (by kernel_rfl) (by (try dsimp only); exact ⟨V_0_, V_1_, V_2_, xk_⟩) (fun hHeld => ?_)
        refine wpAnyH_take (i := 0) (oi := { dst := some 36, op := Op.move (Operand.tmp 3), type := 3, pos := "laws.go:1220", after := #[], guard := none }) (v := ?v0_1) rfl (by kernel_rfl) (by kernel_rfl) (by kernel_rfl) (fun _ _ _ h => h) (Or.inl ⟨by rfl, ?y0_1⟩) (by assumption) ?r0_1
        case y0_1 => (intro w hSw; (try dsimp only at hSw); go_simp; all_goals (with_reducible rfl))
        try simp only [Act.put, List.setIfInBounds_toArray, List.set_cons_zero, List.set_cons_succ]
        refine wpAnyH_take (i := 1) (oi := { dst := some 37, op := Op.load 48 (Operand.tmp 4), type := 48, pos := "laws.go:1220", after := #[], guard := none }) (v := ?v1_1) rfl (by kernel_rfl) (by kernel_rfl) (by kernel_rfl) (fun _ _ _ h => h) (Or.inl ⟨by rfl, ?y1_1⟩) (by assumption) ?r1_1
        case y1_1 => (intro w hSw; (try dsimp only at hSw); go_simp; all_goals (with_reducible rfl))
        try simp only [Act.put, List.setIfInBounds_toArray, List.set_cons_zero, List.set_cons_succ]
        refine wpAnyH_take (i := 2) (oi := { dst := some 38, op := Op.move (Operand.tmp 5), type := 23, pos := "laws.go:1220", after := #[], guard := none }) (v := ?v2_1) rfl (by kernel_rfl) (by kernel_rfl) (by kernel_rfl) (fun _ _ _ h => h) (Or.inl ⟨by rfl, ?y2_1⟩) (by assumption) ?r2_1
        case y2_1 => (intro w hSw; (try dsimp only at hSw); go_simp; all_goals (with_reducible rfl))
        try simp only [Act.put, List.setIfInBounds_toArray, List.set_cons_zero, List.set_cons_succ]
        refine wpAnyH_take (i := 3) (oi := { dst := some 39, op := Op.move (Operand.tmp 8), type := 3, pos := "laws.go:1220", after := #[], guard := none }) (v := ?v3_1) rfl (by kernel_rfl) (by kernel_rfl) (by kernel_rfl) (fun _ _ _ h => h) (Or.inl ⟨by rfl, ?y3_1⟩) (by assumption) ?r3_1
        case y3_1 => (intro w hSw; (try dsimp only at hSw); go_simp; all_goals (with_reducible rfl))
        try simp only [Act.put, List.setIfInBounds_toArray, List.set_cons_zero, List.set_cons_succ]
        refine wpAnyH_take (i := 4) (oi := { dst := some 40, op := Op.indexAddr 23 (Operand.tmp 38) (Operand.tmp 39), type := 0, pos := "laws.go:1220", after := #[{ on := 2, ground := Ground.data }, { on := 3, ground := Ground.data }], guard := none }) (v := ?v4_1) rfl (by kernel_rfl) (by kernel_rfl) (by kernel_rfl) (fun _ _ _ h => h) (Or.inl ⟨by rfl, ?y4_1⟩) (by assumption) ?r4_1
        case y4_1 => (intro w hSw; (try dsimp only at hSw); go_simp; all_goals (with_reducible rfl))
        try simp only [Act.put, List.setIfInBounds_toArray, List.set_cons_zero, List.set_cons_succ]
        refine wpAnyH_take (i := 5) (oi := { dst := some 41, op := Op.load 3 (Operand.tmp 40), type := 3, pos := "laws.go:1220", after := #[{ on := 4, ground := Ground.data }], guard := none }) (v := ?v5_1) rfl (by kernel_rfl) (by kernel_rfl) (by kernel_rfl) (fun _ _ _ h => h) (Or.inl ⟨by rfl, ?y5_1⟩) (by assumption) ?r5_1
        case y5_1 => (intro w hSw; (try dsimp only at hSw); go_simp; all_goals (with_reducible rfl))
        try simp only [Act.put, List.setIfInBounds_toArray, List.set_cons_zero, List.set_cons_succ]
        refine wpAnyH_take (i := 7) (oi := { dst := some 43, op := Op.move (Operand.tmp 8), type := 3, pos := "laws.go:1220", after := #[], guard := none }) (v := ?v7_1) rfl (by kernel_rfl) (by kernel_rfl) (by kernel_rfl) (fun _ _ _ h => h) (Or.inl ⟨by rfl, ?y7_1⟩) (by assumption) ?r7_1
        case y7_1 => (intro w hSw; (try dsimp only at hSw); go_simp; all_goals (with_reducible rfl))
        try simp only [Act.put, List.setIfInBounds_toArray, List.set_cons_zero, List.set_cons_succ]
        refine wpAnyH_ready (rs := [6]) (by kernel_rfl) (by simp) ?_
        refine AllReadyH.cons (o := { dst := some 42, op := Op.call { callee := Callee.value (Operand.func 35), args := #[Operand.tmp 36, Operand.tmp 37, Operand.tmp 41], argTypes := #[3, 48, 3] }, type := 3, pos := "laws.go:1220", after := #[{ on := 0, ground := Ground.data }, { on := 1, ground := Ground.data }, { on := 5, ground := Ground.data }], guard := none }) rfl (fun K hK => ?_) AllReadyH.nil
        go_simp
        go_at_call 35
        refine (implOwn_yes b a s (c : Int) x _ k HHIT.out).mono ?_
        rintro e wA ⟨rfl, gA⟩
        have mV_0_ : wA.cell? _ = some _ := gA.cell V_0_ (by simp); have mV_1_ : wA.cell? _ = some _ := gA.cell V_1_ (by simp); have mV_2_ : wA.cell? _ = some _ := gA.cell V_2_ (by simp); have mxk_ : wA.cell? _ = some _ := gA.cell xk_ (by simp)
        go_wp2_with fail
        clear hHeld
        refine hK.out _ _ ?s6_1 (fun hHeld => ?_)
        case s6_1 => exact ⟨mV_0_, mV_1_, mV_2_, mxk_⟩
        clear hK K
        try simp only [Act.put, List.setIfInBounds_toArray, List.set_cons_zero, List.set_cons_succ]
        refine wpAnyH_take (i := 8) (oi := { dst := some 44, op := Op.binOp BinOp.neq 3 (Operand.tmp 42) (Operand.tmp 43) 3, type := 4, pos := "laws.go:1220", after := #[{ on := 6, ground := Ground.data }, { on := 7, ground := Ground.data }], guard := none }) (v := ?v8_1) rfl (by kernel_rfl) (by kernel_rfl) (by kernel_rfl) (fun _ _ _ h => h) (Or.inl ⟨by rfl, ?y8_1⟩) (by assumption) ?r8_1
        case y8_1 => (intro w hSw; (try dsimp only at hSw); go_simp; all_goals (with_reducible rfl))
        try simp only [Act.put, List.setIfInBounds_toArray, List.set_cons_zero, List.set_cons_succ]
        refine wpAnyH_take (i := 9) (oi := { dst := some 45, op := Op.move (Operand.tmp 44), type := 4, pos := "laws.go:1220", after := #[{ on := 8, ground := Ground.data }, { on := 6, ground := Ground.chain }], guard := none }) (v := ?v9_1) rfl (by kernel_rfl) (by kernel_rfl) (by kernel_rfl) (fun _ _ _ h => h) (Or.inl ⟨by rfl, ?y9_1⟩) (by assumption) ?r9_1
        case y9_1 => (intro w hSw; (try dsimp only at hSw); go_simp; all_goals (with_reducible rfl))
        try simp only [Act.put, List.setIfInBounds_toArray, List.set_cons_zero, List.set_cons_succ]
        refine wpAnyH_take (i := 10) (oi := { dst := some 46, op := Op.move (Operand.tmp 3), type := 3, pos := "laws.go:1220", after := #[{ on := 9, ground := Ground.guard }], guard := some (9, false) }) (v := ?v10_1) rfl (by kernel_rfl) (by kernel_rfl) (by kernel_rfl) (fun _ _ _ h => h) (Or.inl ⟨by rfl, ?y10_1⟩) (by assumption) ?r10_1
        case y10_1 => (intro w hSw; (try dsimp only at hSw); go_simp; all_goals (with_reducible rfl))
        try simp only [Act.put, List.setIfInBounds_toArray, List.set_cons_zero, List.set_cons_succ]
        refine wpAnyH_take (i := 11) (oi := { dst := some 47, op := Op.load 48 (Operand.tmp 4), type := 48, pos := "laws.go:1220", after := #[{ on := 9, ground := Ground.guard }], guard := some (9, false) }) (v := ?v11_1) rfl (by kernel_rfl) (by kernel_rfl) (by kernel_rfl) (fun _ _ _ h => h) (Or.inl ⟨by rfl, ?y11_1⟩) (by assumption) ?r11_1
        case y11_1 => (intro w hSw; (try dsimp only at hSw); go_simp; all_goals (with_reducible rfl))
        try simp only [Act.put, List.setIfInBounds_toArray, List.set_cons_zero, List.set_cons_succ]
        refine wpAnyH_take (i := 12) (oi := { dst := some 48, op := Op.move (Operand.tmp 8), type := 3, pos := "laws.go:1220", after := #[{ on := 9, ground := Ground.guard }], guard := some (9, false) }) (v := ?v12_1) rfl (by kernel_rfl) (by kernel_rfl) (by kernel_rfl) (fun _ _ _ h => h) (Or.inl ⟨by rfl, ?y12_1⟩) (by assumption) ?r12_1
        case y12_1 => (intro w hSw; (try dsimp only at hSw); go_simp; all_goals (with_reducible rfl))
        try simp only [Act.put, List.setIfInBounds_toArray, List.set_cons_zero, List.set_cons_succ]
        refine wpAnyH_take (i := 14) (oi := { dst := some 50, op := Op.move (Operand.tmp 5), type := 23, pos := "laws.go:1220", after := #[{ on := 9, ground := Ground.guard }], guard := some (9, false) }) (v := ?v14_1) rfl (by kernel_rfl) (by kernel_rfl) (by kernel_rfl) (fun _ _ _ h => h) (Or.inl ⟨by rfl, ?y14_1⟩) (by assumption) ?r14_1
        case y14_1 => (intro w hSw; (try dsimp only at hSw); go_simp; all_goals (with_reducible rfl))
        try simp only [Act.put, List.setIfInBounds_toArray, List.set_cons_zero, List.set_cons_succ]
        refine wpAnyH_take (i := 15) (oi := { dst := some 51, op := Op.move (Operand.tmp 8), type := 3, pos := "laws.go:1220", after := #[{ on := 9, ground := Ground.guard }], guard := some (9, false) }) (v := ?v15_1) rfl (by kernel_rfl) (by kernel_rfl) (by kernel_rfl) (fun _ _ _ h => h) (Or.inl ⟨by rfl, ?y15_1⟩) (by assumption) ?r15_1
        case y15_1 => (intro w hSw; (try dsimp only at hSw); go_simp; all_goals (with_reducible rfl))
        try simp only [Act.put, List.setIfInBounds_toArray, List.set_cons_zero, List.set_cons_succ]
        refine wpAnyH_take (i := 16) (oi := { dst := some 52, op := Op.indexAddr 23 (Operand.tmp 50) (Operand.tmp 51), type := 0, pos := "laws.go:1220", after := #[{ on := 14, ground := Ground.data }, { on := 15, ground := Ground.data }, { on := 9, ground := Ground.guard }], guard := some (9, false) }) (v := ?v16_1) rfl (by kernel_rfl) (by kernel_rfl) (by kernel_rfl) (fun _ _ _ h => h) (Or.inl ⟨by rfl, ?y16_1⟩) (by assumption) ?r16_1
        case y16_1 => (intro w hSw; (try dsimp only at hSw); go_simp; all_goals (with_reducible rfl))
        try simp only [Act.put, List.setIfInBounds_toArray, List.set_cons_zero, List.set_cons_succ]
        refine wpAnyH_take (i := 17) (oi := { dst := some 53, op := Op.load 3 (Operand.tmp 52), type := 3, pos := "laws.go:1220", after := #[{ on := 16, ground := Ground.data }, { on := 9, ground := Ground.guard }], guard := some (9, false) }) (v := ?v17_1) rfl (by kernel_rfl) (by kernel_rfl) (by kernel_rfl) (fun _ _ _ h => h) (Or.inl ⟨by rfl, ?y17_1⟩) (by assumption) ?r17_1
        case y17_1 => (intro w hSw; (try dsimp only at hSw); go_simp; all_goals (with_reducible rfl))
        try simp only [Act.put, List.setIfInBounds_toArray, List.set_cons_zero, List.set_cons_succ]
        refine wpAnyH_ready (rs := [13]) (by kernel_rfl) (by simp) ?_
        refine AllReadyH.cons (o := { dst := some 49, op := Op.call { callee := Callee.value (Operand.func 36), args := #[Operand.tmp 46, Operand.tmp 47, Operand.tmp 48], argTypes := #[3, 48, 3] }, type := 3, pos := "laws.go:1220", after := #[{ on := 10, ground := Ground.data }, { on := 11, ground := Ground.data }, { on := 12, ground := Ground.data }, { on := 9, ground := Ground.chain }, { on := 9, ground := Ground.guard }], guard := some (9, false) }) rfl (fun K hK => ?_) AllReadyH.nil
        go_simp
        go_at_call 36
        refine (implVId_any b a s (c : Int) (k : Int) x HVID.out _).mono ?_
        rintro e wB ⟨rfl, gB⟩
        have nV_0_ : wB.cell? _ = some _ := gB.cell mV_0_ (by simp); have nV_1_ : wB.cell? _ = some _ := gB.cell mV_1_ (by simp); have nV_2_ : wB.cell? _ = some _ := gB.cell mV_2_ (by simp); have nxk_ : wB.cell? _ = some _ := gB.cell mxk_ (by simp)
        go_wp2_with fail
        clear hHeld
        refine hK.out _ _ ?s13_1 (fun hHeld => ?_)
        case s13_1 => exact ⟨nV_0_, nV_1_, nV_2_, nxk_⟩
        clear hK K
        try simp only [Act.put, List.setIfInBounds_toArray, List.set_cons_zero, List.set_cons_succ]
        refine wpAnyH_take (i := 18) (oi := { dst := some 54, op := Op.binOp BinOp.neq 3 (Operand.tmp 49) (Operand.tmp 53) 3, type := 4, pos := "laws.go:1220", after := #[{ on := 13, ground := Ground.data }, { on := 17, ground := Ground.data }, { on := 9, ground := Ground.guard }], guard := some (9, false) }) (v := ?v18_1) rfl (by kernel_rfl) (by kernel_rfl) (by kernel_rfl) (fun _ _ _ h => h) (Or.inl ⟨by rfl, ?y18_1⟩) (by assumption) ?r18_1
        case y18_1 => (intro w hSw; (try dsimp only at hSw); go_simp; all_goals (with_reducible rfl))
        try simp only [Act.put, List.setIfInBounds_toArray, List.set_cons_zero, List.set_cons_succ]
        refine wpAnyH_take (i := 19) (oi := { dst := some 55, op := Op.pick (Operand.tmp 45) (Operand.const (Value.bool true)) (Operand.tmp 54), type := 4, pos := "laws.go:1220", after := #[{ on := 9, ground := Ground.data }, { on := 18, ground := Ground.data }], guard := none }) (v := ?v19_1) rfl (by kernel_rfl) (by kernel_rfl) (by kernel_rfl) (fun _ _ _ h => h) (Or.inl ⟨by rfl, ?y19_1⟩) (by assumption) ?r19_1
        case y19_1 => (intro w hSw; (try dsimp only at hSw); go_simp; all_goals (with_reducible rfl))
        try simp only [Act.put, List.setIfInBounds_toArray, List.set_cons_zero, List.set_cons_succ]
        refine wpAnyH_take (i := 20) (oi := { dst := some 56, op := Op.move (Operand.tmp 55), type := 4, pos := "laws.go:1220", after := #[{ on := 19, ground := Ground.data }, { on := 13, ground := Ground.chain }], guard := none }) (v := ?v20_1) rfl (by kernel_rfl) (by kernel_rfl) (by kernel_rfl) (fun _ _ _ h => h) (Or.inl ⟨by rfl, ?y20_1⟩) (by assumption) ?r20_1
        case y20_1 => (intro w hSw; (try dsimp only at hSw); go_simp; all_goals (with_reducible rfl))
        try simp only [Act.put, List.setIfInBounds_toArray, List.set_cons_zero, List.set_cons_succ]
        refine wpAnyH_take (i := 21) (oi := { dst := some 57, op := Op.move (Operand.tmp 8), type := 3, pos := "laws.go:1220", after := #[{ on := 20, ground := Ground.guard }], guard := some (20, false) }) (v := ?v21_1) rfl (by kernel_rfl) (by kernel_rfl) (by kernel_rfl) (fun _ _ _ h => h) (Or.inl ⟨by rfl, ?y21_1⟩) (by assumption) ?r21_1
        case y21_1 => (intro w hSw; (try dsimp only at hSw); go_simp; all_goals (with_reducible rfl))
        try simp only [Act.put, List.setIfInBounds_toArray, List.set_cons_zero, List.set_cons_succ]
        refine wpAnyH_take (i := 22) (oi := { dst := some 58, op := Op.binOp BinOp.gtr 3 (Operand.tmp 57) (Operand.const (Value.int IntKind.i64 0)) 3, type := 4, pos := "laws.go:1220", after := #[{ on := 21, ground := Ground.data }, { on := 20, ground := Ground.guard }], guard := some (20, false) }) (v := ?v22_1) rfl (by kernel_rfl) (by kernel_rfl) (by kernel_rfl) (fun _ _ _ h => h) (Or.inl ⟨by rfl, ?y22_1⟩) (by assumption) ?r22_1
        case y22_1 => (intro w hSw; (try dsimp only at hSw); go_simp; all_goals (with_reducible rfl))
        try simp only [Act.put, List.setIfInBounds_toArray, List.set_cons_zero, List.set_cons_succ]
        refine wpAnyH_take (i := 23) (oi := { dst := some 59, op := Op.move (Operand.tmp 58), type := 4, pos := "laws.go:1220", after := #[{ on := 22, ground := Ground.data }, { on := 20, ground := Ground.chain }, { on := 20, ground := Ground.guard }], guard := some (20, false) }) (v := ?v23_1) rfl (by kernel_rfl) (by kernel_rfl) (by kernel_rfl) (fun _ _ _ h => h) (Or.inl ⟨by rfl, ?y23_1⟩) (by assumption) ?r23_1
        case y23_1 => (intro w hSw; (try dsimp only at hSw); go_simp; all_goals (with_reducible rfl))
        try simp only [Act.put, List.setIfInBounds_toArray, List.set_cons_zero, List.set_cons_succ]
        refine wpAnyH_take (i := 24) (oi := { dst := some 60, op := Op.move (Operand.tmp 5), type := 23, pos := "laws.go:1220", after := #[{ on := 23, ground := Ground.guard }], guard := some (23, true) }) (v := undef) rfl (by kernel_rfl) (by kernel_rfl) (by kernel_rfl) (fun _ _ _ h => h) (Or.inr ⟨by rfl, rfl⟩) (by assumption) ?r24_1
        try simp only [Act.put, List.setIfInBounds_toArray, List.set_cons_zero, List.set_cons_succ]
        refine wpAnyH_take (i := 25) (oi := { dst := some 61, op := Op.move (Operand.tmp 8), type := 3, pos := "laws.go:1220", after := #[{ on := 23, ground := Ground.guard }], guard := some (23, true) }) (v := undef) rfl (by kernel_rfl) (by kernel_rfl) (by kernel_rfl) (fun _ _ _ h => h) (Or.inr ⟨by rfl, rfl⟩) (by assumption) ?r25_1
        try simp only [Act.put, List.setIfInBounds_toArray, List.set_cons_zero, List.set_cons_succ]
        refine wpAnyH_take (i := 26) (oi := { dst := some 62, op := Op.indexAddr 23 (Operand.tmp 60) (Operand.tmp 61), type := 0, pos := "laws.go:1220", after := #[{ on := 24, ground := Ground.data }, { on := 25, ground := Ground.data }, { on := 23, ground := Ground.guard }], guard := some (23, true) }) (v := undef) rfl (by kernel_rfl) (by kernel_rfl) (by kernel_rfl) (fun _ _ _ h => h) (Or.inr ⟨by rfl, rfl⟩) (by assumption) ?r26_1
        try simp only [Act.put, List.setIfInBounds_toArray, List.set_cons_zero, List.set_cons_succ]
        refine wpAnyH_take (i := 27) (oi := { dst := some 63, op := Op.load 3 (Operand.tmp 62), type := 3, pos := "laws.go:1220", after := #[{ on := 26, ground := Ground.data }, { on := 23, ground := Ground.guard }], guard := some (23, true) }) (v := undef) rfl (by kernel_rfl) (by kernel_rfl) (by kernel_rfl) (fun _ _ _ h => h) (Or.inr ⟨by rfl, rfl⟩) (by assumption) ?r27_1
        try simp only [Act.put, List.setIfInBounds_toArray, List.set_cons_zero, List.set_cons_succ]
        refine wpAnyH_take (i := 28) (oi := { dst := some 64, op := Op.move (Operand.tmp 5), type := 23, pos := "laws.go:1220", after := #[{ on := 23, ground := Ground.guard }], guard := some (23, true) }) (v := undef) rfl (by kernel_rfl) (by kernel_rfl) (by kernel_rfl) (fun _ _ _ h => h) (Or.inr ⟨by rfl, rfl⟩) (by assumption) ?r28_1
        try simp only [Act.put, List.setIfInBounds_toArray, List.set_cons_zero, List.set_cons_succ]
        refine wpAnyH_take (i := 29) (oi := { dst := some 65, op := Op.move (Operand.tmp 8), type := 3, pos := "laws.go:1220", after := #[{ on := 23, ground := Ground.guard }], guard := some (23, true) }) (v := undef) rfl (by kernel_rfl) (by kernel_rfl) (by kernel_rfl) (fun _ _ _ h => h) (Or.inr ⟨by rfl, rfl⟩) (by assumption) ?r29_1
        try simp only [Act.put, List.setIfInBounds_toArray, List.set_cons_zero, List.set_cons_succ]
        refine wpAnyH_take (i := 30) (oi := { dst := some 66, op := Op.binOp BinOp.sub 3 (Operand.tmp 65) (Operand.const (Value.int IntKind.i64 1)) 3, type := 3, pos := "laws.go:1220", after := #[{ on := 29, ground := Ground.data }, { on := 23, ground := Ground.guard }], guard := some (23, true) }) (v := undef) rfl (by kernel_rfl) (by kernel_rfl) (by kernel_rfl) (fun _ _ _ h => h) (Or.inr ⟨by rfl, rfl⟩) (by assumption) ?r30_1
        try simp only [Act.put, List.setIfInBounds_toArray, List.set_cons_zero, List.set_cons_succ]
        refine wpAnyH_take (i := 31) (oi := { dst := some 67, op := Op.indexAddr 23 (Operand.tmp 64) (Operand.tmp 66), type := 0, pos := "laws.go:1220", after := #[{ on := 28, ground := Ground.data }, { on := 30, ground := Ground.data }, { on := 23, ground := Ground.guard }], guard := some (23, true) }) (v := undef) rfl (by kernel_rfl) (by kernel_rfl) (by kernel_rfl) (fun _ _ _ h => h) (Or.inr ⟨by rfl, rfl⟩) (by assumption) ?r31_1
        try simp only [Act.put, List.setIfInBounds_toArray, List.set_cons_zero, List.set_cons_succ]
        refine wpAnyH_take (i := 32) (oi := { dst := some 68, op := Op.load 3 (Operand.tmp 67), type := 3, pos := "laws.go:1220", after := #[{ on := 31, ground := Ground.data }, { on := 23, ground := Ground.guard }], guard := some (23, true) }) (v := undef) rfl (by kernel_rfl) (by kernel_rfl) (by kernel_rfl) (fun _ _ _ h => h) (Or.inr ⟨by rfl, rfl⟩) (by assumption) ?r32_1
        try simp only [Act.put, List.setIfInBounds_toArray, List.set_cons_zero, List.set_cons_succ]
        refine wpAnyH_take (i := 33) (oi := { dst := some 69, op := Op.binOp BinOp.leq 3 (Operand.tmp 63) (Operand.tmp 68) 3, type := 4, pos := "laws.go:1220", after := #[{ on := 27, ground := Ground.data }, { on := 32, ground := Ground.data }, { on := 23, ground := Ground.guard }], guard := some (23, true) }) (v := undef) rfl (by kernel_rfl) (by kernel_rfl) (by kernel_rfl) (fun _ _ _ h => h) (Or.inr ⟨by rfl, rfl⟩) (by assumption) ?r33_1
        try simp only [Act.put, List.setIfInBounds_toArray, List.set_cons_zero, List.set_cons_succ]
        refine wpAnyH_take (i := 34) (oi := { dst := some 70, op := Op.pick (Operand.tmp 59) (Operand.tmp 69) (Operand.const (Value.bool false)), type := 4, pos := "laws.go:1220", after := #[{ on := 23, ground := Ground.data }, { on := 33, ground := Ground.data }, { on := 20, ground := Ground.guard }], guard := some (20, false) }) (v := ?v34_1) rfl (by kernel_rfl) (by kernel_rfl) (by kernel_rfl) (fun _ _ _ h => h) (Or.inl ⟨by rfl, ?y34_1⟩) (by assumption) ?r34_1
        case y34_1 => (intro w hSw; (try dsimp only at hSw); go_simp; all_goals (with_reducible rfl))
        try simp only [Act.put, List.setIfInBounds_toArray, List.set_cons_zero, List.set_cons_succ]
        refine wpAnyH_take (i := 35) (oi := { dst := some 71, op := Op.pick (Operand.tmp 56) (Operand.const (Value.bool true)) (Operand.tmp 70), type := 4, pos := "laws.go:1220", after := #[{ on := 20, ground := Ground.data }, { on := 34, ground := Ground.data }], guard := none }) (v := ?v35_1) rfl (by kernel_rfl) (by kernel_rfl) (by kernel_rfl) (fun _ _ _ h => h) (Or.inl ⟨by rfl, ?y35_1⟩) (by assumption) ?r35_1
        case y35_1 => (intro w hSw; (try dsimp only at hSw); go_simp; all_goals (with_reducible rfl))
        try simp only [Act.put, List.setIfInBounds_toArray, List.set_cons_zero, List.set_cons_succ]
        refine wpAnyH_take (i := 36) (oi := { dst := some 72, op := Op.move (Operand.tmp 71), type := 4, pos := "laws.go:1220", after := #[{ on := 35, ground := Ground.data }, { on := 23, ground := Ground.chain }], guard := none }) (v := ?v36_1) rfl (by kernel_rfl) (by kernel_rfl) (by kernel_rfl) (fun _ _ _ h => h) (Or.inl ⟨by rfl, ?y36_1⟩) (by assumption) ?r36_1
        case y36_1 => (intro w hSw; (try dsimp only at hSw); go_simp; all_goals (with_reducible rfl))
        try simp only [Act.put, List.setIfInBounds_toArray, List.set_cons_zero, List.set_cons_succ]
        refine wpAnyH_take (i := 37) (oi := { dst := some 73, op := Op.move (Operand.tmp 5), type := 23, pos := "laws.go:1220", after := #[{ on := 36, ground := Ground.guard }], guard := some (36, false) }) (v := ?v37_1) rfl (by kernel_rfl) (by kernel_rfl) (by kernel_rfl) (fun _ _ _ h => h) (Or.inl ⟨by rfl, ?y37_1⟩) (by assumption) ?r37_1
        case y37_1 => (intro w hSw; (try dsimp only at hSw); go_simp; all_goals (with_reducible rfl))
        try simp only [Act.put, List.setIfInBounds_toArray, List.set_cons_zero, List.set_cons_succ]
        refine wpAnyH_take (i := 38) (oi := { dst := some 74, op := Op.move (Operand.tmp 8), type := 3, pos := "laws.go:1220", after := #[{ on := 36, ground := Ground.guard }], guard := some (36, false) }) (v := ?v38_1) rfl (by kernel_rfl) (by kernel_rfl) (by kernel_rfl) (fun _ _ _ h => h) (Or.inl ⟨by rfl, ?y38_1⟩) (by assumption) ?r38_1
        case y38_1 => (intro w hSw; (try dsimp only at hSw); go_simp; all_goals (with_reducible rfl))
        try simp only [Act.put, List.setIfInBounds_toArray, List.set_cons_zero, List.set_cons_succ]
        refine wpAnyH_take (i := 39) (oi := { dst := some 75, op := Op.indexAddr 23 (Operand.tmp 73) (Operand.tmp 74), type := 0, pos := "laws.go:1220", after := #[{ on := 37, ground := Ground.data }, { on := 38, ground := Ground.data }, { on := 36, ground := Ground.guard }], guard := some (36, false) }) (v := ?v39_1) rfl (by kernel_rfl) (by kernel_rfl) (by kernel_rfl) (fun _ _ _ h => h) (Or.inl ⟨by rfl, ?y39_1⟩) (by assumption) ?r39_1
        case y39_1 => (intro w hSw; (try dsimp only at hSw); go_simp; all_goals (with_reducible rfl))
        try simp only [Act.put, List.setIfInBounds_toArray, List.set_cons_zero, List.set_cons_succ]
        refine wpAnyH_take (i := 40) (oi := { dst := some 76, op := Op.load 3 (Operand.tmp 75), type := 3, pos := "laws.go:1220", after := #[{ on := 39, ground := Ground.data }, { on := 36, ground := Ground.guard }], guard := some (36, false) }) (v := ?v40_1) rfl (by kernel_rfl) (by kernel_rfl) (by kernel_rfl) (fun _ _ _ h => h) (Or.inl ⟨by rfl, ?y40_1⟩) (by assumption) ?r40_1
        case y40_1 => (intro w hSw; (try dsimp only at hSw); go_simp; all_goals (with_reducible rfl))
        try simp only [Act.put, List.setIfInBounds_toArray, List.set_cons_zero, List.set_cons_succ]
        refine wpAnyH_take (i := 41) (oi := { dst := some 77, op := Op.move (Operand.tmp 3), type := 3, pos := "laws.go:1220", after := #[{ on := 36, ground := Ground.guard }], guard := some (36, false) }) (v := ?v41_1) rfl (by kernel_rfl) (by kernel_rfl) (by kernel_rfl) (fun _ _ _ h => h) (Or.inl ⟨by rfl, ?y41_1⟩) (by assumption) ?r41_1
        case y41_1 => (intro w hSw; (try dsimp only at hSw); go_simp; all_goals (with_reducible rfl))
        try simp only [Act.put, List.setIfInBounds_toArray, List.set_cons_zero, List.set_cons_succ]
        refine wpAnyH_take (i := 42) (oi := { dst := some 78, op := Op.binOp BinOp.leq 3 (Operand.tmp 76) (Operand.tmp 77) 3, type := 4, pos := "laws.go:1220", after := #[{ on := 40, ground := Ground.data }, { on := 41, ground := Ground.data }, { on := 36, ground := Ground.guard }], guard := some (36, false) }) (v := ?v42_1) rfl (by kernel_rfl) (by kernel_rfl) (by kernel_rfl) (fun _ _ _ h => h) (Or.inl ⟨by rfl, ?y42_1⟩) (by assumption) ?r42_1
        case y42_1 => (intro w hSw; (try dsimp only at hSw); go_simp; all_goals (with_reducible rfl))
        try simp only [Act.put, List.setIfInBounds_toArray, List.set_cons_zero, List.set_cons_succ]
        refine wpAnyH_take (i := 43) (oi := { dst := some 79, op := Op.pick (Operand.tmp 72) (Operand.const (Value.bool true)) (Operand.tmp 78), type := 4, pos := "laws.go:1220", after := #[{ on := 36, ground := Ground.data }, { on := 42, ground := Ground.data }], guard := none }) (v := ?v43_1) rfl (by kernel_rfl) (by kernel_rfl) (by kernel_rfl) (fun _ _ _ h => h) (Or.inl ⟨by rfl, ?y43_1⟩) (by assumption) ?r43_1
        case y43_1 => (intro w hSw; (try dsimp only at hSw); go_simp; all_goals (with_reducible rfl))
        try simp only [Act.put, List.setIfInBounds_toArray, List.set_cons_zero, List.set_cons_succ]
        refine wpAnyH_done (by kernel_rfl) ?_ _
        have g : (wr).grownBy wB none := gby_trans (gby_trans (gby_drew (gby_refl _ _)) gA) gB
        clear gA gB mV_0_ mV_1_ mV_2_ mxk_ nV_0_ nV_1_ nV_2_ nxk_ xk_
        clear V_0_ V_1_ V_2_
        have rV15_ := Lib.hid (show (wB).heap[w2.heap.size]? = some (.cells #[.int .i64 a, .int .i64 s, .int .i64 (c : Int)] 48 (0, 0)) from row_held g rV12_.out)
        clear rV12_
        have G16_ := Lib.hid (show (W).grownBy (wB) none from gby_trans G13_.out g)
        have HTX17_ := Lib.hid (show (w3).grownBy (wB) none from gby_trans HTX14_.out g)
        clear HTX14_
        have HTB18_ := Lib.hid (show (w4).grownBy (wB) none from gby_trans HTB_.out g)
        clear HTB_
        clear g
        go_wp2
        refine ⟨⟨k + 1, by go_num, by omega, by repeat (first | exact HTB18_.out | with_reducible refine gby_drewN ?_ _)⟩, by simp [intOf]; omega⟩
      have hgt : (0 : Int) < (k : Int) := by omega
      have hgd : decide ((0 : Int) < (k : Int)) = true := decide_eq_true hgt
      have hgd2 : decide (0 < k) = true := decide_eq_true (by omega)
      obtain ⟨j, hj⟩ : ∃ j, j = k - 1 := ⟨_, rfl⟩
      have hjw : IntKind.i64.wrap ((k : Int) - 1) = (j : Int) := by rw [show (k : Int) - 1 = (j : Int) by omega]; exact IntWalk.i64_in _ (by omega)
      have hjw2 : (k : Int) - 1 = (j : Int) := by omega
      have hjw3 : IntKind.i64.wrap (j : Int) = (j : Int) := IntWalk.i64_in _ (by omega)
      have hj0 : (0 : Int) ≤ (j : Int) := by omega
      have htj : ((j : Int)).toNat = j := by omega
      have hji : (j : Int) < (c : Int) := by omega
      obtain ⟨y, hy⟩ : ∃ y, y = b + a + (j : Int) * s := ⟨_, rfl⟩
      have xj_ := (HTX14_.out).cell (HCX.out j (by omega)) (by simp)
      rw [vids_at _ _ _ _ _ (show j < c by omega), ← hy] at xj_
      have hxy : ¬ x ≤ y := by
        have e1 : (k : Int) * s = (j : Int) * s + s := by rw [show (k : Int) = (j : Int) + 1 by omega, Int.add_mul, Int.one_mul]
        omega
      have hxy2 : decide (x ≤ y) = false := decide_eq_false hxy
      clear hj hy hx k0
      go_wp2_with fail
      refine wp_region_held_drew (S := fun w' => w'.cell? ⟨w2.heap.size, 0, none⟩ = some (.int .i64 a) ∧ w'.cell? ⟨w2.heap.size, 1, none⟩ = some (.int .i64 s) ∧ w'.cell? ⟨w2.heap.size, 2, none⟩ = some (.int .i64 (c : Int)) ∧ w'.cell? ⟨xb, xo + k, none⟩ = some (.int .i64 x) ∧ w'.cell? ⟨xb, xo + j, none⟩ = some (.int .i64 y)) (by kernel_rfl) (by (try dsimp only); exact ⟨V_0_, V_1_, V_2_, xk_, xj_⟩) (fun hHeld => ?_)
      refine wpAnyH_take (i := 0) (oi := { dst := some 36, op := Op.move (Operand.tmp 3), type := 3, pos := "laws.go:1220", after := #[], guard := none }) (v := ?v0_2) rfl (by kernel_rfl) (by kernel_rfl) (by kernel_rfl) (fun _ _ _ h => h) (Or.inl ⟨by rfl, ?y0_2⟩) (by assumption) ?r0_2
      case y0_2 => (intro w hSw; (try dsimp only at hSw); go_simp; all_goals (with_reducible rfl))
      try simp only [Act.put, List.setIfInBounds_toArray, List.set_cons_zero, List.set_cons_succ]
      refine wpAnyH_take (i := 1) (oi := { dst := some 37, op := Op.load 48 (Operand.tmp 4), type := 48, pos := "laws.go:1220", after := #[], guard := none }) (v := ?v1_2) rfl (by kernel_rfl) (by kernel_rfl) (by kernel_rfl) (fun _ _ _ h => h) (Or.inl ⟨by rfl, ?y1_2⟩) (by assumption) ?r1_2
      case y1_2 => (intro w hSw; (try dsimp only at hSw); go_simp; all_goals (with_reducible rfl))
      try simp only [Act.put, List.setIfInBounds_toArray, List.set_cons_zero, List.set_cons_succ]
      refine wpAnyH_take (i := 2) (oi := { dst := some 38, op := Op.move (Operand.tmp 5), type := 23, pos := "laws.go:1220", after := #[], guard := none }) (v := ?v2_2) rfl (by kernel_rfl) (by kernel_rfl) (by kernel_rfl) (fun _ _ _ h => h) (Or.inl ⟨by rfl, ?y2_2⟩) (by assumption) ?r2_2
      case y2_2 => (intro w hSw; (try dsimp only at hSw); go_simp; all_goals (with_reducible rfl))
      try simp only [Act.put, List.setIfInBounds_toArray, List.set_cons_zero, List.set_cons_succ]
      refine wpAnyH_take (i := 3) (oi := { dst := some 39, op := Op.move (Operand.tmp 8), type := 3, pos := "laws.go:1220", after := #[], guard := none }) (v := ?v3_2) rfl (by kernel_rfl) (by kernel_rfl) (by kernel_rfl) (fun _ _ _ h => h) (Or.inl ⟨by rfl, ?y3_2⟩) (by assumption) ?r3_2
      case y3_2 => (intro w hSw; (try dsimp only at hSw); go_simp; all_goals (with_reducible rfl))
      try simp only [Act.put, List.setIfInBounds_toArray, List.set_cons_zero, List.set_cons_succ]
      refine wpAnyH_take (i := 4) (oi := { dst := some 40, op := Op.indexAddr 23 (Operand.tmp 38) (Operand.tmp 39), type := 0, pos := "laws.go:1220", after := #[{ on := 2, ground := Ground.data }, { on := 3, ground := Ground.data }], guard := none }) (v := ?v4_2) rfl (by kernel_rfl) (by kernel_rfl) (by kernel_rfl) (fun _ _ _ h => h) (Or.inl ⟨by rfl, ?y4_2⟩) (by assumption) ?r4_2
      case y4_2 => (intro w hSw; (try dsimp only at hSw); go_simp; all_goals (with_reducible rfl))
      try simp only [Act.put, List.setIfInBounds_toArray, List.set_cons_zero, List.set_cons_succ]
      refine wpAnyH_take (i := 5) (oi := { dst := some 41, op := Op.load 3 (Operand.tmp 40), type := 3, pos := "laws.go:1220", after := #[{ on := 4, ground := Ground.data }], guard := none }) (v := ?v5_2) rfl (by kernel_rfl) (by kernel_rfl) (by kernel_rfl) (fun _ _ _ h => h) (Or.inl ⟨by rfl, ?y5_2⟩) (by assumption) ?r5_2
      case y5_2 => (intro w hSw; (try dsimp only at hSw); go_simp; all_goals (with_reducible rfl))
      try simp only [Act.put, List.setIfInBounds_toArray, List.set_cons_zero, List.set_cons_succ]
      refine wpAnyH_take (i := 7) (oi := { dst := some 43, op := Op.move (Operand.tmp 8), type := 3, pos := "laws.go:1220", after := #[], guard := none }) (v := ?v7_2) rfl (by kernel_rfl) (by kernel_rfl) (by kernel_rfl) (fun _ _ _ h => h) (Or.inl ⟨by rfl, ?y7_2⟩) (by assumption) ?r7_2
      case y7_2 => (intro w hSw; (try dsimp only at hSw); go_simp; all_goals (with_reducible rfl))
      try simp only [Act.put, List.setIfInBounds_toArray, List.set_cons_zero, List.set_cons_succ]
      refine wpAnyH_ready (rs := [6]) (by kernel_rfl) (by simp) ?_
      refine AllReadyH.cons (o := { dst := some 42, op := Op.call { callee := Callee.value (Operand.func 35), args := #[Operand.tmp 36, Operand.tmp 37, Operand.tmp 41], argTypes := #[3, 48, 3] }, type := 3, pos := "laws.go:1220", after := #[{ on := 0, ground := Ground.data }, { on := 1, ground := Ground.data }, { on := 5, ground := Ground.data }], guard := none }) rfl (fun K hK => ?_) AllReadyH.nil
      go_simp
      go_at_call 35
      refine (implOwn_yes b a s (c : Int) x _ k HHIT.out).mono ?_
      rintro e wA ⟨rfl, gA⟩
      have mV_0_ : wA.cell? _ = some _ := gA.cell V_0_ (by simp); have mV_1_ : wA.cell? _ = some _ := gA.cell V_1_ (by simp); have mV_2_ : wA.cell? _ = some _ := gA.cell V_2_ (by simp); have mxk_ : wA.cell? _ = some _ := gA.cell xk_ (by simp); have mxj_ : wA.cell? _ = some _ := gA.cell xj_ (by simp)
      go_wp2_with fail
      clear hHeld
      refine hK.out _ _ ?s6_2 (fun hHeld => ?_)
      case s6_2 => exact ⟨mV_0_, mV_1_, mV_2_, mxk_, mxj_⟩
      clear hK K
      try simp only [Act.put, List.setIfInBounds_toArray, List.set_cons_zero, List.set_cons_succ]
      refine wpAnyH_take (i := 8) (oi := { dst := some 44, op := Op.binOp BinOp.neq 3 (Operand.tmp 42) (Operand.tmp 43) 3, type := 4, pos := "laws.go:1220", after := #[{ on := 6, ground := Ground.data }, { on := 7, ground := Ground.data }], guard := none }) (v := ?v8_2) rfl (by kernel_rfl) (by kernel_rfl) (by kernel_rfl) (fun _ _ _ h => h) (Or.inl ⟨by rfl, ?y8_2⟩) (by assumption) ?r8_2
      case y8_2 => (intro w hSw; (try dsimp only at hSw); go_simp; all_goals (with_reducible rfl))
      try simp only [Act.put, List.setIfInBounds_toArray, List.set_cons_zero, List.set_cons_succ]
      refine wpAnyH_take (i := 9) (oi := { dst := some 45, op := Op.move (Operand.tmp 44), type := 4, pos := "laws.go:1220", after := #[{ on := 8, ground := Ground.data }, { on := 6, ground := Ground.chain }], guard := none }) (v := ?v9_2) rfl (by kernel_rfl) (by kernel_rfl) (by kernel_rfl) (fun _ _ _ h => h) (Or.inl ⟨by rfl, ?y9_2⟩) (by assumption) ?r9_2
      case y9_2 => (intro w hSw; (try dsimp only at hSw); go_simp; all_goals (with_reducible rfl))
      try simp only [Act.put, List.setIfInBounds_toArray, List.set_cons_zero, List.set_cons_succ]
      refine wpAnyH_take (i := 10) (oi := { dst := some 46, op := Op.move (Operand.tmp 3), type := 3, pos := "laws.go:1220", after := #[{ on := 9, ground := Ground.guard }], guard := some (9, false) }) (v := ?v10_2) rfl (by kernel_rfl) (by kernel_rfl) (by kernel_rfl) (fun _ _ _ h => h) (Or.inl ⟨by rfl, ?y10_2⟩) (by assumption) ?r10_2
      case y10_2 => (intro w hSw; (try dsimp only at hSw); go_simp; all_goals (with_reducible rfl))
      try simp only [Act.put, List.setIfInBounds_toArray, List.set_cons_zero, List.set_cons_succ]
      refine wpAnyH_take (i := 11) (oi := { dst := some 47, op := Op.load 48 (Operand.tmp 4), type := 48, pos := "laws.go:1220", after := #[{ on := 9, ground := Ground.guard }], guard := some (9, false) }) (v := ?v11_2) rfl (by kernel_rfl) (by kernel_rfl) (by kernel_rfl) (fun _ _ _ h => h) (Or.inl ⟨by rfl, ?y11_2⟩) (by assumption) ?r11_2
      case y11_2 => (intro w hSw; (try dsimp only at hSw); go_simp; all_goals (with_reducible rfl))
      try simp only [Act.put, List.setIfInBounds_toArray, List.set_cons_zero, List.set_cons_succ]
      refine wpAnyH_take (i := 12) (oi := { dst := some 48, op := Op.move (Operand.tmp 8), type := 3, pos := "laws.go:1220", after := #[{ on := 9, ground := Ground.guard }], guard := some (9, false) }) (v := ?v12_2) rfl (by kernel_rfl) (by kernel_rfl) (by kernel_rfl) (fun _ _ _ h => h) (Or.inl ⟨by rfl, ?y12_2⟩) (by assumption) ?r12_2
      case y12_2 => (intro w hSw; (try dsimp only at hSw); go_simp; all_goals (with_reducible rfl))
      try simp only [Act.put, List.setIfInBounds_toArray, List.set_cons_zero, List.set_cons_succ]
      refine wpAnyH_take (i := 14) (oi := { dst := some 50, op := Op.move (Operand.tmp 5), type := 23, pos := "laws.go:1220", after := #[{ on := 9, ground := Ground.guard }], guard := some (9, false) }) (v := ?v14_2) rfl (by kernel_rfl) (by kernel_rfl) (by kernel_rfl) (fun _ _ _ h => h) (Or.inl ⟨by rfl, ?y14_2⟩) (by assumption) ?r14_2
      case y14_2 => (intro w hSw; (try dsimp only at hSw); go_simp; all_goals (with_reducible rfl))
      try simp only [Act.put, List.setIfInBounds_toArray, List.set_cons_zero, List.set_cons_succ]
      refine wpAnyH_take (i := 15) (oi := { dst := some 51, op := Op.move (Operand.tmp 8), type := 3, pos := "laws.go:1220", after := #[{ on := 9, ground := Ground.guard }], guard := some (9, false) }) (v := ?v15_2) rfl (by kernel_rfl) (by kernel_rfl) (by kernel_rfl) (fun _ _ _ h => h) (Or.inl ⟨by rfl, ?y15_2⟩) (by assumption) ?r15_2
      case y15_2 => (intro w hSw; (try dsimp only at hSw); go_simp; all_goals (with_reducible rfl))
      try simp only [Act.put, List.setIfInBounds_toArray, List.set_cons_zero, List.set_cons_succ]
      refine wpAnyH_take (i := 16) (oi := { dst := some 52, op := Op.indexAddr 23 (Operand.tmp 50) (Operand.tmp 51), type := 0, pos := "laws.go:1220", after := #[{ on := 14, ground := Ground.data }, { on := 15, ground := Ground.data }, { on := 9, ground := Ground.guard }], guard := some (9, false) }) (v := ?v16_2) rfl (by kernel_rfl) (by kernel_rfl) (by kernel_rfl) (fun _ _ _ h => h) (Or.inl ⟨by rfl, ?y16_2⟩) (by assumption) ?r16_2
      case y16_2 => (intro w hSw; (try dsimp only at hSw); go_simp; all_goals (with_reducible rfl))
      try simp only [Act.put, List.setIfInBounds_toArray, List.set_cons_zero, List.set_cons_succ]
      refine wpAnyH_take (i := 17) (oi := { dst := some 53, op := Op.load 3 (Operand.tmp 52), type := 3, pos := "laws.go:1220", after := #[{ on := 16, ground := Ground.data }, { on := 9, ground := Ground.guard }], guard := some (9, false) }) (v := ?v17_2) rfl (by kernel_rfl) (by kernel_rfl) (by kernel_rfl) (fun _ _ _ h => h) (Or.inl ⟨by rfl, ?y17_2⟩) (by assumption) ?r17_2
      case y17_2 => (intro w hSw; (try dsimp only at hSw); go_simp; all_goals (with_reducible rfl))
      try simp only [Act.put, List.setIfInBounds_toArray, List.set_cons_zero, List.set_cons_succ]
      refine wpAnyH_ready (rs := [13]) (by kernel_rfl) (by simp) ?_
      refine AllReadyH.cons (o := { dst := some 49, op := Op.call { callee := Callee.value (Operand.func 36), args := #[Operand.tmp 46, Operand.tmp 47, Operand.tmp 48], argTypes := #[3, 48, 3] }, type := 3, pos := "laws.go:1220", after := #[{ on := 10, ground := Ground.data }, { on := 11, ground := Ground.data }, { on := 12, ground := Ground.data }, { on := 9, ground := Ground.chain }, { on := 9, ground := Ground.guard }], guard := some (9, false) }) rfl (fun K hK => ?_) AllReadyH.nil
      go_simp
      go_at_call 36
      refine (implVId_any b a s (c : Int) (k : Int) x HVID.out _).mono ?_
      rintro e wB ⟨rfl, gB⟩
      have nV_0_ : wB.cell? _ = some _ := gB.cell mV_0_ (by simp); have nV_1_ : wB.cell? _ = some _ := gB.cell mV_1_ (by simp); have nV_2_ : wB.cell? _ = some _ := gB.cell mV_2_ (by simp); have nxk_ : wB.cell? _ = some _ := gB.cell mxk_ (by simp); have nxj_ : wB.cell? _ = some _ := gB.cell mxj_ (by simp)
      go_wp2_with fail
      clear hHeld
      refine hK.out _ _ ?s13_2 (fun hHeld => ?_)
      case s13_2 => exact ⟨nV_0_, nV_1_, nV_2_, nxk_, nxj_⟩
      clear hK K
      try simp only [Act.put, List.setIfInBounds_toArray, List.set_cons_zero, List.set_cons_succ]
      refine wpAnyH_take (i := 18) (oi := { dst := some 54, op := Op.binOp BinOp.neq 3 (Operand.tmp 49) (Operand.tmp 53) 3, type := 4, pos := "laws.go:1220", after := #[{ on := 13, ground := Ground.data }, { on := 17, ground := Ground.data }, { on := 9, ground := Ground.guard }], guard := some (9, false) }) (v := ?v18_2) rfl (by kernel_rfl) (by kernel_rfl) (by kernel_rfl) (fun _ _ _ h => h) (Or.inl ⟨by rfl, ?y18_2⟩) (by assumption) ?r18_2
      case y18_2 => (intro w hSw; (try dsimp only at hSw); go_simp; all_goals (with_reducible rfl))
      try simp only [Act.put, List.setIfInBounds_toArray, List.set_cons_zero, List.set_cons_succ]
      refine wpAnyH_take (i := 19) (oi := { dst := some 55, op := Op.pick (Operand.tmp 45) (Operand.const (Value.bool true)) (Operand.tmp 54), type := 4, pos := "laws.go:1220", after := #[{ on := 9, ground := Ground.data }, { on := 18, ground := Ground.data }], guard := none }) (v := ?v19_2) rfl (by kernel_rfl) (by kernel_rfl) (by kernel_rfl) (fun _ _ _ h => h) (Or.inl ⟨by rfl, ?y19_2⟩) (by assumption) ?r19_2
      case y19_2 => (intro w hSw; (try dsimp only at hSw); go_simp; all_goals (with_reducible rfl))
      try simp only [Act.put, List.setIfInBounds_toArray, List.set_cons_zero, List.set_cons_succ]
      refine wpAnyH_take (i := 20) (oi := { dst := some 56, op := Op.move (Operand.tmp 55), type := 4, pos := "laws.go:1220", after := #[{ on := 19, ground := Ground.data }, { on := 13, ground := Ground.chain }], guard := none }) (v := ?v20_2) rfl (by kernel_rfl) (by kernel_rfl) (by kernel_rfl) (fun _ _ _ h => h) (Or.inl ⟨by rfl, ?y20_2⟩) (by assumption) ?r20_2
      case y20_2 => (intro w hSw; (try dsimp only at hSw); go_simp; all_goals (with_reducible rfl))
      try simp only [Act.put, List.setIfInBounds_toArray, List.set_cons_zero, List.set_cons_succ]
      refine wpAnyH_take (i := 21) (oi := { dst := some 57, op := Op.move (Operand.tmp 8), type := 3, pos := "laws.go:1220", after := #[{ on := 20, ground := Ground.guard }], guard := some (20, false) }) (v := ?v21_2) rfl (by kernel_rfl) (by kernel_rfl) (by kernel_rfl) (fun _ _ _ h => h) (Or.inl ⟨by rfl, ?y21_2⟩) (by assumption) ?r21_2
      case y21_2 => (intro w hSw; (try dsimp only at hSw); go_simp; all_goals (with_reducible rfl))
      try simp only [Act.put, List.setIfInBounds_toArray, List.set_cons_zero, List.set_cons_succ]
      refine wpAnyH_take (i := 22) (oi := { dst := some 58, op := Op.binOp BinOp.gtr 3 (Operand.tmp 57) (Operand.const (Value.int IntKind.i64 0)) 3, type := 4, pos := "laws.go:1220", after := #[{ on := 21, ground := Ground.data }, { on := 20, ground := Ground.guard }], guard := some (20, false) }) (v := ?v22_2) rfl (by kernel_rfl) (by kernel_rfl) (by kernel_rfl) (fun _ _ _ h => h) (Or.inl ⟨by rfl, ?y22_2⟩) (by assumption) ?r22_2
      case y22_2 => (intro w hSw; (try dsimp only at hSw); go_simp; all_goals (with_reducible rfl))
      try simp only [Act.put, List.setIfInBounds_toArray, List.set_cons_zero, List.set_cons_succ]
      refine wpAnyH_take (i := 23) (oi := { dst := some 59, op := Op.move (Operand.tmp 58), type := 4, pos := "laws.go:1220", after := #[{ on := 22, ground := Ground.data }, { on := 20, ground := Ground.chain }, { on := 20, ground := Ground.guard }], guard := some (20, false) }) (v := ?v23_2) rfl (by kernel_rfl) (by kernel_rfl) (by kernel_rfl) (fun _ _ _ h => h) (Or.inl ⟨by rfl, ?y23_2⟩) (by assumption) ?r23_2
      case y23_2 => (intro w hSw; (try dsimp only at hSw); go_simp; all_goals (with_reducible rfl))
      try simp only [Act.put, List.setIfInBounds_toArray, List.set_cons_zero, List.set_cons_succ]
      refine wpAnyH_take (i := 24) (oi := { dst := some 60, op := Op.move (Operand.tmp 5), type := 23, pos := "laws.go:1220", after := #[{ on := 23, ground := Ground.guard }], guard := some (23, true) }) (v := ?v24_2) rfl (by kernel_rfl) (by kernel_rfl) (by kernel_rfl) (fun _ _ _ h => h) (Or.inl ⟨by rfl, ?y24_2⟩) (by assumption) ?r24_2
      case y24_2 => (intro w hSw; (try dsimp only at hSw); go_simp; all_goals (with_reducible rfl))
      try simp only [Act.put, List.setIfInBounds_toArray, List.set_cons_zero, List.set_cons_succ]
      refine wpAnyH_take (i := 25) (oi := { dst := some 61, op := Op.move (Operand.tmp 8), type := 3, pos := "laws.go:1220", after := #[{ on := 23, ground := Ground.guard }], guard := some (23, true) }) (v := ?v25_2) rfl (by kernel_rfl) (by kernel_rfl) (by kernel_rfl) (fun _ _ _ h => h) (Or.inl ⟨by rfl, ?y25_2⟩) (by assumption) ?r25_2
      case y25_2 => (intro w hSw; (try dsimp only at hSw); go_simp; all_goals (with_reducible rfl))
      try simp only [Act.put, List.setIfInBounds_toArray, List.set_cons_zero, List.set_cons_succ]
      refine wpAnyH_take (i := 26) (oi := { dst := some 62, op := Op.indexAddr 23 (Operand.tmp 60) (Operand.tmp 61), type := 0, pos := "laws.go:1220", after := #[{ on := 24, ground := Ground.data }, { on := 25, ground := Ground.data }, { on := 23, ground := Ground.guard }], guard := some (23, true) }) (v := ?v26_2) rfl (by kernel_rfl) (by kernel_rfl) (by kernel_rfl) (fun _ _ _ h => h) (Or.inl ⟨by rfl, ?y26_2⟩) (by assumption) ?r26_2
      case y26_2 => (intro w hSw; (try dsimp only at hSw); go_simp; all_goals (with_reducible rfl))
      try simp only [Act.put, List.setIfInBounds_toArray, List.set_cons_zero, List.set_cons_succ]
      refine wpAnyH_take (i := 27) (oi := { dst := some 63, op := Op.load 3 (Operand.tmp 62), type := 3, pos := "laws.go:1220", after := #[{ on := 26, ground := Ground.data }, { on := 23, ground := Ground.guard }], guard := some (23, true) }) (v := ?v27_2) rfl (by kernel_rfl) (by kernel_rfl) (by kernel_rfl) (fun _ _ _ h => h) (Or.inl ⟨by rfl, ?y27_2⟩) (by assumption) ?r27_2
      case y27_2 => (intro w hSw; (try dsimp only at hSw); go_simp; all_goals (with_reducible rfl))
      try simp only [Act.put, List.setIfInBounds_toArray, List.set_cons_zero, List.set_cons_succ]
      refine wpAnyH_take (i := 28) (oi := { dst := some 64, op := Op.move (Operand.tmp 5), type := 23, pos := "laws.go:1220", after := #[{ on := 23, ground := Ground.guard }], guard := some (23, true) }) (v := ?v28_2) rfl (by kernel_rfl) (by kernel_rfl) (by kernel_rfl) (fun _ _ _ h => h) (Or.inl ⟨by rfl, ?y28_2⟩) (by assumption) ?r28_2
      case y28_2 => (intro w hSw; (try dsimp only at hSw); go_simp; all_goals (with_reducible rfl))
      try simp only [Act.put, List.setIfInBounds_toArray, List.set_cons_zero, List.set_cons_succ]
      refine wpAnyH_take (i := 29) (oi := { dst := some 65, op := Op.move (Operand.tmp 8), type := 3, pos := "laws.go:1220", after := #[{ on := 23, ground := Ground.guard }], guard := some (23, true) }) (v := ?v29_2) rfl (by kernel_rfl) (by kernel_rfl) (by kernel_rfl) (fun _ _ _ h => h) (Or.inl ⟨by rfl, ?y29_2⟩) (by assumption) ?r29_2
      case y29_2 => (intro w hSw; (try dsimp only at hSw); go_simp; all_goals (with_reducible rfl))
      try simp only [Act.put, List.setIfInBounds_toArray, List.set_cons_zero, List.set_cons_succ]
      refine wpAnyH_take (i := 30) (oi := { dst := some 66, op := Op.binOp BinOp.sub 3 (Operand.tmp 65) (Operand.const (Value.int IntKind.i64 1)) 3, type := 3, pos := "laws.go:1220", after := #[{ on := 29, ground := Ground.data }, { on := 23, ground := Ground.guard }], guard := some (23, true) }) (v := ?v30_2) rfl (by kernel_rfl) (by kernel_rfl) (by kernel_rfl) (fun _ _ _ h => h) (Or.inl ⟨by rfl, ?y30_2⟩) (by assumption) ?r30_2
      case y30_2 => (intro w hSw; (try dsimp only at hSw); go_simp; all_goals (with_reducible rfl))
      try simp only [Act.put, List.setIfInBounds_toArray, List.set_cons_zero, List.set_cons_succ]
      refine wpAnyH_take (i := 31) (oi := { dst := some 67, op := Op.indexAddr 23 (Operand.tmp 64) (Operand.tmp 66), type := 0, pos := "laws.go:1220", after := #[{ on := 28, ground := Ground.data }, { on := 30, ground := Ground.data }, { on := 23, ground := Ground.guard }], guard := some (23, true) }) (v := ?v31_2) rfl (by kernel_rfl) (by kernel_rfl) (by kernel_rfl) (fun _ _ _ h => h) (Or.inl ⟨by rfl, ?y31_2⟩) (by assumption) ?r31_2
      case y31_2 => (intro w hSw; (try dsimp only at hSw); go_simp; all_goals (with_reducible rfl))
      try simp only [Act.put, List.setIfInBounds_toArray, List.set_cons_zero, List.set_cons_succ]
      refine wpAnyH_take (i := 32) (oi := { dst := some 68, op := Op.load 3 (Operand.tmp 67), type := 3, pos := "laws.go:1220", after := #[{ on := 31, ground := Ground.data }, { on := 23, ground := Ground.guard }], guard := some (23, true) }) (v := ?v32_2) rfl (by kernel_rfl) (by kernel_rfl) (by kernel_rfl) (fun _ _ _ h => h) (Or.inl ⟨by rfl, ?y32_2⟩) (by assumption) ?r32_2
      case y32_2 => (intro w hSw; (try dsimp only at hSw); go_simp; all_goals (with_reducible rfl))
      try simp only [Act.put, List.setIfInBounds_toArray, List.set_cons_zero, List.set_cons_succ]
      refine wpAnyH_take (i := 33) (oi := { dst := some 69, op := Op.binOp BinOp.leq 3 (Operand.tmp 63) (Operand.tmp 68) 3, type := 4, pos := "laws.go:1220", after := #[{ on := 27, ground := Ground.data }, { on := 32, ground := Ground.data }, { on := 23, ground := Ground.guard }], guard := some (23, true) }) (v := ?v33_2) rfl (by kernel_rfl) (by kernel_rfl) (by kernel_rfl) (fun _ _ _ h => h) (Or.inl ⟨by rfl, ?y33_2⟩) (by assumption) ?r33_2
      case y33_2 => (intro w hSw; (try dsimp only at hSw); go_simp; all_goals (with_reducible rfl))
      try simp only [Act.put, List.setIfInBounds_toArray, List.set_cons_zero, List.set_cons_succ]
      refine wpAnyH_take (i := 34) (oi := { dst := some 70, op := Op.pick (Operand.tmp 59) (Operand.tmp 69) (Operand.const (Value.bool false)), type := 4, pos := "laws.go:1220", after := #[{ on := 23, ground := Ground.data }, { on := 33, ground := Ground.data }, { on := 20, ground := Ground.guard }], guard := some (20, false) }) (v := ?v34_2) rfl (by kernel_rfl) (by kernel_rfl) (by kernel_rfl) (fun _ _ _ h => h) (Or.inl ⟨by rfl, ?y34_2⟩) (by assumption) ?r34_2
      case y34_2 => (intro w hSw; (try dsimp only at hSw); go_simp; all_goals (with_reducible rfl))
      try simp only [Act.put, List.setIfInBounds_toArray, List.set_cons_zero, List.set_cons_succ]
      refine wpAnyH_take (i := 35) (oi := { dst := some 71, op := Op.pick (Operand.tmp 56) (Operand.const (Value.bool true)) (Operand.tmp 70), type := 4, pos := "laws.go:1220", after := #[{ on := 20, ground := Ground.data }, { on := 34, ground := Ground.data }], guard := none }) (v := ?v35_2) rfl (by kernel_rfl) (by kernel_rfl) (by kernel_rfl) (fun _ _ _ h => h) (Or.inl ⟨by rfl, ?y35_2⟩) (by assumption) ?r35_2
      case y35_2 => (intro w hSw; (try dsimp only at hSw); go_simp; all_goals (with_reducible rfl))
      try simp only [Act.put, List.setIfInBounds_toArray, List.set_cons_zero, List.set_cons_succ]
      refine wpAnyH_take (i := 36) (oi := { dst := some 72, op := Op.move (Operand.tmp 71), type := 4, pos := "laws.go:1220", after := #[{ on := 35, ground := Ground.data }, { on := 23, ground := Ground.chain }], guard := none }) (v := ?v36_2) rfl (by kernel_rfl) (by kernel_rfl) (by kernel_rfl) (fun _ _ _ h => h) (Or.inl ⟨by rfl, ?y36_2⟩) (by assumption) ?r36_2
      case y36_2 => (intro w hSw; (try dsimp only at hSw); go_simp; all_goals (with_reducible rfl))
      try simp only [Act.put, List.setIfInBounds_toArray, List.set_cons_zero, List.set_cons_succ]
      refine wpAnyH_take (i := 37) (oi := { dst := some 73, op := Op.move (Operand.tmp 5), type := 23, pos := "laws.go:1220", after := #[{ on := 36, ground := Ground.guard }], guard := some (36, false) }) (v := ?v37_2) rfl (by kernel_rfl) (by kernel_rfl) (by kernel_rfl) (fun _ _ _ h => h) (Or.inl ⟨by rfl, ?y37_2⟩) (by assumption) ?r37_2
      case y37_2 => (intro w hSw; (try dsimp only at hSw); go_simp; all_goals (with_reducible rfl))
      try simp only [Act.put, List.setIfInBounds_toArray, List.set_cons_zero, List.set_cons_succ]
      refine wpAnyH_take (i := 38) (oi := { dst := some 74, op := Op.move (Operand.tmp 8), type := 3, pos := "laws.go:1220", after := #[{ on := 36, ground := Ground.guard }], guard := some (36, false) }) (v := ?v38_2) rfl (by kernel_rfl) (by kernel_rfl) (by kernel_rfl) (fun _ _ _ h => h) (Or.inl ⟨by rfl, ?y38_2⟩) (by assumption) ?r38_2
      case y38_2 => (intro w hSw; (try dsimp only at hSw); go_simp; all_goals (with_reducible rfl))
      try simp only [Act.put, List.setIfInBounds_toArray, List.set_cons_zero, List.set_cons_succ]
      refine wpAnyH_take (i := 39) (oi := { dst := some 75, op := Op.indexAddr 23 (Operand.tmp 73) (Operand.tmp 74), type := 0, pos := "laws.go:1220", after := #[{ on := 37, ground := Ground.data }, { on := 38, ground := Ground.data }, { on := 36, ground := Ground.guard }], guard := some (36, false) }) (v := ?v39_2) rfl (by kernel_rfl) (by kernel_rfl) (by kernel_rfl) (fun _ _ _ h => h) (Or.inl ⟨by rfl, ?y39_2⟩) (by assumption) ?r39_2
      case y39_2 => (intro w hSw; (try dsimp only at hSw); go_simp; all_goals (with_reducible rfl))
      try simp only [Act.put, List.setIfInBounds_toArray, List.set_cons_zero, List.set_cons_succ]
      refine wpAnyH_take (i := 40) (oi := { dst := some 76, op := Op.load 3 (Operand.tmp 75), type := 3, pos := "laws.go:1220", after := #[{ on := 39, ground := Ground.data }, { on := 36, ground := Ground.guard }], guard := some (36, false) }) (v := ?v40_2) rfl (by kernel_rfl) (by kernel_rfl) (by kernel_rfl) (fun _ _ _ h => h) (Or.inl ⟨by rfl, ?y40_2⟩) (by assumption) ?r40_2
      case y40_2 => (intro w hSw; (try dsimp only at hSw); go_simp; all_goals (with_reducible rfl))
      try simp only [Act.put, List.setIfInBounds_toArray, List.set_cons_zero, List.set_cons_succ]
      refine wpAnyH_take (i := 41) (oi := { dst := some 77, op := Op.move (Operand.tmp 3), type := 3, pos := "laws.go:1220", after := #[{ on := 36, ground := Ground.guard }], guard := some (36, false) }) (v := ?v41_2) rfl (by kernel_rfl) (by kernel_rfl) (by kernel_rfl) (fun _ _ _ h => h) (Or.inl ⟨by rfl, ?y41_2⟩) (by assumption) ?r41_2
      case y41_2 => (intro w hSw; (try dsimp only at hSw); go_simp; all_goals (with_reducible rfl))
      try simp only [Act.put, List.setIfInBounds_toArray, List.set_cons_zero, List.set_cons_succ]
      refine wpAnyH_take (i := 42) (oi := { dst := some 78, op := Op.binOp BinOp.leq 3 (Operand.tmp 76) (Operand.tmp 77) 3, type := 4, pos := "laws.go:1220", after := #[{ on := 40, ground := Ground.data }, { on := 41, ground := Ground.data }, { on := 36, ground := Ground.guard }], guard := some (36, false) }) (v := ?v42_2) rfl (by kernel_rfl) (by kernel_rfl) (by kernel_rfl) (fun _ _ _ h => h) (Or.inl ⟨by rfl, ?y42_2⟩) (by assumption) ?r42_2
      case y42_2 => (intro w hSw; (try dsimp only at hSw); go_simp; all_goals (with_reducible rfl))
      try simp only [Act.put, List.setIfInBounds_toArray, List.set_cons_zero, List.set_cons_succ]
      refine wpAnyH_take (i := 43) (oi := { dst := some 79, op := Op.pick (Operand.tmp 72) (Operand.const (Value.bool true)) (Operand.tmp 78), type := 4, pos := "laws.go:1220", after := #[{ on := 36, ground := Ground.data }, { on := 42, ground := Ground.data }], guard := none }) (v := ?v43_2) rfl (by kernel_rfl) (by kernel_rfl) (by kernel_rfl) (fun _ _ _ h => h) (Or.inl ⟨by rfl, ?y43_2⟩) (by assumption) ?r43_2
      case y43_2 => (intro w hSw; (try dsimp only at hSw); go_simp; all_goals (with_reducible rfl))
      try simp only [Act.put, List.setIfInBounds_toArray, List.set_cons_zero, List.set_cons_succ]
      refine wpAnyH_done (by kernel_rfl) ?_ _
      have g : (wr).grownBy wB none := gby_trans (gby_trans (gby_drew (gby_refl _ _)) gA) gB
      clear gA gB mV_0_ mV_1_ mV_2_ mxk_ mxj_ nV_0_ nV_1_ nV_2_ nxk_ nxj_ xk_ xj_
      clear V_0_ V_1_ V_2_
      have rV15_ := Lib.hid (show (wB).heap[w2.heap.size]? = some (.cells #[.int .i64 a, .int .i64 s, .int .i64 (c : Int)] 48 (0, 0)) from row_held g rV12_.out)
      clear rV12_
      have G16_ := Lib.hid (show (W).grownBy (wB) none from gby_trans G13_.out g)
      have HTX17_ := Lib.hid (show (w3).grownBy (wB) none from gby_trans HTX14_.out g)
      clear HTX14_
      have HTB18_ := Lib.hid (show (w4).grownBy (wB) none from gby_trans HTB_.out g)
      clear HTB_
      clear g
      go_wp2
      refine ⟨⟨k + 1, by go_num, by omega, by repeat (first | exact HTB18_.out | with_reducible refine gby_drewN ?_ _)⟩, by simp [intOf]; omega⟩

end Go.Proofs.Ytgagbhkidponnaa
