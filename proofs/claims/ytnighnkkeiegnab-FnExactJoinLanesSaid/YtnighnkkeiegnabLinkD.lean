/-
  Links: as data; lists of lists of numbers in the second form.
-/
import Derived.Test.YtnighnkkeiegnabSndOk
import Derived.Test.YtnighnkkeiegnabRecvAck
import Derived.Test.YtnighnkkeiegnabBPost0
namespace Go.Proofs.Ytnighnkkeiegnab
open Go Go.RowKit
set_option linter.unusedVariables false

theorem rll_in {w : World} {v : Value} {L : List (List Int)} (h : RdL (shL shI) w v L) : ∃ a cap, v = .slice a L.length cap ∧ CapOk a L.length cap ∧ RLL w a L.length L := by
  obtain ⟨a, cap, rfl, hc, hm, h⟩ := h
  refine ⟨a, cap, rfl, hc, rfl, ?_⟩
  rcases h with h0 | ⟨b, off, ha, h⟩
  · exact .inl h0
  · refine .inr ⟨b, off, ha, fun k hk => ?_⟩
    obtain ⟨cs, h1, v, rfl, h2⟩ := h k hk
    refine ⟨v, ?_, rdI_in h2⟩
    have q := at_cell (j := 0) h1 rfl
    rwa [Nat.add_zero, show (shL shI).n = 1 from rfl, Nat.mul_one] at q
theorem szLL_len {L : List (List Int)} (h : szL (shL shI) L ≤ 1048576) : L.length ≤ 1048576 := Nat.le_trans (szL_len _ _) h
theorem szLL_at {L : List (List Int)} (h : szL (shL shI) L ≤ 1048576) : ∀ x ∈ L, x.length ≤ 1048576 := by
  intro x hx
  obtain ⟨k, hk, rfl⟩ := List.getElem_of_mem hx
  have q := szL_at (shL shI) L k hk
  rw [List.getD_eq_getElem?_getD, List.getElem?_eq_getElem hk] at q
  have q2 : szL shI L[k] ≤ szL (shL shI) L := q
  rw [szL_I] at q2
  omega
theorem iff_noK {p : Prop} (h : ¬ p) : false = true ↔ p := ⟨fun q => (by cases q), fun q => absurd q h⟩
theorem iff_yesK {p : Prop} (h : p) : true = true ↔ p := ⟨fun _ => h, fun _ => rfl⟩
/-- an answer that may be under way -/
def AnP (x : Int) : Prop := IsQ x ∨ IsQ (IntKind.i64.wrap (x - 100))
instance (n : Int) : Decidable (IsQ n) := by unfold IsQ; infer_instance
instance (x : Int) : Decidable (AnP x) := by unfold AnP; infer_instance
def AnsP (zs : List Int) : Prop := ∀ k, k < zs.length → AnP (zs.getD k 0)
/-- a valid link -/
def LnkP (m r : Int) (xs : List DFrame) (e : Int) (L fl : List (List Int)) (zs : List Int) : Prop := SndP m r xs ∧ ROk e L ∧ AreBL fl ∧ fl.length ≤ 8 ∧ zs.length ≤ 8 ∧ AnsP zs
theorem implBLD (W : World) (v : Value) (L : List (List Int)) (H : RdL (shL shI) W v L) (hl : szL (shL shI) L ≤ 1048576) (b : Bool) (hb : b = decide (AreBL L)) : Calls Try.prog 69 #[v] W (AnsN (.bool b) W) := by
  obtain ⟨a, cap, rfl, _, h⟩ := rll_in H
  rw [hb]
  exact (implBL_any W a _ cap L h (szLL_len hl) (szLL_at hl)).mono (fun e w q => ⟨q.1, by rw [q.2]; exact gby_refl _ _⟩)
theorem specROkD (W : World) (e : Int) (v : Value) (L : List (List Int)) (H : RdL (shL shI) W v L) (hl : szL (shL shI) L ≤ 1048576) (b : Bool) (hb : b = decide (ROk e L)) : Calls Try.prog 63 #[.agg #[.int .i64 e, v]] W (AnsN (.bool b) W) := by
  obtain ⟨a, cap, rfl, _, h⟩ := rll_in H
  rw [hb]
  exact specROk_any W e a _ cap L h (szLL_len hl) (szLL_at hl)

theorem implROkD (W : World) (e : Int) (v : Value) (L : List (List Int)) (H : RdL (shL shI) W v L) (hl : szL (shL shI) L ≤ 1048576) (b : Bool) (hb : b = decide (ROk e L)) : Calls Try.prog 68 #[.agg #[.int .i64 e, v]] W (AnsN (.bool b) W) := by
  obtain ⟨a, cap, rfl, _, h⟩ := rll_in H
  rw [hb]
  exact implROk_any W e a _ cap L h (szLL_len hl) (szLL_at hl)

theorem specSeqD (n : Int) (b : Bool) (hb : b = decide (IsQ n)) (W : World) : Calls Try.prog 65 #[.int .i64 n] W (Ans (.bool b) W) := by
  rw [hb]
  exact specSeq_any n W

theorem implSeqD (n : Int) (b : Bool) (hb : b = decide (IsQ n)) (W : World) : Calls Try.prog 99 #[.int .i64 n] W (Ans (.bool b) W) := by
  rw [hb]
  exact implSeq_any n W

set_option maxRecDepth 8000 in
set_option maxHeartbeats 2000000 in
theorem areAns_any (W : World) (u : Value) (zs : List Int) (HA_ : RdL shI W u zs) (hla : szL shI zs ≤ 1048576) : Calls Try.prog 70 #[u] W (BPost (AnsP zs) W) := by
  rw [szL_I] at hla
  obtain ⟨a1, cap1, rfl, _, hi1⟩ := rdI1_in HA_
  have HA1 := Lib.hid hi1
  obtain ⟨n1, hn1⟩ : ∃ n, n = zs.length := ⟨_, rfl⟩
  have HE1 := Lib.hid hn1
  unfold RdN1 at HA1
  rw [← hn1] at hla HA1 ⊢
  clear HA_ hi1 hn1
  go_enter Try.func70, Try.ntmps70
  go_wp2
  go_loopw [4, 7] (fun y3 i wr => ∃ n : Nat, i = .int .i64 (n : Int) ∧ n ≤ n1 ∧ (∃ q, y3 = q) ∧ (∀ j, j < n → AnP (zs.getD j 0)) ∧ (W).grownBy wr none) (fun _ i _ => n1 - (intOf i).toNat)
  case atStart => exact ⟨0, rfl, by omega, ⟨_, rfl⟩, fun j hj => absurd hj (Nat.not_lt_zero _), gby_refl _ _⟩
  case round =>
    obtain ⟨n, rfl, hn, ⟨y3, rfl⟩, hj_, hg⟩ := hrel
    have szrwr := hg.size
    try simp only [World.size_alloc] at szrwr
    try simp only [World.size_setCell] at szrwr
    have szr_ := szrwr
    have G1_ := Lib.hid (show (W).grownBy (wr) none from gby_trans (gby_refl _ _) hg)
    have HTI_ := Lib.hid hg
    clear hg
    have HJ := Lib.hid hj_
    clear hj_
    have hn0_ : (0 : Int) ≤ (n : Int) := by omega
    have htn : ((n : Int)).toNat = n := by omega
    by_cases hlt : n < n1
    rotate_left
    · obtain rfl : n = n1 := by omega
      have hki : ¬ (n : Int) < (n : Int) := by omega
      go_wp2
      go_ret
      exact ⟨true, rfl, iff_yesK (fun k hk => HJ.out k (by have := HE1.out; omega)), G1_.out⟩
    have hki : (n : Int) < (n1 : Int) := by omega
    obtain ⟨b1, o1, rfl, hc1_⟩ := HA1.out.resolve_left (by omega)
    have hy_ := hc1_ n hlt
    clear hc1_
    obtain ⟨y, hye_⟩ : ∃ y, y = zs.getD n 0 := ⟨_, rfl⟩
    rw [← hye_] at hy_
    have HY := Lib.hid hye_
    have HYC := Lib.hid hy_
    clear hye_ hy_
    obtain ⟨y2, hy2_⟩ : ∃ z, z = IntKind.i64.wrap (y - 100) := ⟨_, rfl⟩
    have hy2e_ := hy2_.symm
    have HY2 := Lib.hid hy2_
    clear hy2_
    obtain ⟨q1, hq1_⟩ : ∃ b, b = decide (IsQ y) := ⟨_, rfl⟩
    have HQ1 := Lib.hid hq1_
    clear hq1_
    obtain ⟨q2, hq2_⟩ : ∃ b, b = decide (IsQ y2) := ⟨_, rfl⟩
    have HQ2 := Lib.hid hq2_
    clear hq2_
    have HAN := Lib.hid (show AnP y ↔ (q1 || q2) = true from by unfold AnP; rw [← HY2.out, HQ1.out, HQ2.out, Bool.or_eq_true, decide_eq_true_iff, decide_eq_true_iff])
    have yc_ := (G1_.out).cell HYC.out (by simp)
    cases q1
    · cases q2
      · skip
        go_wp2_with fail
        go_at_call 99
        refine (implSeqD y false HQ1.out _).mono ?_
        rintro e w1 ⟨rfl, hd⟩
        have g := hd.gby none
        clear hd
        have szw1 := g.size
        try simp only [World.size_alloc] at szw1
        try simp only [World.size_setCell] at szw1
        clear yc_
        have G2_ := Lib.hid (show (W).grownBy (w1) none from gby_trans G1_.out g)
        have HTI3_ := Lib.hid (show (W).grownBy (w1) none from gby_trans HTI_.out g)
        clear HTI_
        clear g
        have yc_ := (G2_.out).cell HYC.out (by simp)
        go_wp2_with fail
        go_at_call 99
        refine (implSeqD y2 false HQ2.out _).mono ?_
        rintro e w2 ⟨rfl, hd⟩
        have g := hd.gby none
        clear hd
        have szw2 := g.size
        try simp only [World.size_alloc] at szw2
        try simp only [World.size_setCell] at szw2
        clear yc_
        have G4_ := Lib.hid (show (W).grownBy (w2) none from gby_trans G2_.out g)
        have HTI5_ := Lib.hid (show (W).grownBy (w2) none from gby_trans HTI3_.out g)
        clear HTI3_
        clear g
        have yc_ := (G4_.out).cell HYC.out (by simp)
        go_wp2
        go_ret
        exact ⟨false, rfl, iff_noK (fun h => absurd (HAN.out.1 (by rw [HY.out]; exact h n (by have := HE1.out; omega))) (by decide)), G4_.out⟩
      · skip
        go_wp2_with fail
        go_at_call 99
        refine (implSeqD y false HQ1.out _).mono ?_
        rintro e w1 ⟨rfl, hd⟩
        have g := hd.gby none
        clear hd
        have szw1 := g.size
        try simp only [World.size_alloc] at szw1
        try simp only [World.size_setCell] at szw1
        clear yc_
        have G2_ := Lib.hid (show (W).grownBy (w1) none from gby_trans G1_.out g)
        have HTI3_ := Lib.hid (show (W).grownBy (w1) none from gby_trans HTI_.out g)
        clear HTI_
        clear g
        have yc_ := (G2_.out).cell HYC.out (by simp)
        go_wp2_with fail
        go_at_call 99
        refine (implSeqD y2 true HQ2.out _).mono ?_
        rintro e w2 ⟨rfl, hd⟩
        have g := hd.gby none
        clear hd
        have szw2 := g.size
        try simp only [World.size_alloc] at szw2
        try simp only [World.size_setCell] at szw2
        clear yc_
        have G4_ := Lib.hid (show (W).grownBy (w2) none from gby_trans G2_.out g)
        have HTI5_ := Lib.hid (show (W).grownBy (w2) none from gby_trans HTI3_.out g)
        clear HTI3_
        clear g
        have yc_ := (G4_.out).cell HYC.out (by simp)
        go_wp2
        refine ⟨⟨n + 1, by go_num, by omega, ⟨_, rfl⟩, fun j hj => ?_, HTI5_.out⟩, by simp [intOf]; omega⟩
        by_cases e : j = n
        · subst e; rw [← HY.out]; exact HAN.out.2 rfl
        · exact HJ.out j (by omega)
    · skip
      go_wp2_with fail
      go_at_call 99
      refine (implSeqD y true HQ1.out _).mono ?_
      rintro e w1 ⟨rfl, hd⟩
      have g := hd.gby none
      clear hd
      have szw1 := g.size
      try simp only [World.size_alloc] at szw1
      try simp only [World.size_setCell] at szw1
      clear yc_
      have G2_ := Lib.hid (show (W).grownBy (w1) none from gby_trans G1_.out g)
      have HTI3_ := Lib.hid (show (W).grownBy (w1) none from gby_trans HTI_.out g)
      clear HTI_
      clear g
      have yc_ := (G2_.out).cell HYC.out (by simp)
      go_wp2
      refine ⟨⟨n + 1, by go_num, by omega, ⟨_, rfl⟩, fun j hj => ?_, HTI3_.out⟩, by simp [intOf]; omega⟩
      by_cases e : j = n
      · subst e; rw [← HY.out]; exact HAN.out.2 rfl
      · exact HJ.out j (by omega)

end Go.Proofs.Ytnighnkkeiegnab
