/-
  Contracts of the model's chapter 6: AddCheck, TakeCheck, FlipBit, DistanceOf.
-/
import Derived.Test.YtokpmbagidokkacCrcTab
import Derived.Test.YtokpmbagidokkacChg
import Derived.Test.YtokpmbagidokkacAppendInts
import Derived.StillTailTactics
namespace Go.Proofs.Ytokpmbagidokkac
open Go Go.RowKit

set_option maxHeartbeats 1000000 in
theorem specAdd_no (W : World) (v : Value) (xs : List Int) (H : RdI W v xs) (hl : xs.length ≤ 2000000) (h : ¬ (AreB xs ∧ xs.length ≤ 38)) :
    Calls Try.prog 50 #[v] W (RowI [] W) := by
  obtain ⟨a, cap, rfl, hi, hn⟩ := H
  have HX := Lib.hid hi
  clear hi
  by_cases hb : AreB xs
  · have hd : decide (AreB xs) = true := decide_eq_true hb
    have h38 : (38 : Int) < (xs.length : Int) := by
      rcases Nat.lt_or_ge 38 xs.length with q | q
      · omega
      · exact absurd ⟨hb, q⟩ h
    clear h hb
    go_enter Try.func50, Try.ntmps50
    go_wp2_with fail
    go_at_call 82
    refine (specBytes_any _ _ _ _ xs HX.out (by omega)).mono ?_
    rintro e w1 ⟨rfl, rfl⟩
    rw [hd]
    go_wp2
    go_ret
    exact ⟨_, rfl, owI_row (World.ownsRow_made W #[] 0 (Nat.le_refl _) (by unfold maxLen; omega) rfl), gby_alloc (gby_refl _ _) _⟩
  · have hd : decide (AreB xs) = false := decide_eq_false hb
    clear h hb
    go_enter Try.func50, Try.ntmps50
    go_wp2_with fail
    go_at_call 82
    refine (specBytes_any _ _ _ _ xs HX.out (by omega)).mono ?_
    rintro e w1 ⟨rfl, rfl⟩
    rw [hd]
    go_wp2
    go_ret
    exact ⟨_, rfl, owI_row (World.ownsRow_made W #[] 0 (Nat.le_refl _) (by unfold maxLen; omega) rfl), gby_alloc (gby_refl _ _) _⟩

set_option maxRecDepth 4000 in
set_option maxHeartbeats 1000000 in
theorem specAdd_yes (W : World) (v : Value) (xs : List Int) (H : RdI W v xs) (hb : AreB xs) (h38 : xs.length ≤ 38) :
    Calls Try.prog 50 #[v] W (RowI (addC xs) W) := by
  obtain ⟨a, cap, rfl, hi, hn⟩ := H
  obtain ⟨i0, hi0, hz0, hz1, hz2⟩ := info_parts infoInt
  have hd : decide (AreB xs) = true := decide_eq_true hb
  have hl : ¬ (38 : Int) < (xs.length : Int) := by omega
  have hc := crc_lt (toN xs) 65535 (by decide) (toN_byte hb.1)
  have HX := Lib.hid hi
  have HB := Lib.hid hb
  have HN := Lib.hid hn
  clear hi hb hn
  obtain ⟨c, hcn⟩ : ∃ c : Nat, c = crc 65535 (toN xs) := ⟨_, rfl⟩
  go_enter Try.func50, Try.ntmps50
  go_wp2_with fail
  go_at_call 82
  refine (specBytes_any _ _ _ _ xs HX.out (by omega)).mono ?_
  rintro e w1 ⟨rfl, rfl⟩
  rw [hd]
  clear hd
  go_wp2_with fail
  go_at_call 86
  refine (specCheck_in _ _ _ _ xs HX.out HB.out).mono ?_
  rintro e w1 ⟨rfl, d1⟩
  rw [← hcn] at hc ⊢
  have HI1 := Lib.hid (HX.out.kept (d1.gby none))
  have G1 := Lib.hid (d1.gby none)
  have HCN := Lib.hid hcn
  clear d1 hcn
  go_wp2_with (at_builtin; first
    | (refine wpList_append_isl _ rfl _ _ rfl w1.heap.size _ 0 [] rfl (World.ownsRow_made w1 #[] 0 (Nat.le_refl _) (by unfold maxLen; omega) rfl) a xs.length cap xs rfl (HI1.out.kept (gby_alloc (gby_refl _ _) _)) HN.out.1 (by omega) (by simp) ?_; intro v2 w2 hown2 hg2; have hs2 := hg2.size; simp only [World.size_alloc] at hs2; have HO2 := Lib.hid hown2; have HG2 := Lib.hid (show (w1.alloc (.cells #[] 3)).grownBy w2 (some w1.heap.size) from hg2); clear hown2 hg2)
    | (refine wpList_append_lies _ (by rfl) _ _ _ (by rfl) w1.heap.size 3 i0 _ 1 8 Try.underlying22 hi0 hz0 hz1 hz2 rfl (by omega) _ (0 + xs.length) (i64s ([] ++ xs)) (by rfl) (HO2.out.alloc _) ⟨w2.heap.size, 0, none⟩ 2 2 _ (by rfl) (by rfl) (World.news_of_block (t := 3) (fr := (0, 0)) (heap_alloc_new w2 _)) (by simp [Value.oneCell']) (by omega) (by unfold maxLen; omega) (by omega) (by simp; omega) (w2.heap.size + 1) (by simp) ?_; intro gg cap2 w5 hown5 hgrow5 hat hlt1; have HO5 := Lib.hid hown5; have HG5 := Lib.hid hgrow5; clear hown5 hgrow5 hat hlt1))
  go_ret
  refine ⟨_, rfl, ?_, ?_⟩
  · have q := HO5.out
    have e1 : (c : Int) / 256 = ((c / 256 : Nat) : Int) := by omega
    have e2 : (c : Int) % 256 = ((c % 256 : Nat) : Int) := by omega
    rw [e1, e2, List.nil_append, Nat.zero_add] at q
    have q2 : w5.ownsRow w1.heap.size 3 1 (.slice (some ⟨gg, 0, none⟩) (xs.length + 2) cap2) (xs.length + 2) (i64s (addC xs)) := by
      unfold addC
      rw [← HCN.out, i64s_append]
      exact q
    exact (owI_row q2).wide G1.out.size (Nat.le_refl _)
  · exact gby_new (gby_alloc (gby_new (gby_alloc G1.out _) HG2.out (fun i hi => by obtain rfl := Option.some.inj hi; exact G1.out.size)) _) HG5.out (fun i hi => Nat.le_trans G1.out.size (own_from HO2.out i hi))

theorem ans_quiet_w {P : Program} {f : FuncId} {args : Array Value} {w : World} {n : Nat} {v : Value} (h : ∀ m, Calls P f args (w.drewN m) (Ans v (w.drewN m))) : Calls P f args (w.drewN n) fun e w'' => e = .returned v ∧ ∃ m, w'' = w.drewN m := Calls.quiet_of (h n)

set_option maxRecDepth 4000 in
set_option maxHeartbeats 1000000 in
theorem specTake_yes (W : World) (v : Value) (xs : List Int) (H : RdI W v xs) (h : FrameOk xs) :
    Calls Try.prog 53 #[v] W (RowIB (xs.take (xs.length - 2)) true W) := by
  obtain ⟨a, cap, rfl, hi, hcap⟩ := H
  obtain ⟨n, hn⟩ : ∃ n : Nat, xs.length = n + 2 := ⟨xs.length - 2, by have := h.2.1; omega⟩
  have hb := h.1
  have hd : decide (AreB xs) = true := decide_eq_true hb
  have h40 : n + 2 ≤ 40 := hn ▸ hb.2
  have hf := (frameOk_iff xs h.2.1 hb).1 h
  rw [show xs.length - 2 = n by omega, show xs.length - 1 = n + 1 by omega] at hf
  rw [show xs.length - 2 = n by omega]
  have b1 := areB_at hb (k := n) (by omega)
  have b2 := areB_at hb (k := n + 1) (by omega)
  obtain ⟨b, off, rfl, hcell⟩ := hi.2.resolve_left (by omega)
  have c1 := hcell n (by omega)
  have c2 := hcell (n + 1) (by omega)
  have hfi : ((crc 65535 (toN (xs.take n)) : Nat) : Int) = xs.getD n 0 * 256 + xs.getD (n + 1) 0 := by omega
  obtain ⟨x1, e1⟩ : ∃ x, x = xs.getD n 0 := ⟨_, rfl⟩
  obtain ⟨x2, e2⟩ : ∃ x, x = xs.getD (n + 1) 0 := ⟨_, rfl⟩
  rw [← e1] at c1 b1 hfi
  rw [← e2] at c2 b2 hfi
  obtain ⟨c, hcn⟩ : ∃ c : Nat, c = crc 65535 (toN (xs.take n)) := ⟨_, rfl⟩
  rw [← hcn] at hfi
  have hne : ((c : Int) != x1 * 256 + x2) = false := by rw [hfi]; simp
  have HX := Lib.hid hi
  have HT := Lib.hid (hi.take n (by omega))
  have HB := Lib.hid (show AreB (xs.take n) from ⟨fun x hx => hb.1 x (List.mem_of_mem_take hx), by rw [List.length_take]; omega⟩)
  have HC := Lib.hid (fun j cp => show Calls Try.prog 86 #[.slice (some ⟨b, off, none⟩) n cp] (W.drewN j) (Ans (.int .i64 (c : Int)) (W.drewN j)) from hcn ▸ specCheck_in _ _ _ _ _ (HT.out.kept (gby_drewN (gby_refl _ _) j)) HB.out)
  have HCN := Lib.hid hcn
  have hl : ¬ ((n : Int) + 2) < 2 := by omega
  have hcp : (n : Int) ≤ (cap : Int) := by have := hcap.2; omega
  have n0 : (0 : Int) ≤ (n : Int) := by omega
  have m0 : (0 : Int) ≤ (n : Int) + 1 := by omega
  have tn : ((n : Int)).toNat = n := by omega
  have tm : ((n : Int) + 1).toNat = n + 1 := by omega
  have HN := Lib.hid hn
  rw [hn] at hi ⊢
  rw [hn] at HX
  clear hi hb h hcell e1 e2 hf hn hcn hfi hcap
  obtain ⟨i0, hi0, hz0, hz1, hz2⟩ := info_parts infoInt
  go_enter Try.func53, Try.ntmps53
  go_wp2_with fail
  go_at_call 82
  refine (specBytes_any _ _ _ _ xs HX.out (by omega)).mono ?_
  rintro e w1 ⟨rfl, rfl⟩
  rw [hd]
  clear hd
  go_wp2_with fail
  go_quiet ((go_at_call 86; exact ans_quiet_w (fun j => HC.out j _)))
  go_wp2_with (at_builtin; refine wpList_append_isl _ rfl _ _ rfl W.heap.size _ 0 [] rfl (World.ownsRow_made (W.drewN nq) #[] 0 (Nat.le_refl _) (by unfold maxLen; omega) rfl) (some ⟨b, off, none⟩) n cap _ rfl (HT.out.kept (gby_alloc (gby_drewN (gby_refl _ _) nq) _)) (by intro h; cases h) (by omega) (by simp) ?_; intro v2 w2 hown2 hg2; have HO2 := Lib.hid hown2; have HG2 := Lib.hid (show ((W.drewN nq).alloc (.cells #[] 3)).grownBy w2 (some W.heap.size) from hg2); clear hown2 hg2)
  go_ret2
  refine ⟨_, rfl, ?_, ?_⟩
  · have q := HO2.out
    rw [List.nil_append] at q
    exact owI_row q
  · exact gby_new (gby_alloc (gby_drewN (gby_refl W none) nq) _) HG2.out (fun i hi => by obtain rfl := Option.some.inj hi; exact Nat.le_refl _)

set_option maxRecDepth 4000 in
set_option maxHeartbeats 1000000 in
theorem specTake_bad (W : World) (v : Value) (xs : List Int) (H : RdI W v xs) (h2 : 2 ≤ xs.length) (hb : AreB xs) (h : ¬ FrameOk xs) :
    Calls Try.prog 53 #[v] W (RowIB [] false W) := by
  obtain ⟨a, cap, rfl, hi, hcap⟩ := H
  obtain ⟨n, hn⟩ : ∃ n : Nat, xs.length = n + 2 := ⟨xs.length - 2, by omega⟩
  have hd : decide (AreB xs) = true := decide_eq_true hb
  have h40 : n + 2 ≤ 40 := hn ▸ hb.2
  have hf := fun q => h ((frameOk_iff xs h2 hb).2 q)
  rw [show xs.length - 2 = n by omega, show xs.length - 1 = n + 1 by omega] at hf
  rw [hn] at hi hcap
  have b1 := areB_at hb (k := n) (by omega)
  have b2 := areB_at hb (k := n + 1) (by omega)
  obtain ⟨b, off, rfl, hcell⟩ := hi.2.resolve_left (by omega)
  have c1 := hcell n (by omega)
  have c2 := hcell (n + 1) (by omega)
  have hfi : ((crc 65535 (toN (xs.take n)) : Nat) : Int) ≠ xs.getD n 0 * 256 + xs.getD (n + 1) 0 := fun q => hf (by omega)
  obtain ⟨x1, e1⟩ : ∃ x, x = xs.getD n 0 := ⟨_, rfl⟩
  obtain ⟨x2, e2⟩ : ∃ x, x = xs.getD (n + 1) 0 := ⟨_, rfl⟩
  rw [← e1] at c1 b1 hfi
  rw [← e2] at c2 b2 hfi
  obtain ⟨c, hcn⟩ : ∃ c : Nat, c = crc 65535 (toN (xs.take n)) := ⟨_, rfl⟩
  rw [← hcn] at hfi
  have hne : ((c : Int) != x1 * 256 + x2) = true := by simpa using hfi
  have HX := Lib.hid hi
  have HT := Lib.hid (hi.take n (by omega))
  have HB := Lib.hid (show AreB (xs.take n) from ⟨fun x hx => hb.1 x (List.mem_of_mem_take hx), by rw [List.length_take]; omega⟩)
  have HC := Lib.hid (fun j cp => show Calls Try.prog 86 #[.slice (some ⟨b, off, none⟩) n cp] (W.drewN j) (Ans (.int .i64 (c : Int)) (W.drewN j)) from hcn ▸ specCheck_in _ _ _ _ _ (HT.out.kept (gby_drewN (gby_refl _ _) j)) HB.out)
  have hl : ¬ ((n : Int) + 2) < 2 := by omega
  have hcp : (n : Int) ≤ (cap : Int) := by have := hcap.2; omega
  have n0 : (0 : Int) ≤ (n : Int) := by omega
  have m0 : (0 : Int) ≤ (n : Int) + 1 := by omega
  have tn : ((n : Int)).toNat = n := by omega
  have tm : ((n : Int) + 1).toNat = n + 1 := by omega
  rw [hn]
  clear hi hb h hcell e1 e2 hf hn hcn hfi hcap h2
  go_enter Try.func53, Try.ntmps53
  go_wp2_with fail
  go_at_call 82
  refine (specBytes_any _ _ _ _ xs HX.out (by omega)).mono ?_
  rintro e w1 ⟨rfl, rfl⟩
  rw [hd]
  clear hd
  go_wp2_with fail
  go_quiet ((go_at_call 86; exact ans_quiet_w (fun j => HC.out j _)))
  go_wp2
  go_ret2
  exact ⟨_, rfl, owI_row (World.ownsRow_made (W.drewN nq) #[] 0 (Nat.le_refl _) (by unfold maxLen; omega) rfl), gby_alloc (gby_drewN (gby_refl W none) nq) _⟩

set_option maxHeartbeats 1000000 in
theorem specTake_no (W : World) (v : Value) (xs : List Int) (H : RdI W v xs) (hl : xs.length ≤ 1048576) (h : ¬ AreB xs ∨ xs.length < 2) :
    Calls Try.prog 53 #[v] W (RowIB [] false W) := by
  obtain ⟨a, cap, rfl, hi, hcap⟩ := H
  have HX := Lib.hid hi
  clear hi hcap
  by_cases hb : AreB xs
  · have hd : decide (AreB xs) = true := decide_eq_true hb
    have h2 : (xs.length : Int) < 2 := by
      rcases h with q | q
      · exact absurd hb q
      · omega
    clear h hb
    go_enter Try.func53, Try.ntmps53
    go_wp2_with fail
    go_at_call 82
    refine (specBytes_any _ _ _ _ xs HX.out (by omega)).mono ?_
    rintro e w1 ⟨rfl, rfl⟩
    rw [hd]
    go_wp2
    go_ret2
    exact ⟨_, rfl, owI_row (World.ownsRow_made W #[] 0 (Nat.le_refl _) (by unfold maxLen; omega) rfl), gby_alloc (gby_refl _ _) _⟩
  · have hd : decide (AreB xs) = false := decide_eq_false hb
    clear h hb
    go_enter Try.func53, Try.ntmps53
    go_wp2_with fail
    go_at_call 82
    refine (specBytes_any _ _ _ _ xs HX.out (by omega)).mono ?_
    rintro e w1 ⟨rfl, rfl⟩
    rw [hd]
    go_wp2
    go_ret2
    exact ⟨_, rfl, owI_row (World.ownsRow_made W #[] 0 (Nat.le_refl _) (by unfold maxLen; omega) rfl), gby_alloc (gby_refl _ _) _⟩

/-- a copy of a row with one bit changed, or not -/
def flipOr (xs : List Int) (q : Int) : List Int := if AreB xs ∧ 0 ≤ q ∧ q ≤ 8 * (xs.length : Int) - 1 then flipI xs q.toNat else xs

end Go.Proofs.Ytokpmbagidokkac
