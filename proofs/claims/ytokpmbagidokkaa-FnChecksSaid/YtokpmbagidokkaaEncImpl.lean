/-
  Contract of the program's EncodePacket.
-/
import Derived.Test.YtokpmbagidokkaaWireImpl
import Derived.Test.YtokpmbagidokkaaPkImpl
import Derived.Deep.RegionHeld3
import Derived.Laws.CopyOwn
import Derived.StillTailTactics
namespace Go.Proofs.Ytokpmbagidokkaa
open Go Go.RowKit

set_option maxHeartbeats 1000000 in
theorem implEnc_no (W : World) (k f t a l g s : Int) (d : Option Addr) (len cap : Nat) (xs : List Int) (H : ISl W d len xs) (hl : len ≤ 1048576) (h : ¬ PkOk k f t a l g s xs) :
    Calls Try.prog 17 #[pkV k f t a l g s d len cap] W (RowI [] W) := by
  have HX := Lib.hid H
  clear H
  unfold pkV
  go_enter Try.func17, Try.ntmps17
  go_wp2_with fail
  go_at_call 51
  refine (implPk_false _ _ _ _ _ _ _ _ _ _ _ xs (HX.out.kept (gby_alloc (gby_refl _ _) _)) hl h).mono ?_
  rintro e w1 ⟨rfl, g1⟩
  have G1 := Lib.hid (gby_trans (gby_alloc (gby_refl W none) _) g1)
  clear g1
  go_wp2
  go_ret
  exact ⟨_, rfl, owI_row (World.ownsRow_nil _ _ _ _), G1.out⟩

/-- a row of zeros that was made -/
theorem zero_heap {w : World} {g n : Nat} (h : w.ownsRow g 3 1 (.slice (some ⟨g, 0, none⟩) n n) n (madeCells (Value.int .i64 0).cells (n * 1)).toList) : w.heap[g]? = some (.cells (i64s (List.replicate n 0)).toArray 3 (0, 0)) := by
  have e : (madeCells (Value.int .i64 0).cells (n * 1)).toList = i64s (List.replicate n 0) := by
    rw [show (Value.int .i64 0).cells = #[Value.int .i64 0] from rfl, Nat.mul_one, toList_madeCells_one]; simp [i64s]
  rw [e] at h
  rcases h.2 with ⟨hv, _⟩ | ⟨g', cap, cur, hv, _, hg, _, _, hs, ht⟩
  · cases hv
  · injection hv with h1 h2 h3
    injection h1 with h1
    injection h1 with h1
    subst h1; subst h3
    rw [List.take_of_length_le (by simp; omega)] at ht
    rw [← ht, Array.toArray_toList]
    exact hg

theorem gby_up {w a b : World} {B : Nat} (h : w.grownBy a none) (k : Below B a b) (hB : w.heap.size ≤ B) : w.grownBy b none :=
  ⟨k.os.trans h.os, k.tape.trans h.tape, k.output.trans h.output, Nat.le_trans h.size k.size, fun i hi hn => (k.block i (Nat.lt_of_lt_of_le hi hB)).trans (h.block i hi hn)⟩

/-- a row that lies whole in a block -/
theorem row_of_heap {w : World} {g n base : Nat} {ys : List Int} (h : w.heap[g]? = some (.cells (i64s ys).toArray 3 (0, 0))) (hl : ys.length = n) (hb : base ≤ g) (hn : n ≤ maxLen) : w.ownsRow base 3 1 (.slice (some ⟨g, 0, none⟩) n n) n (i64s ys) :=
  ⟨by simp [i64s, hl], .inr ⟨g, n, _, rfl, hb, h, Nat.le_refl _, hn, by simp [i64s, hl], by rw [List.take_of_length_le (by simp [i64s, hl])]⟩⟩

theorem own_src {w : World} {base n c : Nat} {a : Option Addr} {xs : List Value} (h : w.ownsRow base 3 1 (.slice a n c) n xs) (hp : 0 < n) : ∃ ad, a = some ad ∧ ∀ j v, xs[j]? = some v → w.cell? (ad.add j) = some v := by
  obtain ⟨g, cap, hv, _, _⟩ := h.form hp
  injection hv with h1 h2 h3
  subst h1
  exact ⟨_, rfl, h.cells rfl⟩

set_option maxRecDepth 4000 in
set_option maxHeartbeats 1000000 in
theorem implEnc_yes (W : World) (k f t a l g s : Int) (d : Option Addr) (len cap : Nat) (xs : List Int) (H : ISl W d len xs) (hl : len ≤ 1048576) (h : PkOk k f t a l g s xs) :
    Calls Try.prog 17 #[pkV k f t a l g s d len cap] W (RowI (encL k f t a l g s xs) W) := by
  obtain ⟨i0, hi0, hz0, hz1, hz2⟩ := info_parts infoInt
  obtain ⟨hk, hf, ht, ha, hll, hg, hs, hxs⟩ := pk_bounds h
  have HH := Lib.hid h
  have HX := Lib.hid H
  have hlen : len ≤ 8 := by have := H.1; omega
  clear h H
  unfold pkV
  go_enter Try.func17, Try.ntmps17
  go_wp2_with fail
  go_at_call 51
  refine (implPk_true _ _ _ _ _ _ _ _ _ _ _ xs (HX.out.kept (gby_alloc (gby_refl _ _) _)) hl HH.out).mono ?_
  rintro e w1 ⟨rfl, g1⟩
  have hr := row_later g1 (heap_alloc_new W _)
  obtain ⟨r0, r1, r2, r3, r4, r5, r6, r7⟩ := pk_row hr
  have G1 := Lib.hid (gby_trans (gby_alloc (gby_refl W none) _) g1)
  have HR := Lib.hid hr
  clear g1 hr
  go_wp2_with fail
  go_at_call 20
  refine (implSplit_in a _ ha.1 ha.2).mono ?_
  rintro e w2 ⟨rfl, d2⟩
  have hr := row_later (d2.gby none) HR.out
  clear r0 r1 r2 r3 r4 r5 r6 r7
  obtain ⟨r0, r1, r2, r3, r4, r5, r6, r7⟩ := pk_row hr
  have HR2 := Lib.hid hr
  have G2 := Lib.hid (gby_trans G1.out (d2.gby none))
  clear hr d2
  have hs2 := G2.out.size
  have hs1 : W.heap.size < w2.heap.size := block_in HR2.out
  have hsz : (Try.prog.info? 3).map (·.size) = some 1 := by rw [hi0]; simp [hz1]
  go_upto_region 5 with (at_make; refine wpList_make_full _ rfl _ _ 24 rfl w2.heap.size 3 i0 (.int .i64 0) 1 Try.underlying24 hi0 hz0 hz1 .i64 .i64 _ _ (8 + 2 * len) rfl rfl (by simp) (by simp) (by rw [hz2]; omega) (by unfold maxLen; omega) (Nat.le_refl _) ?_; intro w3 hown3 hg3; have hz := zero_heap hown3; have hr := row_later hg3 HR2.out; clear r0 r1 r2 r3 r4 r5 r6 r7; obtain ⟨r0, r1, r2, r3, r4, r5, r6, r7⟩ := pk_row hr; have HR3 := Lib.hid hr; have G3 := Lib.hid (gby_trans G2.out hg3); have hs3 := hg3.size; have hs4 := block_in hz; have HZ := Lib.hid hz; clear hown3 hg3 hr hz)
  apply wp_region_lit
  repeat ((fail_if_success (with_reducible show wpList _ _ _ [_] _ _)); (first | go_skip | go_guarded | go_step | go_upon))
  refine wpList_copy_splice rfl _ _ _ _ rfl 3 Try.underlying24 hsz _ _ _ _ _ _ rfl rfl w2.heap.size 0 (i64s (List.replicate (8 + 2 * len) 0)) 3 ((heap_alloc_old w3 _ hs4).trans HZ.out) (i64s [k, f, t, a / 256, a % 256, l, g * 16 + s, (len : Int)]) (by simp [i64s]) (fun _ => ⟨rfl, _, rfl, World.news_of_block (t := 3) (fr := (0, 0)) (heap_alloc_new w3 _)⟩) (by simp [i64s]) (by simp [i64s, Value.oneCell']) w2.heap.size _ (Below.refl _ _) (Nat.le_refl _) ?_
  intro w4 h4 b4
  have g4 := gby_up (gby_alloc G3.out _) b4 hs2
  have hr4 : w4.heap[W.heap.size]? = _ := (b4.block _ hs1).trans ((heap_alloc_old w3 _ (block_in HR3.out)).trans HR3.out)
  have c7 := (pk_row hr4).2.2.2.2.2.2.2
  have G4 := Lib.hid g4
  have s4 := b4.size
  simp only [World.size_alloc] at s4
  have hs5 : w2.heap.size < w4.heap.size := by omega
  clear r0 r1 r2 r3 r4 r5 r6 r7 g4 hr4 b4 s4
  have hcs : (i64s (halves xs)).length = 2 * len := by rw [i64s, List.length_map, halves_length, HX.out.1]
  have hb8 : (8 : Int) ≤ 8 + 2 * (len : Int) := by omega
  have hfin : i64s (encL k f t a l g s xs) = splice (splice (i64s (List.replicate (8 + 2 * len) 0)) 0 (i64s [k, f, t, a / 256, a % 256, l, g * 16 + s, (len : Int)])) 8 (i64s (halves xs)) := by
    unfold encL splice
    rw [hcs, HX.out.1]
    simp [i64s]
    omega
  have HF := Lib.hid hfin
  have HCS := Lib.hid hcs
  clear hfin hcs
  rcases Nat.eq_zero_or_pos len with rfl | hl0
  · go_wp2_with fail
    go_region_held3 (fun w' => w'.cell? ⟨W.heap.size, 7, none⟩ = some (.slice d 0 cap))
      (first | exact c7 | exact g5.cell c7 (by simp) | exact c6)
      (first
        | (go_at_call 52; refine (splitW_any _ d 0 cap xs (HX.out.kept (gby_drew G4.out)) hl HH.out.2.1).mono ?_; rintro e w5 ⟨v5, rfl, o5, g5⟩; obtain ⟨a5, c5, rfl⟩ := own_slice o5; have h5 := row_later g5 (show (World.drew w4).heap[w2.heap.size]? = _ from h4.out))
        | (refine step_copy_splice (by rfl) _ _ _ _ (by rfl) 3 Try.underlying24 hsz (some ⟨w2.heap.size, 0, none⟩) a5 0 0 0 c5 (by rfl) (by rfl) w2.heap.size 8 _ 3 h5 (i64s (halves xs)) (by rw [HCS.out]; simp) (fun hp => absurd hp (by rw [HCS.out]; omega)) (by rw [HCS.out, length_splice _ _ _ (by simp [i64s])]; simp [i64s]) (by intro u hu; obtain ⟨y, _, rfl⟩ := List.mem_map.1 hu; rfl) w2.heap.size _ (Below.refl _ _) (Nat.le_refl _) ?_; intro w6 h6 b6; have c6 : w6.cell? ⟨W.heap.size, 7, none⟩ = some (.slice d 0 cap) := (World.cell?_of_block (b6.block _ hs1)).trans (g5.cell c7 (by simp))))
    all_goals
      have H6 := Lib.hid (h6.out.trans (by rw [← HF.out]))
      have G6 := Lib.hid (gby_up (gby_trans (gby_drew G4.out) g5) b6 hs2)
      clear h6 g5 b6 c6 o5 h5
      go_wp2
      go_ret
      exact ⟨_, rfl, owI_row (row_of_heap (n := 8 + 2 * 0) H6.out (by rw [encL_length, HX.out.1]) hs2 (by unfold maxLen; omega)), G6.out⟩
  · have hl1 : ¬ len = 0 := by omega
    go_wp2_with fail
    go_region_held3 (fun w' => w'.cell? ⟨W.heap.size, 7, none⟩ = some (.slice d len cap))
      (first | exact c7 | exact g5.cell c7 (by simp) | exact c6)
      (first
        | (go_at_call 52; refine (splitW_any _ d len cap xs (HX.out.kept (gby_drew G4.out)) hl HH.out.2.1).mono ?_; rintro e w5 ⟨v5, rfl, o5, g5⟩; obtain ⟨a5, c5, rfl⟩ := own_slice o5; have h5 := row_later g5 (show (World.drew w4).heap[w2.heap.size]? = _ from h4.out))
        | (refine step_copy_splice (by rfl) _ _ _ _ (by rfl) 3 Try.underlying24 hsz (some ⟨w2.heap.size, 8, none⟩) a5 (2 * len) (2 * len) (2 * len) c5 (by rfl) (by rfl) w2.heap.size 8 _ 3 h5 (i64s (halves xs)) (by rw [HCS.out]; simp) (fun _ => ⟨rfl, own_src o5 (by omega)⟩) (by rw [HCS.out, length_splice _ _ _ (by simp [i64s])]; simp [i64s]) (by intro u hu; obtain ⟨y, _, rfl⟩ := List.mem_map.1 hu; rfl) w2.heap.size _ (Below.refl _ _) (Nat.le_refl _) ?_; intro w6 h6 b6; have c6 : w6.cell? ⟨W.heap.size, 7, none⟩ = some (.slice d len cap) := (World.cell?_of_block (b6.block _ hs1)).trans (g5.cell c7 (by simp))))
    all_goals
      have H6 := Lib.hid (h6.out.trans (by rw [← HF.out]))
      have G6 := Lib.hid (gby_up (gby_trans (gby_drew G4.out) g5) b6 hs2)
      clear h6 g5 b6 c6 o5 h5
      go_wp2
      go_ret
      exact ⟨_, rfl, owI_row (row_of_heap (n := 8 + 2 * len) H6.out (by rw [encL_length, HX.out.1]) hs2 (by unfold maxLen; omega)), G6.out⟩

end Go.Proofs.Ytokpmbagidokkaa
