/-
  Senders copied by the program.
-/
import Derived.Test.YtcenngekjopjpaaSndOk
import Derived.Test.YtcenngekjopjpaaAppP
import Derived.Test.YtcenngekjopjpaaFrCp
import Derived.Test.YtcenngekjopjpaaQSender
import Derived.Lib.SliceRun
import Derived.Deep.RegionLaw
namespace Go.Proofs.Ytcenngekjopjpaa
open Go Go.RowKit
set_option linter.unusedVariables false

/-- a frame as it lies in its cells -/
structure RawF where
  f : Int
  p : Option Addr
  n : Nat
  c : Nat
instance : Inhabited RawF := ⟨⟨0, none, 0, 0⟩⟩
def rawC (x : RawF) : List Value := [.int .i64 x.f, .slice x.p x.n x.c]
def shRaw : Shp RawF where
  n := 2
  rd w cs x := cs = rawC x
  ow w lo hi cs x := cs = rawC x
  size x := 0
  ec x := 0
  em m x := x
  c := 0
  len := by rintro w cs x rfl; rfl
  grow := by rintro w w' cs x h g; exact h
  keep := by rintro w w' lo hi lo' hi' cs x h g hd; exact h
  read := by rintro w lo hi cs x h; exact h
  ecb := by intro x; exact Nat.zero_le _
theorem plainRaw : Plain shRaw rawC := ⟨fun _ => rfl, by decide, fun h => h, fun _ _ => rfl, fun _ _ _ _ => rfl, fun x u hu => by simp only [rawC, List.mem_cons, List.not_mem_nil, or_false] at hu; rcases hu with rfl | rfl <;> rfl⟩
theorem slTFrame : SlT 27 37 2 := slT_of Try.underlying27 infoFrameS rfl (by omega)
def rawL (xs : List DFrame) (p : Nat → Option Addr) (n c : Nat → Nat) : List RawF := (List.range xs.length).map fun k => ⟨(fr xs k).f0, p k, n k, c k⟩
theorem rawL_len (xs : List DFrame) (p : Nat → Option Addr) (n c : Nat → Nat) : (rawL xs p n c).length = xs.length := by simp [rawL]
theorem rawL_at (xs : List DFrame) (p : Nat → Option Addr) (n c : Nat → Nat) {k : Nat} (hk : k < xs.length) : (rawL xs p n c).getD k default = ⟨(fr xs k).f0, p k, n k, c k⟩ := by
  unfold rawL
  rw [List.getD_eq_getElem?_getD, List.getElem?_map, List.getElem?_range hk]
  rfl
theorem raw_of {W : World} {a : Option Addr} {n0 c0 : Nat} {xs : List DFrame} (H : RdL shFrame W (.slice a n0 c0) xs) : ∃ (p : Nat → Option Addr) (n c : Nat → Nat), RdL shRaw W (.slice a n0 c0) (rawL xs p n c) ∧ ∀ k, k < xs.length → RdL shI W (.slice (p k) (n k) (c k)) (fr xs k).f1 := by
  obtain ⟨a', c', e, h1, h2, h3⟩ := H
  injection e with e1 e2 e3
  subst e1 e2 e3
  rcases h3 with h3 | ⟨b, off, ha, h3⟩
  · exact ⟨fun _ => none, fun _ => 0, fun _ => 0, ⟨a, c0, by rw [rawL_len], by rw [rawL_len]; exact h1, by rw [rawL_len]; exact h2, .inl (by rw [rawL_len]; exact h3)⟩, fun k hk => by omega⟩
  · have key : ∀ k : Nat, ∃ r : RawF, k < xs.length → At W b (off + k * 2) (rawC r) ∧ r.f = (fr xs k).f0 ∧ RdL shI W (.slice r.p r.n r.c) (fr xs k).f1 := by
      intro k
      by_cases hk : k < xs.length
      · obtain ⟨cs, hat, v1, rfl, hr⟩ := h3 k hk
        obtain ⟨p, n, c, hv⟩ := RdL.form hr
        subst hv
        exact ⟨⟨_, p, n, c⟩, fun _ => ⟨hat, rfl, hr⟩⟩
      · exact ⟨default, fun h => absurd h hk⟩
    obtain ⟨f, hf⟩ := Classical.axiomOfChoice key
    refine ⟨fun k => (f k).p, fun k => (f k).n, fun k => (f k).c, ⟨a, c0, by rw [rawL_len], by rw [rawL_len]; exact h1, by rw [rawL_len]; exact h2, .inr ⟨b, off, ha, fun k hk => ?_⟩⟩, fun k hk => (hf k hk).2.2⟩
    rw [rawL_len] at hk
    obtain ⟨q1, q2, q3⟩ := hf k hk
    refine ⟨rawC (f k), q1, ?_⟩
    rw [rawL_at _ _ _ _ hk]
    show rawC (f k) = rawC _
    rw [← q2]
theorem row_cellsF {α : Type} [Inhabited α] {w : World} {base g n cap m : Nat} {e : TypeId} {rs : List α} (cc : α → List Value) (hcc : ∀ x, (cc x).length = m) (hn : n = rs.length) (h : w.ownsRow base e m (.slice (some ⟨g, 0, none⟩) n cap) n (rs.flatMap cc)) : ∃ C : Array Value, w.heap[g]? = some (.cells C e (0, 0)) ∧ C.size = cap * m ∧ n ≤ cap ∧ ∀ j i, j < n → i < m → C[j * m + i]? = (cc (rs.getD j default))[i]? := by
  rcases h.2 with ⟨h', _⟩ | ⟨g', cap', cur, h', _, hg, hc, _, hs, ht⟩
  · simp at h'
  · simp only [Value.slice.injEq, Option.some.injEq, Addr.mk.injEq, and_true, true_and] at h'
    obtain ⟨rfl, rfl⟩ := h'
    refine ⟨cur, hg, hs, hc, fun j i hj hi => ?_⟩
    have q := flat_at cc m hcc rs j i (by omega) hi
    have hlt : j * m + i < n * m := by
      have := Nat.mul_le_mul_right m (show j + 1 ≤ n from hj)
      rw [Nat.succ_mul] at this; omega
    rw [← ht, List.getElem?_take, if_pos hlt, Array.getElem?_toList] at q
    exact q

/-- .. as a row -/
def ClonedRowF (xs : List RawF) (W : World) (e : Ending) (w' : World) : Prop := ∃ v', e = .returned v' ∧ w'.ownsRow W.heap.size 37 2 v' xs.length (xs.flatMap rawC) ∧ W.grownBy w' none
set_option maxHeartbeats 1000000 in
theorem cloneFr_row (W : World) (v : Value) (xs : List RawF) (H : RdL shRaw W v xs) (hl0 : xs.length ≤ 1048576) :
    Calls Try.prog 54 #[v] W (ClonedRowF xs W) := by
  have q22 : ∀ (w : World) (a : Option Addr) (n c n' c' : Nat), (binOp .eql 27 (.slice a n c) (.slice none n' c')).run Try.prog w = .ok (.bool a.isNone) w := fun w a n c n' c' => Lib.run_eql_slice_nil w _ _ a n c n' c' Try.underlying27
  have hl1 : xs.length ≤ 1048576 := hl0
  have hl := hl1
  clear hl0
  have hmx := H.max
  obtain ⟨a, n, cap, rfl⟩ := RdL.form H
  cases a with
  | none =>
    have hr := rdP_cells plainRaw H
    have h0 : n = 0 := by
      rcases hr.2.2 with h | ⟨b, off, h, _⟩
      · exact h
      · cases h
    obtain rfl : xs = [] := List.eq_nil_of_length_eq_zero (hr.1.symm.trans h0)
    subst h0
    obtain rfl := hr.2.1 rfl
    clear hr H hmx hl hl1
    go_enter Try.func54, Try.ntmps54
    go_wp2
    go_ret
    exact ⟨_, rfl, World.ownsRow_nil _ _ _ _, gby_refl _ _⟩
  | some p =>
    have hn : n = xs.length := (rdP_cells plainRaw H).1
    have HX := Lib.hid H
    have HN := Lib.hid hn
    have hn1 : n ≤ 1048576 := by omega
    have HM := Lib.hid hmx
    clear H hmx hl hl1 hn
    go_enter Try.func54, Try.ntmps54
    go_wp2_with (at_builtin; refine wpList_append_plain plainRaw slTFrame _ rfl _ _ rfl W.heap.size _ 0 [] rfl (World.ownsRow_made W #[] 0 (Nat.le_refl _) (by unfold maxLen; omega) (by simp)) (some p) n cap xs rfl (HX.out.grow (gby_alloc (gby_refl _ _) _)) (by omega) (by simp) ?_; intro v2 w2 hown2 hg2; have HO2 := Lib.hid (show w2.ownsRow W.heap.size 37 2 v2 xs.length (xs.flatMap rawC) by have q := hown2; rw [Nat.zero_add, List.nil_append, HN.out] at q; exact q); have HG2 := Lib.hid (gby_new (gby_alloc (gby_refl W none) _) (show (W.alloc (.cells #[] 37)).grownBy w2 (some W.heap.size) from hg2) (fun i hi => by obtain rfl := Option.some.inj hi; exact Nat.le_refl _)); clear hown2 hg2)
    go_ret
    exact ⟨_, rfl, HO2.out, HG2.out⟩


theorem row_drewT {w : World} {b : Nat} {o : Obj} (h : w.heap[b]? = some o) : w.drew.heap[b]? = some o := h

set_option maxRecDepth 8000 in
set_option maxHeartbeats 4000000 in
theorem copiedSnd_d (W : World) (m r : Int) (v : Value) (xs : List DFrame) (H : RdL shFrame W v xs) (hl : szL shFrame xs ≤ 1048576) : Calls Try.prog 41 #[vSender m v r] W (NewSender m xs r W) := by
  obtain ⟨a0, n0, cap0, rfl⟩ := RdL.form H
  have hn0 : n0 = xs.length := by obtain ⟨_, _, e, _⟩ := H; injection e
  obtain ⟨p, n, c, hraw_, hd_⟩ := raw_of H
  have HRAW := Lib.hid hraw_
  have HDAT := Lib.hid hd_
  have HE := Lib.hid hn0
  have HS := Lib.hid hl
  have HM := Lib.hid H.max
  have hlx : n0 ≤ 1048576 := by have := szL_len shFrame xs; omega
  clear hraw_ hd_ H hl hn0
  unfold vSender
  go_enter Try.func41, Try.ntmps41
  have rA1_ := Lib.hid (show (((W.alloc (.cells #[.int .i64 m, .slice a0 n0 cap0, .int .i64 r] 29)).alloc (.cells #[.int .i64 0, .slice none 0 0, .int .i64 0] 29))).heap[W.heap.size]? = some (.cells #[.int .i64 m, .slice a0 n0 cap0, .int .i64 r] 29 (0, 0)) from by rw [heap_alloc_old _ _ (by simp only [World.size_alloc]; omega)]; exact heap_alloc_new _ _)
  have rR2_ := Lib.hid (show (((W.alloc (.cells #[.int .i64 m, .slice a0 n0 cap0, .int .i64 r] 29)).alloc (.cells #[.int .i64 0, .slice none 0 0, .int .i64 0] 29))).heap[W.heap.size + 1]? = some (.cells #[.int .i64 0, .slice none 0 0, .int .i64 0] 29 (0, 0)) from by exact heap_pair _ _ _)
  have G3_ := Lib.hid (show (W).grownBy (((W.alloc (.cells #[.int .i64 m, .slice a0 n0 cap0, .int .i64 r] 29)).alloc (.cells #[.int .i64 0, .slice none 0 0, .int .i64 0] 29))) none from (gby_alloc (gby_alloc (gby_refl _ _) _) _))
  have A_0_ : (((W.alloc (.cells #[.int .i64 m, .slice a0 n0 cap0, .int .i64 r] 29)).alloc (.cells #[.int .i64 0, .slice none 0 0, .int .i64 0] 29))).cell? ⟨W.heap.size, 0, none⟩ = some (.int .i64 m) := cell_of_row _ _ 0 _ _ _ rA1_.out
  have A_1_ : (((W.alloc (.cells #[.int .i64 m, .slice a0 n0 cap0, .int .i64 r] 29)).alloc (.cells #[.int .i64 0, .slice none 0 0, .int .i64 0] 29))).cell? ⟨W.heap.size, 1, none⟩ = some (.slice a0 n0 cap0) := cell_of_row _ _ 1 _ _ _ rA1_.out
  have A_2_ : (((W.alloc (.cells #[.int .i64 m, .slice a0 n0 cap0, .int .i64 r] 29)).alloc (.cells #[.int .i64 0, .slice none 0 0, .int .i64 0] 29))).cell? ⟨W.heap.size, 2, none⟩ = some (.int .i64 r) := cell_of_row _ _ 2 _ _ _ rA1_.out
  have R_0_ : (((W.alloc (.cells #[.int .i64 m, .slice a0 n0 cap0, .int .i64 r] 29)).alloc (.cells #[.int .i64 0, .slice none 0 0, .int .i64 0] 29))).cell? ⟨W.heap.size + 1, 0, none⟩ = some (.int .i64 0) := cell_of_row _ _ 0 _ _ _ rR2_.out
  have R_1_ : (((W.alloc (.cells #[.int .i64 m, .slice a0 n0 cap0, .int .i64 r] 29)).alloc (.cells #[.int .i64 0, .slice none 0 0, .int .i64 0] 29))).cell? ⟨W.heap.size + 1, 1, none⟩ = some (.slice none 0 0) := cell_of_row _ _ 1 _ _ _ rR2_.out
  have R_2_ : (((W.alloc (.cells #[.int .i64 m, .slice a0 n0 cap0, .int .i64 r] 29)).alloc (.cells #[.int .i64 0, .slice none 0 0, .int .i64 0] 29))).cell? ⟨W.heap.size + 1, 2, none⟩ = some (.int .i64 0) := cell_of_row _ _ 2 _ _ _ rR2_.out
  go_wp2_with fail
  go_at_call 54
  refine (cloneFr_row _ _ (rawL xs p n c) (HRAW.out.grow G3_.out) (by rw [rawL_len]; have := HE.out; omega)).mono ?_
  rintro e w1 ⟨vq, rfl, hrow_, g⟩
  have szw1 := g.size
  try simp only [World.size_alloc] at szw1
  clear A_0_ A_1_ A_2_ R_0_ R_1_ R_2_
  have rA4_ := Lib.hid (show (w1).heap[W.heap.size]? = some (.cells #[.int .i64 m, .slice a0 n0 cap0, .int .i64 r] 29 (0, 0)) from row_held g rA1_.out)
  clear rA1_
  have rR5_ := Lib.hid (show (w1).heap[W.heap.size + 1]? = some (.cells #[.int .i64 0, .slice none 0 0, .int .i64 0] 29 (0, 0)) from row_held g rR2_.out)
  clear rR2_
  have G6_ := Lib.hid (show (W).grownBy (w1) none from gby_trans G3_.out g)
  simp only [World.size_alloc] at hrow_
  rw [rawL_len, ← HE.out] at hrow_
  have HROW := Lib.hid hrow_
  clear g hrow_
  by_cases h0 : n0 = 0
  rotate_left
  · skip
    obtain ⟨g, capq, hvq_⟩ : ∃ g c', vq = .slice (some ⟨g, 0, none⟩) n0 c' := by
      rcases HROW.out.2 with ⟨_, q⟩ | ⟨g', cap', _, q, _⟩
      · exact absurd q h0
      · exact ⟨g', cap', q⟩
    subst hvq_
    have hgb_ := own_from HROW.out g rfl
    obtain ⟨C0, hC0_, hs0_, hcap_, hc0_⟩ := row_cellsF rawC (fun _ => rfl) (by rw [rawL_len]; exact HE.out) HROW.out
    have HC0 := Lib.hid hC0_
    have HS0 := Lib.hid hs0_
    have HX0 := Lib.hid (show ∀ j, j < n0 → C0[j * 2]? = some (.int .i64 (fr xs j).f0) ∧ C0[j * 2 + 1]? = some (.slice (p j) (n j) (c j)) from fun j hj => by
      have e_ := rawL_at xs p n c (show j < xs.length by have := HE.out; omega)
      have q0 := hc0_ j 0 hj (by omega)
      have q1 := hc0_ j 1 hj (by omega)
      rw [e_] at q0 q1
      exact ⟨q0, q1⟩)
    have hgl_ := lt_of_block HC0.out
    clear hC0_ hs0_ hc0_
    have A_0_ : (w1).cell? ⟨W.heap.size, 0, none⟩ = some (.int .i64 m) := cell_of_row _ _ 0 _ _ _ rA4_.out
    have A_1_ : (w1).cell? ⟨W.heap.size, 1, none⟩ = some (.slice a0 n0 cap0) := cell_of_row _ _ 1 _ _ _ rA4_.out
    have A_2_ : (w1).cell? ⟨W.heap.size, 2, none⟩ = some (.int .i64 r) := cell_of_row _ _ 2 _ _ _ rA4_.out
    have Af0_ : (w1).frozen? ⟨W.heap.size, 0, none⟩ = false := frozen_of_row _ _ 0 _ _ rA4_.out
    have Af1_ : (w1).frozen? ⟨W.heap.size, 1, none⟩ = false := frozen_of_row _ _ 1 _ _ rA4_.out
    have Af2_ : (w1).frozen? ⟨W.heap.size, 2, none⟩ = false := frozen_of_row _ _ 2 _ _ rA4_.out
    have R_0_ : (w1).cell? ⟨W.heap.size + 1, 0, none⟩ = some (.int .i64 0) := cell_of_row _ _ 0 _ _ _ rR5_.out
    have R_1_ : (w1).cell? ⟨W.heap.size + 1, 1, none⟩ = some (.slice none 0 0) := cell_of_row _ _ 1 _ _ _ rR5_.out
    have R_2_ : (w1).cell? ⟨W.heap.size + 1, 2, none⟩ = some (.int .i64 0) := cell_of_row _ _ 2 _ _ _ rR5_.out
    have Rf0_ : (w1).frozen? ⟨W.heap.size + 1, 0, none⟩ = false := frozen_of_row _ _ 0 _ _ rR5_.out
    have Rf1_ : (w1).frozen? ⟨W.heap.size + 1, 1, none⟩ = false := frozen_of_row _ _ 1 _ _ rR5_.out
    have Rf2_ : (w1).frozen? ⟨W.heap.size + 1, 2, none⟩ = false := frozen_of_row _ _ 2 _ _ rR5_.out
    have HA2 := Lib.hid (show (w1.setCell ⟨W.heap.size, 1, none⟩ (.slice (some ⟨g, 0, none⟩) n0 capq)).heap[W.heap.size]? = some (.cells #[.int .i64 m, .slice (some ⟨g, 0, none⟩) n0 capq, .int .i64 r] 29 (0, 0)) from heap_setCell_same _ _ 1 _ _ _ rA4_.out)
    have sa0_ : (w1.setCell ⟨W.heap.size, 1, none⟩ (.slice (some ⟨g, 0, none⟩) n0 capq)).cell? ⟨W.heap.size, 0, none⟩ = some (.int .i64 m) := cell_of_row _ _ 0 _ _ _ HA2.out
    have sa1_ : (w1.setCell ⟨W.heap.size, 1, none⟩ (.slice (some ⟨g, 0, none⟩) n0 capq)).cell? ⟨W.heap.size, 1, none⟩ = some (.slice (some ⟨g, 0, none⟩) n0 capq) := cell_of_row _ _ 1 _ _ _ HA2.out
    have sa2_ : (w1.setCell ⟨W.heap.size, 1, none⟩ (.slice (some ⟨g, 0, none⟩) n0 capq)).cell? ⟨W.heap.size, 2, none⟩ = some (.int .i64 r) := cell_of_row _ _ 2 _ _ _ HA2.out
    have HR2 := Lib.hid (show (w1.setCell ⟨W.heap.size, 1, none⟩ (.slice (some ⟨g, 0, none⟩) n0 capq)).heap[W.heap.size + 1]? = some (.cells #[.int .i64 0, .slice none 0 0, .int .i64 0] 29 (0, 0)) from set_far rR5_.out (by dsimp only; omega))
    have hgn_ : ¬ g = W.heap.size := by omega
    go_wp2
    go_loopw [3, 4, 12] (fun y3 y4 i wr => ∃ (k : Nat) (C : Array Value) (P : Nat → Nat), i = .int .i64 (k : Int) ∧ k ≤ n0 ∧ (∃ q, y3 = q) ∧ (∃ q, y4 = q) ∧ wr.heap[W.heap.size]? = some (.cells #[.int .i64 m, .slice (some ⟨g, 0, none⟩) n0 capq, .int .i64 r] 29 (0, 0)) ∧ wr.heap[W.heap.size + 1]? = some (.cells #[.int .i64 0, .slice none 0 0, .int .i64 0] 29 (0, 0)) ∧ wr.heap[g]? = some (.cells C 37 (0, 0)) ∧ C.size = capq * 2 ∧ Copd shFrame g wr xs C P k ∧ (∀ j, k ≤ j → j < n0 → C[j * 2]? = some (.int .i64 (fr xs j).f0) ∧ C[j * 2 + 1]? = some (.slice (p j) (n j) (c j))) ∧ W.grownBy wr none) (fun _ _ i _ => n0 - (intOf i).toNat)
    case atStart => exact ⟨0, C0, fun _ => w1.heap.size, rfl, by omega, ⟨_, rfl⟩, ⟨_, rfl⟩, HA2.out, HR2.out, set_far HC0.out (by dsimp only; omega), HS0.out, ⟨hgl_, by simp only [World.size_setCell], fun j hj => absurd hj (Nat.not_lt_zero _), fun j hj => absurd hj (Nat.not_lt_zero _)⟩, fun j _ hj => HX0.out j hj, gby_setnew G6_.out _ (by dsimp only; omega) _⟩
    case round =>
      clear HA2 HR2 HC0 HX0 HS0 HROW A_0_ A_1_ A_2_ Af0_ Af1_ Af2_ R_0_ R_1_ R_2_ Rf0_ Rf1_ Rf2_ sa0_ sa1_ sa2_ hgl_
      obtain ⟨k, C, P, rfl, hk, ⟨y3, rfl⟩, ⟨y4, rfl⟩, hA_, hR_, hG_, hCs_, hcp_, hx_, hg_⟩ := hrel
      have HGB := Lib.hid hG_
      have HCS := Lib.hid hCs_
      have HCP := Lib.hid hcp_
      have HXX := Lib.hid hx_
      clear hG_ hCs_ hcp_ hx_
      have hgl_ := lt_of_block HGB.out
      have hk0 : (0 : Int) ≤ (k : Int) := by omega
      have htk : ((k : Int)).toNat = k := by omega
      have rA7_ := Lib.hid (show (wr).heap[W.heap.size]? = some (.cells #[.int .i64 m, .slice (some ⟨g, 0, none⟩) n0 capq, .int .i64 r] 29 (0, 0)) from hA_)
      have rR8_ := Lib.hid (show (wr).heap[W.heap.size + 1]? = some (.cells #[.int .i64 0, .slice none 0 0, .int .i64 0] 29 (0, 0)) from hR_)
      have G9_ := Lib.hid (show (W).grownBy (wr) none from hg_)
      clear hA_ hR_ hg_
      by_cases hlt : k < n0
      rotate_left
      · obtain rfl : k = n0 := by omega
        have hki : ¬ (k : Int) < (k : Int) := by omega
        have HOX := Lib.hid (show OwL shFrame wr (W.heap.size + 1 + 1) wr.heap.size (.slice (some ⟨g, 0, none⟩) k capq) xs from by have q := copd_all (c := capq) (by rw [← HE.out]; exact HCP.out) (by omega) (by rw [← HE.out]; exact hcap_) HM.out HGB.out; rw [← HE.out] at q; exact q)
        have A_0_ : (wr).cell? ⟨W.heap.size, 0, none⟩ = some (.int .i64 m) := cell_of_row _ _ 0 _ _ _ rA7_.out
        have A_1_ : (wr).cell? ⟨W.heap.size, 1, none⟩ = some (.slice (some ⟨g, 0, none⟩) k capq) := cell_of_row _ _ 1 _ _ _ rA7_.out
        have A_2_ : (wr).cell? ⟨W.heap.size, 2, none⟩ = some (.int .i64 r) := cell_of_row _ _ 2 _ _ _ rA7_.out
        have R_0_ : (wr).cell? ⟨W.heap.size + 1, 0, none⟩ = some (.int .i64 0) := cell_of_row _ _ 0 _ _ _ rR8_.out
        have R_1_ : (wr).cell? ⟨W.heap.size + 1, 1, none⟩ = some (.slice none 0 0) := cell_of_row _ _ 1 _ _ _ rR8_.out
        have R_2_ : (wr).cell? ⟨W.heap.size + 1, 2, none⟩ = some (.int .i64 0) := cell_of_row _ _ 2 _ _ _ rR8_.out
        have Rf0_ : (wr).frozen? ⟨W.heap.size + 1, 0, none⟩ = false := frozen_of_row _ _ 0 _ _ rR8_.out
        have Rf1_ : (wr).frozen? ⟨W.heap.size + 1, 1, none⟩ = false := frozen_of_row _ _ 1 _ _ rR8_.out
        have Rf2_ : (wr).frozen? ⟨W.heap.size + 1, 2, none⟩ = false := frozen_of_row _ _ 2 _ _ rR8_.out
        have zr_ := Lib.hid (show ((((wr.setCell ⟨W.heap.size + 1, 0, none⟩ (.int .i64 m)).setCell ⟨W.heap.size + 1, 1, none⟩ (.slice (some ⟨g, 0, none⟩) k capq)).setCell ⟨W.heap.size + 1, 2, none⟩ (.int .i64 r))).heap[W.heap.size + 1]? = some (.cells #[.int .i64 m, .slice (some ⟨g, 0, none⟩) k capq, .int .i64 r] 29 (0, 0)) from (heap_setCell_same _ _ 2 _ _ _ (heap_setCell_same _ _ 1 _ _ _ (heap_setCell_same _ _ 0 _ _ _ rR8_.out))))
        have z0_ : ((((wr.setCell ⟨W.heap.size + 1, 0, none⟩ (.int .i64 m)).setCell ⟨W.heap.size + 1, 1, none⟩ (.slice (some ⟨g, 0, none⟩) k capq)).setCell ⟨W.heap.size + 1, 2, none⟩ (.int .i64 r))).cell? ⟨W.heap.size + 1, 0, none⟩ = some (.int .i64 m) := cell_of_row _ _ 0 _ _ _ zr_.out
        have z1_ : ((((wr.setCell ⟨W.heap.size + 1, 0, none⟩ (.int .i64 m)).setCell ⟨W.heap.size + 1, 1, none⟩ (.slice (some ⟨g, 0, none⟩) k capq)).setCell ⟨W.heap.size + 1, 2, none⟩ (.int .i64 r))).cell? ⟨W.heap.size + 1, 1, none⟩ = some (.slice (some ⟨g, 0, none⟩) k capq) := cell_of_row _ _ 1 _ _ _ zr_.out
        have z2_ : ((((wr.setCell ⟨W.heap.size + 1, 0, none⟩ (.int .i64 m)).setCell ⟨W.heap.size + 1, 1, none⟩ (.slice (some ⟨g, 0, none⟩) k capq)).setCell ⟨W.heap.size + 1, 2, none⟩ (.int .i64 r))).cell? ⟨W.heap.size + 1, 2, none⟩ = some (.int .i64 r) := cell_of_row _ _ 2 _ _ _ zr_.out
        go_wp2
        refine bodyPost_ret (v := .agg #[.int .i64 m, .slice (some ⟨g, 0, none⟩) k capq, .int .i64 r]) (by simp [results, go_sem, z0_, z1_, z2_]) rfl ⟨_, rfl, ?_, ?_⟩
        · exact OwU.wide (by omega) (by simp only [World.size_setCell]; omega) (OwU.keep (chg_one _ _ _ _) (.inr (by omega)) (OwU.keep (chg_one _ _ _ _) (.inr (by omega)) (OwU.keep (chg_one _ _ _ _) (.inr (by omega)) (OwU.one HOX.out))))
        · exact (gby_setnew (gby_setnew (gby_setnew G9_.out _ (by dsimp only; omega) _) _ (by dsimp only; omega) _) _ (by dsimp only; omega) _)
      have hki : (k : Int) < (n0 : Int) := by omega
      obtain ⟨xk, hxk_⟩ : ∃ x, x = xs.getD k default := ⟨_, rfl⟩
      have HXk := Lib.hid (show xk = fr xs k from hxk_)
      have hzk_ : szL shI xk.f1 ≤ 1048576 := by have q1 := szL_at shFrame xs k (by have := HE.out; omega); rw [← hxk_] at q1; exact Nat.le_trans q1 HS.out
      clear hxk_
      obtain ⟨q0_, q1_⟩ := HXX.out k (Nat.le_refl _) hlt
      rw [← HXk.out] at q0_
      obtain ⟨pk, nk, ck, hpk_⟩ : ∃ a b d, a = p k ∧ b = n k ∧ d = c k := ⟨_, _, _, rfl, rfl, rfl⟩
      rw [← hpk_.1, ← hpk_.2.1, ← hpk_.2.2] at q1_
      have HDK := Lib.hid (show RdL shI W (.slice pk nk ck) xk.f1 from by have q := HDAT.out k (by have := HE.out; omega); rw [← HXk.out, ← hpk_.1, ← hpk_.2.1, ← hpk_.2.2] at q; exact q)
      clear hpk_
      have HGW_ := Lib.hid (G9_.out)
      have e0_ : wr.cell? ⟨g, k * 2, none⟩ = some (.int .i64 xk.f0) := (cell_of_row wr _ _ _ _ _ HGB.out).trans q0_
      have e1_ : wr.cell? ⟨g, k * 2 + 1, none⟩ = some (.slice pk nk ck) := (cell_of_row wr _ _ _ _ _ HGB.out).trans q1_
      have Q0 := Lib.hid q0_
      have Q1 := Lib.hid q1_
      clear q0_ q1_
      have A_0_ : (wr).cell? ⟨W.heap.size, 0, none⟩ = some (.int .i64 m) := cell_of_row _ _ 0 _ _ _ rA7_.out
      have A_1_ : (wr).cell? ⟨W.heap.size, 1, none⟩ = some (.slice (some ⟨g, 0, none⟩) n0 capq) := cell_of_row _ _ 1 _ _ _ rA7_.out
      have A_2_ : (wr).cell? ⟨W.heap.size, 2, none⟩ = some (.int .i64 r) := cell_of_row _ _ 2 _ _ _ rA7_.out
      have al_ : (wr).grownBy ((wr).alloc (.cells #[.int .i64 xk.f0, .slice pk nk ck] 37)) none := gby_alloc (gby_refl _ _) _
      have rA10_ := Lib.hid (show ((wr.alloc (.cells #[.int .i64 xk.f0, .slice pk nk ck] 37))).heap[W.heap.size]? = some (.cells #[.int .i64 m, .slice (some ⟨g, 0, none⟩) n0 capq, .int .i64 r] 29 (0, 0)) from row_held al_ rA7_.out)
      clear rA7_
      have rR11_ := Lib.hid (show ((wr.alloc (.cells #[.int .i64 xk.f0, .slice pk nk ck] 37))).heap[W.heap.size + 1]? = some (.cells #[.int .i64 0, .slice none 0 0, .int .i64 0] 29 (0, 0)) from row_held al_ rR8_.out)
      clear rR8_
      have G12_ := Lib.hid (show (W).grownBy ((wr.alloc (.cells #[.int .i64 xk.f0, .slice pk nk ck] 37))) none from gby_trans G9_.out al_)
      have rQ13_ := Lib.hid (show ((wr.alloc (.cells #[.int .i64 xk.f0, .slice pk nk ck] 37))).heap[wr.heap.size]? = some (.cells #[.int .i64 xk.f0, .slice pk nk ck] 37 (0, 0)) from by first | exact heap_alloc_new _ _ | exact heap_pair _ _ _ | exact heap_trip _ _ _ _)
      clear al_
      have A_0_ : ((wr.alloc (.cells #[.int .i64 xk.f0, .slice pk nk ck] 37))).cell? ⟨W.heap.size, 0, none⟩ = some (.int .i64 m) := cell_of_row _ _ 0 _ _ _ rA10_.out
      have A_1_ : ((wr.alloc (.cells #[.int .i64 xk.f0, .slice pk nk ck] 37))).cell? ⟨W.heap.size, 1, none⟩ = some (.slice (some ⟨g, 0, none⟩) n0 capq) := cell_of_row _ _ 1 _ _ _ rA10_.out
      have A_2_ : ((wr.alloc (.cells #[.int .i64 xk.f0, .slice pk nk ck] 37))).cell? ⟨W.heap.size, 2, none⟩ = some (.int .i64 r) := cell_of_row _ _ 2 _ _ _ rA10_.out
      have R_0_ : ((wr.alloc (.cells #[.int .i64 xk.f0, .slice pk nk ck] 37))).cell? ⟨W.heap.size + 1, 0, none⟩ = some (.int .i64 0) := cell_of_row _ _ 0 _ _ _ rR11_.out
      have R_1_ : ((wr.alloc (.cells #[.int .i64 xk.f0, .slice pk nk ck] 37))).cell? ⟨W.heap.size + 1, 1, none⟩ = some (.slice none 0 0) := cell_of_row _ _ 1 _ _ _ rR11_.out
      have R_2_ : ((wr.alloc (.cells #[.int .i64 xk.f0, .slice pk nk ck] 37))).cell? ⟨W.heap.size + 1, 2, none⟩ = some (.int .i64 0) := cell_of_row _ _ 2 _ _ _ rR11_.out
      have Q_0_ : ((wr.alloc (.cells #[.int .i64 xk.f0, .slice pk nk ck] 37))).cell? ⟨wr.heap.size, 0, none⟩ = some (.int .i64 xk.f0) := cell_of_row _ _ 0 _ _ _ rQ13_.out
      have Q_1_ : ((wr.alloc (.cells #[.int .i64 xk.f0, .slice pk nk ck] 37))).cell? ⟨wr.heap.size, 1, none⟩ = some (.slice pk nk ck) := cell_of_row _ _ 1 _ _ _ rQ13_.out
      have HRd := Lib.hid (show RdL shI ((wr.alloc (.cells #[.int .i64 xk.f0, .slice pk nk ck] 37))).drew (.slice pk nk ck) xk.f1 from HDK.out.grow (gby_drew G12_.out))
      have HGQ := Lib.hid (row_held (gby_alloc (gby_refl wr none) (.cells #[.int .i64 xk.f0, .slice pk nk ck] 37)) HGB.out)
      have hkc_ : k * 2 + 1 < C.size := by have := HCS.out; omega
      go_wp2_with fail
      go_region_law (first
        | (go_simp; go_at_call 55; refine (copiedFr_d _ xk.f0 _ xk.f1 HRd.out hzk_).mono ?_; rintro e w1 ⟨vf, rfl, oA, gA⟩; unfold vFrame; obtain ⟨pf, nf, cf, hv_⟩ := RdL.form (OwU.rd oA); subst hv_; have sA := gA.size; (try simp only [World.size_drew, World.size_alloc] at sA); have R1 := Lib.hid (row_held gA (row_drewT HGQ.out)); have RA1 := row_held gA (row_drewT rA10_.out); have a1_ := cell_of_row w1 _ 1 _ _ _ RA1; have t0_ : w1.cell? ⟨g, k * 2, none⟩ = some (.int .i64 xk.f0) := (cell_of_row w1 _ _ _ _ _ R1.out).trans Q0.out; have u0_ : w1.frozen? ⟨g, k * 2, none⟩ = false := frozen_of_row w1 _ _ _ _ R1.out; have t1_ : w1.cell? ⟨g, k * 2 + 1, none⟩ = some (.slice pk nk ck) := (cell_of_row w1 _ _ _ _ _ R1.out).trans Q1.out; have u1_ : w1.frozen? ⟨g, k * 2 + 1, none⟩ = false := frozen_of_row w1 _ _ _ _ R1.out)
        | fail)
      all_goals
        have GW1 := gby_trans (gby_drew (gby_alloc (gby_refl wr none) (.cells #[.int .i64 xk.f0, .slice pk nk ck] 37))) gA
        have O1 := Lib.hid (show OwU w1 wr.heap.size w1.heap.size [] [own shI (.slice pf nf cf) xk.f1] from OwU.wide (by simp only [World.size_drew, World.size_alloc]; omega) (Nat.le_refl _) oA)
        have RR1 := row_held gA (row_drewT rR11_.out)
        have hn := copd_next (m := capq) (cs := [.int .i64 xk.f0, (.slice pf nf cf)]) HCP.out (by omega) HCS.out GW1 (show shFrame.ow _ _ _ _ _ from by rw [show xs.getD k default = xk from HXk.out.symm]; exact ⟨(.slice pf nf cf), rfl, O1.out⟩)
        have HN := Lib.hid hn
        have GG := Lib.hid (gby_trans (HGW_.out) GW1)
        have RAx := Lib.hid RA1
        have RRx := Lib.hid RR1
        clear hn RA1 RR1 GW1 oA gA t0_ t1_ u0_ u1_ a1_
        go_wp2
        refine ⟨⟨k + 1, putC C (k * shFrame.n) [.int .i64 xk.f0, (.slice pf nf cf)], (fun j => if j = k + 1 then w1.heap.size else P j), by go_num, by omega, ⟨_, rfl⟩, ⟨_, rfl⟩, ?_, ?_, putW_heap [.int .i64 xk.f0, (.slice pf nf cf)] R1.out, by rw [putC_size]; exact HCS.out, HN.out, fun j hj1 hj2 => ?_, ?_⟩, by simp [intOf]; omega⟩
        · exact set_far (set_far RAx.out (by dsimp only; omega)) (by dsimp only; omega)
        · exact set_far (set_far RRx.out (by dsimp only; omega)) (by dsimp only; omega)
        · obtain ⟨q0, q1⟩ := HXX.out j (by omega) hj2
          have hm_ : k * shFrame.n = k * 2 := rfl
          rw [hm_, putC_out _ _ _ _ (.inr (by show k * 2 + 2 ≤ j * 2; omega)), putC_out _ _ _ _ (.inr (by show k * 2 + 2 ≤ j * 2 + 1; omega))]
          exact ⟨q0, q1⟩
        · repeat (with_reducible refine gby_setnew ?_ _ (by dsimp only; omega) _)
          exact GG.out
  · subst h0
    have hx0_ : xs = [] := List.eq_nil_of_length_eq_zero HE.out.symm
    obtain ⟨gq, capq, hvq_⟩ : ∃ a c', vq = .slice a 0 c' := by
      rcases HROW.out.2 with ⟨q, _⟩ | ⟨g', cap', _, q, _⟩
      · exact ⟨_, _, q⟩
      · exact ⟨_, cap', q⟩
    subst hvq_
    have HOX := Lib.hid (show OwL shFrame w1 (W.heap.size + 1 + 1) w1.heap.size (.slice gq 0 capq) xs from by
      subst hx0_
      rcases HROW.out.2 with ⟨q, _⟩ | ⟨g', cap', _, q, h1, h2, _⟩
      · injection q with q1 q2 q3
        subst q1 q3
        exact owL_nil
      · injection q with q1 q2 q3
        subst q1 q3
        exact owL_empty h1 (lt_of_block h2))
    have A_0_ : (w1).cell? ⟨W.heap.size, 0, none⟩ = some (.int .i64 m) := cell_of_row _ _ 0 _ _ _ rA4_.out
    have A_1_ : (w1).cell? ⟨W.heap.size, 1, none⟩ = some (.slice a0 0 cap0) := cell_of_row _ _ 1 _ _ _ rA4_.out
    have A_2_ : (w1).cell? ⟨W.heap.size, 2, none⟩ = some (.int .i64 r) := cell_of_row _ _ 2 _ _ _ rA4_.out
    have Af0_ : (w1).frozen? ⟨W.heap.size, 0, none⟩ = false := frozen_of_row _ _ 0 _ _ rA4_.out
    have Af1_ : (w1).frozen? ⟨W.heap.size, 1, none⟩ = false := frozen_of_row _ _ 1 _ _ rA4_.out
    have Af2_ : (w1).frozen? ⟨W.heap.size, 2, none⟩ = false := frozen_of_row _ _ 2 _ _ rA4_.out
    have R_0_ : (w1).cell? ⟨W.heap.size + 1, 0, none⟩ = some (.int .i64 0) := cell_of_row _ _ 0 _ _ _ rR5_.out
    have R_1_ : (w1).cell? ⟨W.heap.size + 1, 1, none⟩ = some (.slice none 0 0) := cell_of_row _ _ 1 _ _ _ rR5_.out
    have R_2_ : (w1).cell? ⟨W.heap.size + 1, 2, none⟩ = some (.int .i64 0) := cell_of_row _ _ 2 _ _ _ rR5_.out
    have Rf0_ : (w1).frozen? ⟨W.heap.size + 1, 0, none⟩ = false := frozen_of_row _ _ 0 _ _ rR5_.out
    have Rf1_ : (w1).frozen? ⟨W.heap.size + 1, 1, none⟩ = false := frozen_of_row _ _ 1 _ _ rR5_.out
    have Rf2_ : (w1).frozen? ⟨W.heap.size + 1, 2, none⟩ = false := frozen_of_row _ _ 2 _ _ rR5_.out
    have HA2 := Lib.hid (show (w1.setCell ⟨W.heap.size, 1, none⟩ (.slice gq 0 capq)).heap[W.heap.size]? = some (.cells #[.int .i64 m, .slice gq 0 capq, .int .i64 r] 29 (0, 0)) from heap_setCell_same _ _ 1 _ _ _ rA4_.out)
    have sa0_ : (w1.setCell ⟨W.heap.size, 1, none⟩ (.slice gq 0 capq)).cell? ⟨W.heap.size, 0, none⟩ = some (.int .i64 m) := cell_of_row _ _ 0 _ _ _ HA2.out
    have sa1_ : (w1.setCell ⟨W.heap.size, 1, none⟩ (.slice gq 0 capq)).cell? ⟨W.heap.size, 1, none⟩ = some (.slice gq 0 capq) := cell_of_row _ _ 1 _ _ _ HA2.out
    have sa2_ : (w1.setCell ⟨W.heap.size, 1, none⟩ (.slice gq 0 capq)).cell? ⟨W.heap.size, 2, none⟩ = some (.int .i64 r) := cell_of_row _ _ 2 _ _ _ HA2.out
    have HR2 := Lib.hid (show (w1.setCell ⟨W.heap.size, 1, none⟩ (.slice gq 0 capq)).heap[W.heap.size + 1]? = some (.cells #[.int .i64 0, .slice none 0 0, .int .i64 0] 29 (0, 0)) from set_far rR5_.out (by dsimp only; omega))
    have HOY := Lib.hid (show OwL shFrame (w1.setCell ⟨W.heap.size, 1, none⟩ (.slice gq 0 capq)) (W.heap.size + 1 + 1) (w1.setCell ⟨W.heap.size, 1, none⟩ (.slice gq 0 capq)).heap.size (.slice gq 0 capq) xs from OwL.wide (hi := w1.heap.size) (lo := W.heap.size + 1 + 1) (OwL.keep (lo := W.heap.size + 1 + 1) (hi := w1.heap.size) HOX.out (chg_one w1 W.heap.size 1 (.slice gq 0 capq)) (.inr (by omega))) (Nat.le_refl _) (by simp only [World.size_setCell]; omega))
    have GY := Lib.hid (show W.grownBy (w1.setCell ⟨W.heap.size, 1, none⟩ (.slice gq 0 capq)) none from gby_setnew G6_.out _ (by dsimp only; omega) _)
    have hs2_ : (w1.setCell ⟨W.heap.size, 1, none⟩ (.slice gq 0 capq)).heap.size = w1.heap.size := by simp only [World.size_setCell]
    go_wp2
    go_loopw [12] (fun i wr => i = .int .i64 0 ∧ wr.heap[W.heap.size]? = some (.cells #[.int .i64 m, .slice gq 0 capq, .int .i64 r] 29 (0, 0)) ∧ wr.heap[W.heap.size + 1]? = some (.cells #[.int .i64 0, .slice none 0 0, .int .i64 0] 29 (0, 0)) ∧ OwL shFrame wr (W.heap.size + 1 + 1) wr.heap.size (.slice gq 0 capq) xs ∧ w1.heap.size ≤ wr.heap.size ∧ W.grownBy wr none) (fun _ _ => 0)
    case atStart => exact ⟨rfl, HA2.out, HR2.out, HOY.out, by rw [hs2_]; exact Nat.le_refl _, GY.out⟩
    case round =>
      clear HA2 HR2 HOY GY HOX HROW A_0_ A_1_ A_2_ Af0_ Af1_ Af2_ R_0_ R_1_ R_2_ Rf0_ Rf1_ Rf2_ sa0_ sa1_ sa2_
      obtain ⟨rfl, hA_, hR_, hox_, hsz_, hg_⟩ := hrel
      have HOX := Lib.hid hox_
      clear hox_
      have rA7_ := Lib.hid (show (wr).heap[W.heap.size]? = some (.cells #[.int .i64 m, .slice gq 0 capq, .int .i64 r] 29 (0, 0)) from hA_)
      have rR8_ := Lib.hid (show (wr).heap[W.heap.size + 1]? = some (.cells #[.int .i64 0, .slice none 0 0, .int .i64 0] 29 (0, 0)) from hR_)
      have G9_ := Lib.hid (show (W).grownBy (wr) none from hg_)
      clear hA_ hR_ hg_
      have A_0_ : (wr).cell? ⟨W.heap.size, 0, none⟩ = some (.int .i64 m) := cell_of_row _ _ 0 _ _ _ rA7_.out
      have A_1_ : (wr).cell? ⟨W.heap.size, 1, none⟩ = some (.slice gq 0 capq) := cell_of_row _ _ 1 _ _ _ rA7_.out
      have A_2_ : (wr).cell? ⟨W.heap.size, 2, none⟩ = some (.int .i64 r) := cell_of_row _ _ 2 _ _ _ rA7_.out
      have R_0_ : (wr).cell? ⟨W.heap.size + 1, 0, none⟩ = some (.int .i64 0) := cell_of_row _ _ 0 _ _ _ rR8_.out
      have R_1_ : (wr).cell? ⟨W.heap.size + 1, 1, none⟩ = some (.slice none 0 0) := cell_of_row _ _ 1 _ _ _ rR8_.out
      have R_2_ : (wr).cell? ⟨W.heap.size + 1, 2, none⟩ = some (.int .i64 0) := cell_of_row _ _ 2 _ _ _ rR8_.out
      have Rf0_ : (wr).frozen? ⟨W.heap.size + 1, 0, none⟩ = false := frozen_of_row _ _ 0 _ _ rR8_.out
      have Rf1_ : (wr).frozen? ⟨W.heap.size + 1, 1, none⟩ = false := frozen_of_row _ _ 1 _ _ rR8_.out
      have Rf2_ : (wr).frozen? ⟨W.heap.size + 1, 2, none⟩ = false := frozen_of_row _ _ 2 _ _ rR8_.out
      have zr_ := Lib.hid (show ((((wr.setCell ⟨W.heap.size + 1, 0, none⟩ (.int .i64 m)).setCell ⟨W.heap.size + 1, 1, none⟩ (.slice gq 0 capq)).setCell ⟨W.heap.size + 1, 2, none⟩ (.int .i64 r))).heap[W.heap.size + 1]? = some (.cells #[.int .i64 m, .slice gq 0 capq, .int .i64 r] 29 (0, 0)) from (heap_setCell_same _ _ 2 _ _ _ (heap_setCell_same _ _ 1 _ _ _ (heap_setCell_same _ _ 0 _ _ _ rR8_.out))))
      have z0_ : ((((wr.setCell ⟨W.heap.size + 1, 0, none⟩ (.int .i64 m)).setCell ⟨W.heap.size + 1, 1, none⟩ (.slice gq 0 capq)).setCell ⟨W.heap.size + 1, 2, none⟩ (.int .i64 r))).cell? ⟨W.heap.size + 1, 0, none⟩ = some (.int .i64 m) := cell_of_row _ _ 0 _ _ _ zr_.out
      have z1_ : ((((wr.setCell ⟨W.heap.size + 1, 0, none⟩ (.int .i64 m)).setCell ⟨W.heap.size + 1, 1, none⟩ (.slice gq 0 capq)).setCell ⟨W.heap.size + 1, 2, none⟩ (.int .i64 r))).cell? ⟨W.heap.size + 1, 1, none⟩ = some (.slice gq 0 capq) := cell_of_row _ _ 1 _ _ _ zr_.out
      have z2_ : ((((wr.setCell ⟨W.heap.size + 1, 0, none⟩ (.int .i64 m)).setCell ⟨W.heap.size + 1, 1, none⟩ (.slice gq 0 capq)).setCell ⟨W.heap.size + 1, 2, none⟩ (.int .i64 r))).cell? ⟨W.heap.size + 1, 2, none⟩ = some (.int .i64 r) := cell_of_row _ _ 2 _ _ _ zr_.out
      go_wp2
      refine bodyPost_ret (v := .agg #[.int .i64 m, .slice gq 0 capq, .int .i64 r]) (by simp [results, go_sem, z0_, z1_, z2_]) rfl ⟨_, rfl, ?_, ?_⟩
      · exact OwU.wide (by omega) (by simp only [World.size_setCell]; omega) (OwU.keep (chg_one _ _ _ _) (.inr (by omega)) (OwU.keep (chg_one _ _ _ _) (.inr (by omega)) (OwU.keep (chg_one _ _ _ _) (.inr (by omega)) (OwU.one HOX.out))))
      · exact (gby_setnew (gby_setnew (gby_setnew G9_.out _ (by dsimp only; omega) _) _ (by dsimp only; omega) _) _ (by dsimp only; omega) _)

end Go.Proofs.Ytcenngekjopjpaa
