/-
  Senders copied, on both sides: rows that can be appended to.
-/
import Derived.Test.YtcenngekjopjpaaSndCpS
import Derived.Test.YtcenngekjopjpaaSndCpI
namespace Go.Proofs.Ytcenngekjopjpaa
open Go Go.RowKit
set_option linter.unusedVariables false

/-- a sender whose buffer can be appended to -/
def NewSndR (m : Int) (xs : List DFrame) (r : Int) (base : Nat) (W : World) (e : Ending) (w' : World) : Prop := ∃ v', e = .returned (vSender m v' r) ∧ OwR shFrame 37 w' base v' xs ∧ W.grownBy w' none
/-- copies told as a row -/
theorem copd_row {α : Type} [Inhabited α] {s : Shp α} {w : World} {g base c : Nat} {xs : List α} {C : Array Value} {t : TypeId} {P : Nat → Nat} (h : Copd s g w xs C P xs.length) (hg : base ≤ g) (hc : xs.length ≤ c) (hcm : c ≤ maxLen) (hs : C.size = c * s.n) (hh : w.heap[g]? = some (.cells C t (0, 0))) : OwR s t w base (.slice (some ⟨g, 0, none⟩) xs.length c) xs := by
  have h0 := h.start
  have hl := h.last
  have hm := h.mono
  have key : ∀ k : Nat, ∃ cs : List Value, k < xs.length → (∀ j, j < cs.length → C[k * s.n + j]? = cs[j]?) ∧ s.ow w (P k) (P (k + 1)) cs (xs.getD k default) := by
    intro k
    by_cases hk : k < xs.length
    · obtain ⟨cs, q1, q2, q3⟩ := h.own k hk
      exact ⟨cs, fun _ => ⟨q2, q3⟩⟩
    · exact ⟨[], fun q => absurd q hk⟩
  obtain ⟨cs, hcs⟩ := Classical.axiomOfChoice key
  have hlen : ∀ k, k < xs.length → (cs k).length = s.n := fun k hk => s.len (s.read (hcs k hk).2)
  refine ⟨cs, P, fun k => P (k + 1), ⟨flatN_len hlen, .inr ⟨g, c, C, rfl, hg, hh, hc, hcm, hs, ?_⟩⟩, fun k hk => ?_, fun j k hj hk => .inl (hm (j + 1) k (by omega) (by omega))⟩
  · apply List.ext_getElem?
    intro i
    by_cases hi : i < xs.length * s.n
    · rw [List.getElem?_take, if_pos hi, Array.getElem?_toList]
      have hn : 0 < s.n := by
        rcases Nat.eq_zero_or_pos s.n with e | e
        · rw [e, Nat.mul_zero] at hi; omega
        · exact e
      have e1 : i = (i / s.n) * s.n + i % s.n := by rw [Nat.mul_comm]; exact (Nat.div_add_mod i s.n).symm
      have hk : i / s.n < xs.length := Nat.div_lt_of_lt_mul (by rw [Nat.mul_comm]; exact hi)
      have hj : i % s.n < s.n := Nat.mod_lt _ hn
      generalize i / s.n = k at e1 hk
      generalize i % s.n = j at e1 hj
      rw [e1, flatN_at hlen hk hj]
      exact (hcs k hk).1 j (by rw [hlen k hk]; exact hj)
    · rw [List.getElem?_take, if_neg hi]
      symm
      rw [List.getElem?_eq_none_iff, flatN_len hlen]
      omega
  · have q1 := hm 0 k (by omega) (by omega)
    have q2 := hm (k + 1) xs.length (by omega) (Nat.le_refl _)
    exact ⟨by omega, by dsimp only; omega, hlen k hk, (hcs k hk).2, fun i hi => by
      have := Option.some.inj (show some g = some i from hi)
      exact .inl (by omega)⟩

theorem OwR.low {α : Type} [Inhabited α] {s : Shp α} {e : TypeId} {w : World} {base base' : Nat} {v : Value} {xs : List α} (h : OwR s e w base v xs) (hb : base' ≤ base) : OwR s e w base' v xs := by
  obtain ⟨cs, P, Q, ⟨hl, h1⟩, h2, h3⟩ := h
  refine ⟨cs, P, Q, ⟨hl, ?_⟩, fun k hk => ?_, h3⟩
  · rcases h1 with h1 | ⟨g, cap, cur, e1, h1, h4⟩
    · exact .inl h1
    · exact .inr ⟨g, cap, cur, e1, by omega, h4⟩
  · obtain ⟨q1, q2⟩ := h2 k hk
    exact ⟨by omega, q2⟩
/-- as OwR; the block x9 has no part in it -/
def OwRx {α : Type} [Inhabited α] (s : Shp α) (e : TypeId) (w : World) (base : Nat) (v : Value) (xs : List α) (x9 : Nat) : Prop :=
  ∃ (cs : Nat → List Value) (P Q : Nat → Nat), w.ownsRow base e s.n v xs.length (flatN cs xs.length) ∧ ElR s w base v xs cs P Q ∧ (∀ k, k < xs.length → x9 < P k ∨ Q k ≤ x9) ∧ ∀ i, v.ownBlock = some i → i ≠ x9
theorem OwRx.fst {α : Type} [Inhabited α] {s : Shp α} {e : TypeId} {w : World} {base : Nat} {v : Value} {xs : List α} {x9 : Nat} (h : OwRx s e w base v xs x9) : OwR s e w base v xs := by
  obtain ⟨cs, P, Q, h1, h2, _⟩ := h
  exact ⟨cs, P, Q, h1, h2⟩
theorem OwRx.grow {α : Type} [Inhabited α] {s : Shp α} {e : TypeId} {w w' : World} {base : Nat} {v : Value} {xs : List α} {x9 : Nat} (h : OwRx s e w base v xs x9) (g : w.grownBy w' none) : OwRx s e w' base v xs x9 := by
  obtain ⟨cs, P, Q, h1, h2, h3⟩ := h
  exact ⟨cs, P, Q, h1.grown g, h2.kept g (fun i hi => by cases hi), h3⟩
theorem OwRx.set {α : Type} [Inhabited α] {s : Shp α} {e : TypeId} {w : World} {base : Nat} {v : Value} {xs : List α} {x9 : Nat} (h : OwRx s e w base v xs x9) (j : Nat) (y : Value) : OwRx s e (w.setCell ⟨x9, j, none⟩ y) base v xs x9 := by
  obtain ⟨cs, P, Q, h1, h2, h3, h4⟩ := h
  refine ⟨cs, P, Q, h1.kept (gby_set (gby_refl _ (some x9)) j y) ?_, ⟨fun k hk => ?_, h2.2⟩, h3, h4⟩
  · cases hv : v.ownBlock with
    | none => exact .inl rfl
    | some i => exact .inr (fun q => by have := h4 i hv; have q2 := Option.some.inj q; omega)
  · obtain ⟨q1, q2, q3, q4, q5⟩ := h2.1 k hk
    have := h3 k hk
    exact ⟨q1, by simp only [World.size_setCell]; exact q2, q3, s.keep q4 (chg_one w x9 j y) (by omega), q5⟩

theorem owRx_app {α : Type} [Inhabited α] {s : Shp α} {e : TypeId} {w0 w w' : World} {base a b : Nat} {v v' : Value} {xs : List α} {x : α} {c : List Value} {cs : Nat → List Value} {P Q : Nat → Nat} {x9 : Nat} (hx1 : ∀ k, k < xs.length → x9 < P k ∨ Q k ≤ x9) (hx2 : x9 < a ∨ b ≤ x9) (hx3 : ∀ i, v'.ownBlock = some i → i ≠ x9) (hv : ∀ i, v.ownBlock = some i → i < w0.heap.size) (h : ElR s w0 base v xs cs P Q) (g0 : w0.grownBy w none) (o : s.ow w a b c x) (ha : w0.heap.size ≤ a) (hbase : base ≤ w0.heap.size) (hb : b ≤ w.heap.size)
    (hr : w'.ownsRow base e s.n v' (xs.length + 1) (flatN cs xs.length ++ c)) (g : w.grownBy w' v.ownBlock) (hat : ∀ i, v'.ownBlock = some i → v.ownBlock = some i ∨ w.heap.size ≤ i) : OwRx s e w' base v' (xs ++ [x]) x9 := by
  have hs0 := g0.size
  have hs1 := g.size
  have hlc := s.len (s.read o)
  have hkeep : ∀ {lo hi : Nat} {ds : List Value} {y : α}, s.ow w lo hi ds y → (∀ i, v.ownBlock = some i → i < lo ∨ hi ≤ i) → s.ow w' lo hi ds y := by
    intro lo hi ds y q hq
    cases hv2 : v.ownBlock with
    | none => rw [hv2] at g; exact s.keep q (chg_gby g hi hi) (.inl (Nat.le_refl _))
    | some i =>
      rw [hv2] at g
      have := hq i hv2
      exact s.keep q (chg_row (lo := i) (hi := i + 1) g (fun j hj => by have := Option.some.inj hj; omega)) (by omega)
  have hlen : (xs ++ [x]).length = xs.length + 1 := by simp
  have e1 : ∀ k, k < xs.length → (xs ++ [x]).getD k default = xs.getD k default := fun k hk => by rw [List.getD_eq_getElem?_getD, List.getD_eq_getElem?_getD, List.getElem?_append_left hk]
  have e2 : (xs ++ [x]).getD xs.length default = x := by rw [List.getD_eq_getElem?_getD, List.getElem?_append_right (Nat.le_refl _)]; simp
  refine ⟨fun k => if k = xs.length then c else cs k, fun k => if k = xs.length then a else P k, fun k => if k = xs.length then b else Q k, ?_, ⟨fun k hk => ?_, fun j k hj hk => ?_⟩, fun k hk => ?_, hx3⟩
  · rw [hlen, flatN_succ, if_pos rfl, flatN_congr (ds := cs) (fun k hk => by rw [if_neg (by omega)])]
    exact hr
  · rw [hlen] at hk
    dsimp only
    by_cases ek : k = xs.length
    · subst ek
      rw [if_pos rfl, if_pos rfl, if_pos rfl, e2]
      refine ⟨by omega, by omega, hlc, hkeep o (fun i hi => by have := hv i hi; omega), fun i hi => ?_⟩
      rcases hat i hi with q | q
      · have := hv i q; omega
      · omega
    · have hk2 : k < xs.length := by omega
      rw [if_neg ek, if_neg ek, if_neg ek, e1 k hk2]
      obtain ⟨h1, h2, h3, h4, h5⟩ := h.1 k hk2
      refine ⟨h1, by omega, h3, hkeep (s.keep h4 (chg_gby g0 (Q k) (Q k)) (.inl (Nat.le_refl _))) h5, fun i hi => ?_⟩
      rcases hat i hi with q | q
      · exact h5 i q
      · omega
  · rw [hlen] at hk
    dsimp only
    have ej : ¬ j = xs.length := by omega
    rw [if_neg ej, if_neg ej]
    have hQ := (h.1 j (by omega)).2.1
    by_cases ek : k = xs.length
    · rw [if_pos ek, if_pos ek]; exact .inl (by omega)
    · rw [if_neg ek, if_neg ek]; exact h.2 j k hj (by omega)
  · rw [hlen] at hk
    dsimp only
    by_cases ek : k = xs.length
    · rw [if_pos ek, if_pos ek]; exact hx2
    · rw [if_neg ek, if_neg ek]; exact hx1 k (by omega)

set_option maxRecDepth 8000 in
set_option maxHeartbeats 4000000 in
theorem l08Copy_r (W : World) (m r : Int) (v : Value) (xs : List DFrame) (H : RdL shFrame W v xs) (hl : szL shFrame xs ≤ 1048576) : Calls Try.prog 40 #[vSender m v r] W (NewSndR m xs r (W.heap.size + 1 + 1 + 1) W) := by
  have HS := Lib.hid hl
  obtain ⟨a0, cap0, rfl, hcap, _, H⟩ := H
  have HC := Lib.hid H
  obtain ⟨n0, hn0⟩ : ∃ n, n = xs.length := ⟨_, rfl⟩
  have HE := Lib.hid hn0
  have hlx : n0 ≤ 1048576 := by have := szL_len shFrame xs; omega
  rw [← hn0]
  rw [← hn0] at HC
  clear H hcap hl hn0
  unfold vSender
  go_enter Try.func40, Try.ntmps40
  have rA1_ := Lib.hid (show (((W.alloc (.cells #[.int .i64 m, .slice a0 n0 cap0, .int .i64 r] 29)).alloc (.cells #[.int .i64 0, .slice none 0 0, .int .i64 0] 29))).heap[W.heap.size]? = some (.cells #[.int .i64 m, .slice a0 n0 cap0, .int .i64 r] 29 (0, 0)) from by rw [heap_alloc_old _ _ (by simp only [World.size_alloc]; omega)]; exact heap_alloc_new _ _)
  have rR2_ := Lib.hid (show (((W.alloc (.cells #[.int .i64 m, .slice a0 n0 cap0, .int .i64 r] 29)).alloc (.cells #[.int .i64 0, .slice none 0 0, .int .i64 0] 29))).heap[W.heap.size + 1]? = some (.cells #[.int .i64 0, .slice none 0 0, .int .i64 0] 29 (0, 0)) from by exact heap_pair _ _ _)
  have G3_ := Lib.hid (show (W).grownBy (((W.alloc (.cells #[.int .i64 m, .slice a0 n0 cap0, .int .i64 r] 29)).alloc (.cells #[.int .i64 0, .slice none 0 0, .int .i64 0] 29))) none from (gby_alloc (gby_alloc (gby_refl _ _) _) _))
  have A_0_ : (((W.alloc (.cells #[.int .i64 m, .slice a0 n0 cap0, .int .i64 r] 29)).alloc (.cells #[.int .i64 0, .slice none 0 0, .int .i64 0] 29))).cell? ⟨W.heap.size, 0, none⟩ = some (.int .i64 m) := cell_of_row _ _ 0 _ _ _ rA1_.out
  have A_1_ : (((W.alloc (.cells #[.int .i64 m, .slice a0 n0 cap0, .int .i64 r] 29)).alloc (.cells #[.int .i64 0, .slice none 0 0, .int .i64 0] 29))).cell? ⟨W.heap.size, 1, none⟩ = some (.slice a0 n0 cap0) := cell_of_row _ _ 1 _ _ _ rA1_.out
  have A_2_ : (((W.alloc (.cells #[.int .i64 m, .slice a0 n0 cap0, .int .i64 r] 29)).alloc (.cells #[.int .i64 0, .slice none 0 0, .int .i64 0] 29))).cell? ⟨W.heap.size, 2, none⟩ = some (.int .i64 r) := cell_of_row _ _ 2 _ _ _ rA1_.out
  have R_0_ : (((W.alloc (.cells #[.int .i64 m, .slice a0 n0 cap0, .int .i64 r] 29)).alloc (.cells #[.int .i64 0, .slice none 0 0, .int .i64 0] 29))).cell? ⟨W.heap.size + 1, 0, none⟩ = some (.int .i64 0) := cell_of_row _ _ 0 _ _ _ rR2_.out
  have R_1_ : (((W.alloc (.cells #[.int .i64 m, .slice a0 n0 cap0, .int .i64 r] 29)).alloc (.cells #[.int .i64 0, .slice none 0 0, .int .i64 0] 29))).cell? ⟨W.heap.size + 1, 1, none⟩ = some (.slice none 0 0) := cell_of_row _ _ 1 _ _ _ rR2_.out
  have R_2_ : (((W.alloc (.cells #[.int .i64 m, .slice a0 n0 cap0, .int .i64 r] 29)).alloc (.cells #[.int .i64 0, .slice none 0 0, .int .i64 0] 29))).cell? ⟨W.heap.size + 1, 2, none⟩ = some (.int .i64 0) := cell_of_row _ _ 2 _ _ _ rR2_.out
  have HTM4_ := Lib.hid (gby_refl (((W.alloc (.cells #[.int .i64 m, .slice a0 n0 cap0, .int .i64 r] 29)).alloc (.cells #[.int .i64 0, .slice none 0 0, .int .i64 0] 29))) none)
  have MG5_ := Lib.hid (show (W).grownBy (((W.alloc (.cells #[.int .i64 m, .slice a0 n0 cap0, .int .i64 r] 29)).alloc (.cells #[.int .i64 0, .slice none 0 0, .int .i64 0] 29))) none from G3_.out)
  have MR6_ := Lib.hid rA1_.out
  have MR7_ := Lib.hid rR2_.out
  clear A_0_ A_1_ A_2_ R_0_ R_1_ R_2_
  have al_ : (((W.alloc (.cells #[.int .i64 m, .slice a0 n0 cap0, .int .i64 r] 29)).alloc (.cells #[.int .i64 0, .slice none 0 0, .int .i64 0] 29))).grownBy ((((W.alloc (.cells #[.int .i64 m, .slice a0 n0 cap0, .int .i64 r] 29)).alloc (.cells #[.int .i64 0, .slice none 0 0, .int .i64 0] 29))).alloc (.cells #[.int .i64 m, .slice none 0 0, .int .i64 r] 29)) none := gby_alloc (gby_refl _ _) _
  have rA8_ := Lib.hid (show ((((W.alloc (.cells #[.int .i64 m, .slice a0 n0 cap0, .int .i64 r] 29)).alloc (.cells #[.int .i64 0, .slice none 0 0, .int .i64 0] 29)).alloc (.cells #[.int .i64 m, .slice none 0 0, .int .i64 r] 29))).heap[W.heap.size]? = some (.cells #[.int .i64 m, .slice a0 n0 cap0, .int .i64 r] 29 (0, 0)) from row_held al_ rA1_.out)
  clear rA1_
  have rR9_ := Lib.hid (show ((((W.alloc (.cells #[.int .i64 m, .slice a0 n0 cap0, .int .i64 r] 29)).alloc (.cells #[.int .i64 0, .slice none 0 0, .int .i64 0] 29)).alloc (.cells #[.int .i64 m, .slice none 0 0, .int .i64 r] 29))).heap[W.heap.size + 1]? = some (.cells #[.int .i64 0, .slice none 0 0, .int .i64 0] 29 (0, 0)) from row_held al_ rR2_.out)
  clear rR2_
  have G10_ := Lib.hid (show (W).grownBy ((((W.alloc (.cells #[.int .i64 m, .slice a0 n0 cap0, .int .i64 r] 29)).alloc (.cells #[.int .i64 0, .slice none 0 0, .int .i64 0] 29)).alloc (.cells #[.int .i64 m, .slice none 0 0, .int .i64 r] 29))) none from gby_trans G3_.out al_)
  have HTM11_ := Lib.hid (show (((W.alloc (.cells #[.int .i64 m, .slice a0 n0 cap0, .int .i64 r] 29)).alloc (.cells #[.int .i64 0, .slice none 0 0, .int .i64 0] 29))).grownBy ((((W.alloc (.cells #[.int .i64 m, .slice a0 n0 cap0, .int .i64 r] 29)).alloc (.cells #[.int .i64 0, .slice none 0 0, .int .i64 0] 29)).alloc (.cells #[.int .i64 m, .slice none 0 0, .int .i64 r] 29))) none from gby_trans HTM4_.out al_)
  clear HTM4_
  have rB12_ := Lib.hid (show ((((W.alloc (.cells #[.int .i64 m, .slice a0 n0 cap0, .int .i64 r] 29)).alloc (.cells #[.int .i64 0, .slice none 0 0, .int .i64 0] 29)).alloc (.cells #[.int .i64 m, .slice none 0 0, .int .i64 r] 29))).heap[W.heap.size + 1 + 1]? = some (.cells #[.int .i64 m, .slice none 0 0, .int .i64 r] 29 (0, 0)) from by first | exact heap_alloc_new _ _ | exact heap_pair _ _ _ | exact heap_trip _ _ _ _)
  clear al_
  have A_0_ : ((((W.alloc (.cells #[.int .i64 m, .slice a0 n0 cap0, .int .i64 r] 29)).alloc (.cells #[.int .i64 0, .slice none 0 0, .int .i64 0] 29)).alloc (.cells #[.int .i64 m, .slice none 0 0, .int .i64 r] 29))).cell? ⟨W.heap.size, 0, none⟩ = some (.int .i64 m) := cell_of_row _ _ 0 _ _ _ rA8_.out
  have A_1_ : ((((W.alloc (.cells #[.int .i64 m, .slice a0 n0 cap0, .int .i64 r] 29)).alloc (.cells #[.int .i64 0, .slice none 0 0, .int .i64 0] 29)).alloc (.cells #[.int .i64 m, .slice none 0 0, .int .i64 r] 29))).cell? ⟨W.heap.size, 1, none⟩ = some (.slice a0 n0 cap0) := cell_of_row _ _ 1 _ _ _ rA8_.out
  have A_2_ : ((((W.alloc (.cells #[.int .i64 m, .slice a0 n0 cap0, .int .i64 r] 29)).alloc (.cells #[.int .i64 0, .slice none 0 0, .int .i64 0] 29)).alloc (.cells #[.int .i64 m, .slice none 0 0, .int .i64 r] 29))).cell? ⟨W.heap.size, 2, none⟩ = some (.int .i64 r) := cell_of_row _ _ 2 _ _ _ rA8_.out
  have R_0_ : ((((W.alloc (.cells #[.int .i64 m, .slice a0 n0 cap0, .int .i64 r] 29)).alloc (.cells #[.int .i64 0, .slice none 0 0, .int .i64 0] 29)).alloc (.cells #[.int .i64 m, .slice none 0 0, .int .i64 r] 29))).cell? ⟨W.heap.size + 1, 0, none⟩ = some (.int .i64 0) := cell_of_row _ _ 0 _ _ _ rR9_.out
  have R_1_ : ((((W.alloc (.cells #[.int .i64 m, .slice a0 n0 cap0, .int .i64 r] 29)).alloc (.cells #[.int .i64 0, .slice none 0 0, .int .i64 0] 29)).alloc (.cells #[.int .i64 m, .slice none 0 0, .int .i64 r] 29))).cell? ⟨W.heap.size + 1, 1, none⟩ = some (.slice none 0 0) := cell_of_row _ _ 1 _ _ _ rR9_.out
  have R_2_ : ((((W.alloc (.cells #[.int .i64 m, .slice a0 n0 cap0, .int .i64 r] 29)).alloc (.cells #[.int .i64 0, .slice none 0 0, .int .i64 0] 29)).alloc (.cells #[.int .i64 m, .slice none 0 0, .int .i64 r] 29))).cell? ⟨W.heap.size + 1, 2, none⟩ = some (.int .i64 0) := cell_of_row _ _ 2 _ _ _ rR9_.out
  have B_0_ : ((((W.alloc (.cells #[.int .i64 m, .slice a0 n0 cap0, .int .i64 r] 29)).alloc (.cells #[.int .i64 0, .slice none 0 0, .int .i64 0] 29)).alloc (.cells #[.int .i64 m, .slice none 0 0, .int .i64 r] 29))).cell? ⟨W.heap.size + 1 + 1, 0, none⟩ = some (.int .i64 m) := cell_of_row _ _ 0 _ _ _ rB12_.out
  have B_1_ : ((((W.alloc (.cells #[.int .i64 m, .slice a0 n0 cap0, .int .i64 r] 29)).alloc (.cells #[.int .i64 0, .slice none 0 0, .int .i64 0] 29)).alloc (.cells #[.int .i64 m, .slice none 0 0, .int .i64 r] 29))).cell? ⟨W.heap.size + 1 + 1, 1, none⟩ = some (.slice none 0 0) := cell_of_row _ _ 1 _ _ _ rB12_.out
  have B_2_ : ((((W.alloc (.cells #[.int .i64 m, .slice a0 n0 cap0, .int .i64 r] 29)).alloc (.cells #[.int .i64 0, .slice none 0 0, .int .i64 0] 29)).alloc (.cells #[.int .i64 m, .slice none 0 0, .int .i64 r] 29))).cell? ⟨W.heap.size + 1 + 1, 2, none⟩ = some (.int .i64 r) := cell_of_row _ _ 2 _ _ _ rB12_.out
  have HB0 := Lib.hid rB12_.out
  go_wp2
  go_loopw [4] (fun i wr => ∃ (k : Nat) (zv : Value), i = .int .i64 (k : Int) ∧ k ≤ n0 ∧ wr.heap[W.heap.size + 1 + 1]? = some (.cells #[.int .i64 m, zv, .int .i64 r] 29 (0, 0)) ∧ OwR shFrame 37 wr (W.heap.size + 1 + 1 + 1) zv (xs.take k) ∧ (((W.alloc (.cells #[.int .i64 m, .slice a0 n0 cap0, .int .i64 r] 29)).alloc (.cells #[.int .i64 0, .slice none 0 0, .int .i64 0] 29))).grownBy wr none) (fun i _ => n0 - (intOf i).toNat)
  case atStart => exact ⟨0, _, rfl, by omega, HB0.out, (by rw [List.take_zero]; exact owR_nil), HTM11_.out⟩
  case round =>
    clear A_0_ A_1_ A_2_ R_0_ R_1_ R_2_ B_0_ B_1_ B_2_
    clear rA8_
    clear rR9_
    clear rB12_
    clear HTM11_
    obtain ⟨k, zv, rfl, hk, hb_, hor_, hg⟩ := hrel
    have szr_ := hg.size
    try simp only [World.size_alloc] at szr_
    try simp only [World.size_setCell] at szr_
    have G13_ := Lib.hid (show (W).grownBy (wr) none from gby_trans MG5_.out hg)
    have rA14_ := Lib.hid (show (wr).heap[W.heap.size]? = some (.cells #[.int .i64 m, .slice a0 n0 cap0, .int .i64 r] 29 (0, 0)) from row_held hg MR6_.out)
    have rR15_ := Lib.hid (show (wr).heap[W.heap.size + 1]? = some (.cells #[.int .i64 0, .slice none 0 0, .int .i64 0] 29 (0, 0)) from row_held hg MR7_.out)
    have HTM16_ := Lib.hid hg
    clear hg
    have A_0_ : (wr).cell? ⟨W.heap.size, 0, none⟩ = some (.int .i64 m) := cell_of_row _ _ 0 _ _ _ rA14_.out
    have A_1_ : (wr).cell? ⟨W.heap.size, 1, none⟩ = some (.slice a0 n0 cap0) := cell_of_row _ _ 1 _ _ _ rA14_.out
    have A_2_ : (wr).cell? ⟨W.heap.size, 2, none⟩ = some (.int .i64 r) := cell_of_row _ _ 2 _ _ _ rA14_.out
    have R_0_ : (wr).cell? ⟨W.heap.size + 1, 0, none⟩ = some (.int .i64 0) := cell_of_row _ _ 0 _ _ _ rR15_.out
    have R_1_ : (wr).cell? ⟨W.heap.size + 1, 1, none⟩ = some (.slice none 0 0) := cell_of_row _ _ 1 _ _ _ rR15_.out
    have R_2_ : (wr).cell? ⟨W.heap.size + 1, 2, none⟩ = some (.int .i64 0) := cell_of_row _ _ 2 _ _ _ rR15_.out
    have hsz_ := gby_size1 MG5_.out
    clear HB0
    have hlk_ : (xs.take k).length = k := by rw [List.length_take]; have := HE.out; omega
    obtain ⟨p1, d1, hv_⟩ := OwR.form hor_
    rw [hlk_] at hv_
    subst hv_
    have HOR := Lib.hid hor_
    clear hor_
    have hk0 : (0 : Int) ≤ (k : Int) := by omega
    have htk : ((k : Int)).toNat = k := by omega
    have rB17_ := Lib.hid (show (wr).heap[W.heap.size + 1 + 1]? = some (.cells #[.int .i64 m, .slice p1 k d1, .int .i64 r] 29 (0, 0)) from hb_)
    clear hb_
    have hbw_ : W.heap.size + 1 + 1 < wr.heap.size := lt_of_block (rB17_.out)
    by_cases hlt : k < n0
    rotate_left
    · obtain rfl : k = n0 := by omega
      have hki : ¬ (k : Int) < (k : Int) := by omega
      have ex_ : xs.take k = xs := by rw [HE.out, List.take_length]
      have HOX := Lib.hid (show OwR shFrame 37 wr (W.heap.size + 1 + 1 + 1) (.slice p1 k d1) xs from by have q := HOR.out; rw [ex_] at q; exact q)
      clear hlk_ ex_
      clear A_0_ A_1_ A_2_ R_0_ R_1_ R_2_
      have A_0_ : (wr).cell? ⟨W.heap.size, 0, none⟩ = some (.int .i64 m) := cell_of_row _ _ 0 _ _ _ rA14_.out
      have A_1_ : (wr).cell? ⟨W.heap.size, 1, none⟩ = some (.slice a0 k cap0) := cell_of_row _ _ 1 _ _ _ rA14_.out
      have A_2_ : (wr).cell? ⟨W.heap.size, 2, none⟩ = some (.int .i64 r) := cell_of_row _ _ 2 _ _ _ rA14_.out
      have R_0_ : (wr).cell? ⟨W.heap.size + 1, 0, none⟩ = some (.int .i64 0) := cell_of_row _ _ 0 _ _ _ rR15_.out
      have R_1_ : (wr).cell? ⟨W.heap.size + 1, 1, none⟩ = some (.slice none 0 0) := cell_of_row _ _ 1 _ _ _ rR15_.out
      have R_2_ : (wr).cell? ⟨W.heap.size + 1, 2, none⟩ = some (.int .i64 0) := cell_of_row _ _ 2 _ _ _ rR15_.out
      have Rf0_ : (wr).frozen? ⟨W.heap.size + 1, 0, none⟩ = false := frozen_of_row _ _ 0 _ _ rR15_.out
      have Rf1_ : (wr).frozen? ⟨W.heap.size + 1, 1, none⟩ = false := frozen_of_row _ _ 1 _ _ rR15_.out
      have Rf2_ : (wr).frozen? ⟨W.heap.size + 1, 2, none⟩ = false := frozen_of_row _ _ 2 _ _ rR15_.out
      have B_0_ : (wr).cell? ⟨W.heap.size + 1 + 1, 0, none⟩ = some (.int .i64 m) := cell_of_row _ _ 0 _ _ _ rB17_.out
      have B_1_ : (wr).cell? ⟨W.heap.size + 1 + 1, 1, none⟩ = some (.slice p1 k d1) := cell_of_row _ _ 1 _ _ _ rB17_.out
      have B_2_ : (wr).cell? ⟨W.heap.size + 1 + 1, 2, none⟩ = some (.int .i64 r) := cell_of_row _ _ 2 _ _ _ rB17_.out
      have zr_ := Lib.hid (show ((((wr.setCell ⟨W.heap.size + 1, 0, none⟩ (.int .i64 m)).setCell ⟨W.heap.size + 1, 1, none⟩ (.slice p1 k d1)).setCell ⟨W.heap.size + 1, 2, none⟩ (.int .i64 r))).heap[W.heap.size + 1]? = some (.cells #[.int .i64 m, .slice p1 k d1, .int .i64 r] 29 (0, 0)) from (heap_setCell_same _ _ 2 _ _ _ (heap_setCell_same _ _ 1 _ _ _ (heap_setCell_same _ _ 0 _ _ _ rR15_.out))))
      have z0_ : ((((wr.setCell ⟨W.heap.size + 1, 0, none⟩ (.int .i64 m)).setCell ⟨W.heap.size + 1, 1, none⟩ (.slice p1 k d1)).setCell ⟨W.heap.size + 1, 2, none⟩ (.int .i64 r))).cell? ⟨W.heap.size + 1, 0, none⟩ = some (.int .i64 m) := cell_of_row _ _ 0 _ _ _ zr_.out
      have z1_ : ((((wr.setCell ⟨W.heap.size + 1, 0, none⟩ (.int .i64 m)).setCell ⟨W.heap.size + 1, 1, none⟩ (.slice p1 k d1)).setCell ⟨W.heap.size + 1, 2, none⟩ (.int .i64 r))).cell? ⟨W.heap.size + 1, 1, none⟩ = some (.slice p1 k d1) := cell_of_row _ _ 1 _ _ _ zr_.out
      have z2_ : ((((wr.setCell ⟨W.heap.size + 1, 0, none⟩ (.int .i64 m)).setCell ⟨W.heap.size + 1, 1, none⟩ (.slice p1 k d1)).setCell ⟨W.heap.size + 1, 2, none⟩ (.int .i64 r))).cell? ⟨W.heap.size + 1, 2, none⟩ = some (.int .i64 r) := cell_of_row _ _ 2 _ _ _ zr_.out
      go_wp2
      refine bodyPost_ret (v := .agg #[.int .i64 m, .slice p1 k d1, .int .i64 r]) (by simp [results, go_sem, z0_, z1_, z2_]) rfl ⟨_, rfl, ?_, ?_⟩
      · exact (OwR.kept (OwR.kept (OwR.kept HOX.out (gby_set (gby_refl _ _) _ _) (fun i hi => by have h2 := Option.some.inj hi; omega)) (gby_set (gby_refl _ _) _ _) (fun i hi => by have h2 := Option.some.inj hi; omega)) (gby_set (gby_refl _ _) _ _) (fun i hi => by have h2 := Option.some.inj hi; omega))
      · exact (gby_setnew (gby_setnew (gby_setnew G13_.out _ (by dsimp only; omega) _) _ (by dsimp only; omega) _) _ (by dsimp only; omega) _)
    have hki : (k : Int) < (n0 : Int) := by omega
    obtain ⟨ab, ao, rfl, hcell_⟩ := HC.out.resolve_left (by omega)
    have HCE := Lib.hid hcell_
    clear hcell_
    have hq_ : k < n0 := hlt
    obtain ⟨cs_, hat_, hrd_⟩ := HCE.out k (by omega)
    obtain ⟨xk, hx_⟩ : ∃ x, x = xs.getD k default := ⟨_, rfl⟩
    rw [← hx_] at hrd_
    have hzk_ : szL shI xk.f1 ≤ 1048576 := by have q1 := szL_at shFrame xs k (by have := HE.out; omega); rw [← hx_] at q1; exact Nat.le_trans q1 HS.out
    have HXk := Lib.hid (show xk = fr xs k from hx_)
    obtain ⟨v1_, rfl, r1_⟩ := hrd_
    obtain ⟨pk, nk, ck, hv_⟩ := RdL.form r1_
    subst hv_
    have Rk := Lib.hid r1_
    have HEk0 := Lib.hid (show W.cell? ⟨ab, ao + k * 2, none⟩ = some (.int .i64 xk.f0) from at_cell (j := 0) hat_ rfl)
    have HEk1 := Lib.hid (show W.cell? ⟨ab, ao + k * 2 + 1, none⟩ = some (.slice pk nk ck) from at_cell (j := 1) hat_ rfl)
    clear hat_ r1_ hx_ hq_
    have ek0_ := (G13_.out).cell HEk0.out (by simp)
    have ek1_ := (G13_.out).cell HEk1.out (by simp)
    clear A_0_ A_1_ A_2_ R_0_ R_1_ R_2_ ek0_ ek1_
    have ek0_ := (G13_.out).cell HEk0.out (by simp)
    have ek1_ := (G13_.out).cell HEk1.out (by simp)
    have A_0_ : (wr).cell? ⟨W.heap.size, 0, none⟩ = some (.int .i64 m) := cell_of_row _ _ 0 _ _ _ rA14_.out
    have A_1_ : (wr).cell? ⟨W.heap.size, 1, none⟩ = some (.slice (some ⟨ab, ao, none⟩) n0 cap0) := cell_of_row _ _ 1 _ _ _ rA14_.out
    have A_2_ : (wr).cell? ⟨W.heap.size, 2, none⟩ = some (.int .i64 r) := cell_of_row _ _ 2 _ _ _ rA14_.out
    have R_0_ : (wr).cell? ⟨W.heap.size + 1, 0, none⟩ = some (.int .i64 0) := cell_of_row _ _ 0 _ _ _ rR15_.out
    have R_1_ : (wr).cell? ⟨W.heap.size + 1, 1, none⟩ = some (.slice none 0 0) := cell_of_row _ _ 1 _ _ _ rR15_.out
    have R_2_ : (wr).cell? ⟨W.heap.size + 1, 2, none⟩ = some (.int .i64 0) := cell_of_row _ _ 2 _ _ _ rR15_.out
    have B_0_ : (wr).cell? ⟨W.heap.size + 1 + 1, 0, none⟩ = some (.int .i64 m) := cell_of_row _ _ 0 _ _ _ rB17_.out
    have B_1_ : (wr).cell? ⟨W.heap.size + 1 + 1, 1, none⟩ = some (.slice p1 k d1) := cell_of_row _ _ 1 _ _ _ rB17_.out
    have B_2_ : (wr).cell? ⟨W.heap.size + 1 + 1, 2, none⟩ = some (.int .i64 r) := cell_of_row _ _ 2 _ _ _ rB17_.out
    have Bf0_ : (wr).frozen? ⟨W.heap.size + 1 + 1, 0, none⟩ = false := frozen_of_row _ _ 0 _ _ rB17_.out
    have Bf1_ : (wr).frozen? ⟨W.heap.size + 1 + 1, 1, none⟩ = false := frozen_of_row _ _ 1 _ _ rB17_.out
    have Bf2_ : (wr).frozen? ⟨W.heap.size + 1 + 1, 2, none⟩ = false := frozen_of_row _ _ 2 _ _ rB17_.out
    have ek0_ := (G13_.out).cell HEk0.out (by simp)
    have ek1_ := (G13_.out).cell HEk1.out (by simp)
    have HRd := Lib.hid (show RdL shI wr.drew (.slice pk nk ck) xk.f1 from Rk.out.grow (gby_drew G13_.out))
    obtain ⟨cs, P, Q, hr_, hel_⟩ := HOR.out
    rw [hlk_] at hr_
    have HR1 := Lib.hid hr_
    have HEL := Lib.hid hel_
    have HLK := Lib.hid hlk_
    clear hr_ hel_ hlk_
    obtain ⟨i1_, hi1_, hz0_, hz1_, hz2_⟩ := info_parts infoFrameS
    have hwd_ : wr.drew.heap.size = wr.heap.size := rfl
    go_wp2_with fail
    go_region_law (first
      | (go_simp; go_at_call 45; refine (l08Frame_d _ xk.f0 _ xk.f1 HRd.out hzk_).mono ?_; rintro e wA ⟨vf, rfl, oA, gA⟩; unfold vFrame; obtain ⟨pf, nf, cf, hv_⟩ := RdL.form (OwU.rd oA); subst hv_; have sA := gA.size; (try simp only [World.size_drew] at sA); have ZA := row_held gA (row_drewS rB17_.out); have a1 := cell_of_row wA _ 1 _ _ _ ZA; have ZC := row_held (gby_alloc (gby_refl wA none) (.cells #[.int .i64 xk.f0, .slice pf nf cf] 37)) ZA; have a1c := cell_of_row _ _ 1 _ _ _ ZC; have OA1 := (World.ownsRow.drew HR1.out).grown gA)
      | (refine step_append_lies _ (by rfl) _ _ _ (by rfl) (W.heap.size + 1 + 1 + 1) 37 i1_ _ 2 32 Try.underlying27 hi1_ hz0_ hz1_ hz2_ rfl (by omega) _ k (flatN cs k) (by rfl) (OA1.alloc _) ⟨wA.heap.size, 0, none⟩ 1 1 _ (by rfl) (by rfl) (World.news_of_block (t := 37) (fr := (0, 0)) (heap_alloc_new wA _)) (by simp [Value.oneCell']) (by omega) (by unfold maxLen; omega) (by omega) (by simp; omega) _ (by rfl) ?_; intro g3 cap3 wB hownB hgB hatB hltB; have ZB : wB.heap[W.heap.size + 1 + 1]? = some (.cells #[.int .i64 m, (.slice p1 k d1), .int .i64 r] 29 (0, 0)) := (hgB.block (W.heap.size + 1 + 1) (by (try simp only [World.size_alloc]); omega) (fun e => by have := own_from OA1 _ e.symm; omega)).trans ZC; have b1 := cell_of_row wB _ 1 _ _ _ ZB; have f1 := frozen_of_row wB _ 1 _ _ ZB)
      | fail)
    all_goals
      have HGB := Lib.hid (show (((W.alloc (.cells #[.int .i64 m, .slice (some ⟨ab, ao, none⟩) n0 cap0, .int .i64 r] 29)).alloc (.cells #[.int .i64 0, .slice none 0 0, .int .i64 0] 29))).grownBy wB none from gby_new (gby_alloc (gby_trans (gby_drew HTM16_.out) gA) _) hgB (fun i hi => by have := own_from OA1 i hi; (try simp only [World.size_alloc]); omega))
      have HZB := Lib.hid ZB
      have oC := OwU.grow oA (gby_alloc (gby_refl wA none) (.cells #[.int .i64 xk.f0, .slice pf nf cf] 37))
      have HOB := Lib.hid (show OwR shFrame 37 wB (W.heap.size + 1 + 1 + 1) (.slice (some ⟨g3, 0, none⟩) (k + 1) cap3) (xs.take (k + 1)) from by
        rw [take_next xs k (by have := HE.out; omega), show xs.getD k default = xk from HXk.out.symm]
        refine owR_app (own_blockS HR1.out) HEL.out (gby_alloc (gby_trans (gby_drew (gby_refl wr none)) gA) _) (a := wr.heap.size) (b := wA.heap.size) ⟨_, rfl, oC⟩ (Nat.le_refl _) (by omega) (by simp only [World.size_alloc]; omega) (by rw [HLK.out]; exact hownB) hgB (fun i hi => ?_)
        have hi2 : g3 = i := Option.some.inj hi
        rcases hatB with q | q
        · exact .inl (by rw [← hi2]; exact q)
        · exact .inr (by rw [← hi2, q]; exact Nat.le_refl _))
      have sB := hgB.size
      (try simp only [World.size_alloc, World.size_drew] at sB)
      clear oC hownB hgB hatB hltB ZB OA1 oA gA ZA ZC
      try clear a1
      try clear a1c
      have zr_ := Lib.hid (show (wB.setCell ⟨W.heap.size + 1 + 1, 1, none⟩ (.slice (some ⟨g3, 0, none⟩) (k + 1) cap3)).heap[W.heap.size + 1 + 1]? = some (.cells #[.int .i64 m, (.slice (some ⟨g3, 0, none⟩) (k + 1) cap3), .int .i64 r] 29 (0, 0)) from heap_setCell_same _ _ 1 _ _ _ HZB.out)
      go_wp2
      refine ⟨⟨k + 1, _, by go_num, by omega, zr_.out, HOB.out.kept (gby_set (gby_refl _ _) _ _) (fun i hi => by have h2 := Option.some.inj hi; omega), gby_setnew HGB.out _ (by dsimp only; (try simp only [World.size_alloc]); omega) _⟩, by simp [intOf]; omega⟩


set_option maxRecDepth 8000 in
set_option maxHeartbeats 4000000 in
theorem copiedSnd_r (W : World) (m r : Int) (v : Value) (xs : List DFrame) (H : RdL shFrame W v xs) (hl : szL shFrame xs ≤ 1048576) : Calls Try.prog 41 #[vSender m v r] W (NewSndR m xs r (W.heap.size + 1 + 1) W) := by
  obtain ⟨a0, n0, cap0, rfl⟩ := RdL.form H
  have hn0 : n0 = xs.length := by obtain ⟨_, _, e, _⟩ := H; injection e
  obtain ⟨p, n, c, hraw_, hd_⟩ := raw_of H
  have HRAW := Lib.hid hraw_
  have HDAT := Lib.hid hd_
  have HE := Lib.hid hn0
  have HS := Lib.hid hl
  have HM := Lib.hid H.max
  have hlx : n0 ≤ 1048576 := by have := szL_len shFrame xs; omega
  clear hraw_ hd_ H hl hn0
  unfold vSender
  go_enter Try.func41, Try.ntmps41
  have rA1_ := Lib.hid (show (((W.alloc (.cells #[.int .i64 m, .slice a0 n0 cap0, .int .i64 r] 29)).alloc (.cells #[.int .i64 0, .slice none 0 0, .int .i64 0] 29))).heap[W.heap.size]? = some (.cells #[.int .i64 m, .slice a0 n0 cap0, .int .i64 r] 29 (0, 0)) from by rw [heap_alloc_old _ _ (by simp only [World.size_alloc]; omega)]; exact heap_alloc_new _ _)
  have rR2_ := Lib.hid (show (((W.alloc (.cells #[.int .i64 m, .slice a0 n0 cap0, .int .i64 r] 29)).alloc (.cells #[.int .i64 0, .slice none 0 0, .int .i64 0] 29))).heap[W.heap.size + 1]? = some (.cells #[.int .i64 0, .slice none 0 0, .int .i64 0] 29 (0, 0)) from by exact heap_pair _ _ _)
  have G3_ := Lib.hid (show (W).grownBy (((W.alloc (.cells #[.int .i64 m, .slice a0 n0 cap0, .int .i64 r] 29)).alloc (.cells #[.int .i64 0, .slice none 0 0, .int .i64 0] 29))) none from (gby_alloc (gby_alloc (gby_refl _ _) _) _))
  have A_0_ : (((W.alloc (.cells #[.int .i64 m, .slice a0 n0 cap0, .int .i64 r] 29)).alloc (.cells #[.int .i64 0, .slice none 0 0, .int .i64 0] 29))).cell? ⟨W.heap.size, 0, none⟩ = some (.int .i64 m) := cell_of_row _ _ 0 _ _ _ rA1_.out
  have A_1_ : (((W.alloc (.cells #[.int .i64 m, .slice a0 n0 cap0, .int .i64 r] 29)).alloc (.cells #[.int .i64 0, .slice none 0 0, .int .i64 0] 29))).cell? ⟨W.heap.size, 1, none⟩ = some (.slice a0 n0 cap0) := cell_of_row _ _ 1 _ _ _ rA1_.out
  have A_2_ : (((W.alloc (.cells #[.int .i64 m, .slice a0 n0 cap0, .int .i64 r] 29)).alloc (.cells #[.int .i64 0, .slice none 0 0, .int .i64 0] 29))).cell? ⟨W.heap.size, 2, none⟩ = some (.int .i64 r) := cell_of_row _ _ 2 _ _ _ rA1_.out
  have R_0_ : (((W.alloc (.cells #[.int .i64 m, .slice a0 n0 cap0, .int .i64 r] 29)).alloc (.cells #[.int .i64 0, .slice none 0 0, .int .i64 0] 29))).cell? ⟨W.heap.size + 1, 0, none⟩ = some (.int .i64 0) := cell_of_row _ _ 0 _ _ _ rR2_.out
  have R_1_ : (((W.alloc (.cells #[.int .i64 m, .slice a0 n0 cap0, .int .i64 r] 29)).alloc (.cells #[.int .i64 0, .slice none 0 0, .int .i64 0] 29))).cell? ⟨W.heap.size + 1, 1, none⟩ = some (.slice none 0 0) := cell_of_row _ _ 1 _ _ _ rR2_.out
  have R_2_ : (((W.alloc (.cells #[.int .i64 m, .slice a0 n0 cap0, .int .i64 r] 29)).alloc (.cells #[.int .i64 0, .slice none 0 0, .int .i64 0] 29))).cell? ⟨W.heap.size + 1, 2, none⟩ = some (.int .i64 0) := cell_of_row _ _ 2 _ _ _ rR2_.out
  go_wp2_with fail
  go_at_call 54
  refine (cloneFr_row _ _ (rawL xs p n c) (HRAW.out.grow G3_.out) (by rw [rawL_len]; have := HE.out; omega)).mono ?_
  rintro e w1 ⟨vq, rfl, hrow_, g⟩
  have szw1 := g.size
  try simp only [World.size_alloc] at szw1
  clear A_0_ A_1_ A_2_ R_0_ R_1_ R_2_
  have rA4_ := Lib.hid (show (w1).heap[W.heap.size]? = some (.cells #[.int .i64 m, .slice a0 n0 cap0, .int .i64 r] 29 (0, 0)) from row_held g rA1_.out)
  clear rA1_
  have rR5_ := Lib.hid (show (w1).heap[W.heap.size + 1]? = some (.cells #[.int .i64 0, .slice none 0 0, .int .i64 0] 29 (0, 0)) from row_held g rR2_.out)
  clear rR2_
  have G6_ := Lib.hid (show (W).grownBy (w1) none from gby_trans G3_.out g)
  simp only [World.size_alloc] at hrow_
  rw [rawL_len, ← HE.out] at hrow_
  have HROW := Lib.hid hrow_
  clear g hrow_
  by_cases h0 : n0 = 0
  rotate_left
  · skip
    obtain ⟨g, capq, hvq_⟩ : ∃ g c', vq = .slice (some ⟨g, 0, none⟩) n0 c' := by
      rcases HROW.out.2 with ⟨_, q⟩ | ⟨g', cap', _, q, _⟩
      · exact absurd q h0
      · exact ⟨g', cap', q⟩
    subst hvq_
    have hgb_ := own_from HROW.out g rfl
    have HCM := Lib.hid (show capq ≤ maxLen from by
      rcases HROW.out.2 with ⟨_, q⟩ | ⟨g', cap', cur', q, _, _, _, hm, _⟩
      · exact absurd q h0
      · injection q with q1 q2 q3
        rw [q3]; exact hm)
    obtain ⟨C0, hC0_, hs0_, hcap_, hc0_⟩ := row_cellsF rawC (fun _ => rfl) (by rw [rawL_len]; exact HE.out) HROW.out
    have HC0 := Lib.hid hC0_
    have HS0 := Lib.hid hs0_
    have HX0 := Lib.hid (show ∀ j, j < n0 → C0[j * 2]? = some (.int .i64 (fr xs j).f0) ∧ C0[j * 2 + 1]? = some (.slice (p j) (n j) (c j)) from fun j hj => by
      have e_ := rawL_at xs p n c (show j < xs.length by have := HE.out; omega)
      have q0 := hc0_ j 0 hj (by omega)
      have q1 := hc0_ j 1 hj (by omega)
      rw [e_] at q0 q1
      exact ⟨q0, q1⟩)
    have hgl_ := lt_of_block HC0.out
    clear hC0_ hs0_ hc0_
    have A_0_ : (w1).cell? ⟨W.heap.size, 0, none⟩ = some (.int .i64 m) := cell_of_row _ _ 0 _ _ _ rA4_.out
    have A_1_ : (w1).cell? ⟨W.heap.size, 1, none⟩ = some (.slice a0 n0 cap0) := cell_of_row _ _ 1 _ _ _ rA4_.out
    have A_2_ : (w1).cell? ⟨W.heap.size, 2, none⟩ = some (.int .i64 r) := cell_of_row _ _ 2 _ _ _ rA4_.out
    have Af0_ : (w1).frozen? ⟨W.heap.size, 0, none⟩ = false := frozen_of_row _ _ 0 _ _ rA4_.out
    have Af1_ : (w1).frozen? ⟨W.heap.size, 1, none⟩ = false := frozen_of_row _ _ 1 _ _ rA4_.out
    have Af2_ : (w1).frozen? ⟨W.heap.size, 2, none⟩ = false := frozen_of_row _ _ 2 _ _ rA4_.out
    have R_0_ : (w1).cell? ⟨W.heap.size + 1, 0, none⟩ = some (.int .i64 0) := cell_of_row _ _ 0 _ _ _ rR5_.out
    have R_1_ : (w1).cell? ⟨W.heap.size + 1, 1, none⟩ = some (.slice none 0 0) := cell_of_row _ _ 1 _ _ _ rR5_.out
    have R_2_ : (w1).cell? ⟨W.heap.size + 1, 2, none⟩ = some (.int .i64 0) := cell_of_row _ _ 2 _ _ _ rR5_.out
    have Rf0_ : (w1).frozen? ⟨W.heap.size + 1, 0, none⟩ = false := frozen_of_row _ _ 0 _ _ rR5_.out
    have Rf1_ : (w1).frozen? ⟨W.heap.size + 1, 1, none⟩ = false := frozen_of_row _ _ 1 _ _ rR5_.out
    have Rf2_ : (w1).frozen? ⟨W.heap.size + 1, 2, none⟩ = false := frozen_of_row _ _ 2 _ _ rR5_.out
    have HA2 := Lib.hid (show (w1.setCell ⟨W.heap.size, 1, none⟩ (.slice (some ⟨g, 0, none⟩) n0 capq)).heap[W.heap.size]? = some (.cells #[.int .i64 m, .slice (some ⟨g, 0, none⟩) n0 capq, .int .i64 r] 29 (0, 0)) from heap_setCell_same _ _ 1 _ _ _ rA4_.out)
    have sa0_ : (w1.setCell ⟨W.heap.size, 1, none⟩ (.slice (some ⟨g, 0, none⟩) n0 capq)).cell? ⟨W.heap.size, 0, none⟩ = some (.int .i64 m) := cell_of_row _ _ 0 _ _ _ HA2.out
    have sa1_ : (w1.setCell ⟨W.heap.size, 1, none⟩ (.slice (some ⟨g, 0, none⟩) n0 capq)).cell? ⟨W.heap.size, 1, none⟩ = some (.slice (some ⟨g, 0, none⟩) n0 capq) := cell_of_row _ _ 1 _ _ _ HA2.out
    have sa2_ : (w1.setCell ⟨W.heap.size, 1, none⟩ (.slice (some ⟨g, 0, none⟩) n0 capq)).cell? ⟨W.heap.size, 2, none⟩ = some (.int .i64 r) := cell_of_row _ _ 2 _ _ _ HA2.out
    have HR2 := Lib.hid (show (w1.setCell ⟨W.heap.size, 1, none⟩ (.slice (some ⟨g, 0, none⟩) n0 capq)).heap[W.heap.size + 1]? = some (.cells #[.int .i64 0, .slice none 0 0, .int .i64 0] 29 (0, 0)) from set_far rR5_.out (by dsimp only; omega))
    have hgn_ : ¬ g = W.heap.size := by omega
    go_wp2
    go_loopw [3, 4, 12] (fun y3 y4 i wr => ∃ (k : Nat) (C : Array Value) (P : Nat → Nat), i = .int .i64 (k : Int) ∧ k ≤ n0 ∧ (∃ q, y3 = q) ∧ (∃ q, y4 = q) ∧ wr.heap[W.heap.size]? = some (.cells #[.int .i64 m, .slice (some ⟨g, 0, none⟩) n0 capq, .int .i64 r] 29 (0, 0)) ∧ wr.heap[W.heap.size + 1]? = some (.cells #[.int .i64 0, .slice none 0 0, .int .i64 0] 29 (0, 0)) ∧ wr.heap[g]? = some (.cells C 37 (0, 0)) ∧ C.size = capq * 2 ∧ Copd shFrame g wr xs C P k ∧ (∀ j, k ≤ j → j < n0 → C[j * 2]? = some (.int .i64 (fr xs j).f0) ∧ C[j * 2 + 1]? = some (.slice (p j) (n j) (c j))) ∧ W.grownBy wr none) (fun _ _ i _ => n0 - (intOf i).toNat)
    case atStart => exact ⟨0, C0, fun _ => w1.heap.size, rfl, by omega, ⟨_, rfl⟩, ⟨_, rfl⟩, HA2.out, HR2.out, set_far HC0.out (by dsimp only; omega), HS0.out, ⟨hgl_, by simp only [World.size_setCell], fun j hj => absurd hj (Nat.not_lt_zero _), fun j hj => absurd hj (Nat.not_lt_zero _)⟩, fun j _ hj => HX0.out j hj, gby_setnew G6_.out _ (by dsimp only; omega) _⟩
    case round =>
      clear HA2 HR2 HC0 HX0 HS0 HROW A_0_ A_1_ A_2_ Af0_ Af1_ Af2_ R_0_ R_1_ R_2_ Rf0_ Rf1_ Rf2_ sa0_ sa1_ sa2_ hgl_
      obtain ⟨k, C, P, rfl, hk, ⟨y3, rfl⟩, ⟨y4, rfl⟩, hA_, hR_, hG_, hCs_, hcp_, hx_, hg_⟩ := hrel
      have HGB := Lib.hid hG_
      have HCS := Lib.hid hCs_
      have HCP := Lib.hid hcp_
      have HXX := Lib.hid hx_
      clear hG_ hCs_ hcp_ hx_
      have hgl_ := lt_of_block HGB.out
      have hk0 : (0 : Int) ≤ (k : Int) := by omega
      have htk : ((k : Int)).toNat = k := by omega
      have rA7_ := Lib.hid (show (wr).heap[W.heap.size]? = some (.cells #[.int .i64 m, .slice (some ⟨g, 0, none⟩) n0 capq, .int .i64 r] 29 (0, 0)) from hA_)
      have rR8_ := Lib.hid (show (wr).heap[W.heap.size + 1]? = some (.cells #[.int .i64 0, .slice none 0 0, .int .i64 0] 29 (0, 0)) from hR_)
      have G9_ := Lib.hid (show (W).grownBy (wr) none from hg_)
      clear hA_ hR_ hg_
      by_cases hlt : k < n0
      rotate_left
      · obtain rfl : k = n0 := by omega
        have hki : ¬ (k : Int) < (k : Int) := by omega
        have HOX := Lib.hid (show OwR shFrame 37 wr (W.heap.size + 1 + 1) (.slice (some ⟨g, 0, none⟩) k capq) xs from by have q := copd_row (c := capq) (base := W.heap.size + 1 + 1) (by rw [← HE.out]; exact HCP.out) (by omega) (by rw [← HE.out]; exact hcap_) HCM.out HCS.out HGB.out; rw [← HE.out] at q; exact q)
        have A_0_ : (wr).cell? ⟨W.heap.size, 0, none⟩ = some (.int .i64 m) := cell_of_row _ _ 0 _ _ _ rA7_.out
        have A_1_ : (wr).cell? ⟨W.heap.size, 1, none⟩ = some (.slice (some ⟨g, 0, none⟩) k capq) := cell_of_row _ _ 1 _ _ _ rA7_.out
        have A_2_ : (wr).cell? ⟨W.heap.size, 2, none⟩ = some (.int .i64 r) := cell_of_row _ _ 2 _ _ _ rA7_.out
        have R_0_ : (wr).cell? ⟨W.heap.size + 1, 0, none⟩ = some (.int .i64 0) := cell_of_row _ _ 0 _ _ _ rR8_.out
        have R_1_ : (wr).cell? ⟨W.heap.size + 1, 1, none⟩ = some (.slice none 0 0) := cell_of_row _ _ 1 _ _ _ rR8_.out
        have R_2_ : (wr).cell? ⟨W.heap.size + 1, 2, none⟩ = some (.int .i64 0) := cell_of_row _ _ 2 _ _ _ rR8_.out
        have Rf0_ : (wr).frozen? ⟨W.heap.size + 1, 0, none⟩ = false := frozen_of_row _ _ 0 _ _ rR8_.out
        have Rf1_ : (wr).frozen? ⟨W.heap.size + 1, 1, none⟩ = false := frozen_of_row _ _ 1 _ _ rR8_.out
        have Rf2_ : (wr).frozen? ⟨W.heap.size + 1, 2, none⟩ = false := frozen_of_row _ _ 2 _ _ rR8_.out
        have zr_ := Lib.hid (show ((((wr.setCell ⟨W.heap.size + 1, 0, none⟩ (.int .i64 m)).setCell ⟨W.heap.size + 1, 1, none⟩ (.slice (some ⟨g, 0, none⟩) k capq)).setCell ⟨W.heap.size + 1, 2, none⟩ (.int .i64 r))).heap[W.heap.size + 1]? = some (.cells #[.int .i64 m, .slice (some ⟨g, 0, none⟩) k capq, .int .i64 r] 29 (0, 0)) from (heap_setCell_same _ _ 2 _ _ _ (heap_setCell_same _ _ 1 _ _ _ (heap_setCell_same _ _ 0 _ _ _ rR8_.out))))
        have z0_ : ((((wr.setCell ⟨W.heap.size + 1, 0, none⟩ (.int .i64 m)).setCell ⟨W.heap.size + 1, 1, none⟩ (.slice (some ⟨g, 0, none⟩) k capq)).setCell ⟨W.heap.size + 1, 2, none⟩ (.int .i64 r))).cell? ⟨W.heap.size + 1, 0, none⟩ = some (.int .i64 m) := cell_of_row _ _ 0 _ _ _ zr_.out
        have z1_ : ((((wr.setCell ⟨W.heap.size + 1, 0, none⟩ (.int .i64 m)).setCell ⟨W.heap.size + 1, 1, none⟩ (.slice (some ⟨g, 0, none⟩) k capq)).setCell ⟨W.heap.size + 1, 2, none⟩ (.int .i64 r))).cell? ⟨W.heap.size + 1, 1, none⟩ = some (.slice (some ⟨g, 0, none⟩) k capq) := cell_of_row _ _ 1 _ _ _ zr_.out
        have z2_ : ((((wr.setCell ⟨W.heap.size + 1, 0, none⟩ (.int .i64 m)).setCell ⟨W.heap.size + 1, 1, none⟩ (.slice (some ⟨g, 0, none⟩) k capq)).setCell ⟨W.heap.size + 1, 2, none⟩ (.int .i64 r))).cell? ⟨W.heap.size + 1, 2, none⟩ = some (.int .i64 r) := cell_of_row _ _ 2 _ _ _ zr_.out
        go_wp2
        refine bodyPost_ret (v := .agg #[.int .i64 m, .slice (some ⟨g, 0, none⟩) k capq, .int .i64 r]) (by simp [results, go_sem, z0_, z1_, z2_]) rfl ⟨_, rfl, ?_, ?_⟩
        · exact (OwR.kept (OwR.kept (OwR.kept HOX.out (gby_set (gby_refl _ _) _ _) (fun i hi => by have h2 := Option.some.inj hi; omega)) (gby_set (gby_refl _ _) _ _) (fun i hi => by have h2 := Option.some.inj hi; omega)) (gby_set (gby_refl _ _) _ _) (fun i hi => by have h2 := Option.some.inj hi; omega))
        · exact (gby_setnew (gby_setnew (gby_setnew G9_.out _ (by dsimp only; omega) _) _ (by dsimp only; omega) _) _ (by dsimp only; omega) _)
      have hki : (k : Int) < (n0 : Int) := by omega
      obtain ⟨xk, hxk_⟩ : ∃ x, x = xs.getD k default := ⟨_, rfl⟩
      have HXk := Lib.hid (show xk = fr xs k from hxk_)
      have hzk_ : szL shI xk.f1 ≤ 1048576 := by have q1 := szL_at shFrame xs k (by have := HE.out; omega); rw [← hxk_] at q1; exact Nat.le_trans q1 HS.out
      clear hxk_
      obtain ⟨q0_, q1_⟩ := HXX.out k (Nat.le_refl _) hlt
      rw [← HXk.out] at q0_
      obtain ⟨pk, nk, ck, hpk_⟩ : ∃ a b d, a = p k ∧ b = n k ∧ d = c k := ⟨_, _, _, rfl, rfl, rfl⟩
      rw [← hpk_.1, ← hpk_.2.1, ← hpk_.2.2] at q1_
      have HDK := Lib.hid (show RdL shI W (.slice pk nk ck) xk.f1 from by have q := HDAT.out k (by have := HE.out; omega); rw [← HXk.out, ← hpk_.1, ← hpk_.2.1, ← hpk_.2.2] at q; exact q)
      clear hpk_
      have HGW_ := Lib.hid (G9_.out)
      have e0_ : wr.cell? ⟨g, k * 2, none⟩ = some (.int .i64 xk.f0) := (cell_of_row wr _ _ _ _ _ HGB.out).trans q0_
      have e1_ : wr.cell? ⟨g, k * 2 + 1, none⟩ = some (.slice pk nk ck) := (cell_of_row wr _ _ _ _ _ HGB.out).trans q1_
      have Q0 := Lib.hid q0_
      have Q1 := Lib.hid q1_
      clear q0_ q1_
      have A_0_ : (wr).cell? ⟨W.heap.size, 0, none⟩ = some (.int .i64 m) := cell_of_row _ _ 0 _ _ _ rA7_.out
      have A_1_ : (wr).cell? ⟨W.heap.size, 1, none⟩ = some (.slice (some ⟨g, 0, none⟩) n0 capq) := cell_of_row _ _ 1 _ _ _ rA7_.out
      have A_2_ : (wr).cell? ⟨W.heap.size, 2, none⟩ = some (.int .i64 r) := cell_of_row _ _ 2 _ _ _ rA7_.out
      have al_ : (wr).grownBy ((wr).alloc (.cells #[.int .i64 xk.f0, .slice pk nk ck] 37)) none := gby_alloc (gby_refl _ _) _
      have rA10_ := Lib.hid (show ((wr.alloc (.cells #[.int .i64 xk.f0, .slice pk nk ck] 37))).heap[W.heap.size]? = some (.cells #[.int .i64 m, .slice (some ⟨g, 0, none⟩) n0 capq, .int .i64 r] 29 (0, 0)) from row_held al_ rA7_.out)
      clear rA7_
      have rR11_ := Lib.hid (show ((wr.alloc (.cells #[.int .i64 xk.f0, .slice pk nk ck] 37))).heap[W.heap.size + 1]? = some (.cells #[.int .i64 0, .slice none 0 0, .int .i64 0] 29 (0, 0)) from row_held al_ rR8_.out)
      clear rR8_
      have G12_ := Lib.hid (show (W).grownBy ((wr.alloc (.cells #[.int .i64 xk.f0, .slice pk nk ck] 37))) none from gby_trans G9_.out al_)
      have rQ13_ := Lib.hid (show ((wr.alloc (.cells #[.int .i64 xk.f0, .slice pk nk ck] 37))).heap[wr.heap.size]? = some (.cells #[.int .i64 xk.f0, .slice pk nk ck] 37 (0, 0)) from by first | exact heap_alloc_new _ _ | exact heap_pair _ _ _ | exact heap_trip _ _ _ _)
      clear al_
      have A_0_ : ((wr.alloc (.cells #[.int .i64 xk.f0, .slice pk nk ck] 37))).cell? ⟨W.heap.size, 0, none⟩ = some (.int .i64 m) := cell_of_row _ _ 0 _ _ _ rA10_.out
      have A_1_ : ((wr.alloc (.cells #[.int .i64 xk.f0, .slice pk nk ck] 37))).cell? ⟨W.heap.size, 1, none⟩ = some (.slice (some ⟨g, 0, none⟩) n0 capq) := cell_of_row _ _ 1 _ _ _ rA10_.out
      have A_2_ : ((wr.alloc (.cells #[.int .i64 xk.f0, .slice pk nk ck] 37))).cell? ⟨W.heap.size, 2, none⟩ = some (.int .i64 r) := cell_of_row _ _ 2 _ _ _ rA10_.out
      have R_0_ : ((wr.alloc (.cells #[.int .i64 xk.f0, .slice pk nk ck] 37))).cell? ⟨W.heap.size + 1, 0, none⟩ = some (.int .i64 0) := cell_of_row _ _ 0 _ _ _ rR11_.out
      have R_1_ : ((wr.alloc (.cells #[.int .i64 xk.f0, .slice pk nk ck] 37))).cell? ⟨W.heap.size + 1, 1, none⟩ = some (.slice none 0 0) := cell_of_row _ _ 1 _ _ _ rR11_.out
      have R_2_ : ((wr.alloc (.cells #[.int .i64 xk.f0, .slice pk nk ck] 37))).cell? ⟨W.heap.size + 1, 2, none⟩ = some (.int .i64 0) := cell_of_row _ _ 2 _ _ _ rR11_.out
      have Q_0_ : ((wr.alloc (.cells #[.int .i64 xk.f0, .slice pk nk ck] 37))).cell? ⟨wr.heap.size, 0, none⟩ = some (.int .i64 xk.f0) := cell_of_row _ _ 0 _ _ _ rQ13_.out
      have Q_1_ : ((wr.alloc (.cells #[.int .i64 xk.f0, .slice pk nk ck] 37))).cell? ⟨wr.heap.size, 1, none⟩ = some (.slice pk nk ck) := cell_of_row _ _ 1 _ _ _ rQ13_.out
      have HRd := Lib.hid (show RdL shI ((wr.alloc (.cells #[.int .i64 xk.f0, .slice pk nk ck] 37))).drew (.slice pk nk ck) xk.f1 from HDK.out.grow (gby_drew G12_.out))
      have HGQ := Lib.hid (row_held (gby_alloc (gby_refl wr none) (.cells #[.int .i64 xk.f0, .slice pk nk ck] 37)) HGB.out)
      have hkc_ : k * 2 + 1 < C.size := by have := HCS.out; omega
      go_wp2_with fail
      go_region_law (first
        | (go_simp; go_at_call 55; refine (copiedFr_d _ xk.f0 _ xk.f1 HRd.out hzk_).mono ?_; rintro e w1 ⟨vf, rfl, oA, gA⟩; unfold vFrame; obtain ⟨pf, nf, cf, hv_⟩ := RdL.form (OwU.rd oA); subst hv_; have sA := gA.size; (try simp only [World.size_drew, World.size_alloc] at sA); have R1 := Lib.hid (row_held gA (row_drewT HGQ.out)); have RA1 := row_held gA (row_drewT rA10_.out); have a1_ := cell_of_row w1 _ 1 _ _ _ RA1; have t0_ : w1.cell? ⟨g, k * 2, none⟩ = some (.int .i64 xk.f0) := (cell_of_row w1 _ _ _ _ _ R1.out).trans Q0.out; have u0_ : w1.frozen? ⟨g, k * 2, none⟩ = false := frozen_of_row w1 _ _ _ _ R1.out; have t1_ : w1.cell? ⟨g, k * 2 + 1, none⟩ = some (.slice pk nk ck) := (cell_of_row w1 _ _ _ _ _ R1.out).trans Q1.out; have u1_ : w1.frozen? ⟨g, k * 2 + 1, none⟩ = false := frozen_of_row w1 _ _ _ _ R1.out)
        | fail)
      all_goals
        have GW1 := gby_trans (gby_drew (gby_alloc (gby_refl wr none) (.cells #[.int .i64 xk.f0, .slice pk nk ck] 37))) gA
        have O1 := Lib.hid (show OwU w1 wr.heap.size w1.heap.size [] [own shI (.slice pf nf cf) xk.f1] from OwU.wide (by simp only [World.size_drew, World.size_alloc]; omega) (Nat.le_refl _) oA)
        have RR1 := row_held gA (row_drewT rR11_.out)
        have hn := copd_next (m := capq) (cs := [.int .i64 xk.f0, (.slice pf nf cf)]) HCP.out (by omega) HCS.out GW1 (show shFrame.ow _ _ _ _ _ from by rw [show xs.getD k default = xk from HXk.out.symm]; exact ⟨(.slice pf nf cf), rfl, O1.out⟩)
        have HN := Lib.hid hn
        have GG := Lib.hid (gby_trans (HGW_.out) GW1)
        have RAx := Lib.hid RA1
        have RRx := Lib.hid RR1
        clear hn RA1 RR1 GW1 oA gA t0_ t1_ u0_ u1_ a1_
        go_wp2
        refine ⟨⟨k + 1, putC C (k * shFrame.n) [.int .i64 xk.f0, (.slice pf nf cf)], (fun j => if j = k + 1 then w1.heap.size else P j), by go_num, by omega, ⟨_, rfl⟩, ⟨_, rfl⟩, ?_, ?_, putW_heap [.int .i64 xk.f0, (.slice pf nf cf)] R1.out, by rw [putC_size]; exact HCS.out, HN.out, fun j hj1 hj2 => ?_, ?_⟩, by simp [intOf]; omega⟩
        · exact set_far (set_far RAx.out (by dsimp only; omega)) (by dsimp only; omega)
        · exact set_far (set_far RRx.out (by dsimp only; omega)) (by dsimp only; omega)
        · obtain ⟨q0, q1⟩ := HXX.out j (by omega) hj2
          have hm_ : k * shFrame.n = k * 2 := rfl
          rw [hm_, putC_out _ _ _ _ (.inr (by show k * 2 + 2 ≤ j * 2; omega)), putC_out _ _ _ _ (.inr (by show k * 2 + 2 ≤ j * 2 + 1; omega))]
          exact ⟨q0, q1⟩
        · repeat (with_reducible refine gby_setnew ?_ _ (by dsimp only; omega) _)
          exact GG.out
  · subst h0
    have hx0_ : xs = [] := List.eq_nil_of_length_eq_zero HE.out.symm
    obtain ⟨gq, capq, hvq_⟩ : ∃ a c', vq = .slice a 0 c' := by
      rcases HROW.out.2 with ⟨q, _⟩ | ⟨g', cap', _, q, _⟩
      · exact ⟨_, _, q⟩
      · exact ⟨_, cap', q⟩
    subst hvq_
    have HOX := Lib.hid (show OwR shFrame 37 w1 (W.heap.size + 1 + 1) (.slice gq 0 capq) xs from by
      have q := HROW.out
      subst hx0_
      exact owR_of (s := shFrame) (show w1.ownsRow (W.heap.size + 1 + 1) 37 2 (.slice gq 0 capq) 0 [] from by simpa [rawL] using q))
    have A_0_ : (w1).cell? ⟨W.heap.size, 0, none⟩ = some (.int .i64 m) := cell_of_row _ _ 0 _ _ _ rA4_.out
    have A_1_ : (w1).cell? ⟨W.heap.size, 1, none⟩ = some (.slice a0 0 cap0) := cell_of_row _ _ 1 _ _ _ rA4_.out
    have A_2_ : (w1).cell? ⟨W.heap.size, 2, none⟩ = some (.int .i64 r) := cell_of_row _ _ 2 _ _ _ rA4_.out
    have Af0_ : (w1).frozen? ⟨W.heap.size, 0, none⟩ = false := frozen_of_row _ _ 0 _ _ rA4_.out
    have Af1_ : (w1).frozen? ⟨W.heap.size, 1, none⟩ = false := frozen_of_row _ _ 1 _ _ rA4_.out
    have Af2_ : (w1).frozen? ⟨W.heap.size, 2, none⟩ = false := frozen_of_row _ _ 2 _ _ rA4_.out
    have R_0_ : (w1).cell? ⟨W.heap.size + 1, 0, none⟩ = some (.int .i64 0) := cell_of_row _ _ 0 _ _ _ rR5_.out
    have R_1_ : (w1).cell? ⟨W.heap.size + 1, 1, none⟩ = some (.slice none 0 0) := cell_of_row _ _ 1 _ _ _ rR5_.out
    have R_2_ : (w1).cell? ⟨W.heap.size + 1, 2, none⟩ = some (.int .i64 0) := cell_of_row _ _ 2 _ _ _ rR5_.out
    have Rf0_ : (w1).frozen? ⟨W.heap.size + 1, 0, none⟩ = false := frozen_of_row _ _ 0 _ _ rR5_.out
    have Rf1_ : (w1).frozen? ⟨W.heap.size + 1, 1, none⟩ = false := frozen_of_row _ _ 1 _ _ rR5_.out
    have Rf2_ : (w1).frozen? ⟨W.heap.size + 1, 2, none⟩ = false := frozen_of_row _ _ 2 _ _ rR5_.out
    have HA2 := Lib.hid (show (w1.setCell ⟨W.heap.size, 1, none⟩ (.slice gq 0 capq)).heap[W.heap.size]? = some (.cells #[.int .i64 m, .slice gq 0 capq, .int .i64 r] 29 (0, 0)) from heap_setCell_same _ _ 1 _ _ _ rA4_.out)
    have sa0_ : (w1.setCell ⟨W.heap.size, 1, none⟩ (.slice gq 0 capq)).cell? ⟨W.heap.size, 0, none⟩ = some (.int .i64 m) := cell_of_row _ _ 0 _ _ _ HA2.out
    have sa1_ : (w1.setCell ⟨W.heap.size, 1, none⟩ (.slice gq 0 capq)).cell? ⟨W.heap.size, 1, none⟩ = some (.slice gq 0 capq) := cell_of_row _ _ 1 _ _ _ HA2.out
    have sa2_ : (w1.setCell ⟨W.heap.size, 1, none⟩ (.slice gq 0 capq)).cell? ⟨W.heap.size, 2, none⟩ = some (.int .i64 r) := cell_of_row _ _ 2 _ _ _ HA2.out
    have HR2 := Lib.hid (show (w1.setCell ⟨W.heap.size, 1, none⟩ (.slice gq 0 capq)).heap[W.heap.size + 1]? = some (.cells #[.int .i64 0, .slice none 0 0, .int .i64 0] 29 (0, 0)) from set_far rR5_.out (by dsimp only; omega))
    have HOY := Lib.hid (show OwR shFrame 37 (w1.setCell ⟨W.heap.size, 1, none⟩ (.slice gq 0 capq)) (W.heap.size + 1 + 1) (.slice gq 0 capq) xs from OwR.kept HOX.out (gby_set (gby_refl _ _) _ _) (fun i hi => by have h2 := Option.some.inj hi; omega))
    have GY := Lib.hid (show W.grownBy (w1.setCell ⟨W.heap.size, 1, none⟩ (.slice gq 0 capq)) none from gby_setnew G6_.out _ (by dsimp only; omega) _)
    have hs2_ : (w1.setCell ⟨W.heap.size, 1, none⟩ (.slice gq 0 capq)).heap.size = w1.heap.size := by simp only [World.size_setCell]
    go_wp2
    go_loopw [12] (fun i wr => i = .int .i64 0 ∧ wr.heap[W.heap.size]? = some (.cells #[.int .i64 m, .slice gq 0 capq, .int .i64 r] 29 (0, 0)) ∧ wr.heap[W.heap.size + 1]? = some (.cells #[.int .i64 0, .slice none 0 0, .int .i64 0] 29 (0, 0)) ∧ OwR shFrame 37 wr (W.heap.size + 1 + 1) (.slice gq 0 capq) xs ∧ w1.heap.size ≤ wr.heap.size ∧ W.grownBy wr none) (fun _ _ => 0)
    case atStart => exact ⟨rfl, HA2.out, HR2.out, HOY.out, by rw [hs2_]; exact Nat.le_refl _, GY.out⟩
    case round =>
      clear HA2 HR2 HOY GY HOX HROW A_0_ A_1_ A_2_ Af0_ Af1_ Af2_ R_0_ R_1_ R_2_ Rf0_ Rf1_ Rf2_ sa0_ sa1_ sa2_
      obtain ⟨rfl, hA_, hR_, hox_, hsz_, hg_⟩ := hrel
      have HOX := Lib.hid hox_
      clear hox_
      have rA7_ := Lib.hid (show (wr).heap[W.heap.size]? = some (.cells #[.int .i64 m, .slice gq 0 capq, .int .i64 r] 29 (0, 0)) from hA_)
      have rR8_ := Lib.hid (show (wr).heap[W.heap.size + 1]? = some (.cells #[.int .i64 0, .slice none 0 0, .int .i64 0] 29 (0, 0)) from hR_)
      have G9_ := Lib.hid (show (W).grownBy (wr) none from hg_)
      clear hA_ hR_ hg_
      have A_0_ : (wr).cell? ⟨W.heap.size, 0, none⟩ = some (.int .i64 m) := cell_of_row _ _ 0 _ _ _ rA7_.out
      have A_1_ : (wr).cell? ⟨W.heap.size, 1, none⟩ = some (.slice gq 0 capq) := cell_of_row _ _ 1 _ _ _ rA7_.out
      have A_2_ : (wr).cell? ⟨W.heap.size, 2, none⟩ = some (.int .i64 r) := cell_of_row _ _ 2 _ _ _ rA7_.out
      have R_0_ : (wr).cell? ⟨W.heap.size + 1, 0, none⟩ = some (.int .i64 0) := cell_of_row _ _ 0 _ _ _ rR8_.out
      have R_1_ : (wr).cell? ⟨W.heap.size + 1, 1, none⟩ = some (.slice none 0 0) := cell_of_row _ _ 1 _ _ _ rR8_.out
      have R_2_ : (wr).cell? ⟨W.heap.size + 1, 2, none⟩ = some (.int .i64 0) := cell_of_row _ _ 2 _ _ _ rR8_.out
      have Rf0_ : (wr).frozen? ⟨W.heap.size + 1, 0, none⟩ = false := frozen_of_row _ _ 0 _ _ rR8_.out
      have Rf1_ : (wr).frozen? ⟨W.heap.size + 1, 1, none⟩ = false := frozen_of_row _ _ 1 _ _ rR8_.out
      have Rf2_ : (wr).frozen? ⟨W.heap.size + 1, 2, none⟩ = false := frozen_of_row _ _ 2 _ _ rR8_.out
      have zr_ := Lib.hid (show ((((wr.setCell ⟨W.heap.size + 1, 0, none⟩ (.int .i64 m)).setCell ⟨W.heap.size + 1, 1, none⟩ (.slice gq 0 capq)).setCell ⟨W.heap.size + 1, 2, none⟩ (.int .i64 r))).heap[W.heap.size + 1]? = some (.cells #[.int .i64 m, .slice gq 0 capq, .int .i64 r] 29 (0, 0)) from (heap_setCell_same _ _ 2 _ _ _ (heap_setCell_same _ _ 1 _ _ _ (heap_setCell_same _ _ 0 _ _ _ rR8_.out))))
      have z0_ : ((((wr.setCell ⟨W.heap.size + 1, 0, none⟩ (.int .i64 m)).setCell ⟨W.heap.size + 1, 1, none⟩ (.slice gq 0 capq)).setCell ⟨W.heap.size + 1, 2, none⟩ (.int .i64 r))).cell? ⟨W.heap.size + 1, 0, none⟩ = some (.int .i64 m) := cell_of_row _ _ 0 _ _ _ zr_.out
      have z1_ : ((((wr.setCell ⟨W.heap.size + 1, 0, none⟩ (.int .i64 m)).setCell ⟨W.heap.size + 1, 1, none⟩ (.slice gq 0 capq)).setCell ⟨W.heap.size + 1, 2, none⟩ (.int .i64 r))).cell? ⟨W.heap.size + 1, 1, none⟩ = some (.slice gq 0 capq) := cell_of_row _ _ 1 _ _ _ zr_.out
      have z2_ : ((((wr.setCell ⟨W.heap.size + 1, 0, none⟩ (.int .i64 m)).setCell ⟨W.heap.size + 1, 1, none⟩ (.slice gq 0 capq)).setCell ⟨W.heap.size + 1, 2, none⟩ (.int .i64 r))).cell? ⟨W.heap.size + 1, 2, none⟩ = some (.int .i64 r) := cell_of_row _ _ 2 _ _ _ zr_.out
      go_wp2
      refine bodyPost_ret (v := .agg #[.int .i64 m, .slice gq 0 capq, .int .i64 r]) (by simp [results, go_sem, z0_, z1_, z2_]) rfl ⟨_, rfl, ?_, ?_⟩
      · exact (OwR.kept (OwR.kept (OwR.kept HOX.out (gby_set (gby_refl _ _) _ _) (fun i hi => by have h2 := Option.some.inj hi; omega)) (gby_set (gby_refl _ _) _ _) (fun i hi => by have h2 := Option.some.inj hi; omega)) (gby_set (gby_refl _ _) _ _) (fun i hi => by have h2 := Option.some.inj hi; omega))
      · exact (gby_setnew (gby_setnew (gby_setnew G9_.out _ (by dsimp only; omega) _) _ (by dsimp only; omega) _) _ (by dsimp only; omega) _)


end Go.Proofs.Ytcenngekjopjpaa
