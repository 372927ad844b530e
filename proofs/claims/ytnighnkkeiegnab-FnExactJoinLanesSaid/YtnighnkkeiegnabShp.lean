/-
  Shapes of data in memory: read, and owned (in blocks of an interval that nothing else changes).
-/
import Derived.Test.YtnighnkkeiegnabChg
import Derived.Deep.Slices
namespace Go.Proofs.Ytnighnkkeiegnab
open Go Go.RowKit

theorem chgC {w w' : World} {lo hi : Nat} (g : Chg w w' lo hi) {p : Addr} {v : Value} (h : w.cell? p = some v) (hb : p.block < lo ∨ hi ≤ p.block) : w'.cell? p = some v := by
  cases e : w.heap[p.block]? with
  | none => simp [World.cell?, e] at h
  | some o =>
    have := g.keep e hb
    simp only [World.cell?, e] at h
    simp only [World.cell?, this]
    exact h

/-- one thing in memory of the call's own -/
structure Own where
  p : World → Nat → Nat → Prop
  keep : ∀ {w w' : World} {lo hi lo' hi' : Nat}, p w lo hi → Chg w w' lo' hi' → (hi ≤ lo' ∨ hi' ≤ lo) → p w' lo hi

/-- several things, in intervals between lo and hi that have no common block, nor one with those of av -/
def OwU (w : World) (lo hi : Nat) : List (Nat × Nat) → List Own → Prop
  | _, [] => True
  | av, p :: r => ∃ a b, lo ≤ a ∧ b ≤ hi ∧ (∀ i ∈ av, b ≤ i.1 ∨ i.2 ≤ a) ∧ p.p w a b ∧ OwU w lo hi ((a, b) :: av) r

theorem OwU.keep {w w' : World} {lo' hi' lo hi : Nat} (g : Chg w w' lo' hi') (hd : hi ≤ lo' ∨ hi' ≤ lo) : ∀ {ps : List Own} {av : List (Nat × Nat)}, OwU w lo hi av ps → OwU w' lo hi av ps
  | [], _, _ => trivial
  | p :: _, _, ⟨a, b, h1, h2, h3, h4, h5⟩ => ⟨a, b, h1, h2, h3, p.keep h4 g (by omega), OwU.keep g hd h5⟩
theorem OwU.grow {w w' : World} {lo hi : Nat} {ps : List Own} {av : List (Nat × Nat)} (h : OwU w lo hi av ps) (g : w.grownBy w' none) : OwU w' lo hi av ps := h.keep (chg_gby g hi hi) (.inl (Nat.le_refl _))
theorem OwU.wide {w : World} {lo' hi' lo hi : Nat} (h1 : lo' ≤ lo) (h2 : hi ≤ hi') : ∀ {ps : List Own} {av : List (Nat × Nat)}, OwU w lo hi av ps → OwU w lo' hi' av ps
  | [], _, _ => trivial
  | _ :: _, _, ⟨a, b, q1, q2, q3, q4, q5⟩ => ⟨a, b, by omega, by omega, q3, q4, OwU.wide h1 h2 q5⟩
theorem OwU.fewer {w : World} {lo hi : Nat} : ∀ {ps : List Own} {av av' : List (Nat × Nat)}, OwU w lo hi av ps → (∀ i ∈ av', i ∈ av) → OwU w lo hi av' ps
  | [], _, _, _, _ => trivial
  | _ :: _, _, _, ⟨a, b, q1, q2, q3, q4, q5⟩, h => ⟨a, b, q1, q2, fun i hi => q3 i (h i hi), q4, OwU.fewer q5 (fun i hi => by
      rcases List.mem_cons.1 hi with rfl | hi
      · exact List.mem_cons_self
      · exact List.mem_cons_of_mem _ (h i hi))⟩
theorem OwU.more {w : World} {lo hi : Nat} : ∀ {ps : List Own} {av av' : List (Nat × Nat)}, OwU w lo hi av ps → (∀ i ∈ av', i ∈ av ∨ hi ≤ i.1 ∨ i.2 ≤ lo) → OwU w lo hi av' ps
  | [], _, _, _, _ => trivial
  | _ :: _, _, _, ⟨a, b, q1, q2, q3, q4, q5⟩, h => ⟨a, b, q1, q2, (fun i hi => (by
      rcases h i hi with h | h
      · exact q3 i h
      · omega)), q4, OwU.more q5 (fun i hi => by
      rcases List.mem_cons.1 hi with rfl | hi
      · exact .inl List.mem_cons_self
      · rcases h i hi with h | h
        · exact .inl (List.mem_cons_of_mem _ h)
        · exact .inr h)⟩
theorem OwU.app {w : World} {lo m hi : Nat} (h1 : lo ≤ m) (h2 : m ≤ hi) : ∀ {ps qs : List Own} {av : List (Nat × Nat)}, OwU w lo m av ps → OwU w m hi av qs → OwU w lo hi av (ps ++ qs)
  | [], _, _, _, hq => OwU.wide h1 (Nat.le_refl _) hq
  | _ :: _, _, _, ⟨a, b, q1, q2, q3, q4, q5⟩, hq => ⟨a, b, q1, by omega, q3, q4, OwU.app h1 h2 q5 (hq.more fun i hi => by
      rcases List.mem_cons.1 hi with rfl | hi
      · exact .inr (.inr q2)
      · exact .inl hi)⟩
theorem OwU.perm {w : World} {lo hi : Nat} {ps qs : List Own} (hp : ps.Perm qs) : ∀ {av : List (Nat × Nat)}, OwU w lo hi av ps → OwU w lo hi av qs := by
  induction hp with
  | nil => exact fun h => h
  | cons x _ ih =>
    rintro av ⟨a, b, q1, q2, q3, q4, q5⟩
    exact ⟨a, b, q1, q2, q3, q4, ih q5⟩
  | swap x y l =>
    rintro av ⟨a, b, q1, q2, q3, q4, c, d, r1, r2, r3, r4, r5⟩
    refine ⟨c, d, r1, r2, fun i hi => r3 i (List.mem_cons_of_mem _ hi), r4, a, b, q1, q2, fun i hi => ?_, q4, r5.fewer fun i hi => ?_⟩
    · rcases List.mem_cons.1 hi with rfl | hi
      · have := r3 _ List.mem_cons_self
        dsimp only at this ⊢; omega
      · exact q3 i hi
    · rcases List.mem_cons.1 hi with rfl | hi
      · exact List.mem_cons_of_mem _ List.mem_cons_self
      · rcases List.mem_cons.1 hi with rfl | hi
        · exact List.mem_cons_self
        · exact List.mem_cons_of_mem _ (List.mem_cons_of_mem _ hi)
  | trans _ _ ih1 ih2 => exact fun h => ih2 (ih1 h)
theorem OwU.one {w : World} {lo hi : Nat} {p : Own} (h : p.p w lo hi) : OwU w lo hi [] [p] := ⟨lo, hi, Nat.le_refl _, Nat.le_refl _, (fun i hi => (by cases hi)), h, trivial⟩
theorem OwU.none {w : World} {lo hi : Nat} : OwU w lo hi [] [] := trivial
theorem OwU.two {w : World} {lo a b hi : Nat} {p q : Own} (h1 : p.p w lo a) (h2 : q.p w b hi) (hab : a ≤ b) (hla : lo ≤ b) (hbh : a ≤ hi) : OwU w lo hi [] [p, q] :=
  ⟨lo, a, Nat.le_refl _, hbh, (fun i hi => (by cases hi)), h1, b, hi, hla, Nat.le_refl _, (fun i hi => (by
    obtain rfl := List.mem_singleton.1 hi
    exact .inr hab)), h2, trivial⟩

/-- one of them, its interval, and what becomes of all when it changes -/
theorem OwU.focus {w : World} {lo hi : Nat} {p : Own} {post : List Own} : ∀ {pre : List Own} {av : List (Nat × Nat)}, OwU w lo hi av (pre ++ p :: post) →
    ∃ a b, lo ≤ a ∧ b ≤ hi ∧ (∀ i ∈ av, b ≤ i.1 ∨ i.2 ≤ a) ∧ p.p w a b ∧ ∀ (w' : World) (p' : Own), Chg w w' a b → p'.p w' a b → OwU w' lo hi av (pre ++ p' :: post)
  | [], av, ⟨a, b, q1, q2, q3, q4, q5⟩ => by
    refine ⟨a, b, q1, q2, q3, q4, fun w' p' g h => ⟨a, b, q1, q2, q3, h, ?_⟩⟩
    have key : ∀ {ps : List Own} {av : List (Nat × Nat)}, (a, b) ∈ av → OwU w lo hi av ps → OwU w' lo hi av ps := by
      intro ps
      induction ps with
      | nil => exact fun _ _ => trivial
      | cons p ps ih =>
        rintro av hm ⟨c, d, r1, r2, r3, r4, r5⟩
        have := r3 _ hm
        exact ⟨c, d, r1, r2, r3, p.keep r4 g (by dsimp only at this; omega), ih (List.mem_cons_of_mem _ hm) r5⟩
    exact key List.mem_cons_self q5
  | q :: pre, av, ⟨c, d, r1, r2, r3, r4, r5⟩ => by
    obtain ⟨a, b, q1, q2, q3, q4, q5⟩ := OwU.focus (pre := pre) r5
    refine ⟨a, b, q1, q2, fun i hi => q3 i (List.mem_cons_of_mem _ hi), q4, fun w' p' g h => ⟨c, d, r1, r2, r3, ?_, q5 w' p' g h⟩⟩
    have := q3 _ List.mem_cons_self
    exact q.keep r4 g (by dsimp only at this; omega)

theorem OwU.head {w : World} {lo hi : Nat} {p : Own} {r : List Own} {av : List (Nat × Nat)} (h : OwU w lo hi av (p :: r)) : ∃ a b, p.p w a b := by
  obtain ⟨a, b, _, _, _, h, _⟩ := h
  exact ⟨a, b, h⟩
theorem OwU.tail {w : World} {lo hi : Nat} {p : Own} {r : List Own} (h : OwU w lo hi [] (p :: r)) : OwU w lo hi [] r := by
  obtain ⟨a, b, _, _, _, _, h⟩ := h
  exact h.fewer (fun i hi => by cases hi)

/-- the cells cs lie in a row from b, off on -/
def At (w : World) (b off : Nat) (cs : List Value) : Prop := ∀ j, j < cs.length → w.cell? ⟨b, off + j, none⟩ = cs[j]?
theorem At.grow {w w' : World} {b off : Nat} {cs : List Value} (h : At w b off cs) (g : w.grownBy w' none) : At w' b off cs := by
  intro j hj
  have := h j hj
  rw [List.getElem?_eq_getElem hj] at this ⊢
  exact g.cell this (by simp)
theorem at_one {w : World} {b off : Nat} {c : Value} (h : At w b off [c]) : w.cell? ⟨b, off, none⟩ = some c := h 0 (by simp)

/-- how a thing lies in cells -/
structure Shp (α : Type) where
  n : Nat
  rd : World → List Value → α → Prop
  ow : World → Nat → Nat → List Value → α → Prop
  size : α → Nat
  ec : α → Nat
  em : Nat → α → α
  c : Nat
  len : ∀ {w : World} {cs : List Value} {x : α}, rd w cs x → cs.length = n
  grow : ∀ {w w' : World} {cs : List Value} {x : α}, rd w cs x → w.grownBy w' none → rd w' cs x
  keep : ∀ {w w' : World} {lo hi lo' hi' : Nat} {cs : List Value} {x : α}, ow w lo hi cs x → Chg w w' lo' hi' → (hi ≤ lo' ∨ hi' ≤ lo) → ow w' lo hi cs x
  read : ∀ {w : World} {lo hi : Nat} {cs : List Value} {x : α}, ow w lo hi cs x → rd w cs x
  ecb : ∀ x : α, ec x ≤ c * (1 + size x)

/-- a slice of such things, read -/
def RdL {α : Type} [Inhabited α] (s : Shp α) (w : World) (v : Value) (xs : List α) : Prop :=
  ∃ a cap, v = .slice a xs.length cap ∧ CapOk a xs.length cap ∧ xs.length ≤ 9223372036854775807 ∧ (xs.length = 0 ∨ ∃ b off, a = some ⟨b, off, none⟩ ∧ ∀ k, k < xs.length → ∃ cs, At w b (off + k * s.n) cs ∧ s.rd w cs (xs.getD k default))
/-- .. owned -/
def OwL {α : Type} [Inhabited α] (s : Shp α) (w : World) (lo hi : Nat) (v : Value) (xs : List α) : Prop :=
  ∃ a cap, v = .slice a xs.length cap ∧ CapOk a xs.length cap ∧ xs.length ≤ 9223372036854775807 ∧ (∀ p, a = some p → lo ≤ p.block ∧ p.block < hi) ∧ (xs.length = 0 ∨ ∃ (b off : Nat) (P Q : Nat → Nat) (C : Array Value) (t : TypeId), a = some ⟨b, off, none⟩ ∧ w.heap[b]? = some (.cells C t (0, 0)) ∧
    (∀ k, k < xs.length → lo ≤ P k ∧ Q k ≤ hi ∧ (b < P k ∨ Q k ≤ b) ∧ ∃ cs, (∀ j, j < cs.length → C[off + k * s.n + j]? = cs[j]?) ∧ s.ow w (P k) (Q k) cs (xs.getD k default)) ∧
    ∀ j k, j < k → k < xs.length → Q j ≤ P k ∨ Q k ≤ P j)

section
variable {α : Type} [Inhabited α] {s : Shp α}

theorem RdL.grow {w w' : World} {v : Value} {xs : List α} (h : RdL s w v xs) (g : w.grownBy w' none) : RdL s w' v xs := by
  obtain ⟨a, cap, rfl, hc, hm, h⟩ := h
  refine ⟨a, cap, rfl, hc, hm, ?_⟩
  rcases h with h0 | ⟨b, off, ha, h⟩
  · exact .inl h0
  · refine .inr ⟨b, off, ha, fun k hk => ?_⟩
    obtain ⟨cs, h1, h2⟩ := h k hk
    exact ⟨cs, h1.grow g, s.grow h2 g⟩
theorem OwL.keep {w w' : World} {lo hi lo' hi' : Nat} {v : Value} {xs : List α} (h : OwL s w lo hi v xs) (g : Chg w w' lo' hi') (hd : hi ≤ lo' ∨ hi' ≤ lo) : OwL s w' lo hi v xs := by
  obtain ⟨a, cap, rfl, hc, hm, hp, h⟩ := h
  refine ⟨a, cap, rfl, hc, hm, hp, ?_⟩
  rcases h with h0 | ⟨b, off, P, Q, C, t, ha, h3, h4, h5⟩
  · exact .inl h0
  · have hpb := hp _ ha
    refine .inr ⟨b, off, P, Q, C, t, ha, g.keep h3 (by dsimp only at hpb; omega), fun k hk => ?_, h5⟩
    obtain ⟨q1, q2, q3, cs, q4, q5⟩ := h4 k hk
    exact ⟨q1, q2, q3, cs, q4, s.keep q5 g (by omega)⟩
theorem OwL.grow {w w' : World} {lo hi : Nat} {v : Value} {xs : List α} (h : OwL s w lo hi v xs) (g : w.grownBy w' none) : OwL s w' lo hi v xs := h.keep (chg_gby g hi hi) (.inl (Nat.le_refl _))
theorem OwL.wide {w : World} {lo hi lo' hi' : Nat} {v : Value} {xs : List α} (h : OwL s w lo hi v xs) (h1 : lo' ≤ lo) (h2 : hi ≤ hi') : OwL s w lo' hi' v xs := by
  obtain ⟨a, cap, rfl, hc, hm, hp, h⟩ := h
  refine ⟨a, cap, rfl, hc, hm, fun p e => ⟨Nat.le_trans h1 (hp p e).1, Nat.lt_of_lt_of_le (hp p e).2 h2⟩, ?_⟩
  rcases h with h0 | ⟨b, off, P, Q, C, t, ha, h5, h6, h7⟩
  · exact .inl h0
  · refine .inr ⟨b, off, P, Q, C, t, ha, h5, fun k hk => ?_, h7⟩
    obtain ⟨q1, q2, q3, q4⟩ := h6 k hk
    exact ⟨by omega, by omega, q3, q4⟩
theorem OwL.rd {w : World} {lo hi : Nat} {v : Value} {xs : List α} (h : OwL s w lo hi v xs) : RdL s w v xs := by
  obtain ⟨a, cap, rfl, hc, hm, _, h⟩ := h
  refine ⟨a, cap, rfl, hc, hm, ?_⟩
  rcases h with h0 | ⟨b, off, P, Q, C, t, ha, h3, h4, h5⟩
  · exact .inl h0
  · refine .inr ⟨b, off, ha, fun k hk => ?_⟩
    obtain ⟨q1, q2, q3, cs, q4, q5⟩ := h4 k hk
    refine ⟨cs, fun j hj => ?_, s.read q5⟩
    have hq := q4 j hj
    rw [List.getElem?_eq_getElem hj] at hq ⊢
    rw [← hq]
    exact cell_of_row w b _ C t _ h3

theorem RdL.max {w : World} {v : Value} {xs : List α} (h : RdL s w v xs) : xs.length ≤ 9223372036854775807 := by
  obtain ⟨_, _, _, _, h, _⟩ := h
  exact h
theorem RdL.form {w : World} {v : Value} {xs : List α} (h : RdL s w v xs) : ∃ p n c, v = .slice p n c := by
  obtain ⟨a, cap, rfl, _⟩ := h
  exact ⟨_, _, _, rfl⟩
/-- .. as a thing among others -/
def own (s : Shp α) (v : Value) (xs : List α) : Own := ⟨fun w lo hi => OwL s w lo hi v xs, fun h g hd => OwL.keep h g hd⟩
theorem OwU.rd {w : World} {lo hi : Nat} {v : Value} {xs : List α} {r : List Own} {av : List (Nat × Nat)} (h : OwU w lo hi av (own s v xs :: r)) : RdL s w v xs := by
  obtain ⟨_, _, h⟩ := h.head
  exact OwL.rd h

end

section
variable {α : Type}

/-- the lengths that are measured; the marks that are set -/
def szL (s : Shp α) (xs : List α) : Nat := xs.length + (xs.map s.size).sum
def ecL (s : Shp α) (xs : List α) : Nat := (xs.map s.ec).sum
def emL (s : Shp α) : Nat → List α → List α
  | _, [] => []
  | m, x :: xs => s.em m x :: emL s (m + s.ec x) xs

theorem emL_length (s : Shp α) : ∀ (m : Nat) (xs : List α), (emL s m xs).length = xs.length
  | _, [] => rfl
  | m, x :: xs => by simp [emL, emL_length s (m + s.ec x) xs]
theorem sum_take_le (f : α → Nat) : ∀ (xs : List α) (k : Nat), ((xs.take k).map f).sum ≤ (xs.map f).sum
  | [], k => by simp
  | x :: xs, 0 => by simp
  | x :: xs, k + 1 => by have := sum_take_le f xs k; simp only [List.take_succ_cons, List.map_cons, List.sum_cons]; omega
theorem szL_len (s : Shp α) (xs : List α) : xs.length ≤ szL s xs := Nat.le_add_right _ _
theorem ecL_le (s : Shp α) : ∀ xs : List α, ecL s xs ≤ s.c * szL s xs
  | [] => by simp [ecL]
  | x :: xs => by
    have h1 := ecL_le s xs
    have h2 := s.ecb x
    have e : szL s (x :: xs) = (1 + s.size x) + szL s xs := by simp [szL]; omega
    have e2 : ecL s (x :: xs) = s.ec x + ecL s xs := by simp [ecL]
    rw [e, e2, Nat.mul_add]; omega
theorem ecL_take_le (s : Shp α) (xs : List α) (k : Nat) : ecL s (xs.take k) ≤ ecL s xs := sum_take_le s.ec xs k

end

section
variable {α : Type} [Inhabited α]

theorem emL_getD (s : Shp α) : ∀ (m : Nat) (xs : List α) (k : Nat), k < xs.length → (emL s m xs).getD k default = s.em (m + ecL s (xs.take k)) (xs.getD k default)
  | _, [], k, h => absurd h (Nat.not_lt_zero _)
  | m, x :: xs, 0, _ => by simp [emL, ecL]
  | m, x :: xs, k + 1, h => by
    have := emL_getD s (m + s.ec x) xs k (by simpa using h)
    simp only [emL, List.getD_cons_succ, List.take_succ_cons, this]
    congr 1
    simp [ecL]; omega
theorem szL_take_succ (s : Shp α) (xs : List α) (k : Nat) (hk : k < xs.length) : szL s (xs.take (k + 1)) = szL s (xs.take k) + 1 + s.size (xs.getD k default) := by
  rw [List.take_succ_eq_append_getElem hk, List.getD_eq_getElem?_getD, List.getElem?_eq_getElem hk]
  simp only [szL, List.length_append, List.map_append, List.sum_append_nat, List.map_cons, List.map_nil, List.sum_cons, List.sum_nil, List.length_cons, List.length_nil, Option.getD_some]; omega
theorem ecL_take_succ (s : Shp α) (xs : List α) (k : Nat) (hk : k < xs.length) : ecL s (xs.take (k + 1)) = ecL s (xs.take k) + s.ec (xs.getD k default) := by
  rw [List.take_succ_eq_append_getElem hk, List.getD_eq_getElem?_getD, List.getElem?_eq_getElem hk]
  simp only [ecL, List.map_append, List.sum_append_nat, List.map_cons, List.map_nil, List.sum_cons, List.sum_nil, Option.getD_some]; omega
theorem sum_at_le (f : α → Nat) : ∀ (xs : List α) (k : Nat), k < xs.length → f (xs.getD k default) ≤ (xs.map f).sum
  | [], k, h => absurd h (Nat.not_lt_zero _)
  | x :: xs, 0, _ => by simp
  | x :: xs, k + 1, h => by have := sum_at_le f xs k (by simpa using h); simp at this ⊢; omega
theorem szL_at (s : Shp α) (xs : List α) (k : Nat) (hk : k < xs.length) : s.size (xs.getD k default) ≤ szL s xs := Nat.le_trans (sum_at_le s.size xs k hk) (Nat.le_add_left _ _)

end

/-- numbers -/
def shI : Shp Int := ⟨1, fun _ cs x => cs = [.int .i64 x], fun _ _ _ cs x => cs = [.int .i64 x], fun _ => 0, fun _ => 1, fun m _ => (m : Int), 1, fun h => by rw [h]; rfl, fun h _ => h, fun h _ _ => h, fun h => h, fun _ => by simp⟩
/-- truth values -/
def shB : Shp Bool := ⟨1, fun _ cs x => cs = [.bool x], fun _ _ _ cs x => cs = [.bool x], fun _ => 0, fun _ => 1, fun m _ => m % 3 == 0, 1, fun h => by rw [h]; rfl, fun h _ => h, fun h _ _ => h, fun h => h, fun _ => by simp⟩
/-- slices -/
def shL {α : Type} [Inhabited α] (s : Shp α) : Shp (List α) where
  n := 1
  rd w cs xs := ∃ v, cs = [v] ∧ RdL s w v xs
  ow w lo hi cs xs := ∃ v, cs = [v] ∧ OwL s w lo hi v xs
  size := szL s
  ec := ecL s
  em := emL s
  c := s.c
  len := by rintro _ _ _ ⟨v, rfl, _⟩; rfl
  grow := by rintro _ _ _ _ ⟨v, rfl, h⟩ g; exact ⟨v, rfl, h.grow g⟩
  keep := by rintro _ _ _ _ _ _ _ _ ⟨v, rfl, h⟩ g hd; exact ⟨v, rfl, h.keep g hd⟩
  read := by rintro _ _ _ _ _ ⟨v, rfl, h⟩; exact ⟨v, rfl, h.rd⟩
  ecb := fun x => Nat.le_trans (ecL_le s x) (Nat.mul_le_mul_left _ (by omega))

end Go.Proofs.Ytnighnkkeiegnab
