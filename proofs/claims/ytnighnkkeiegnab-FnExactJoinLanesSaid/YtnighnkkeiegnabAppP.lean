/-
  The append of a slice of things that own no memory, whatever they are.
-/
import Derived.Test.YtnighnkkeiegnabPlainRow
import Derived.Test.YtnighnkkeiegnabStepApp
import Derived.Deep.AppendLies
import Derived.Laws.AppendOwnNone
namespace Go.Proofs.Ytnighnkkeiegnab
open Go Go.RowKit
set_option linter.unusedVariables false

/-- things that own no memory, with their cells -/
structure Plain {α : Type} (s : Shp α) (c : α → List Value) : Prop where
  len : ∀ x, (c x).length = s.n
  pos : 0 < s.n
  rd : ∀ {w : World} {cs : List Value} {x : α}, s.rd w cs x → cs = c x
  back : ∀ (w : World) (x : α), s.rd w (c x) x
  ow : ∀ (w : World) (lo hi : Nat) (x : α), s.ow w lo hi (c x) x
  one : ∀ x, ∀ u ∈ c x, u.oneCell' = true
/-- a slice's type -/
structure SlT (T e : TypeId) (n : Nat) : Prop where
  ex : ∃ i z b, Try.prog.underlying T = some (.slice e) ∧ Try.prog.info? e = some i ∧ i.zero = some z ∧ i.size = n ∧ i.bytes = b ∧ z.cells.size = n ∧ b ≤ 1000

theorem plainI : Plain shI (fun x => [.int .i64 x]) := ⟨fun _ => rfl, by decide, fun h => h, fun _ _ => rfl, fun _ _ _ _ => rfl, fun x u hu => by simp only [List.mem_singleton] at hu; subst hu; rfl⟩
theorem plainB : Plain shB (fun x => [.bool x]) := ⟨fun _ => rfl, by decide, fun h => h, fun _ _ => rfl, fun _ _ _ _ => rfl, fun x u hu => by simp only [List.mem_singleton] at hu; subst hu; rfl⟩
theorem slT_of {T e : TypeId} {z : Value} {n b : Nat} (hu : Try.prog.underlying T = some (.slice e)) (h : (Try.prog.info? e).map (fun i => (i.zero, i.size, i.bytes)) = some (some z, n, b)) (hz : z.cells.size = n) (hb : b ≤ 1000) : SlT T e n := by
  obtain ⟨i0, h1, h2, h3, h4⟩ := info_parts h
  exact ⟨i0, z, b, hu, h1, h2, h3, h4, hz, hb⟩

theorem own_emptyP {w : World} {B base : Nat} {e : TypeId} {n : Nat} (h : w.heap[B]? = some (.cells #[] e (0, 0))) (hb : base ≤ B) : w.ownsRow base e n (.slice (some ⟨B, 0, none⟩) 0 0) 0 [] :=
  ⟨by simp, .inr ⟨B, 0, #[], rfl, hb, h, Nat.le_refl _, by unfold maxLen; omega, by simp, by simp⟩⟩

section
variable {α : Type} [Inhabited α] {s : Shp α} {c : α → List Value}

omit [Inhabited α] in
theorem flat_one (pl : Plain s c) (xs : List α) : ∀ u ∈ xs.flatMap c, u.oneCell' = true := by
  intro u hu
  obtain ⟨x, _, h⟩ := List.mem_flatMap.1 hu
  exact pl.one x u h
/-- the cells of what is read -/
theorem rdP_cells (pl : Plain s c) {w : World} {a2 : Option Addr} {m cap : Nat} {xs : List α} (H : RdL s w (.slice a2 m cap) xs) : m = xs.length ∧ (a2 = none → cap = 0) ∧ (m = 0 ∨ ∃ b off, a2 = some ⟨b, off, none⟩ ∧ ∀ j u, (xs.flatMap c)[j]? = some u → w.cell? ⟨b, off + j, none⟩ = some u) := by
  obtain ⟨a, cap', hv, hc, _, h⟩ := H
  injection hv with h1 h2 h3
  subst h1 h2 h3
  refine ⟨rfl, hc.1, ?_⟩
  rcases h with h0 | ⟨b, off, ha, h⟩
  · exact .inl h0
  · refine .inr ⟨b, off, ha, fun j u hu => ?_⟩
    have hj : j < xs.length * s.n := by
      rw [← flat_len c s.n pl.len xs]
      exact (List.getElem?_eq_some_iff.1 hu).1
    have hp := pl.pos
    have hk : j / s.n < xs.length := (Nat.div_lt_iff_lt_mul hp).2 hj
    have hr : j % s.n < s.n := Nat.mod_lt _ hp
    have he : j / s.n * s.n + j % s.n = j := by rw [Nat.mul_comm]; exact Nat.div_add_mod j s.n
    obtain ⟨cs, q1, q2⟩ := h (j / s.n) hk
    obtain rfl := pl.rd q2
    have q3 := q1 (j % s.n) (by rw [pl.len]; exact hr)
    rw [Nat.add_assoc, he] at q3
    rw [q3, ← flat_at c s.n pl.len xs _ _ hk hr, he]
    exact hu

theorem run_append_plain (pl : Plain s c) {T e : TypeId} (hT : SlT T e s.n) (w : World) (ty : TypeId) (base : Nat) (v : Value) (n : Nat) (ys : List Value) (hown : w.ownsRow base e s.n v n ys)
    (a2 : Option Addr) (m cap : Nat) (xs : List α) (H : RdL s w (.slice a2 m cap) xs) (hb : n + m ≤ 100000000) (hbase : base ≤ w.heap.size) :
    ∃ v' w', (Builtin.append_ #[T, T] ty #[v, .slice a2 m cap]).run Try.prog w = .ok v' w' ∧ w'.ownsRow base e s.n v' (n + m) (ys ++ xs.flatMap c) ∧ w.grownBy w' v.ownBlock ∧ (v'.ownBlock = v.ownBlock ∨ v'.ownBlock = some w.heap.size) := by
  obtain ⟨i0, z, b, hu, hi0, hz0, hz1, hz2, hz3, hb2⟩ := hT.ex
  obtain ⟨hm, hnone, H2⟩ := rdP_cells pl H
  have hbytes : (n + m) * b ≤ 140737488355328 := Nat.le_trans (Nat.mul_le_mul hb hb2) (by decide)
  rcases H2 with h0 | ⟨b', off, ha, hc⟩
  · subst h0
    have ex : xs = [] := List.eq_nil_of_length_eq_zero hm.symm
    subst ex
    cases a2 with
    | none =>
      obtain rfl := hnone rfl
      exact ⟨v, w, run_append_owned_none (P := Try.prog) (w := w) base T ty e i0 s.n hu hi0 v n ys hown, by rw [List.flatMap_nil, List.append_nil]; exact hown, gby_refl _ _, .inl rfl⟩
    | some p =>
      obtain ⟨v', w', hr, h2, h3, _, h5⟩ := run_append_own_at (P := Try.prog) w base T ty e i0 z s.n b hu hi0 hz0 hz1 hz2 hz3 pl.pos v n ys hown p 0 cap [] (by simp) (fun j u hu => by simp at hu) (fun u hu => by simp at hu) (by unfold maxLen; omega) (by simpa using hbytes) hbase
      exact ⟨v', w', hr, h2, h3, h5⟩
  · subst ha
    obtain ⟨v', w', hr, h2, h3, _, h5⟩ := run_append_own_at (P := Try.prog) w base T ty e i0 z s.n b hu hi0 hz0 hz1 hz2 hz3 pl.pos v n ys hown ⟨b', off, none⟩ m cap (xs.flatMap c) (by rw [flat_len c s.n pl.len, hm])
      (fun j u hu => by rw [addr_add]; exact hc j u hu) (flat_one pl xs) (by unfold maxLen; omega) hbytes hbase
    exact ⟨v', w', hr, h2, h3, h5⟩

theorem wpList_append_plain (pl : Plain s c) {T e : TypeId} (hT : SlT T e s.n) {ops : Array Oper} {rest : List Oper} {o : Oper} {ac : Act} {Q : Exit → Act → World → Prop} (w : World) (hgd : o.guard = none) (l x : Operand)
    (ho : o.op = .call { callee := .builtin .append, args := #[l, x], argTypes := #[T, T] })
    (base : Nat) (v : Value) (n : Nat) (ys : List Value) (hs : ac.eval l = v) (hown : w.ownsRow base e s.n v n ys)
    (a2 : Option Addr) (m cap : Nat) (xs : List α) (hx : ac.eval x = .slice a2 m cap) (H : RdL s w (.slice a2 m cap) xs) (hb : n + m ≤ 100000000) (hbase : base ≤ w.heap.size)
    (h : ∀ v' w', w'.ownsRow base e s.n v' (n + m) (ys ++ xs.flatMap c) → w.grownBy w' v.ownBlock → wpList Try.prog ops Q rest (ac.put o.dst v') w') : wpList Try.prog ops Q (o :: rest) ac w := by
  refine wpList_plain hgd fun K hK => ?_
  obtain ⟨v', w', hr, h2, h3, _⟩ := run_append_plain pl hT w o.type base v n ys hown a2 m cap xs H hb hbase
  unfold Oper.wp
  simp [execOp, ho, resolve, invoke, builtin, hs, hx, hr, Result.andThen]
  exact hK _ _ (h v' w' h2 h3)

/-- append([]T{}, xs..) at a step of a drawn region: what came lies in one block, the empty one or a new one -/
theorem step_clone_plain (pl : Plain s c) {T e : TypeId} (hT : SlT T e s.n) {ops : Array Oper} {o : Oper} {ac : Act} {K : Act → World → Prop} {Q : Exit → Act → World → Prop} {E : Prop} (w : World) (hgd : o.guard = none) (l x : Operand)
    (ho : o.op = .call { callee := .builtin .append, args := #[l, x], argTypes := #[T, T] })
    (B : Nat) (hs : ac.eval l = .slice (some ⟨B, 0, none⟩) 0 0) (hB : w.heap[B]? = some (.cells #[] e (0, 0)))
    (a2 : Option Addr) (m cap : Nat) (xs : List α) (hx : ac.eval x = .slice a2 m cap) (H : RdL s w (.slice a2 m cap) xs) (hb : m ≤ 100000000)
    (h : ∀ g cap' w', OwL s w' g (g + 1) (.slice (some ⟨g, 0, none⟩) m cap') xs → w.grownBy w' (some B) → (g = B ∨ g = w.heap.size) → g < w'.heap.size → K (ac.put o.dst (.slice (some ⟨g, 0, none⟩) m cap')) w') :
    if Region.wanted o (yielded ops ac.tmps) = true then Oper.wp Try.prog o ac w K Q else E := by
  have hw : Region.wanted o (yielded ops ac.tmps) = true := by simp [Region.wanted, hgd]
  rw [if_pos hw]
  have hBs : B < w.heap.size := (Array.getElem?_eq_some_iff.1 hB).1
  have hown : w.ownsRow B e s.n (.slice (some ⟨B, 0, none⟩) 0 0) 0 [] := ⟨by simp, .inr ⟨B, 0, #[], rfl, Nat.le_refl _, hB, Nat.le_refl _, by unfold maxLen; omega, by simp, by simp⟩⟩
  obtain ⟨hm, _, _⟩ := rdP_cells pl H
  obtain ⟨v', w', hr, h2, h3, h5⟩ := run_append_plain pl hT w o.type B _ 0 [] hown a2 m cap xs H (by omega) (by omega)
  rcases h2.2 with ⟨rfl, _⟩ | ⟨g, cap', cur, rfl, q1, q2, q3, q4, q5, q6⟩
  · simp [Value.ownBlock] at h5
  · simp only [Value.ownBlock, Option.some.injEq] at h5
    rw [Nat.zero_add] at hr h2 q3
    unfold Oper.wp
    simp [execOp, ho, resolve, invoke, builtin, hs, hx, hr, Result.andThen]
    refine h g cap' w' ?_ h3 h5 (Array.getElem?_eq_some_iff.1 q2).1
    have hrow : w'.ownsRow g e s.n (.slice (some ⟨g, 0, none⟩) xs.length cap') xs.length (xs.flatMap c) := ⟨by rw [flat_len c s.n pl.len], .inr ⟨g, cap', cur, rfl, Nat.le_refl _, q2, by omega, q4, q5, by simpa [hm] using q6⟩⟩
    obtain ⟨a', cap2, hv, o1, o2, o3, o4⟩ := owP_row c pl.len pl.ow H.max hrow
    rw [hm]
    refine ⟨a', cap2, hv, o1, o2, fun p hp => ?_, ?_⟩
    · injection hv with e1 e2 e3
      rw [← e1] at hp
      cases hp
      exact ⟨Nat.le_refl _, Nat.lt_succ_self _⟩
    · rcases o4 with o4 | ⟨b, off, P, Q', C, t, ha, k1, k2, k3⟩
      · exact .inl o4
      · injection hv with e1 e2 e3
        rw [ha] at e1
        injection e1 with e1
        injection e1 with e4 e5
        subst e4 e5
        exact .inr ⟨g, 0, fun _ => g, fun _ => g, C, t, ha, k1, fun k hk => by
          obtain ⟨_, _, _, cs, r1, r2⟩ := k2 k hk
          have r3 := pl.rd (s.read r2)
          subst r3
          exact ⟨Nat.le_refl _, Nat.le_succ _, .inr (Nat.le_refl _), _, r1, pl.ow _ _ _ _⟩, fun j k _ _ => .inl (Nat.le_refl _)⟩

end

end Go.Proofs.Ytnighnkkeiegnab
