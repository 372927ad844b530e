/-
  Arguments of the law opened into data.
-/
import Derived.Test.YtnighnkkeiegnabAppendInts
import Derived.Test.YtnighnkkeiegnabRows
import Derived.Test.YtnighnkkeiegnabShpI
import Derived.ProofKit
import Derived.OpenShut
import Derived.ChangeSame
import Derived.Deep.Matrix
import Derived.Deep.Slices
namespace Go.Proofs.Ytnighnkkeiegnab
open Go Go.RowKit Go.ChangeShapes Go.WideShapes Go.ChangeAt
set_option linter.unusedVariables false

/-- cells that read as a thing of the shape -/
def Opens {α : Type} (s : Shp α) (t : TypeId) : Prop :=
  ∀ (H : Type) (enc : TypeId × Value → H) (W : World) (base fuel : Nat) (cs : List Value) (x : DataW H × List MemPlace), DataW.trod enc Try.prog W base (fun _ => true) true fuel t cs = some x → ∃ y, s.rd W cs y

theorem opens_slice {α : Type} [Inhabited α] {s : Shp α} {t e : TypeId} (hu : Try.prog.underlying t = some (.slice e)) (hn : Try.prog.cellsOf e = s.n) (h0 : 0 < s.n) (h : Opens s e) : Opens (shL s) t := by
  intro H enc W base fuel cs x ht
  rcases Go.Deep.open_slice hu ht with ⟨hcs, _⟩ | ⟨a, len, cap, m, n, D, Pl, hcs, _, hl, hm, hmm, _, hi⟩
  · exact ⟨[], _, hcs, none, 0, rfl, ⟨fun _ => rfl, Nat.le_refl _⟩, Nat.zero_le _, .inl rfl⟩
  · have hmm2 : m = cap := hmm
    subst hmm2
    unfold maxLen at hm
    obtain ⟨f, hf⟩ := Go.Deep.choose_lt (α := α) (n := len) (p := fun i y => ∃ cs', W.cells? base (a.add (i * Try.prog.cellsOf e)) (Try.prog.cellsOf e) = some cs' ∧ s.rd W cs' y) (fun i hi' => by
      obtain ⟨cs', h1, h2⟩ := hi i (by omega)
      obtain ⟨y, hy⟩ := h _ _ _ _ _ _ _ h2
      exact ⟨y, cs', h1, hy⟩)
    have hlen : ((List.range len).map f).length = len := by simp
    refine ⟨(List.range len).map f, _, hcs, some a, m, by rw [hlen], ⟨(fun q => by cases q), by rw [hlen]; exact hl⟩, by rw [hlen]; omega, ?_⟩
    rw [hlen]
    by_cases hz : len = 0
    · exact .inl hz
    · obtain ⟨b, off, spot⟩ := a
      have hspot : spot = none := by
        obtain ⟨cs', h1, _⟩ := hf 0 (by omega)
        obtain ⟨_, q2, q3⟩ := World.cells?_some h1
        rw [hn] at q2 q3
        have q4 := q3 0 h0
        rw [List.getElem?_eq_getElem (by omega)] at q4
        simpa [Addr.add] using World.cell?_spot q4
      subst hspot
      refine .inr ⟨b, off, rfl, fun k hk => ?_⟩
      obtain ⟨cs', h1, h2⟩ := hf k hk
      obtain ⟨_, q2, q3⟩ := World.cells?_some h1
      rw [hn] at q2 q3
      refine ⟨cs', fun j hj => ?_, ?_⟩
      · have := q3 j (by omega)
        rw [addr_add, addr_add, Nat.add_assoc] at this
        rw [Nat.add_assoc]
        exact this
      · rw [List.getD_eq_getElem?_getD, List.getElem?_map, List.getElem?_range hk]
        exact h2

set_option maxRecDepth 100000 in
theorem cellsOpInt : Try.prog.cellsOf 3 = 1 := by kernel_rfl

theorem opensInt : Opens shI 3 := by
  intro H enc W base fuel cs x ht
  obtain ⟨i, e, _, _⟩ := DataW.trod_int Try.underlying3 ht
  exact ⟨i, e⟩

set_option maxRecDepth 100000 in
theorem cellsOpIntS : Try.prog.cellsOf 23 = 1 := by kernel_rfl

theorem opensIntS : Opens (shL shI) 23 := opens_slice Try.underlying23 cellsOpInt (by decide) opensInt

set_option maxRecDepth 100000 in
theorem openIntS_d {H : Type} {enc : TypeId × Value → H} {W : World} {base : Nat} {v : Value} {d : DataW H} {ps : List MemPlace} (hw : Value.okWide Try.prog W .any base 23 v) (h : DataW.Trod enc Try.prog W 0 (fun _ => true) true 23 v d ps) :
    ∃ a n c, ∃ xs : List Int, v = .slice a n c ∧ RdL shI W (.slice a n c) xs := by
  obtain ⟨a0, len0, cap0, rfl⟩ := okWide_slice Try.underlying23 hw
  obtain ⟨fuel, hf⟩ := h
  obtain ⟨xs, v, e, r⟩ := opensIntS _ _ _ _ _ _ _ hf
  simp [Value.cells] at e
  subst e
  exact ⟨_, _, _, xs, rfl, r⟩

set_option maxRecDepth 100000 in
theorem cellsOpIntSS : Try.prog.cellsOf 25 = 1 := by kernel_rfl

theorem opensIntSS : Opens (shL (shL shI)) 25 := opens_slice Try.underlying25 cellsOpIntS (by decide) opensIntS

set_option maxRecDepth 100000 in
theorem openIntSS_d {H : Type} {enc : TypeId × Value → H} {W : World} {base : Nat} {v : Value} {d : DataW H} {ps : List MemPlace} (hw : Value.okWide Try.prog W .any base 25 v) (h : DataW.Trod enc Try.prog W 0 (fun _ => true) true 25 v d ps) :
    ∃ a n c, ∃ xs : List (List Int), v = .slice a n c ∧ RdL (shL shI) W (.slice a n c) xs := by
  obtain ⟨a0, len0, cap0, rfl⟩ := okWide_slice Try.underlying25 hw
  obtain ⟨fuel, hf⟩ := h
  obtain ⟨xs, v, e, r⟩ := opensIntSS _ _ _ _ _ _ _ hf
  simp [Value.cells] at e
  subst e
  exact ⟨_, _, _, xs, rfl, r⟩

end Go.Proofs.Ytnighnkkeiegnab
