/-
  Arguments of the law opened into data.
-/
import Derived.Test.YtnighnkkeiegnabAppendInts
import Derived.Test.YtnighnkkeiegnabDBar
import Derived.Test.YtnighnkkeiegnabDNode
import Derived.Test.YtnighnkkeiegnabQBar
import Derived.Test.YtnighnkkeiegnabQFabric
import Derived.Test.YtnighnkkeiegnabQGuard
import Derived.Test.YtnighnkkeiegnabQNode
import Derived.Test.YtnighnkkeiegnabRows
import Derived.Test.YtnighnkkeiegnabShpI
import Derived.ProofKit
import Derived.OpenShut
import Derived.ChangeSame
import Derived.Deep.Matrix
import Derived.Deep.Slices
namespace Go.Proofs.Ytnighnkkeiegnab
open Go Go.RowKit Go.ChangeShapes Go.WideShapes Go.ChangeAt
set_option linter.unusedVariables false

/-- cells that read as a thing of the shape -/
def Opens {α : Type} (s : Shp α) (t : TypeId) : Prop :=
  ∀ (H : Type) (enc : TypeId × Value → H) (W : World) (base fuel : Nat) (cs : List Value) (x : DataW H × List MemPlace), DataW.trod enc Try.prog W base (fun _ => true) true fuel t cs = some x → ∃ y, s.rd W cs y

theorem opens_slice {α : Type} [Inhabited α] {s : Shp α} {t e : TypeId} (hu : Try.prog.underlying t = some (.slice e)) (hn : Try.prog.cellsOf e = s.n) (h0 : 0 < s.n) (h : Opens s e) : Opens (shL s) t := by
  intro H enc W base fuel cs x ht
  rcases Go.Deep.open_slice hu ht with ⟨hcs, _⟩ | ⟨a, len, cap, m, n, D, Pl, hcs, _, hl, hm, hmm, _, hi⟩
  · exact ⟨[], _, hcs, none, 0, rfl, ⟨fun _ => rfl, Nat.le_refl _⟩, Nat.zero_le _, .inl rfl⟩
  · have hmm2 : m = cap := hmm
    subst hmm2
    unfold maxLen at hm
    obtain ⟨f, hf⟩ := Go.Deep.choose_lt (α := α) (n := len) (p := fun i y => ∃ cs', W.cells? base (a.add (i * Try.prog.cellsOf e)) (Try.prog.cellsOf e) = some cs' ∧ s.rd W cs' y) (fun i hi' => by
      obtain ⟨cs', h1, h2⟩ := hi i (by omega)
      obtain ⟨y, hy⟩ := h _ _ _ _ _ _ _ h2
      exact ⟨y, cs', h1, hy⟩)
    have hlen : ((List.range len).map f).length = len := by simp
    refine ⟨(List.range len).map f, _, hcs, some a, m, by rw [hlen], ⟨(fun q => by cases q), by rw [hlen]; exact hl⟩, by rw [hlen]; omega, ?_⟩
    rw [hlen]
    by_cases hz : len = 0
    · exact .inl hz
    · obtain ⟨b, off, spot⟩ := a
      have hspot : spot = none := by
        obtain ⟨cs', h1, _⟩ := hf 0 (by omega)
        obtain ⟨_, q2, q3⟩ := World.cells?_some h1
        rw [hn] at q2 q3
        have q4 := q3 0 h0
        rw [List.getElem?_eq_getElem (by omega)] at q4
        simpa [Addr.add] using World.cell?_spot q4
      subst hspot
      refine .inr ⟨b, off, rfl, fun k hk => ?_⟩
      obtain ⟨cs', h1, h2⟩ := hf k hk
      obtain ⟨_, q2, q3⟩ := World.cells?_some h1
      rw [hn] at q2 q3
      refine ⟨cs', fun j hj => ?_, ?_⟩
      · have := q3 j (by omega)
        rw [addr_add, addr_add, Nat.add_assoc] at this
        rw [Nat.add_assoc]
        exact this
      · rw [List.getD_eq_getElem?_getD, List.getElem?_map, List.getElem?_range hk]
        exact h2

set_option maxRecDepth 100000 in
theorem cellsOpInt : Try.prog.cellsOf 3 = 1 := by kernel_rfl

theorem opensInt : Opens shI 3 := by
  intro H enc W base fuel cs x ht
  obtain ⟨i, e, _, _⟩ := DataW.trod_int Try.underlying3 ht
  exact ⟨i, e⟩

set_option maxRecDepth 100000 in
theorem cellsOpBool : Try.prog.cellsOf 4 = 1 := by kernel_rfl

theorem opensBool : Opens shB 4 := by
  intro H enc W base fuel cs x ht
  obtain ⟨i, e, _⟩ := DataW.trod_bool Try.underlying4 ht
  exact ⟨i, e⟩

set_option maxRecDepth 100000 in
theorem cellsOpNode : Try.prog.cellsOf 114 = 3 := by kernel_rfl

set_option maxRecDepth 100000 in
theorem readNode_d {H : Type} {enc : TypeId × Value → H} {W : World} {base fuel : Nat} {cs : List Value} {x : DataW H × List MemPlace} (h : DataW.trod enc Try.prog W base (fun _ => true) true fuel 114 cs = some x) :
    ∃ (i0 : Int) (i1 : Int) (i2 : Int), cs = [.int .i64 i0, .int .i64 i1, .int .i64 i2] := by
  obtain ⟨ys, n, _, _, hcl, hlen, hfld⟩ := DataW.trod_struct Try.underlying114 h
  rw [cellsOpNode] at hcl
  match cs, hcl with
  | [x0, x1, x2], _ =>
  match ys, hlen with
  | [y0, y1, y2], _ =>
  obtain ⟨i0, e0, _, _⟩ := DataW.trod_int Try.underlying3 (hfld 0 _ rfl)
  obtain ⟨i1, e1, _, _⟩ := DataW.trod_int Try.underlying3 (hfld 1 _ rfl)
  obtain ⟨i2, e2, _, _⟩ := DataW.trod_int Try.underlying3 (hfld 2 _ rfl)
  simp [cellsOpInt] at e0
  simp [cellsOpInt] at e1
  simp [cellsOpInt] at e2
  subst e0
  subst e1
  subst e2
  exact ⟨_, _, _, rfl⟩

theorem opensNode : Opens shNode 114 := by
  intro H enc W base fuel cs x ht
  obtain ⟨i0, i1, i2, rfl⟩ := readNode_d ht
  exact ⟨⟨i0, i1, i2⟩, rfl⟩

set_option maxRecDepth 100000 in
theorem openNode_d {H : Type} {enc : TypeId × Value → H} {W : World} {base : Nat} {v : Value} {d : DataW H} {ps : List MemPlace} (hw : Value.okWide Try.prog W .any base 114 v) (h : DataW.Trod enc Try.prog W 0 (fun _ => true) true 114 v d ps) :
    ∃ (i0 : Int) (i1 : Int) (i2 : Int), v = vNode i0 i1 i2 := by
  obtain ⟨cs, rfl, hsz⟩ := okWide_struct Try.underlying114 hw
  obtain ⟨fuel, hf⟩ := h
  obtain ⟨i0, i1, i2, e⟩ := readNode_d hf
  refine ⟨i0, i1, i2, ?_⟩
  simp [Value.cells] at e
  unfold vNode
  congr 1
  exact Array.toList_inj.1 e

set_option maxRecDepth 100000 in
theorem cellsOpNodeS : Try.prog.cellsOf 22 = 1 := by kernel_rfl

theorem opensNodeS : Opens (shL shNode) 22 := opens_slice Try.underlying22 cellsOpNode (by decide) opensNode

set_option maxRecDepth 100000 in
theorem openNodeS_d {H : Type} {enc : TypeId × Value → H} {W : World} {base : Nat} {v : Value} {d : DataW H} {ps : List MemPlace} (hw : Value.okWide Try.prog W .any base 22 v) (h : DataW.Trod enc Try.prog W 0 (fun _ => true) true 22 v d ps) :
    ∃ a n c, ∃ xs : List DNode, v = .slice a n c ∧ RdL shNode W (.slice a n c) xs := by
  obtain ⟨a0, len0, cap0, rfl⟩ := okWide_slice Try.underlying22 hw
  obtain ⟨fuel, hf⟩ := h
  obtain ⟨xs, v, e, r⟩ := opensNodeS _ _ _ _ _ _ _ hf
  simp [Value.cells] at e
  subst e
  exact ⟨_, _, _, xs, rfl, r⟩

set_option maxRecDepth 100000 in
theorem cellsOpIntS : Try.prog.cellsOf 23 = 1 := by kernel_rfl

theorem opensIntS : Opens (shL shI) 23 := opens_slice Try.underlying23 cellsOpInt (by decide) opensInt

set_option maxRecDepth 100000 in
theorem openIntS_d {H : Type} {enc : TypeId × Value → H} {W : World} {base : Nat} {v : Value} {d : DataW H} {ps : List MemPlace} (hw : Value.okWide Try.prog W .any base 23 v) (h : DataW.Trod enc Try.prog W 0 (fun _ => true) true 23 v d ps) :
    ∃ a n c, ∃ xs : List Int, v = .slice a n c ∧ RdL shI W (.slice a n c) xs := by
  obtain ⟨a0, len0, cap0, rfl⟩ := okWide_slice Try.underlying23 hw
  obtain ⟨fuel, hf⟩ := h
  obtain ⟨xs, v, e, r⟩ := opensIntS _ _ _ _ _ _ _ hf
  simp [Value.cells] at e
  subst e
  exact ⟨_, _, _, xs, rfl, r⟩

set_option maxRecDepth 100000 in
theorem cellsOpBar : Try.prog.cellsOf 116 = 2 := by kernel_rfl

set_option maxRecDepth 100000 in
theorem readBar_d {H : Type} {enc : TypeId × Value → H} {W : World} {base fuel : Nat} {cs : List Value} {x : DataW H × List MemPlace} (h : DataW.trod enc Try.prog W base (fun _ => true) true fuel 116 cs = some x) :
    ∃ (i0 : Int) (i1 : Int), cs = [.int .i64 i0, .int .i64 i1] := by
  obtain ⟨ys, n, _, _, hcl, hlen, hfld⟩ := DataW.trod_struct Try.underlying116 h
  rw [cellsOpBar] at hcl
  match cs, hcl with
  | [x0, x1], _ =>
  match ys, hlen with
  | [y0, y1], _ =>
  obtain ⟨i0, e0, _, _⟩ := DataW.trod_int Try.underlying3 (hfld 0 _ rfl)
  obtain ⟨i1, e1, _, _⟩ := DataW.trod_int Try.underlying3 (hfld 1 _ rfl)
  simp [cellsOpInt] at e0
  simp [cellsOpInt] at e1
  subst e0
  subst e1
  exact ⟨_, _, rfl⟩

theorem opensBar : Opens shBar 116 := by
  intro H enc W base fuel cs x ht
  obtain ⟨i0, i1, rfl⟩ := readBar_d ht
  exact ⟨⟨i0, i1⟩, rfl⟩

set_option maxRecDepth 100000 in
theorem openBar_d {H : Type} {enc : TypeId × Value → H} {W : World} {base : Nat} {v : Value} {d : DataW H} {ps : List MemPlace} (hw : Value.okWide Try.prog W .any base 116 v) (h : DataW.Trod enc Try.prog W 0 (fun _ => true) true 116 v d ps) :
    ∃ (i0 : Int) (i1 : Int), v = vBar i0 i1 := by
  obtain ⟨cs, rfl, hsz⟩ := okWide_struct Try.underlying116 hw
  obtain ⟨fuel, hf⟩ := h
  obtain ⟨i0, i1, e⟩ := readBar_d hf
  refine ⟨i0, i1, ?_⟩
  simp [Value.cells] at e
  unfold vBar
  congr 1
  exact Array.toList_inj.1 e

set_option maxRecDepth 100000 in
theorem cellsOpBarS : Try.prog.cellsOf 24 = 1 := by kernel_rfl

theorem opensBarS : Opens (shL shBar) 24 := opens_slice Try.underlying24 cellsOpBar (by decide) opensBar

set_option maxRecDepth 100000 in
theorem openBarS_d {H : Type} {enc : TypeId × Value → H} {W : World} {base : Nat} {v : Value} {d : DataW H} {ps : List MemPlace} (hw : Value.okWide Try.prog W .any base 24 v) (h : DataW.Trod enc Try.prog W 0 (fun _ => true) true 24 v d ps) :
    ∃ a n c, ∃ xs : List DBar, v = .slice a n c ∧ RdL shBar W (.slice a n c) xs := by
  obtain ⟨a0, len0, cap0, rfl⟩ := okWide_slice Try.underlying24 hw
  obtain ⟨fuel, hf⟩ := h
  obtain ⟨xs, v, e, r⟩ := opensBarS _ _ _ _ _ _ _ hf
  simp [Value.cells] at e
  subst e
  exact ⟨_, _, _, xs, rfl, r⟩

set_option maxRecDepth 100000 in
theorem cellsOpIntSS : Try.prog.cellsOf 25 = 1 := by kernel_rfl

theorem opensIntSS : Opens (shL (shL shI)) 25 := opens_slice Try.underlying25 cellsOpIntS (by decide) opensIntS

set_option maxRecDepth 100000 in
theorem openIntSS_d {H : Type} {enc : TypeId × Value → H} {W : World} {base : Nat} {v : Value} {d : DataW H} {ps : List MemPlace} (hw : Value.okWide Try.prog W .any base 25 v) (h : DataW.Trod enc Try.prog W 0 (fun _ => true) true 25 v d ps) :
    ∃ a n c, ∃ xs : List (List Int), v = .slice a n c ∧ RdL (shL shI) W (.slice a n c) xs := by
  obtain ⟨a0, len0, cap0, rfl⟩ := okWide_slice Try.underlying25 hw
  obtain ⟨fuel, hf⟩ := h
  obtain ⟨xs, v, e, r⟩ := opensIntSS _ _ _ _ _ _ _ hf
  simp [Value.cells] at e
  subst e
  exact ⟨_, _, _, xs, rfl, r⟩

set_option maxRecDepth 100000 in
theorem cellsOpBoolS : Try.prog.cellsOf 26 = 1 := by kernel_rfl

theorem opensBoolS : Opens (shL shB) 26 := opens_slice Try.underlying26 cellsOpBool (by decide) opensBool

set_option maxRecDepth 100000 in
theorem openBoolS_d {H : Type} {enc : TypeId × Value → H} {W : World} {base : Nat} {v : Value} {d : DataW H} {ps : List MemPlace} (hw : Value.okWide Try.prog W .any base 26 v) (h : DataW.Trod enc Try.prog W 0 (fun _ => true) true 26 v d ps) :
    ∃ a n c, ∃ xs : List Bool, v = .slice a n c ∧ RdL shB W (.slice a n c) xs := by
  obtain ⟨a0, len0, cap0, rfl⟩ := okWide_slice Try.underlying26 hw
  obtain ⟨fuel, hf⟩ := h
  obtain ⟨xs, v, e, r⟩ := opensBoolS _ _ _ _ _ _ _ hf
  simp [Value.cells] at e
  subst e
  exact ⟨_, _, _, xs, rfl, r⟩

set_option maxRecDepth 100000 in
theorem cellsOpGuard : Try.prog.cellsOf 28 = 1 := by kernel_rfl

set_option maxRecDepth 100000 in
theorem readGuard_d {H : Type} {enc : TypeId × Value → H} {W : World} {base fuel : Nat} {cs : List Value} {x : DataW H × List MemPlace} (h : DataW.trod enc Try.prog W base (fun _ => true) true fuel 28 cs = some x) :
    ∃ (v0 : Value) (xs0 : List Bool), cs = [v0] ∧ RdL shB W v0 xs0 := by
  obtain ⟨ys, n, _, _, hcl, hlen, hfld⟩ := DataW.trod_struct Try.underlying28 h
  rw [cellsOpGuard] at hcl
  match cs, hcl with
  | [x0], _ =>
  match ys, hlen with
  | [y0], _ =>
  obtain ⟨xs0, v0, e0, r0⟩ := opensBoolS _ _ _ _ _ _ _ (hfld 0 _ rfl)
  simp [cellsOpBoolS] at e0
  subst e0
  exact ⟨_, xs0, rfl, r0⟩

set_option maxRecDepth 100000 in
theorem openGuard_d {H : Type} {enc : TypeId × Value → H} {W : World} {base : Nat} {v : Value} {d : DataW H} {ps : List MemPlace} (hw : Value.okWide Try.prog W .any base 28 v) (h : DataW.Trod enc Try.prog W 0 (fun _ => true) true 28 v d ps) :
    ∃ (v0 : Value) (xs0 : List Bool), v = vGuard v0 ∧ RdL shB W v0 xs0 := by
  obtain ⟨cs, rfl, hsz⟩ := okWide_struct Try.underlying28 hw
  obtain ⟨fuel, hf⟩ := h
  obtain ⟨v0, xs0, e, r0⟩ := readGuard_d hf
  refine ⟨v0, xs0, ?_, r0⟩
  simp [Value.cells] at e
  unfold vGuard
  congr 1
  exact Array.toList_inj.1 e

set_option maxRecDepth 100000 in
theorem cellsOpFabric : Try.prog.cellsOf 30 = 5 := by kernel_rfl

set_option maxRecDepth 100000 in
theorem readFabric_d {H : Type} {enc : TypeId × Value → H} {W : World} {base fuel : Nat} {cs : List Value} {x : DataW H × List MemPlace} (h : DataW.trod enc Try.prog W base (fun _ => true) true fuel 30 cs = some x) :
    ∃ (v0 : Value) (xs0 : List DNode) (v1 : Value) (xs1 : List Int) (v2 : Value) (xs2 : List DBar) (v3 : Value) (xs3 : List (List Int)) (v4 : Value) (xs4 : List Bool), cs = [v0, v1, v2, v3, v4] ∧ RdL shNode W v0 xs0 ∧ RdL shI W v1 xs1 ∧ RdL shBar W v2 xs2 ∧ RdL (shL shI) W v3 xs3 ∧ RdL shB W v4 xs4 := by
  obtain ⟨ys, n, _, _, hcl, hlen, hfld⟩ := DataW.trod_struct Try.underlying30 h
  rw [cellsOpFabric] at hcl
  match cs, hcl with
  | [x0, x1, x2, x3, x4], _ =>
  match ys, hlen with
  | [y0, y1, y2, y3, y4], _ =>
  obtain ⟨xs0, v0, e0, r0⟩ := opensNodeS _ _ _ _ _ _ _ (hfld 0 _ rfl)
  obtain ⟨xs1, v1, e1, r1⟩ := opensIntS _ _ _ _ _ _ _ (hfld 1 _ rfl)
  obtain ⟨xs2, v2, e2, r2⟩ := opensBarS _ _ _ _ _ _ _ (hfld 2 _ rfl)
  obtain ⟨xs3, v3, e3, r3⟩ := opensIntSS _ _ _ _ _ _ _ (hfld 3 _ rfl)
  obtain ⟨v4, xs4, e4, r4⟩ := readGuard_d (hfld 4 _ rfl)
  simp [cellsOpNodeS] at e0
  simp [cellsOpIntS] at e1
  simp [cellsOpBarS] at e2
  simp [cellsOpIntSS] at e3
  simp [cellsOpGuard] at e4
  subst e0
  subst e1
  subst e2
  subst e3
  subst e4
  exact ⟨_, xs0, _, xs1, _, xs2, _, xs3, _, xs4, rfl, r0, r1, r2, r3, r4⟩

set_option maxRecDepth 100000 in
theorem openFabric_d {H : Type} {enc : TypeId × Value → H} {W : World} {base : Nat} {v : Value} {d : DataW H} {ps : List MemPlace} (hw : Value.okWide Try.prog W .any base 30 v) (h : DataW.Trod enc Try.prog W 0 (fun _ => true) true 30 v d ps) :
    ∃ (v0 : Value) (xs0 : List DNode) (v1 : Value) (xs1 : List Int) (v2 : Value) (xs2 : List DBar) (v3 : Value) (xs3 : List (List Int)) (v4 : Value) (xs4 : List Bool), v = vFabric v0 v1 v2 v3 v4 ∧ RdL shNode W v0 xs0 ∧ RdL shI W v1 xs1 ∧ RdL shBar W v2 xs2 ∧ RdL (shL shI) W v3 xs3 ∧ RdL shB W v4 xs4 := by
  obtain ⟨cs, rfl, hsz⟩ := okWide_struct Try.underlying30 hw
  obtain ⟨fuel, hf⟩ := h
  obtain ⟨v0, xs0, v1, xs1, v2, xs2, v3, xs3, v4, xs4, e, r0, r1, r2, r3, r4⟩ := readFabric_d hf
  refine ⟨v0, xs0, v1, xs1, v2, xs2, v3, xs3, v4, xs4, ?_, r0, r1, r2, r3, r4⟩
  simp [Value.cells] at e
  unfold vFabric
  congr 1
  exact Array.toList_inj.1 e

end Go.Proofs.Ytnighnkkeiegnab
