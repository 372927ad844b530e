/-
  Receivers as an argument: opened; the walks of FnExactReceiverOk and FnExactAckOf.
-/
import Derived.Test.YtokpmbagidokkacRecvAck
import Derived.Test.YtokpmbagidokkacIslIn
import Derived.Test.YtokpmbagidokkacRows
import Derived.ProofKit
import Derived.OpenShut
import Derived.ChangeSame
import Derived.Deep.Matrix
namespace Go.Proofs.Ytokpmbagidokkac
open Go Go.RowKit Go.ChangeShapes Go.WideShapes Go.ChangeAt

set_option maxRecDepth 100000 in
theorem cellsRc : Try.prog.cellsOf 40 = 2 := by kernel_rfl

set_option maxRecDepth 100000 in
theorem cellsI1 : Try.prog.cellsOf 3 = 1 := by kernel_rfl

set_option maxRecDepth 100000 in
theorem cellsS1 : Try.prog.cellsOf 22 = 1 := by kernel_rfl

set_option maxRecDepth 100000 in
theorem cellsSS1 : Try.prog.cellsOf 38 = 1 := by kernel_rfl

theorem rll_of {H : Type} {enc : TypeId × Value → H} {W : World} {base fuel : Nat} {cs : List Value} {x : DataW H × List MemPlace} (h : DataW.trod enc Try.prog W base (fun _ => true) true fuel 38 cs = some x) :
    ∃ a len cap L, cs = [.slice a len cap] ∧ RLL W a len L ∧ len ≤ 9223372036854775807 ∧ ∀ y ∈ L, y.length ≤ 9223372036854775807 := by
  rcases Go.Deep.open_int_rows Try.underlying38 Try.underlying22 Try.underlying3 cellsS1 cellsI1 h with ⟨hcs, _⟩ | ⟨a, len, cap, A, L, C, Z, hcs, _, hl, hm, _, hrow⟩
  · exact ⟨none, 0, 0, [], hcs, ⟨rfl, .inl rfl⟩, by omega, by simp⟩
  · unfold maxLen at hm
    refine ⟨some a, len, cap, (List.range len).map (fun r => (Z r).take (L r)), hcs, ⟨by simp, ?_⟩, by omega, ?_⟩
    · by_cases h0 : len = 0
      · exact .inl h0
      · obtain ⟨b, off, spot⟩ := a
        have hspot : spot = none := by
          have := (hrow 0 (by omega)).1
          simpa [Addr.add] using World.cell?_spot this
        subst hspot
        refine .inr ⟨b, off, rfl, fun k hk => ?_⟩
        obtain ⟨hc, r1, r2, r3, _, r5, r6⟩ := hrow k (by omega)
        have e1 : ((List.range len).map (fun r => (Z r).take (L r))).getD k [] = (Z k).take (L k) := by
          rw [List.getD_eq_getElem?_getD, List.getElem?_map, List.getElem?_range hk]; rfl
        have e2 : ((Z k).take (L k)).length = L k := by rw [List.length_take]; omega
        rw [e1]
        refine ⟨.slice (A k) (L k) (C k), by rw [← hc, addr_add], A k, C k, by rw [e2], ?_, ⟨r5, by rw [e2]; exact r1⟩⟩
        have hh := isl_in (W := W) (a := A k) (len := L k) (cap := C k) (zs := Z k) (by
          cases hA : A k with
          | none => 
            have := r5 hA
            exact .inl ⟨rfl, by omega, this, List.eq_nil_of_length_eq_zero (by omega)⟩
          | some x => exact .inr ⟨x, rfl, r1, r2, r3, fun i hi => (r6 x hA).2 i (by omega), by assumption⟩)
        rw [e2]
        exact hh.1
    · intro y hy
      obtain ⟨r, hr, rfl⟩ := List.mem_map.1 hy
      have hr' := List.mem_range.1 hr
      obtain ⟨_, r1, r2, r3, _⟩ := hrow r (by omega)
      unfold maxLen at r2
      rw [List.length_take]; omega

set_option maxRecDepth 100000 in
theorem open_rc {H : Type} {enc : TypeId × Value → H} {W : World} {base : Nat} {v : Value} {d : DataW H} {ps : List MemPlace} (hw : Value.okWide Try.prog W .any base 40 v) (h : DataW.Trod enc Try.prog W 0 (fun _ => true) true 40 v d ps) :
    ∃ q da len cap L, v = rcV q da len cap ∧ RLL W da len L ∧ len ≤ 9223372036854775807 ∧ ∀ y ∈ L, y.length ≤ 9223372036854775807 := by
  obtain ⟨cs, rfl, hsz⟩ := okWide_struct Try.underlying40 hw
  rw [cellsRc] at hsz
  obtain ⟨L⟩ := cs
  match L, hsz with
  | [c0, c1], _ =>
  obtain ⟨fuel, hf⟩ := h
  obtain ⟨ys, n, _, _, _, hlen, hfld⟩ := DataW.trod_struct Try.underlying40 hf
  match ys, hlen with
  | [y0, y1], _ =>
  obtain ⟨q, e0, _, _⟩ := DataW.trod_int Try.underlying3 (hfld 0 _ rfl)
  have h7 := hfld 1 _ rfl
  simp [Value.cells, cellsI1, cellsSS1] at e0 h7
  obtain ⟨da, len, cap, xs, e1, hi, hc⟩ := rll_of h7
  simp at e1
  subst e0 e1
  exact ⟨q, da, len, cap, xs, rfl, hi, hc⟩

end Go.Proofs.Ytokpmbagidokkac
