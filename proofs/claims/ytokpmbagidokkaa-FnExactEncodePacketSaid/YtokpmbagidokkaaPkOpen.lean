/-
  A packet that comes in as an argument, opened.
-/
import Derived.Test.YtokpmbagidokkaaRows
import Derived.Test.YtokpmbagidokkaaPk
import Derived.ProofKit
import Derived.OpenShut
import Derived.ChangeSame
namespace Go.Proofs.Ytokpmbagidokkaa
open Go Go.RowKit Go.ChangeShapes Go.WideShapes Go.ChangeAt

theorem cellsPk : Try.prog.cellsOf 37 = 8 := by kernel_rfl
theorem cellsIn : Try.prog.cellsOf 3 = 1 := by kernel_rfl
theorem cellsSl : Try.prog.cellsOf 24 = 1 := by kernel_rfl

/-- a slice of numbers, read -/
theorem isl_of {H : Type} {enc : TypeId × Value → H} {W : World} {v : Value} {y : DataW H × List MemPlace} {n : Nat} (h : DataW.trod enc Try.prog W 0 (fun _ => true) true n 24 [v] = some y) :
    ∃ a len cap xs, v = .slice a len cap ∧ ISl W a len xs ∧ len ≤ 9223372036854775807 := by
  rcases open_ints Try.underlying24 Try.underlying3 cellsIn h with ⟨hcs, _⟩ | ⟨x, l, c, zs, hcs, _, hl, hm, hz, _, hcell, _⟩
  · obtain rfl : v = .slice none 0 0 := by simpa using hcs
    exact ⟨none, 0, 0, [], rfl, ⟨rfl, .inl rfl⟩, by omega⟩
  · obtain rfl : v = .slice (some x) l c := by simpa using hcs
    unfold maxLen at hm
    have hzl : zs.length = c := by simpa using hz
    refine ⟨some x, l, c, zs.take l, rfl, ⟨by simp; omega, ?_⟩, by omega⟩
    by_cases h0 : l = 0
    · exact .inl h0
    · obtain ⟨b, off, spot⟩ := x
      have hc := hcell 0 (by omega)
      have hspot : spot = none := by simpa [Addr.add] using World.cell?_spot hc
      subst hspot
      refine .inr ⟨b, off, rfl, fun k hk => ?_⟩
      have := hcell k (by omega)
      have e : (Addr.mk b off none).add k = ⟨b, off + k, none⟩ := by
        unfold Addr.add; split
        · rename_i hk0; have : k = 0 := by simpa using hk0
          subst this; rfl
        · rfl
      rw [e] at this
      rw [this]
      congr 2
      rw [List.getD_eq_getElem?_getD, List.getD_eq_getElem?_getD, List.getElem?_take, if_pos hk]

theorem open_pk {H : Type} {enc : TypeId × Value → H} {W : World} {base : Nat} {v : Value} {d : DataW H} {ps : List MemPlace} (hw : Value.okWide Try.prog W .any base 37 v) (h : DataW.Trod enc Try.prog W 0 (fun _ => true) true 37 v d ps) :
    ∃ k f t a l g s da len cap xs, v = pkV k f t a l g s da len cap ∧ ISl W da len xs ∧ len ≤ 9223372036854775807 := by
  obtain ⟨cs, rfl, hsz⟩ := okWide_struct Try.underlying37 hw
  rw [cellsPk] at hsz
  obtain ⟨L⟩ := cs
  match L, hsz with
  | [c0, c1, c2, c3, c4, c5, c6, c7], _ =>
  obtain ⟨fuel, hf⟩ := h
  obtain ⟨ys, n, _, _, _, hlen, hfld⟩ := DataW.trod_struct Try.underlying37 hf
  match ys, hlen with
  | [y0, y1, y2, y3, y4, y5, y6, y7], _ =>
  obtain ⟨k, e0, _, _⟩ := DataW.trod_int Try.underlying3 (hfld 0 _ rfl)
  obtain ⟨f, e1, _, _⟩ := DataW.trod_int Try.underlying3 (hfld 1 _ rfl)
  obtain ⟨t, e2, _, _⟩ := DataW.trod_int Try.underlying3 (hfld 2 _ rfl)
  obtain ⟨a, e3, _, _⟩ := DataW.trod_int Try.underlying3 (hfld 3 _ rfl)
  obtain ⟨l, e4, _, _⟩ := DataW.trod_int Try.underlying3 (hfld 4 _ rfl)
  obtain ⟨g, e5, _, _⟩ := DataW.trod_int Try.underlying3 (hfld 5 _ rfl)
  obtain ⟨s, e6, _, _⟩ := DataW.trod_int Try.underlying3 (hfld 6 _ rfl)
  have h7 := hfld 7 _ rfl
  simp [Value.cells, cellsIn, cellsSl] at e0 e1 e2 e3 e4 e5 e6 h7
  obtain ⟨da, len, cap, xs, rfl, hi, hc⟩ := isl_of h7
  subst e0 e1 e2 e3 e4 e5 e6
  exact ⟨k, f, t, a, l, g, s, da, len, cap, xs, rfl, hi, hc⟩

end Go.Proofs.Ytokpmbagidokkaa
