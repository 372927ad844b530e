/-
  A map made with a hint; a key that is a struct of two numbers; whatever the program.
-/
import Derived.Maps.OwnSet
import Derived.WalkKit
namespace Go.Proofs.Ytgagbhkidponnab
open Go Go.RowKit

theorem run_makeMap_hint {P : Program} (t k e : TypeId) (hu : P.underlying t = some (.map k e)) (q : IntKind) (n : Int) (w : World) : (Instr.makeMap t (some (.int q n))).run P w = .ok (.map (some w.heap.size)) (w.alloc (.map #[] 0)) := by
  unfold Instr.makeMap
  simp [go_sem, underlying, hu, asInt, newObj]
  rfl
theorem keyOf_pair {P : Program} {k i : TypeId} {f0 f1 : Field} (hu : P.underlying k = some (.struct #[f0, f1])) (hk : P.keyType k = true) (hc : P.cellsOf k = 2) (hci : P.cellsOf i = 1) (hi : P.underlying i = some (.int .i64)) (h0 : f0.type = i ∧ f0.offset = 0 ∧ (f0.name != "_") = true) (h1 : f1.type = i ∧ f1.offset = 1 ∧ (f1.name != "_") = true) {m : Nat} (hm : P.types.size = m + 1) {a b : Int} (ha : (Lit.int .i64 a).wf = true) (hb : (Lit.int .i64 b).wf = true) : keyOf P k (.agg #[.int .i64 a, .int .i64 b]) = some (.string (keyBytes [.int .i64 a, .int .i64 b])) := by
  obtain ⟨a1, a2, a3⟩ := h0
  obtain ⟨b1, b2, b3⟩ := h1
  have g0 : P.keyLits (m + 1) i [.int .i64 a] = some [.int .i64 a] := by unfold Program.keyLits; simp [hi, ha]
  have g1 : P.keyLits (m + 1) i [.int .i64 b] = some [.int .i64 b] := by unfold Program.keyLits; simp [hi, hb]
  have g : P.keyLits (m + 1 + 1) k [.int .i64 a, .int .i64 b] = some [.int .i64 a, .int .i64 b] := by
    unfold Program.keyLits
    simp [hu, hc, a1, a2, b1, b2, hci, g0, g1]
    exact ⟨by simpa using a3, by simpa using b3⟩
  unfold keyOf
  rw [hu, hm]
  simp [hk, Value.formed, hu, hc, Value.cells, g]

end Go.Proofs.Ytgagbhkidponnab
