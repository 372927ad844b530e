/-
  Packets as the law hands them over: opened, measured, copied, compared.
-/
import Derived.Test.YtokpmbagidokkacIntsEq
import Derived.Test.YtokpmbagidokkacRule
import Derived.Deep.RegionHeld
namespace Go.Proofs.Ytokpmbagidokkac
open Go Go.RowKit

/-- a packet's value -/
def pkV (k f t a l g s : Int) (d : Option Addr) (len cap : Nat) : Value := .agg #[.int .i64 k, .int .i64 f, .int .i64 t, .int .i64 a, .int .i64 l, .int .i64 g, .int .i64 s, .slice d len cap]

/-- a row that a later world still holds -/
theorem row_later {W w : World} {b : Nat} {o : Obj} (g : W.grownBy w none) (h : W.heap[b]? = some o) : w.heap[b]? = some o := by
  have hlt : b < W.heap.size := by
    rcases Nat.lt_or_ge b W.heap.size with h' | h'
    · exact h'
    · rw [Array.getElem?_eq_none h'] at h; cases h
  rw [g.block b hlt (by simp)]; exact h

end Go.Proofs.Ytokpmbagidokkac
