/-
  Contracts of the checks of packets.
-/
import Derived.Test.YtokpmbagidokkacPk
import Derived.Test.YtokpmbagidokkacIdNum
namespace Go.Proofs.Ytokpmbagidokkac
open Go Go.RowKit

def W1 (t a l g s n : Int) : Prop := 1 ≤ n ∧ n ≤ 8 ∧ 0 ≤ a ∧ a + n ≤ 65536 ∧ t = 0 ∧ l = 0 ∧ g = 0 ∧ s = 0
def W2 (t a l g s n : Int) : Prop := 1 ≤ n ∧ n ≤ 8 ∧ t = 0 ∧ a = 0 ∧ l = 0 ∧ g = 0 ∧ s = 0
def W3 (t a l g s n : Int) : Prop := 1 ≤ l ∧ l ≤ 64 ∧ 0 ≤ a ∧ a + l ≤ 65536 ∧ 0 ≤ g ∧ g ≤ 7 ∧ t = 0 ∧ s = 0 ∧ n = 0
def WC (t a l g s : Int) : Prop := 0 ≤ t ∧ t ≤ 255 ∧ 0 ≤ a ∧ a ≤ 63 ∧ 0 ≤ g ∧ g ≤ 7 ∧ l = 0 ∧ s = 0
def W4 (t a l g s n : Int) : Prop := WC t a l g s ∧ n = 0
def W5 (t a l g s n : Int) : Prop := WC t a l g s ∧ n = 1
def W6 (t a l g s n : Int) : Prop := 0 ≤ t ∧ t ≤ 255 ∧ 0 ≤ l ∧ l ≤ 64 ∧ 0 ≤ g ∧ g ≤ 7 ∧ 0 ≤ s ∧ s ≤ 2 ∧ a = 0 ∧ (n = 0 ∨ (s = 0 ∧ n ≤ 8 ∧ n ≤ l))

/-- the fields of a packet fit its kind -/
def KindOk (k t a l g s n : Int) : Prop :=
  (k = 1 ∧ W1 t a l g s n) ∨ (k = 2 ∧ W2 t a l g s n) ∨ (k = 3 ∧ W3 t a l g s n) ∨ (k = 4 ∧ W4 t a l g s n) ∨ (k = 5 ∧ W5 t a l g s n) ∨ (k = 6 ∧ W6 t a l g s n)

/-- a valid packet -/
def PkOk (k f t a l g s : Int) (xs : List Int) : Prop := (0 ≤ f ∧ f ≤ 255) ∧ AreW xs ∧ KindOk k t a l g s xs.length

/-- an answer, and new memory at most -/
def AnsG (v : Value) (w : World) (e : Ending) (w' : World) : Prop := e = .returned v ∧ w.grownBy w' none

end Go.Proofs.Ytokpmbagidokkac
