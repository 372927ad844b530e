/-
  Contract of the model's EncodePacket.
-/
import Derived.Test.YtokpmbagidokkacOwnInts
import Derived.Test.YtokpmbagidokkacPkSpec
import Derived.Deep.RegionHeld3
import Derived.Deep.Onto
namespace Go.Proofs.Ytokpmbagidokkac
open Go Go.RowKit

/-- the two bytes of each word -/
def halves (xs : List Int) : List Int := xs.flatMap fun x => [x / 256, x % 256]
theorem halves_snoc (xs : List Int) (x : Int) : halves (xs ++ [x]) = halves xs ++ [x / 256, x % 256] := by simp [halves]
theorem halves_length (xs : List Int) : (halves xs).length = 2 * xs.length := by
  induction xs with
  | nil => rfl
  | cons x xs ih =>
    have : halves (x :: xs) = [x / 256, x % 256] ++ halves xs := by simp [halves]
    rw [this, List.length_append, ih, List.length_cons]; simp; omega

/-- a packet's bytes -/
def encL (k f t a l g s : Int) (xs : List Int) : List Int := [k, f, t, a / 256, a % 256, l, g * 16 + s, (xs.length : Int)] ++ halves xs
theorem encL_length (k f t a l g s : Int) (xs : List Int) : (encL k f t a l g s xs).length = 8 + 2 * xs.length := by
  unfold encL; rw [List.length_append, halves_length]; simp

/-- bounds that a valid packet keeps -/
theorem pk_bounds {k f t a l g s : Int} {xs : List Int} (h : PkOk k f t a l g s xs) : (1 ≤ k ∧ k ≤ 6) ∧ (0 ≤ f ∧ f ≤ 255) ∧ (0 ≤ t ∧ t ≤ 255) ∧ (0 ≤ a ∧ a ≤ 65535) ∧ (0 ≤ l ∧ l ≤ 64) ∧ (0 ≤ g ∧ g ≤ 7) ∧ (0 ≤ s ∧ s ≤ 2) ∧ xs.length ≤ 8 := by
  obtain ⟨hf, _, hk⟩ := h
  rcases hk with ⟨h1, h⟩ | ⟨h1, h⟩ | ⟨h1, h⟩ | ⟨h1, h⟩ | ⟨h1, h⟩ | ⟨h1, h⟩
  · unfold W1 at h; omega
  · unfold W2 at h; omega
  · unfold W3 at h; omega
  · unfold W4 WC at h; omega
  · unfold W5 WC at h; omega
  · unfold W6 at h; omega

/-- a row of the call's own -/
def RowG (base n : Nat) (L : List Int) (w : World) (e : Ending) (w' : World) : Prop := ∃ v, e = .returned v ∧ w'.ownsRow base 3 1 v n (i64s L) ∧ w.grownBy w' none

theorem pk_row {w : World} {b : Nat} {k f t a l g s : Int} {d : Option Addr} {len cap : Nat} {ty : TypeId} (h : w.heap[b]? = some (.cells #[.int .i64 k, .int .i64 f, .int .i64 t, .int .i64 a, .int .i64 l, .int .i64 g, .int .i64 s, .slice d len cap] ty (0, 0))) :
    w.cell? ⟨b, 0, none⟩ = some (.int .i64 k) ∧ w.cell? ⟨b, 1, none⟩ = some (.int .i64 f) ∧ w.cell? ⟨b, 2, none⟩ = some (.int .i64 t) ∧ w.cell? ⟨b, 3, none⟩ = some (.int .i64 a) ∧ w.cell? ⟨b, 4, none⟩ = some (.int .i64 l) ∧ w.cell? ⟨b, 5, none⟩ = some (.int .i64 g) ∧ w.cell? ⟨b, 6, none⟩ = some (.int .i64 s) ∧ w.cell? ⟨b, 7, none⟩ = some (.slice d len cap) :=
  ⟨cell_of_row w b 0 _ _ _ h, cell_of_row w b 1 _ _ _ h, cell_of_row w b 2 _ _ _ h, cell_of_row w b 3 _ _ _ h, cell_of_row w b 4 _ _ _ h, cell_of_row w b 5 _ _ _ h, cell_of_row w b 6 _ _ _ h, cell_of_row w b 7 _ _ _ h⟩

theorem areW_at {xs : List Int} (h : AreW xs) {k : Nat} (hk : k < xs.length) : 0 ≤ xs.getD k 0 ∧ xs.getD k 0 ≤ 65535 := by
  rw [List.getD_eq_getElem?_getD, List.getElem?_eq_getElem hk]
  exact h _ (List.getElem_mem hk)

end Go.Proofs.Ytokpmbagidokkac
