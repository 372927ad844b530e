/-
  TakeCheck, both ways, on both sides.
-/
import Derived.Test.YtokpmbagidokkacAddTake
namespace Go.Proofs.Ytokpmbagidokkac
open Go Go.RowKit

theorem implTake_yes (W : World) (v : Value) (xs : List Int) (H : RdI W v xs) (h : FrameOk xs) :
    Calls Try.prog 54 #[v] W (RowIB (xs.take (xs.length - 2)) true W) :=
  (implTake_any W v xs H h.2.1 (by have := h.1.2; omega)).mono (fun _ _ q => q.1 h)
theorem implTake_no (W : World) (v : Value) (xs : List Int) (H : RdI W v xs) (hl : xs.length ≤ 1048576) (h : ¬ FrameOk xs) :
    Calls Try.prog 54 #[v] W (RowIB [] false W) := by
  by_cases h2 : 2 ≤ xs.length
  · exact (implTake_any W v xs H h2 hl).mono (fun _ _ q => q.2 h)
  · exact implTake_neg W v xs H (by omega)
theorem specTake_fail (W : World) (v : Value) (xs : List Int) (H : RdI W v xs) (hl : xs.length ≤ 1048576) (h : ¬ FrameOk xs) :
    Calls Try.prog 53 #[v] W (RowIB [] false W) := by
  by_cases hb : AreB xs
  · by_cases h2 : 2 ≤ xs.length
    · exact specTake_bad W v xs H h2 hb h
    · exact specTake_no W v xs H hl (.inr (by omega))
  · exact specTake_no W v xs H hl (.inl hb)

end Go.Proofs.Ytokpmbagidokkac
