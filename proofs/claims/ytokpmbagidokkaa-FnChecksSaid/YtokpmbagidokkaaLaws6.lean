/-
  What the laws of chapters 5 and 6 rest on: both sides answer the same.
-/
import Derived.Test.YtokpmbagidokkaaAddTake
import Derived.Test.YtokpmbagidokkaaAreBytesEx
import Derived.Test.YtokpmbagidokkaaCheckOfEx
import Derived.Test.YtokpmbagidokkaaAddCheckEx
import Derived.Test.YtokpmbagidokkaaTakeCheckEx
import Derived.Test.YtokpmbagidokkaaFlipBitEx
import Derived.Test.YtokpmbagidokkaaDistanceOfEx
namespace Go.Proofs.Ytokpmbagidokkaa
open Go Go.RowKit

/-- a slice of numbers that came in -/
theorem isl_in {W : World} {a : Option Addr} {len cap : Nat} {zs : List Int} (h : (a = none ∧ len = 0 ∧ cap = 0 ∧ zs = []) ∨ ∃ x, a = some x ∧ len ≤ cap ∧ cap ≤ maxLen ∧ zs.length = cap ∧ (∀ i, i < zs.length → W.cell? (x.add i) = some (.int .i64 (zs.getD i 0))) ∧ ∀ n ∈ zs, (Lit.int .i64 n).wf = true) :
    ISl W a len (zs.take len) ∧ len ≤ 9223372036854775807 := by
  rcases h with ⟨rfl, rfl, _, rfl⟩ | ⟨x, rfl, hl, hm, hz, hcell, _⟩
  · exact ⟨⟨rfl, .inl rfl⟩, by omega⟩
  · unfold maxLen at hm
    refine ⟨⟨by simp; omega, ?_⟩, by omega⟩
    by_cases h0 : len = 0
    · exact .inl h0
    · obtain ⟨b, off, spot⟩ := x
      have hc := hcell 0 (by omega)
      have hspot : spot = none := by simpa [Addr.add] using World.cell?_spot hc
      subst hspot
      refine .inr ⟨b, off, rfl, fun k hk => ?_⟩
      have := hcell k (by omega)
      rw [addr_add] at this
      rw [this]
      congr 2
      rw [List.getD_eq_getElem?_getD, List.getD_eq_getElem?_getD, List.getElem?_take, if_pos hk]

theorem both_areBytes (xs : List Int) (hl : xs.length ≤ 1048576) : ∃ b : Bool, (∀ (W : World) (v0 : Value), RdI W v0 xs → Calls Try.prog 35 #[v0] W (AnsN (.bool b) W)) ∧ ∀ (W : World) (v0 : Value), RdI W v0 xs → Calls Try.prog 22 #[v0] W (AnsN (.bool b) W) := by
  refine ⟨decide (AreB xs), fun W v H => ?_, fun W v H => ?_⟩
  · obtain ⟨a, cap, rfl, hi, _⟩ := H
    refine (specBytes_any W a _ cap xs hi hl).mono ?_
    rintro e w ⟨rfl, rfl⟩
    exact ⟨rfl, gby_refl _ _⟩
  · obtain ⟨a, cap, rfl, hi, _⟩ := H
    refine (implBytes_any W a _ cap xs hi (by omega)).mono ?_
    rintro e w ⟨rfl, rfl⟩
    exact ⟨rfl, gby_refl _ _⟩

theorem both_checkOf (xs : List Int) (hl : xs.length ≤ 1048576) : ∃ r : Int, (∀ (W : World) (v0 : Value), RdI W v0 xs → Calls Try.prog 43 #[v0] W (AnsN (.int .i64 r) W)) ∧ ∀ (W : World) (v0 : Value), RdI W v0 xs → Calls Try.prog 44 #[v0] W (AnsN (.int .i64 r) W) := by
  by_cases hb : AreB xs
  · refine ⟨_, fun W v H => ?_, fun W v H => implCheck_in W v xs H hb⟩
    obtain ⟨a, cap, rfl, hi, _⟩ := H
    exact (specCheck_in W a _ cap xs hi hb).mono ansN_of
  · refine ⟨_, fun W v H => ?_, fun W v H => implCheck_out W v xs H hl hb⟩
    obtain ⟨a, cap, rfl, hi, _⟩ := H
    exact (specCheck_out W a _ cap xs hi hl hb).mono ansN_of

theorem both_addCheck (xs : List Int) (hl : xs.length ≤ 1048576) : ∃ L : List Int, L.length ≤ 1048576 ∧ (∀ (W : World) (v0 : Value), RdI W v0 xs → Calls Try.prog 45 #[v0] W (RowI L W)) ∧ ∀ (W : World) (v0 : Value), RdI W v0 xs → Calls Try.prog 38 #[v0] W (RowI L W) := by
  by_cases h : AreB xs ∧ xs.length ≤ 38
  · exact ⟨addC xs, by rw [addC_length]; omega, fun W v H => specAdd_yes W v xs H h.1 h.2, fun W v H => implAdd_yes W v xs H h.1 h.2⟩
  · exact ⟨[], by simp, fun W v H => specAdd_no W v xs H hl h, fun W v H => implAdd_no W v xs H hl h⟩

theorem implTake_yes (W : World) (v : Value) (xs : List Int) (H : RdI W v xs) (h : FrameOk xs) :
    Calls Try.prog 39 #[v] W (RowIB (xs.take (xs.length - 2)) true W) :=
  (implTake_any W v xs H h.2.1 (by have := h.1.2; omega)).mono (fun _ _ q => q.1 h)
theorem implTake_no (W : World) (v : Value) (xs : List Int) (H : RdI W v xs) (hl : xs.length ≤ 1048576) (h : ¬ FrameOk xs) :
    Calls Try.prog 39 #[v] W (RowIB [] false W) := by
  by_cases h2 : 2 ≤ xs.length
  · exact (implTake_any W v xs H h2 hl).mono (fun _ _ q => q.2 h)
  · exact implTake_neg W v xs H (by omega)
theorem specTake_fail (W : World) (v : Value) (xs : List Int) (H : RdI W v xs) (hl : xs.length ≤ 1048576) (h : ¬ FrameOk xs) :
    Calls Try.prog 46 #[v] W (RowIB [] false W) := by
  by_cases hb : AreB xs
  · by_cases h2 : 2 ≤ xs.length
    · exact specTake_bad W v xs H h2 hb h
    · exact specTake_no W v xs H hl (.inr (by omega))
  · exact specTake_no W v xs H hl (.inl hb)

theorem both_takeCheck (xs : List Int) (hl : xs.length ≤ 1048576) : ∃ (L : List Int) (b : Bool), L.length ≤ 1048576 ∧ (∀ (W : World) (v0 : Value), RdI W v0 xs → Calls Try.prog 46 #[v0] W (RowIB L b W)) ∧ ∀ (W : World) (v0 : Value), RdI W v0 xs → Calls Try.prog 39 #[v0] W (RowIB L b W) := by
  by_cases h : FrameOk xs
  · exact ⟨xs.take (xs.length - 2), true, by rw [List.length_take]; omega, fun W v H => specTake_yes W v xs H h, fun W v H => implTake_yes W v xs H h⟩
  · exact ⟨[], false, by simp, fun W v H => specTake_fail W v xs H hl h, fun W v H => implTake_no W v xs H hl h⟩

theorem flipOr_length (xs : List Int) (q : Int) : (flipOr xs q).length = xs.length := by
  unfold flipOr
  split
  · exact flipI_length _ _
  · rfl

theorem both_flipBit (xs : List Int) (q : Int) (hl : xs.length ≤ 1048576) : ∃ L : List Int, L.length ≤ 1048576 ∧ (∀ (W : World) (v0 : Value), RdI W v0 xs → Calls Try.prog 47 #[v0, .int .i64 q] W (RowI L W)) ∧ ∀ (W : World) (v0 : Value), RdI W v0 xs → Calls Try.prog 40 #[v0, .int .i64 q] W (RowI L W) :=
  ⟨flipOr xs q, by rw [flipOr_length]; exact hl, fun W v H => specFlip_any W v xs q H hl, fun W v H => implFlip_any W v xs q H hl⟩

theorem both_distanceOf (xs ys : List Int) (h1 : xs.length ≤ 1048576) (h2 : ys.length ≤ 1048576) : ∃ r : Int, (∀ (W : World) (v0 v1 : Value), RdI W v0 xs → RdI W v1 ys → Calls Try.prog 48 #[v0, v1] W (AnsN (.int .i64 r) W)) ∧ ∀ (W : World) (v0 v1 : Value), RdI W v0 xs → RdI W v1 ys → Calls Try.prog 41 #[v0, v1] W (AnsN (.int .i64 r) W) := by
  by_cases h : AreB xs ∧ AreB ys ∧ ys.length = xs.length
  · exact ⟨_, fun W v u H1 H2 => (specDist_in W v u xs ys H1 H2 h.1 h.2.1 h.2.2).mono ansN_of, fun W v u H1 H2 => (implDist_in W v u xs ys H1 H2 h.1 h.2.1 h.2.2).mono ansN_of⟩
  · exact ⟨_, fun W v u H1 H2 => (specDist_out W v u xs ys H1 H2 h1 h2 h).mono ansN_of, fun W v u H1 H2 => (implDist_out W v u xs ys H1 H2 h1 h2 h).mono ansN_of⟩

theorem split_both (x : Int) : ∃ h l : Int, (∀ W : World, Calls Try.prog 36 #[.int .i64 x] W (Ans (.tuple #[.int .i64 h, .int .i64 l]) W)) ∧ ∀ W : World, Calls Try.prog 20 #[.int .i64 x] W (Ans (.tuple #[.int .i64 h, .int .i64 l]) W) := by
  by_cases h : 0 ≤ x ∧ x ≤ 65535
  · exact ⟨_, _, fun W => specSplit_in x W h.1 h.2, fun W => implSplit_in x W h.1 h.2⟩
  · exact ⟨_, _, fun W => specSplit_out x W (by omega), fun W => implSplit_out x W (by omega)⟩

theorem walk_exactSplitWord (x : Int) (W : World) :
    Calls Try.prog 7 #[.int .i64 x] W fun e w' => e = .returned (.bool true) ∧ Below W.heap.size W w' := by
  obtain ⟨h, l, h1, h2⟩ := split_both x
  have H1 := Lib.hid h1
  have H2 := Lib.hid h2
  clear h1 h2
  have q1 : (h != h) = false := by simp
  have q2 : (l != l) = false := by simp
  go_enter Try.func7, Try.ntmps7
  go_wp2_with fail
  go_at_call 36
  refine (H1.out _).mono ?_
  rintro e w1 ⟨rfl, d1⟩
  have D1 := Lib.hid d1
  clear d1
  go_wp2_with fail
  go_at_call 20
  refine (H2.out _).mono ?_
  rintro e w2 ⟨rfl, d2⟩
  have D2 := Lib.hid d2
  clear d2
  go_wp2
  go_ret
  exact ⟨rfl, gby_below ((D1.out.trans D2.out).gby none)⟩

end Go.Proofs.Ytokpmbagidokkaa
