/-
  Contract of the model's DecodePacket.
-/
import Derived.Test.YtokpmbagidokkaaWireEnc
import Derived.Test.YtokpmbagidokkaaWireNum
import Derived.Handy
namespace Go.Proofs.Ytokpmbagidokkaa
open Go Go.RowKit

/-- the words that a row of bytes holds, from one byte on -/
def wordsAt (bs : List Int) (n : Nat) : List Int := (List.range n).map fun j => bs.getD (8 + 2 * j) 0 * 256 + bs.getD (9 + 2 * j) 0
theorem wordsAt_length (bs : List Int) (n : Nat) : (wordsAt bs n).length = n := by simp [wordsAt]
theorem wordsAt_snoc (bs : List Int) (n : Nat) : wordsAt bs (n + 1) = wordsAt bs n ++ [bs.getD (8 + 2 * n) 0 * 256 + bs.getD (9 + 2 * n) 0] := by simp [wordsAt, List.range_succ]

/-- the length is as the eighth byte says -/
def LenOk (bs : List Int) : Prop := 8 ≤ bs.length ∧ (bs.length : Int) = 8 + 2 * bs.getD 7 0

/-- a packet and its own data, and true -/
def DecYes (k f t a l g s : Int) (ws : List Int) (W : World) (e : Ending) (w' : World) : Prop :=
  ∃ v, e = .returned (.tuple #[.agg #[.int .i64 k, .int .i64 f, .int .i64 t, .int .i64 a, .int .i64 l, .int .i64 g, .int .i64 s, v], .bool true]) ∧ w'.ownsRow W.heap.size 3 1 v ws.length (i64s ws) ∧ W.grownBy w' none
/-- the zero packet, and false -/
def DecNo (W : World) (e : Ending) (w' : World) : Prop := e = .returned (.tuple #[pkV 0 0 0 0 0 0 0 none 0 0, .bool false]) ∧ W.grownBy w' none

set_option maxHeartbeats 1000000 in
theorem specDec_noB (W : World) (b : Option Addr) (len cap : Nat) (bs : List Int) (H : ISl W b len bs) (hl : len ≤ 1048576) (h : ¬ AreB bs) :
    Calls Try.prog 32 #[.slice b len cap] W (DecNo W) := by
  have hd : decide (AreB bs) = false := decide_eq_false h
  clear h
  go_enter Try.func32, Try.ntmps32
  go_wp2_with fail
  go_at_call 35
  refine (specBytes_any _ _ _ _ bs (H.kept (gby_alloc (gby_refl _ _) _)) hl).mono ?_
  rintro e w1 ⟨rfl, rfl⟩
  rw [hd]
  go_wp2
  go_returns
  exact ⟨rfl, gby_alloc (gby_refl _ _) _⟩

set_option maxHeartbeats 1000000 in
theorem specDec_short (W : World) (b : Option Addr) (len cap : Nat) (bs : List Int) (H : ISl W b len bs) (hl : len ≤ 1048576) (h : AreB bs) (h8 : len < 8) :
    Calls Try.prog 32 #[.slice b len cap] W (DecNo W) := by
  have hd : decide (AreB bs) = true := decide_eq_true h
  clear h
  have h8' : (len : Int) < 8 := by omega
  go_enter Try.func32, Try.ntmps32
  go_wp2_with fail
  go_at_call 35
  refine (specBytes_any _ _ _ _ bs (H.kept (gby_alloc (gby_refl _ _) _)) hl).mono ?_
  rintro e w1 ⟨rfl, rfl⟩
  rw [hd]
  go_wp2
  go_returns
  exact ⟨rfl, gby_alloc (gby_refl _ _) _⟩

set_option maxHeartbeats 1000000 in
theorem specDec_len (W : World) (b : Option Addr) (len cap : Nat) (bs : List Int) (H : ISl W b len bs) (hl : len ≤ 1048576) (h : AreB bs) (h8 : 8 ≤ len) (hn : (len : Int) ≠ 8 + 2 * bs.getD 7 0) :
    Calls Try.prog 32 #[.slice b len cap] W (DecNo W) := by
  have hd : decide (AreB bs) = true := decide_eq_true h
  have h7 := areB_at h (k := 7) (by have := H.1; omega)
  clear h
  have h8' : ¬ (len : Int) < 8 := by omega
  obtain ⟨b, off, rfl, hcell⟩ := H.2.resolve_left (by omega)
  have c7 := hcell 7 (by omega)
  clear hcell
  generalize bs.getD 7 0 = x7 at c7 h7 hn
  have c7a := (World.grownBy_alloc W (.cells #[.int .i64 0, .int .i64 0, .int .i64 0, .int .i64 0, .int .i64 0, .int .i64 0, .int .i64 0, .slice none 0 0] 26) none).cell c7 (by simp)
  have HX := Lib.hid H
  clear H
  go_enter Try.func32, Try.ntmps32
  go_wp2_with fail
  go_at_call 35
  refine (specBytes_any _ _ _ _ bs (HX.out.kept (gby_alloc (gby_refl _ _) _)) hl).mono ?_
  rintro e w1 ⟨rfl, rfl⟩
  rw [hd]
  go_wp2
  · go_returns
    exact ⟨rfl, gby_alloc (gby_refl _ _) _⟩
  · have hh : 8 ≤ (len : Int) ∧ ((len : Int) != 8 + 2 * x7) = false := by assumption
    exact absurd (by simpa using hh.2) hn

end Go.Proofs.Ytokpmbagidokkaa
