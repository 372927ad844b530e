/-
  Packets as data: IsPacket, ClassOf, PacketUnits on both sides.
-/
import Derived.Test.YtomiicegkdogkaaPass
import Derived.Deep.RegionHeld3
import Derived.Test.YtomiicegkdogkaaShp2
import Derived.Test.YtomiicegkdogkaaQPacket
namespace Go.Proofs.Ytomiicegkdogkaa
open Go Go.RowKit
set_option linter.unusedVariables false

theorem implPk_yes (W : World) {k f t a l g s : Int} (d : Option Addr) (n c : Nat) {xs : List Int} {ca : Int} (q : ClsOf k f t a l g s xs ca) (h : 0 ≤ ca) (H : ISl W d n xs) (hl : n ≤ 1048576) :
    Calls Try.prog 30 #[pkV k f t a l g s d n c] W (AnsG (.bool true) W) := by
  have := implPk_cls W d n c q H hl
  rwa [show decide (0 ≤ ca) = true from decide_eq_true h] at this

theorem implPk_no (W : World) {k f t a l g s : Int} (d : Option Addr) (n c : Nat) {xs : List Int} {ca : Int} (q : ClsOf k f t a l g s xs ca) (h : ca < 0) (H : ISl W d n xs) (hl : n ≤ 1048576) :
    Calls Try.prog 30 #[pkV k f t a l g s d n c] W (AnsG (.bool false) W) := by
  have := implPk_cls W d n c q H hl
  rwa [show decide (0 ≤ ca) = false from decide_eq_false (by omega)] at this

end Go.Proofs.Ytomiicegkdogkaa

namespace Go.Proofs.Ytomiicegkdogkaa
open Go Go.RowKit

/-- a Packet -/
structure DPacket where
  f0 : Int
  f1 : Int
  f2 : Int
  f3 : Int
  f4 : Int
  f5 : Int
  f6 : Int
  f7 : List Int

instance : Inhabited DPacket := ⟨⟨0, 0, 0, 0, 0, 0, 0, []⟩⟩

def shPacket : Shp DPacket where
  n := 8
  rd w cs x := ∃ v7, cs = [.int .i64 x.f0, .int .i64 x.f1, .int .i64 x.f2, .int .i64 x.f3, .int .i64 x.f4, .int .i64 x.f5, .int .i64 x.f6, v7] ∧ RdL shI w v7 x.f7
  ow w lo hi cs x := ∃ v7, cs = [.int .i64 x.f0, .int .i64 x.f1, .int .i64 x.f2, .int .i64 x.f3, .int .i64 x.f4, .int .i64 x.f5, .int .i64 x.f6, v7] ∧ OwU w lo hi [] [own shI v7 x.f7]
  size x := szL shI x.f7
  ec x := 7 + ecL shI x.f7
  em m x := ⟨(m : Int), ((m + 1 : Nat) : Int), ((m + 2 : Nat) : Int), ((m + 3 : Nat) : Int), ((m + 4 : Nat) : Int), ((m + 5 : Nat) : Int), ((m + 6 : Nat) : Int), emL shI (m + 7) x.f7⟩
  c := 7 + shI.c
  len := by rintro w cs x ⟨v7, rfl, _⟩; rfl
  grow := by rintro w w' cs x ⟨v7, rfl, h7⟩ g; exact ⟨v7, rfl, h7.grow g⟩
  keep := by rintro w w' lo hi lo' hi' cs x ⟨v7, rfl, h⟩ g hd; exact ⟨v7, rfl, OwU.keep g hd h⟩
  read := by
    rintro w lo hi cs x ⟨v7, rfl, h⟩
    refine ⟨v7, rfl, ?_⟩
    · exact OwU.rd h
  ecb := by
    intro x
    have h7 := ecL_le shI x.f7
    have e7 := Nat.mul_le_mul_left shI.c (show szL shI x.f7 ≤ 1 + (szL shI x.f7) by omega)
    rw [Nat.add_mul]
    omega

end Go.Proofs.Ytomiicegkdogkaa

namespace Go.Proofs.Ytomiicegkdogkaa
open Go Go.RowKit

instance (k f t a l g s : Int) (xs : List Int) : Decidable (PkOk k f t a l g s xs) := by
  unfold PkOk KindOk W1 W2 W3 W4 W5 W6 WC
  infer_instance

/-- the class of a packet, -1 of one that is not valid -/
def clsD (p : DPacket) : Int := if PkOk p.f0 p.f1 p.f2 p.f3 p.f4 p.f5 p.f6 p.f7 then clsI p.f0 else -1
/-- the units of a valid packet -/
def untD (p : DPacket) : Int := ((p.f7.length + 3) / 4 : Nat)
theorem clsD_of (p : DPacket) : ClsOf p.f0 p.f1 p.f2 p.f3 p.f4 p.f5 p.f6 p.f7 (clsD p) := by
  unfold clsD
  by_cases h : PkOk p.f0 p.f1 p.f2 p.f3 p.f4 p.f5 p.f6 p.f7
  · rw [if_pos h]; exact .inl ⟨h, rfl⟩
  · rw [if_neg h]; exact .inr ⟨h, rfl⟩
theorem clsD_rng (p : DPacket) : -1 ≤ clsD p ∧ clsD p ≤ 2 := (clsD_of p).rng
theorem clsD_ok (p : DPacket) (h : 0 ≤ clsD p) : PkOk p.f0 p.f1 p.f2 p.f3 p.f4 p.f5 p.f6 p.f7 := by
  rcases clsD_of p with ⟨q, _⟩ | ⟨_, q⟩
  · exact q
  · omega

theorem specClsD (W : World) (p : DPacket) (v : Value) (H : RdL shI W v p.f7) (hl : szL shI p.f7 ≤ 1048576) :
    Calls Try.prog 84 #[vPacket p.f0 p.f1 p.f2 p.f3 p.f4 p.f5 p.f6 v] W (AnsN (.int .i64 (clsD p)) W) := by
  rw [szL_I] at hl
  obtain ⟨a, cap, rfl, hi, _⟩ := rdI_in H
  exact specCls_any W a _ cap (clsD_of p) hi hl

theorem implClsD (W : World) (p : DPacket) (v : Value) (H : RdL shI W v p.f7) (hl : szL shI p.f7 ≤ 1048576) :
    Calls Try.prog 125 #[vPacket p.f0 p.f1 p.f2 p.f3 p.f4 p.f5 p.f6 v] W (AnsN (.int .i64 (clsD p)) W) := by
  rw [szL_I] at hl
  obtain ⟨a, cap, rfl, hi, _⟩ := rdI_in H
  exact implCls_any W a _ cap (clsD_of p) hi hl

theorem specPkD (W : World) (p : DPacket) (v : Value) (H : RdL shI W v p.f7) (hl : szL shI p.f7 ≤ 1048576) (b : Bool) (hb : b = decide (0 ≤ clsD p)) :
    Calls Try.prog 122 #[vPacket p.f0 p.f1 p.f2 p.f3 p.f4 p.f5 p.f6 v] W (AnsN (.bool b) W) := by
  rw [szL_I] at hl
  obtain ⟨a, cap, rfl, hi, _⟩ := rdI_in H
  rw [hb]
  exact specPk_cls W a _ cap (clsD_of p) hi hl

theorem implPkD (W : World) (p : DPacket) (v : Value) (H : RdL shI W v p.f7) (hl : szL shI p.f7 ≤ 1048576) (b : Bool) (hb : b = decide (0 ≤ clsD p)) :
    Calls Try.prog 30 #[vPacket p.f0 p.f1 p.f2 p.f3 p.f4 p.f5 p.f6 v] W (AnsN (.bool b) W) := by
  rw [szL_I] at hl
  obtain ⟨a, cap, rfl, hi, _⟩ := rdI_in H
  rw [hb]
  exact implPk_cls W a _ cap (clsD_of p) hi hl

theorem specUntD (W : World) (p : DPacket) (v : Value) (H : RdL shI W v p.f7) (hl : szL shI p.f7 ≤ 1048576) (h0 : 0 ≤ clsD p) :
    Calls Try.prog 85 #[vPacket p.f0 p.f1 p.f2 p.f3 p.f4 p.f5 p.f6 v] W (AnsN (.int .i64 (untD p)) W) := by
  rw [szL_I] at hl
  obtain ⟨a, cap, rfl, hi, _⟩ := rdI_in H
  exact specPacketUnits_in p.f0 W p.f1 p.f2 p.f3 p.f4 p.f5 p.f6 a _ cap p.f7 hi hl (clsD_ok p h0)

theorem implUntD (W : World) (p : DPacket) (v : Value) (H : RdL shI W v p.f7) (hl : szL shI p.f7 ≤ 1048576) (h0 : 0 ≤ clsD p) :
    Calls Try.prog 126 #[vPacket p.f0 p.f1 p.f2 p.f3 p.f4 p.f5 p.f6 v] W (AnsN (.int .i64 (untD p)) W) := by
  rw [szL_I] at hl
  obtain ⟨a, cap, rfl, hi, _⟩ := rdI_in H
  exact implPacketUnits_in p.f0 W p.f1 p.f2 p.f3 p.f4 p.f5 p.f6 a _ cap p.f7 hi hl (clsD_ok p h0)

end Go.Proofs.Ytomiicegkdogkaa
