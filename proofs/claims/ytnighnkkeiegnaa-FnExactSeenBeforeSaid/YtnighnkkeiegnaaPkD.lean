/-
  Packets as data: IsPacket, ClassOf, PacketUnits on both sides.
-/
import Derived.Test.YtnighnkkeiegnaaPassImpl
import Derived.Test.YtnighnkkeiegnaaQPacket
import Derived.Test.YtnighnkkeiegnaaDPacket
namespace Go.Proofs.Ytnighnkkeiegnaa
open Go Go.RowKit

instance (k f t a l g s : Int) (xs : List Int) : Decidable (PkOk k f t a l g s xs) := by
  unfold PkOk KindOk W1 W2 W3 W4 W5 W6 WC
  infer_instance

/-- the class of a packet, -1 of one that is not valid -/
def clsD (p : DPacket) : Int := if PkOk p.f0 p.f1 p.f2 p.f3 p.f4 p.f5 p.f6 p.f7 then clsI p.f0 else -1
/-- the units of a valid packet -/
def untD (p : DPacket) : Int := ((p.f7.length + 3) / 4 : Nat)
theorem clsD_of (p : DPacket) : ClsOf p.f0 p.f1 p.f2 p.f3 p.f4 p.f5 p.f6 p.f7 (clsD p) := by
  unfold clsD
  by_cases h : PkOk p.f0 p.f1 p.f2 p.f3 p.f4 p.f5 p.f6 p.f7
  · rw [if_pos h]; exact .inl ⟨h, rfl⟩
  · rw [if_neg h]; exact .inr ⟨h, rfl⟩
theorem clsD_rng (p : DPacket) : -1 ≤ clsD p ∧ clsD p ≤ 2 := (clsD_of p).rng
theorem clsD_ok (p : DPacket) (h : 0 ≤ clsD p) : PkOk p.f0 p.f1 p.f2 p.f3 p.f4 p.f5 p.f6 p.f7 := by
  rcases clsD_of p with ⟨q, _⟩ | ⟨_, q⟩
  · exact q
  · omega

theorem specClsD (W : World) (p : DPacket) (v : Value) (H : RdL shI W v p.f7) (hl : szL shI p.f7 ≤ 1048576) :
    Calls Try.prog 75 #[vPacket p.f0 p.f1 p.f2 p.f3 p.f4 p.f5 p.f6 v] W (AnsN (.int .i64 (clsD p)) W) := by
  rw [szL_I] at hl
  obtain ⟨a, cap, rfl, hi, _⟩ := rdI_in H
  exact specCls_any W a _ cap (clsD_of p) hi hl

theorem implClsD (W : World) (p : DPacket) (v : Value) (H : RdL shI W v p.f7) (hl : szL shI p.f7 ≤ 1048576) :
    Calls Try.prog 113 #[vPacket p.f0 p.f1 p.f2 p.f3 p.f4 p.f5 p.f6 v] W (AnsN (.int .i64 (clsD p)) W) := by
  rw [szL_I] at hl
  obtain ⟨a, cap, rfl, hi, _⟩ := rdI_in H
  exact implCls_any W a _ cap (clsD_of p) hi hl

theorem specPkD (W : World) (p : DPacket) (v : Value) (H : RdL shI W v p.f7) (hl : szL shI p.f7 ≤ 1048576) (b : Bool) (hb : b = decide (0 ≤ clsD p)) :
    Calls Try.prog 98 #[vPacket p.f0 p.f1 p.f2 p.f3 p.f4 p.f5 p.f6 v] W (AnsN (.bool b) W) := by
  rw [szL_I] at hl
  obtain ⟨a, cap, rfl, hi, _⟩ := rdI_in H
  rw [hb]
  exact specPk_cls W a _ cap (clsD_of p) hi hl

theorem implPkD (W : World) (p : DPacket) (v : Value) (H : RdL shI W v p.f7) (hl : szL shI p.f7 ≤ 1048576) (b : Bool) (hb : b = decide (0 ≤ clsD p)) :
    Calls Try.prog 107 #[vPacket p.f0 p.f1 p.f2 p.f3 p.f4 p.f5 p.f6 v] W (AnsN (.bool b) W) := by
  rw [szL_I] at hl
  obtain ⟨a, cap, rfl, hi, _⟩ := rdI_in H
  rw [hb]
  exact implPk_cls W a _ cap (clsD_of p) hi hl

theorem specUntD (W : World) (p : DPacket) (v : Value) (H : RdL shI W v p.f7) (hl : szL shI p.f7 ≤ 1048576) (h0 : 0 ≤ clsD p) :
    Calls Try.prog 76 #[vPacket p.f0 p.f1 p.f2 p.f3 p.f4 p.f5 p.f6 v] W (AnsN (.int .i64 (untD p)) W) := by
  rw [szL_I] at hl
  obtain ⟨a, cap, rfl, hi, _⟩ := rdI_in H
  exact specPacketUnits_in p.f0 W p.f1 p.f2 p.f3 p.f4 p.f5 p.f6 a _ cap p.f7 hi hl (clsD_ok p h0)

theorem implUntD (W : World) (p : DPacket) (v : Value) (H : RdL shI W v p.f7) (hl : szL shI p.f7 ≤ 1048576) (h0 : 0 ≤ clsD p) :
    Calls Try.prog 117 #[vPacket p.f0 p.f1 p.f2 p.f3 p.f4 p.f5 p.f6 v] W (AnsN (.int .i64 (untD p)) W) := by
  rw [szL_I] at hl
  obtain ⟨a, cap, rfl, hi, _⟩ := rdI_in H
  exact implPacketUnits_in p.f0 W p.f1 p.f2 p.f3 p.f4 p.f5 p.f6 a _ cap p.f7 hi hl (clsD_ok p h0)

end Go.Proofs.Ytnighnkkeiegnaa
