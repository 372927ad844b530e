/-
  Packet as data, and how it lies in cells.
-/
import Derived.Test.YtnighnkkeiegnaaShp2
namespace Go.Proofs.Ytnighnkkeiegnaa
open Go Go.RowKit

/-- a Packet -/
structure DPacket where
  f0 : Int
  f1 : Int
  f2 : Int
  f3 : Int
  f4 : Int
  f5 : Int
  f6 : Int
  f7 : List Int

instance : Inhabited DPacket := ⟨⟨0, 0, 0, 0, 0, 0, 0, []⟩⟩

def shPacket : Shp DPacket where
  n := 8
  rd w cs x := ∃ v7, cs = [.int .i64 x.f0, .int .i64 x.f1, .int .i64 x.f2, .int .i64 x.f3, .int .i64 x.f4, .int .i64 x.f5, .int .i64 x.f6, v7] ∧ RdL shI w v7 x.f7
  ow w lo hi cs x := ∃ v7, cs = [.int .i64 x.f0, .int .i64 x.f1, .int .i64 x.f2, .int .i64 x.f3, .int .i64 x.f4, .int .i64 x.f5, .int .i64 x.f6, v7] ∧ OwU w lo hi [] [own shI v7 x.f7]
  size x := szL shI x.f7
  ec x := 7 + ecL shI x.f7
  em m x := ⟨(m : Int), ((m + 1 : Nat) : Int), ((m + 2 : Nat) : Int), ((m + 3 : Nat) : Int), ((m + 4 : Nat) : Int), ((m + 5 : Nat) : Int), ((m + 6 : Nat) : Int), emL shI (m + 7) x.f7⟩
  c := 7 + shI.c
  len := by rintro w cs x ⟨v7, rfl, _⟩; rfl
  grow := by rintro w w' cs x ⟨v7, rfl, h7⟩ g; exact ⟨v7, rfl, h7.grow g⟩
  keep := by rintro w w' lo hi lo' hi' cs x ⟨v7, rfl, h⟩ g hd; exact ⟨v7, rfl, OwU.keep g hd h⟩
  read := by
    rintro w lo hi cs x ⟨v7, rfl, h⟩
    refine ⟨v7, rfl, ?_⟩
    · exact OwU.rd h
  ecb := by
    intro x
    have h7 := ecL_le shI x.f7
    have e7 := Nat.mul_le_mul_left shI.c (show szL shI x.f7 ≤ 1 + (szL shI x.f7) by omega)
    rw [Nat.add_mul]
    omega

end Go.Proofs.Ytnighnkkeiegnaa
