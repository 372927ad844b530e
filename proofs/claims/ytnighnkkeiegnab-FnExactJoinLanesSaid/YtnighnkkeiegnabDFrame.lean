/-
  Frame as data, and how it lies in cells.
-/
import Derived.Test.YtnighnkkeiegnabShp2
namespace Go.Proofs.Ytnighnkkeiegnab
open Go Go.RowKit

/-- a Frame -/
structure DFrame where
  f0 : Int
  f1 : List Int

instance : Inhabited DFrame := ⟨⟨0, []⟩⟩

def shFrame : Shp DFrame where
  n := 2
  rd w cs x := ∃ v1, cs = [.int .i64 x.f0, v1] ∧ RdL shI w v1 x.f1
  ow w lo hi cs x := ∃ v1, cs = [.int .i64 x.f0, v1] ∧ OwU w lo hi [] [own shI v1 x.f1]
  size x := szL shI x.f1
  ec x := 1 + ecL shI x.f1
  em m x := ⟨(m : Int), emL shI (m + 1) x.f1⟩
  c := 1 + shI.c
  len := by rintro w cs x ⟨v1, rfl, _⟩; rfl
  grow := by rintro w w' cs x ⟨v1, rfl, h1⟩ g; exact ⟨v1, rfl, h1.grow g⟩
  keep := by rintro w w' lo hi lo' hi' cs x ⟨v1, rfl, h⟩ g hd; exact ⟨v1, rfl, OwU.keep g hd h⟩
  read := by
    rintro w lo hi cs x ⟨v1, rfl, h⟩
    refine ⟨v1, rfl, ?_⟩
    · exact OwU.rd h
  ecb := by
    intro x
    have h1 := ecL_le shI x.f1
    have e1 := Nat.mul_le_mul_left shI.c (show szL shI x.f1 ≤ 1 + (szL shI x.f1) by omega)
    rw [Nat.add_mul]
    omega

end Go.Proofs.Ytnighnkkeiegnab
