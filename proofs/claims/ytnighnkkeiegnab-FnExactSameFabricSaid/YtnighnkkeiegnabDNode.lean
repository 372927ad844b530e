/-
  Node as data, and how it lies in cells.
-/
import Derived.Test.YtnighnkkeiegnabShp2
namespace Go.Proofs.Ytnighnkkeiegnab
open Go Go.RowKit

/-- a Node -/
structure DNode where
  f0 : Int
  f1 : Int
  f2 : Int

instance : Inhabited DNode := ⟨⟨0, 0, 0⟩⟩

def shNode : Shp DNode where
  n := 3
  rd _ cs x := cs = [.int .i64 x.f0, .int .i64 x.f1, .int .i64 x.f2]
  ow _ _ _ cs x := cs = [.int .i64 x.f0, .int .i64 x.f1, .int .i64 x.f2]
  size _ := 0
  ec _ := 3
  em m x := ⟨(m : Int), ((m + 1 : Nat) : Int), ((m + 2 : Nat) : Int)⟩
  c := 3
  len := by rintro w cs x rfl; rfl
  grow := fun h _ => h
  keep := fun h _ _ => h
  read := fun h => h
  ecb := fun _ => by omega

end Go.Proofs.Ytnighnkkeiegnab
