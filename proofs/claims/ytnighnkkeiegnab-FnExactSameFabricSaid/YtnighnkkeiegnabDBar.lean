/-
  Bar as data, and how it lies in cells.
-/
import Derived.Test.YtnighnkkeiegnabShp2
namespace Go.Proofs.Ytnighnkkeiegnab
open Go Go.RowKit

/-- a Bar -/
structure DBar where
  f0 : Int
  f1 : Int

instance : Inhabited DBar := ⟨⟨0, 0⟩⟩

def shBar : Shp DBar where
  n := 2
  rd _ cs x := cs = [.int .i64 x.f0, .int .i64 x.f1]
  ow _ _ _ cs x := cs = [.int .i64 x.f0, .int .i64 x.f1]
  size _ := 0
  ec _ := 2
  em m x := ⟨(m : Int), ((m + 1 : Nat) : Int)⟩
  c := 2
  len := by rintro w cs x rfl; rfl
  grow := fun h _ => h
  keep := fun h _ _ => h
  read := fun h => h
  ecb := fun _ => by omega

end Go.Proofs.Ytnighnkkeiegnab
