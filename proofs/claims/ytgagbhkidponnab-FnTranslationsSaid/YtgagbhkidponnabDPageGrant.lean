/-
  PageGrant as data, and how it lies in cells.
-/
import Derived.Test.YtgagbhkidponnabShp2
namespace Go.Proofs.Ytgagbhkidponnab
open Go Go.RowKit

/-- a PageGrant -/
structure DPageGrant where
  f0 : Int
  f1 : Int
  f2 : Int
  f3 : Bool

instance : Inhabited DPageGrant := ⟨⟨0, 0, 0, false⟩⟩

def shPageGrant : Shp DPageGrant where
  n := 4
  rd _ cs x := cs = [.int .i64 x.f0, .int .i64 x.f1, .int .i64 x.f2, .bool x.f3]
  ow _ _ _ cs x := cs = [.int .i64 x.f0, .int .i64 x.f1, .int .i64 x.f2, .bool x.f3]
  size _ := 0
  ec _ := 4
  em m x := ⟨(m : Int), ((m + 1 : Nat) : Int), ((m + 2 : Nat) : Int), ((m + 3) % 3 == 0)⟩
  c := 4
  len := by rintro w cs x rfl; rfl
  grow := fun h _ => h
  keep := fun h _ _ => h
  read := fun h => h
  ecb := fun _ => by omega

end Go.Proofs.Ytgagbhkidponnab
