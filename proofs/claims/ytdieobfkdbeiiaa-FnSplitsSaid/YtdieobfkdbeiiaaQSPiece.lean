/-
  Slices of Piece, on the law's side: measured, copied, compared, marked, held.
-/
import Derived.Test.YtdieobfkdbeiiaaShpI
import Derived.Test.YtdieobfkdbeiiaaQPiece
import Derived.Test.YtdieobfkdbeiiaaDPiece
import Derived.Test.YtdieobfkdbeiiaaGreg
import Derived.Deep.RegionHeld3
namespace Go.Proofs.Ytdieobfkdbeiiaa
open Go Go.RowKit
set_option linter.unusedVariables false

set_option maxRecDepth 100000 in
theorem infoPieceS : (Try.prog.info? 53).map (fun i => (i.zero, i.size, i.bytes)) = some (some (.agg #[.int .i64 0, .int .i64 0]), 2, 16) := by kernel_rfl

end Go.Proofs.Ytdieobfkdbeiiaa
