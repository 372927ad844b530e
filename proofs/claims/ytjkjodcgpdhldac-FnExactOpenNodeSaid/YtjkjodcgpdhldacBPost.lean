/-
  Trees, and truth values that say whether something holds.
-/
import Derived.Test.YtjkjodcgpdhldacTreeB
import Derived.Test.YtjkjodcgpdhldacBPost0
