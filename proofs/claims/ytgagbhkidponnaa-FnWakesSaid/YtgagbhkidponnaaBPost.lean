/-
  Trees, and truth values that say whether something holds.
-/
import Derived.Test.YtgagbhkidponnaaTreeB
import Derived.Test.YtgagbhkidponnaaBPost0
