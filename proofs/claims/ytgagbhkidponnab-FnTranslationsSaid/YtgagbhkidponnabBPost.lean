/-
  Trees, and truth values that say whether something holds.
-/
import Derived.Test.YtgagbhkidponnabTreeB
import Derived.Test.YtgagbhkidponnabBPost0
