/-
  Trees, and truth values that say whether something holds.
-/
import Derived.Test.YtodfbodagjmfmacTreeB
import Derived.Test.YtodfbodagjmfmacBPost0
