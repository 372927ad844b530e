/-
  Trees, and truth values that say whether something holds.
-/
import Derived.Test.YtodfbodagjmfmabTreeB
import Derived.Test.YtodfbodagjmfmabBPost0
