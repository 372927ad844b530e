/-
  Trees, and truth values that say whether something holds.
-/
import Derived.Test.YtdddidnibelmhaaTreeB
import Derived.Test.YtdddidnibelmhaaBPost0
