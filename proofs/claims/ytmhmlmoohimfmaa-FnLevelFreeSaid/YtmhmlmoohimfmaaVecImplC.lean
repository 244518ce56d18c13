/-
  The contracts of the program's own functions of chapter 2, all but the directions'.
-/
import Derived.Test.YtmhmlmoohimfmaaVecImplL
