/-
  What the quotient and the square root of chapter 1 return, in the program and in the model, at every argument: the contracts.
-/
import Derived.Test.YtokmkgbmigcjnaaFix
namespace Go.Proofs.Ytokmkgbmigcjnaa
open Go.RowKit
open M

end Go.Proofs.Ytokmkgbmigcjnaa
