/-
  More contracts of the program's own functions of chapter 2.
-/
import Derived.Test.YtmhmlmoohimfmaaVecImplB
namespace Go.Proofs.Ytmhmlmoohimfmaa
open Go.RowKit
open M

/-- The contract of coordinateOk with its answer given. -/
theorem implCoord' (n : Int) (b : Bool) (w : World) (h : inB n (-1000000) 1000000 = b) : Calls Try.prog 48 #[.int .i64 n] w fun e w' => e = .returned (.bool b) ∧ w = w' := by
  subst h
  exact implCoord n w

end Go.Proofs.Ytmhmlmoohimfmaa
