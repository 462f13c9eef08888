/-
  OWN TEXT: the contract of spec.l1In, in one word.
-/
import Derived.Test.YtgjcmifnigdndaaDoorSpecIn
import Derived.Test.YtgjcmifnigdndaaDoorPlainS
namespace Go.Proofs.YtgjcmifnigdndaaDoor
open Go.RowKit

theorem l1In_is (x lo hi : Int) (w : World) :
    Calls Tryd.prog 16 #[.int .i64 x, .int .i64 lo, .int .i64 hi] w fun e w' => e = .returned (.bool (decide (In x lo hi))) ∧ w' = w := by
  by_cases h : In x lo hi
  · rw [decide_eq_true h]; exact l1In_yes x lo hi w h.1 h.2
  · rw [decide_eq_false h]; exact l1In_no x lo hi w h

end Go.Proofs.YtgjcmifnigdndaaDoor
