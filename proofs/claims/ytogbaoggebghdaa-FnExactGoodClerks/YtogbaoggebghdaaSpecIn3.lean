/-
  OWN TEXT: the contract of spec.l1In, in one word.
-/
import Derived.Test.YtogbaoggebghdaaSpecIn
import Derived.Test.YtogbaoggebghdaaPlainS
namespace Go.Proofs.Ytogbaoggebghdaa
open Go.RowKit

theorem l1In_is (x lo hi : Int) (w : World) :
    Calls Try.prog 46 #[.int .i64 x, .int .i64 lo, .int .i64 hi] w fun e w' => e = .returned (.bool (decide (In x lo hi))) ∧ w' = w := by
  by_cases h : In x lo hi
  · rw [decide_eq_true h]; exact l1In_yes x lo hi w h.1 h.2
  · rw [decide_eq_false h]; exact l1In_no x lo hi w h

end Go.Proofs.Ytogbaoggebghdaa
