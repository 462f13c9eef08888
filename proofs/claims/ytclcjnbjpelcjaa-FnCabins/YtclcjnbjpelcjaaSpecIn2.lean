/-
  OWN TEXT: contracts of spec.l1In, spec.l4By, in one word each.
-/
import Derived.Test.YtclcjnbjpelcjaaSpecIn
import Derived.Test.YtclcjnbjpelcjaaPlainS
namespace Go.Proofs.Ytclcjnbjpelcjaa
open Go.RowKit

theorem l1In_is (x lo hi : Int) (w : World) :
    Calls Try.prog 90 #[.int .i64 x, .int .i64 lo, .int .i64 hi] w fun e w' => e = .returned (.bool (decide (In x lo hi))) ∧ w' = w := by
  by_cases h : In x lo hi
  · rw [decide_eq_true h]; exact l1In_yes x lo hi w h.1 h.2
  · rw [decide_eq_false h]; exact l1In_no x lo hi w h

theorem l4By_is (x : Int) (w : World) :
    Calls Try.prog 105 #[.int .i64 x] w fun e w' => e = .returned (.bool (decide (In x 1 9999))) ∧ w' = w := by
  go_enter Try.func105, Try.ntmps105
  go_wp2_with (first | (go_at_call 90; refine (l1In_is _ _ _ _).mono ?_; rintro e w' ⟨rfl, rfl⟩))
  go_ret
  exact ⟨rfl, rfl⟩

end Go.Proofs.Ytclcjnbjpelcjaa
