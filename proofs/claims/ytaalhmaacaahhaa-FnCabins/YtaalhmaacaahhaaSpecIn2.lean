/-
  OWN TEXT: the contract of spec.l4By, in one word.
-/
import Derived.Test.YtaalhmaacaahhaaSpecIn3
namespace Go.Proofs.Ytaalhmaacaahhaa
open Go.RowKit

theorem l4By_is (x : Int) (w : World) :
    Calls Try.prog 105 #[.int .i64 x] w fun e w' => e = .returned (.bool (decide (In x 1 9999))) ∧ w' = w := by
  go_enter Try.func105, Try.ntmps105
  go_wp2_with (first | (go_at_call 90; refine (l1In_is _ _ _ _).mono ?_; rintro e w' ⟨rfl, rfl⟩))
  go_ret
  exact ⟨rfl, rfl⟩

end Go.Proofs.Ytaalhmaacaahhaa
