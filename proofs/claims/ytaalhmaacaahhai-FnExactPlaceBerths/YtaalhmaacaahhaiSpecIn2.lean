/-
  OWN TEXT: the contract of spec.l4By, in one word.
-/
import Derived.Test.YtaalhmaacaahhaiSpecIn3
namespace Go.Proofs.Ytaalhmaacaahhai
open Go.RowKit

theorem l4By_is (x : Int) (w : World) :
    Calls Try.prog 43 #[.int .i64 x] w fun e w' => e = .returned (.bool (decide (In x 1 9999))) ∧ w' = w := by
  go_enter Try.func43, Try.ntmps43
  go_wp2_with (first | (go_at_call 45; refine (l1In_is _ _ _ _).mono ?_; rintro e w' ⟨rfl, rfl⟩))
  go_ret
  exact ⟨rfl, rfl⟩

end Go.Proofs.Ytaalhmaacaahhai
