/-
  OWN TEXT: the contract of the program's isBy.
-/
import Derived.Test.YtaalhmaacaahhaiInI
namespace Go.Proofs.Ytaalhmaacaahhai
open Go.RowKit

theorem isBy_is (x : Int) (w : World) :
    Calls Try.prog 76 #[.int .i64 x] w fun e w' => e = .returned (.bool (decide (In x 1 9999))) ∧ w' = w := by
  go_enter Try.func76, Try.ntmps76
  go_wp2_with (first | (go_at_call 67; refine (within_is _ _ _ _).mono ?_; rintro e w' ⟨rfl, rfl⟩))
  go_ret
  exact ⟨rfl, rfl⟩

end Go.Proofs.Ytaalhmaacaahhai
