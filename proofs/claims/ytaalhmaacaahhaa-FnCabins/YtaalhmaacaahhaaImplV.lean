/-
  OWN TEXT: the contract of the program's isBy.
-/
import Derived.Test.YtaalhmaacaahhaaInI
namespace Go.Proofs.Ytaalhmaacaahhaa
open Go.RowKit

theorem isBy_is (x : Int) (w : World) :
    Calls Try.prog 155 #[.int .i64 x] w fun e w' => e = .returned (.bool (decide (In x 1 9999))) ∧ w' = w := by
  go_enter Try.func155, Try.ntmps155
  go_wp2_with (first | (go_at_call 87; refine (within_is _ _ _ _).mono ?_; rintro e w' ⟨rfl, rfl⟩))
  go_ret
  exact ⟨rfl, rfl⟩

end Go.Proofs.Ytaalhmaacaahhaa
