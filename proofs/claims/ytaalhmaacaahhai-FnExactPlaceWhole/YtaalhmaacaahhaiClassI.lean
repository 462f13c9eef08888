/-
  OWN TEXT: contracts of the program's isClass and isBerths.
-/
import Derived.Test.YtaalhmaacaahhaiInI
namespace Go.Proofs.Ytaalhmaacaahhai
open Go.RowKit

/-- isClass: whether a cabin's class is one; the world is as it was. -/
theorem class_is (x : Int) (w : World) :
    Calls Try.prog 83 #[.int .i64 x] w fun e w' => e = .returned (.bool (decide (In x 1 3))) ∧ w' = w := by
  go_enter Try.func83, Try.ntmps83
  go_wp2_with (first | (go_at_call 67; refine (within_is _ _ _ _).mono ?_; rintro e w' ⟨rfl, hw'⟩; have hw' := hw'.symm; subst hw'))
  go_ret
  exact ⟨rfl, rfl⟩

/-- isBerths: whether a cabin may have so many; the world is as it was. -/
theorem berths_is (x : Int) (w : World) :
    Calls Try.prog 84 #[.int .i64 x] w fun e w' => e = .returned (.bool (decide (In x 1 4))) ∧ w' = w := by
  go_enter Try.func84, Try.ntmps84
  go_wp2_with (first | (go_at_call 67; refine (within_is _ _ _ _).mono ?_; rintro e w' ⟨rfl, hw'⟩; have hw' := hw'.symm; subst hw'))
  go_ret
  exact ⟨rfl, rfl⟩

end Go.Proofs.Ytaalhmaacaahhai
