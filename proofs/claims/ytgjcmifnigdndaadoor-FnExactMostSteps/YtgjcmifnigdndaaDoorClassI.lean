/-
  OWN TEXT: contracts of the program's isClass and isBerths.
-/
import Derived.Test.YtgjcmifnigdndaaDoorInI
namespace Go.Proofs.YtgjcmifnigdndaaDoor
open Go.RowKit

/-- isClass: whether a cabin's class is one; the world is as it was. -/
theorem class_is (x : Int) (w : World) :
    Calls Tryd.prog 32 #[.int .i64 x] w fun e w' => e = .returned (.bool (decide (In x 1 3))) ∧ w' = w := by
  go_enter Tryd.func32, Tryd.ntmps32
  go_wp2_with (first | (go_at_call 21; refine (within_is _ _ _ _).mono ?_; rintro e w' ⟨rfl, hw'⟩; have hw' := hw'.symm; subst hw'))
  go_ret
  exact ⟨rfl, rfl⟩

/-- isBerths: whether a cabin may have so many; the world is as it was. -/
theorem berths_is (x : Int) (w : World) :
    Calls Tryd.prog 33 #[.int .i64 x] w fun e w' => e = .returned (.bool (decide (In x 1 4))) ∧ w' = w := by
  go_enter Tryd.func33, Tryd.ntmps33
  go_wp2_with (first | (go_at_call 21; refine (within_is _ _ _ _).mono ?_; rintro e w' ⟨rfl, hw'⟩; have hw' := hw'.symm; subst hw'))
  go_ret
  exact ⟨rfl, rfl⟩

end Go.Proofs.YtgjcmifnigdndaaDoor
