/-
  OWN TEXT: contracts of the program's isTime and goodWhere.
-/
import Derived.Test.YtgjcmifnigdndaaDoorInI
import Derived.Deep.DeepCutAuto
namespace Go.Proofs.YtgjcmifnigdndaaDoor
open Go.RowKit

theorem isTime_is (x : Int) (w : World) :
    Calls Tryd.prog 25 #[.int .i64 x] w fun e w' => e = .returned (.bool (decide (In x 0 10000))) ∧ w' = w := by
  go_enter Tryd.func25, Tryd.ntmps25
  go_wp2_with (first | (go_at_call 21; refine (within_is _ _ _ _).mono ?_; rintro e w' ⟨rfl, rfl⟩))
  go_ret
  exact ⟨rfl, rfl⟩
theorem goodWhere_is (a b c : Bool) (w : World) :
    Calls Tryd.prog 22 #[.bool a, .bool b, .bool c] w fun e w' => e = .returned (.bool (if a then b else c)) ∧ w' = w := by
  cases a with
  | true =>
    go_enter Tryd.func22, Tryd.ntmps22
    go_wp2
    go_ret
    exact ⟨rfl, rfl⟩
  | false =>
    go_enter Tryd.func22, Tryd.ntmps22
    go_wp2
    go_ret
    exact ⟨rfl, rfl⟩

end Go.Proofs.YtgjcmifnigdndaaDoor
