/-
  OWN TEXT: the walk of laws.FnExactRefundOf: it returns true, and nothing that was there is written.
-/
import Derived.Test.YtaalhmaacaahhakSpecFf
import Derived.Test.YtaalhmaacaahhakRefundI
namespace Go.Proofs.Ytaalhmaacaahhak
open Go.RowKit

set_option maxHeartbeats 800000 in
theorem lawRefundOf (x y : Int) (w : World) :
    Calls Try.prog 3 #[.int .i64 x, .int .i64 y] w fun e w' => e = .returned (.bool true) ∧ Below w.heap.size w w' := by
  go_enter Try.func3, Try.ntmps3
  go_wp2_with fail
  refine (specRefund_is x y _).mono ?_
  rintro e w1 ⟨rfl, hb1⟩
  have b1 : Below w.heap.size w w1 := by rw [hb1]; exact Below.refl _ _
  clear hb1
  go_wp2_with fail
  refine (implRefund_any x y _).mono ?_
  rintro e w2 ⟨rfl, hb2⟩
  have b2 : Below w.heap.size w w2 := after b1 hb2
  clear hb2 b1
  go_wp2
  go_ret
  exact ⟨rfl, b2⟩

end Go.Proofs.Ytaalhmaacaahhak
