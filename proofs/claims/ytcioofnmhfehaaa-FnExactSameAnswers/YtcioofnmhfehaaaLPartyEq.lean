/-
  OWN TEXT: the contract of the laws' helper eqParty at two parties that are one.
-/
import Derived.Test.YtcioofnmhfehaaaLParty
namespace Go.Proofs.Ytcioofnmhfehaaa
open Go.RowKit

set_option maxHeartbeats 400000 in
theorem eqParty_same (pe len hei cl : Int) (all : Bool) (be : Int) (w : World) :
    Calls Try.prog 41 #[.agg #[.int .i64 pe, .int .i64 len, .int .i64 hei, .int .i64 cl, .bool all, .int .i64 be], .agg #[.int .i64 pe, .int .i64 len, .int .i64 hei, .int .i64 cl, .bool all, .int .i64 be]] w fun e w' => e = .returned (.bool true) ∧ Below w.heap.size w w' := by
  go_enter Try.func41, Try.ntmps41
  go_wp2
  go_ret
  exact ⟨rfl, push (push (Below.refl _ _) _) _⟩

end Go.Proofs.Ytcioofnmhfehaaa
