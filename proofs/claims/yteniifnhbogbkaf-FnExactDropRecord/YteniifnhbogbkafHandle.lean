/-
  OWN TEXT: the contract of laws.toHandle.
-/
import Derived.Test.YteniifnhbogbkafArena
namespace Go.Proofs.Yteniifnhbogbkaf
open Go.RowKit

set_option maxHeartbeats 400000 in
theorem toHandle_any (x a : Int) (w : World) :
    Calls Try.prog 10 #[.agg #[.int .i64 x, .int .i64 a]] w fun e w' => e = .returned (.agg #[.int .i64 x, .int .i64 a]) ∧ Below w.heap.size w w' := by
  go_enter Try.func10, Try.ntmps10
  go_wp2
  exact bodyPost_ret (v := .agg #[.int .i64 x, .int .i64 a]) (by simp [results, Try.results10, go_sem]) rfl ⟨rfl, push (push (push (Below.refl _ _) _) _) _⟩

end Go.Proofs.Yteniifnhbogbkaf
