/-
  OWN TEXT: the contract of the laws' toParty.
-/
import Derived.Test.YtcioofnmhfehaaaRows
import Derived.Test.YtcioofnmhfehaaaKit2
import Derived.Test.YtcioofnmhfehaaaPlainS
import Derived.Test.YtcioofnmhfehaaaPlainFa
import Derived.Test.YtcioofnmhfehaaaKitG
import Derived.Deep.DeepCutAuto
namespace Go.Proofs.Ytcioofnmhfehaaa
open Go.RowKit

set_option maxHeartbeats 400000 in
theorem toParty_any (pe len hei cl : Int) (all : Bool) (be : Int) (w : World) :
    Calls Try.prog 40 #[.agg #[.int .i64 pe, .int .i64 len, .int .i64 hei, .int .i64 cl, .bool all, .int .i64 be]] w fun e w' => e = .returned (.agg #[.int .i64 pe, .int .i64 len, .int .i64 hei, .int .i64 cl, .bool all, .int .i64 be]) ∧ Below w.heap.size w w' := by
  go_enter Try.func40, Try.ntmps40
  go_wp2
  exact bodyPost_ret (v := .agg #[.int .i64 pe, .int .i64 len, .int .i64 hei, .int .i64 cl, .bool all, .int .i64 be]) (by simp [results, Try.results40, go_sem]) rfl ⟨rfl, push (push (push (Below.refl _ _) _) _) _⟩

end Go.Proofs.Ytcioofnmhfehaaa
