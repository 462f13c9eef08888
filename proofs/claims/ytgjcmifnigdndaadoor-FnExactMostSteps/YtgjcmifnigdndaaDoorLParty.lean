/-
  OWN TEXT: the contract of the laws' toParty.
-/
import Derived.Test.YtgjcmifnigdndaaDoorSpecIn3
import Derived.Test.YtgjcmifnigdndaaDoorPlainFa
import Derived.Test.YtgjcmifnigdndaaDoorKitG
import Derived.Deep.DeepCutAuto
namespace Go.Proofs.YtgjcmifnigdndaaDoor
open Go.RowKit

set_option maxHeartbeats 400000 in
theorem toParty_any (pe len hei cl : Int) (all : Bool) (be : Int) (w : World) :
    Calls Tryd.prog 12 #[.agg #[.int .i64 pe, .int .i64 len, .int .i64 hei, .int .i64 cl, .bool all, .int .i64 be]] w fun e w' => e = .returned (.agg #[.int .i64 pe, .int .i64 len, .int .i64 hei, .int .i64 cl, .bool all, .int .i64 be]) ∧ Below w.heap.size w w' := by
  go_enter Tryd.func12, Tryd.ntmps12
  go_wp2
  exact bodyPost_ret (v := .agg #[.int .i64 pe, .int .i64 len, .int .i64 hei, .int .i64 cl, .bool all, .int .i64 be]) (by simp [results, Tryd.results12, go_sem]) rfl ⟨rfl, push (push (push (Below.refl _ _) _) _) _⟩

end Go.Proofs.YtgjcmifnigdndaaDoor
