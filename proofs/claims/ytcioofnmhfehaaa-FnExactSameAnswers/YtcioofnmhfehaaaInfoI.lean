/-
  OWN TEXT: what the program says of int.
-/
import Derived.Test.YtcioofnmhfehaaaRows
import Derived.Test.YtcioofnmhfehaaaKit
namespace Go.Proofs.Ytcioofnmhfehaaa
open Go.RowKit

theorem Try.infoInt : (Try.prog.info? 3).map (fun i => (i.zero, i.size, i.bytes)) = some (some (.int .i64 0), 1, 8) := by kernel_rfl

end Go.Proofs.Ytcioofnmhfehaaa
