/-
  OWN TEXT: what the program says of int.
-/
import Derived.Test.YtgjcmifnigdndaaDoorRows
import Derived.Test.YtgjcmifnigdndaaDoorKit
namespace Go.Proofs.YtgjcmifnigdndaaDoor
open Go.RowKit

theorem Tryd.infoInt : (Tryd.prog.info? 3).map (fun i => (i.zero, i.size, i.bytes)) = some (some (.int .i64 0), 1, 8) := by kernel_rfl

end Go.Proofs.YtgjcmifnigdndaaDoor
