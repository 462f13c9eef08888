/-
  OWN TEXT: the type Stay, as the program lays it.
-/
import Derived.Test.YtaalhmaacaahhaaRows
import Derived.Test.YtaalhmaacaahhaaKitStay
namespace Go.Proofs.Ytaalhmaacaahhaa
open Go.RowKit

theorem Try.infoStay : (Try.prog.info? 72).map (fun i => (i.zero, i.size, i.bytes)) = some (some (.agg #[.int .i64 0, .int .i64 0, .int .i64 0, .int .i64 0]), 4, 32) := by kernel_rfl

end Go.Proofs.Ytaalhmaacaahhaa
