/-
  OWN TEXT: the type Room, as the program lays it.
-/
import Derived.Test.YtaalhmaacaahhaaRows
import Derived.Test.YtaalhmaacaahhaaKitRoom
namespace Go.Proofs.Ytaalhmaacaahhaa
open Go.RowKit

theorem Try.infoRoom : (Try.prog.info? 174).map (fun i => (i.zero, i.size, i.bytes)) = some (some (.agg #[.int .i64 0, .int .i64 0, .int .i64 0, .bool false]), 4, 32) := by kernel_rfl

end Go.Proofs.Ytaalhmaacaahhaa
