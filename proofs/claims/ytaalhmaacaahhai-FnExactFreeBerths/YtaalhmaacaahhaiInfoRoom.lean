/-
  OWN TEXT: the type Room, as the program lays it.
-/
import Derived.Test.YtaalhmaacaahhaiRows
import Derived.Test.YtaalhmaacaahhaiKitRoom
namespace Go.Proofs.Ytaalhmaacaahhai
open Go.RowKit

theorem Try.infoRoom : (Try.prog.info? 86).map (fun i => (i.zero, i.size, i.bytes)) = some (some (.agg #[.int .i64 0, .int .i64 0, .int .i64 0, .bool false]), 4, 32) := by kernel_rfl

end Go.Proofs.Ytaalhmaacaahhai
