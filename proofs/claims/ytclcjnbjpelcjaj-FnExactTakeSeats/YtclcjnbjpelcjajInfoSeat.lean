/-
  OWN TEXT: the type Seat, as the program lays it.
-/
import Derived.Test.YtclcjnbjpelcjajRows
import Derived.Test.YtclcjnbjpelcjajKitSeat
namespace Go.Proofs.Ytclcjnbjpelcjaj
open Go.RowKit

theorem Try.infoSeat : (Try.prog.info? 35).map (fun i => (i.zero, i.size, i.bytes)) = some (some (.agg #[.int .i64 0, .int .i64 0]), 2, 16) := by kernel_rfl

end Go.Proofs.Ytclcjnbjpelcjaj
