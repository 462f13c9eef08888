/-
  OWN TEXT: what the program says of impl.Slot.
-/
import Derived.Test.YtclcjnbjpelcjaaRows
import Derived.Test.YtclcjnbjpelcjaaKit
namespace Go.Proofs.Ytclcjnbjpelcjaa
open Go.RowKit

theorem Try.infoSlot : (Try.prog.info? 106).map (fun i => (i.zero, i.size, i.bytes)) = some (some (.agg #[.int .i64 0, .bool false, .int .i64 0]), 3, 24) := by kernel_rfl

end Go.Proofs.Ytclcjnbjpelcjaa
