/-
  OWN TEXT: what the program says of int.
-/
import Derived.Test.YtlnadbnoemlpeaaRows
import Derived.Test.YtlnadbnoemlpeaaKit
namespace Go.Proofs.Ytlnadbnoemlpeaa
open Go.RowKit

theorem Try.infoInt : (Try.prog.info? 3).map (fun i => (i.zero, i.size, i.bytes)) = some (some (.int .i64 0), 1, 8) := by kernel_rfl

end Go.Proofs.Ytlnadbnoemlpeaa
