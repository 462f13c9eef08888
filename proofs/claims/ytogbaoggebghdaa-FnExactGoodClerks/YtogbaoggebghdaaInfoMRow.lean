/-
  OWN TEXT: the type Row, as the program lays it.
-/
import Derived.Test.YtogbaoggebghdaaRows
import Derived.Test.YtogbaoggebghdaaKitMRow
namespace Go.Proofs.Ytogbaoggebghdaa
open Go.RowKit

theorem Try.infoRow : (Try.prog.info? 84).map (fun i => (i.zero, i.size, i.bytes)) = some (some (.agg #[.int .i64 0, .string ⟨#[]⟩, .int .i64 0, .int .i64 0, .int .i64 0]), 5, 48) := by kernel_rfl

end Go.Proofs.Ytogbaoggebghdaa
