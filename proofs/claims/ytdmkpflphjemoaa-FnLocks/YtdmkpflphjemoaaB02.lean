/-
  OWN TEXT: LAsk0, LLock0.
-/
import Derived.Test.YtdmkpflphjemoaaRows
import Derived.Deep.RegionHeld3
import Derived.Test.YtdmkpflphjemoaaB01
namespace Go.Proofs.Ytdmkpflphjemoaa
open Go.RowKit

theorem Try.infoAsked : (Try.prog.info? 57).map (fun i => (i.zero, i.size, i.bytes)) = some (some (.agg #[.int .i64 0, .bool false]), 2, 16) := by kernel_rfl

end Go.Proofs.Ytdmkpflphjemoaa

namespace Go.Proofs.Ytdmkpflphjemoaa
open Go.RowKit

/-- The lines are short enough to be told. -/
def ShortTo (k : Nat) (H Q : Nat → Line) (B : Nat) : Prop := ∀ i, i < k → (H i).n ≤ B ∧ (Q i).n ≤ B

theorem Try.infoLock : (Try.prog.info? 60).map (fun i => (i.zero, i.size, i.bytes)) = some (some (.agg #[.int .i64 0, .slice none 0 0, .slice none 0 0]), 3, 56) := by kernel_rfl

end Go.Proofs.Ytdmkpflphjemoaa
