/-
  OWN TEXT: KitSh.
-/
import Derived.Test.YtfbooamjddnagaaDoorRows
import Derived.Test.YtfbooamjddnagaaDoorB02
namespace Go.Proofs.YtfbooamjddnagaaDoor
open Go.RowKit

def ShortS (s : Sail) (B : Nat) : Prop := s.fr.size ≤ B ∧ s.dst.size ≤ B ∧ s.la.n ≤ B ∧ s.ca.n ≤ B
def ShortAll (N : Nat) (S : Nat → Sail) (B : Nat) : Prop := ∀ i, i < N → ShortS (S i) B
theorem Tryd.infoLane : (Tryd.prog.info? 89).map (fun i => (i.zero, i.size, i.bytes)) = some (some (.agg #[.int .i64 0, .int .i64 0]), 2, 16) := by kernel_rfl
theorem Tryd.infoCabin : (Tryd.prog.info? 91).map (fun i => (i.zero, i.size, i.bytes)) = some (some (.agg #[.int .i64 0, .int .i64 0]), 2, 16) := by kernel_rfl
theorem Tryd.infoSailing : (Tryd.prog.info? 49).map (fun i => (i.zero, i.size, i.bytes)) = some (some (.agg #[.int .i64 0, .string ⟨#[]⟩, .string ⟨#[]⟩, .int .i64 0, .int .i64 0, .slice none 0 0, .slice none 0 0, .int .i64 0]), 8, 112) := by kernel_rfl

end Go.Proofs.YtfbooamjddnagaaDoor
