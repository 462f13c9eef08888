/-
  OWN TEXT: words for what SetRecord and DropRecord of the program answer.
-/
import Derived.Test.YtclcjnbjpelcjaaSpecSetK
import Derived.Test.YtclcjnbjpelcjaaMarkSlotsK
namespace Go.Proofs.Ytclcjnbjpelcjaa
open Go.RowKit

theorem Kept.drew {w w' : World} {S : Nat → Prop} (h : Kept w w' S) : Kept w w'.drew S := ⟨h.os, h.tape, h.output, h.size, h.block⟩

/-- The lists of an answer, owned. -/
def OutOwned (w : World) (base : Nat) (v1 v2 : Value) (o : Out) : Prop :=
  w.ownsRow base 106 3 v1 o.n (slotList o.A o.U o.V o.n) ∧ w.ownsRow base 3 1 v2 o.m (intList o.F o.m)

end Go.Proofs.Ytclcjnbjpelcjaa
