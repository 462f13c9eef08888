/-
  OWN TEXT: a region that draws its order and whose callees only make new memory: one walk, in the order of the text, at the class of all worlds that have grown out of the one ahead of it.
-/
import Derived.Test.YtogbaoggebghdaaKit
import Derived.BigQuiet
namespace Go.Proofs.Ytogbaoggebghdaa
open Go.RowKit

/-- A world that has grown out of W: nothing that was there is written. -/
structure Grown (W : World) where
  val : World
  bel : Below W.heap.size W val
instance (W : World) : Nonempty (Grown W) := ⟨⟨W, Below.refl _ _⟩⟩

theorem wp_region_grow {P : Program} {id : Nat} {Q : Exit → Act → World → Prop} {a : Act} {w : World} {l : List Oper} (hm : P.follows .mixedOrders = true) (hB : Region.lexB .any l.toArray = true)
    (h : wpQuiet P l.toArray (fun w' => ∃ g : Grown w, w' = g.val) (fun a' => ∀ w', (∃ g : Grown w, w' = g.val) → Q .normal a' w') l a) : (Code.region id l.toArray true).wp P Q a w :=
  wp_region_quiet (C := fun w' => ∃ g : Grown w, w' = g.val) hm hB ⟨⟨_, (Below.refl _ w).drew⟩, rfl⟩ (by simpa using h)

theorem grown_call {P : Program} {f : FuncId} {args : Array Value} {W : World} {g : Grown W} {v : Value}
    (h : Calls P f args g.val fun e w' => e = .returned v ∧ Below g.val.heap.size g.val w') : Calls P f args g.val fun e w'' => e = .returned v ∧ ∃ g' : Grown W, w'' = g'.val :=
  h.mono fun _ w' ⟨he, hb⟩ => ⟨he, ⟨w', after g.bel hb⟩, rfl⟩

end Go.Proofs.Ytogbaoggebghdaa
