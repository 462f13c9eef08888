/-
  OWN TEXT: the table of the operations' forms: the cells that the program reads there.
-/
import Derived.Test.YtgjcmifnigdndaaDoorRows
import Derived.Test.YtgjcmifnigdndaaDoorKit
namespace Go.Proofs.YtgjcmifnigdndaaDoor
open Go.RowKit

def fOwner (k : Nat) : Bool := decide (k = 2 ∨ k = 3 ∨ k = 7)
def fName (k : Nat) : Bool := decide (4 ≤ k ∧ k ≤ 8)
def fLegs (k : Nat) : Int := if k = 1 ∨ k = 2 ∨ k = 3 ∨ k = 5 then 3 else if k = 9 then 1 else 0
def fParty (k : Nat) : Bool := decide (k = 1 ∨ k = 2 ∨ k = 3 ∨ k = 5)
def fUntil (k : Nat) : Bool := decide (k = 2)
def fNow (k : Nat) : Bool := decide (k = 6 ∨ k = 8)
def fFrees (k : Nat) : Bool := decide (k = 5 ∨ k = 6 ∨ k = 8)
/-- The table of the forms lies there as the program's text lays it. -/
def FormsAt (w : World) : Prop := ∀ k, k < 10 →
  w.cell? ⟨0, k * 7, none⟩ = some (.bool (fOwner k)) ∧ w.cell? ⟨0, k * 7 + 1, none⟩ = some (.bool (fName k)) ∧ w.cell? ⟨0, k * 7 + 2, none⟩ = some (.int .i64 (fLegs k)) ∧
  w.cell? ⟨0, k * 7 + 3, none⟩ = some (.bool (fParty k)) ∧ w.cell? ⟨0, k * 7 + 4, none⟩ = some (.bool (fUntil k)) ∧ w.cell? ⟨0, k * 7 + 5, none⟩ = some (.bool (fNow k)) ∧ w.cell? ⟨0, k * 7 + 6, none⟩ = some (.bool (fFrees k))
theorem FormsAt.lt {w : World} (h : FormsAt w) : 0 < w.heap.size := World.block_lt_of_cell? w _ (h 0 (by decide)).1
theorem FormsAt.below {w w' : World} (h : FormsAt w) (hb : Below w.heap.size w w') : FormsAt w' := by
  intro k hk
  obtain ⟨h0, h1, h2, h3, h4, h5, h6⟩ := h k hk
  have hl := h.lt
  exact ⟨(hb.cell hl).trans h0, (hb.cell hl).trans h1, (hb.cell hl).trans h2, (hb.cell hl).trans h3, (hb.cell hl).trans h4, (hb.cell hl).trans h5, (hb.cell hl).trans h6⟩

end Go.Proofs.YtgjcmifnigdndaaDoor
