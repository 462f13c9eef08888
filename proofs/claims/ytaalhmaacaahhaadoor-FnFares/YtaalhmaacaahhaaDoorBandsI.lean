/-
  OWN TEXT: words for the table of a car's bands and that of the berths' fares: the cells that the program reads there.
-/
import Derived.Test.YtaalhmaacaahhaaDoorRows
import Derived.Test.YtaalhmaacaahhaaDoorKit
namespace Go.Proofs.YtaalhmaacaahhaaDoor
open Go.RowKit

/-- The table of a car's bands lies there as the program's text lays it. -/
def BandsAt (w : World) : Prop :=
  w.cell? ⟨1, 0, none⟩ = some (.int .i64 0) ∧ w.cell? ⟨1, 1, none⟩ = some (.int .i64 60) ∧
  w.cell? ⟨1, 2, none⟩ = some (.int .i64 450) ∧ w.cell? ⟨1, 3, none⟩ = some (.int .i64 30) ∧
  w.cell? ⟨1, 4, none⟩ = some (.int .i64 600) ∧ w.cell? ⟨1, 5, none⟩ = some (.int .i64 25)
theorem BandsAt.below {w w' : World} (h : BandsAt w) (hb : Below w.heap.size w w') : BandsAt w' := by
  obtain ⟨h0, h1, h2, h3, h4, h5⟩ := h
  exact ⟨(hb.cell (World.block_lt_of_cell? w _ h0)).trans h0, (hb.cell (World.block_lt_of_cell? w _ h1)).trans h1, (hb.cell (World.block_lt_of_cell? w _ h2)).trans h2, (hb.cell (World.block_lt_of_cell? w _ h3)).trans h3, (hb.cell (World.block_lt_of_cell? w _ h4)).trans h4, (hb.cell (World.block_lt_of_cell? w _ h5)).trans h5⟩

/-- The table of the berths' fares lies there as the program's text lays it. -/
def FaresAt (w : World) : Prop :=
  w.cell? ⟨0, 0, none⟩ = some (.int .i64 30) ∧ w.cell? ⟨0, 1, none⟩ = some (.int .i64 50) ∧ w.cell? ⟨0, 2, none⟩ = some (.int .i64 80)
theorem FaresAt.below {w w' : World} (h : FaresAt w) (hb : Below w.heap.size w w') : FaresAt w' := by
  obtain ⟨h0, h1, h2⟩ := h
  exact ⟨(hb.cell (World.block_lt_of_cell? w _ h0)).trans h0, (hb.cell (World.block_lt_of_cell? w _ h1)).trans h1, (hb.cell (World.block_lt_of_cell? w _ h2)).trans h2⟩

end Go.Proofs.YtaalhmaacaahhaaDoor
