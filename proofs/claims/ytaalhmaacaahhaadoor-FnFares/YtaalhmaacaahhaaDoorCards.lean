/-
  DERIVED. GIVEN WITH THE SEED: THE CARDS: each row of YtaalhmaacaahhaaDoorRows.lean that lists a variable, with what it lists TIED to the program's text (the seventh form; the later family's looks); each row that meets fmt, with fmt's text TOLD by the authors' own Lean function (tested against real Go, not proved from fmt's source: count such statements apart). THE CARD IS WHAT COUNTS. Prove the row's statement (the work); the ties are given (YtaalhmaacaahhaaDoorTie.lean); close each card by the builder's one call (the guide's Derived/Test/ToyasCard.lean, 'card_holds'). Laid BY PROGRAM, IN A SANDBOX (cutbox-door.mjs). By AI agents, Wed Nov 11 2026. No macro, syntax, notation, axiom, sorry.
-/
import Derived.Test.YtaalhmaacaahhaaDoorRows
import GoSem.ClaimSeven
namespace Go.Proofs.YtaalhmaacaahhaaDoor
namespace Rows

/-- THE TIED CARD OF 'laws.FnFares'. -/
def fnFaresCard : Claim7 := { stood := { row := fnFaresRow, standIns := [], harness := (true, "ce63b70153ae5b84c9cf8725f6542b7d7b299c9668800db9b14a526ea027472a"), looks := false }, kinds := [], alts := [], laidByText := true, laidKinds := [.data, .data], laidTests := true, laidLooks := .later }
def FnFaresCardSaid : Prop := Claim7.holds Tryd.pinned (.plain (OpenSpec.ofChange fnFaresSpec)) fnFaresCard

/-- THE SECOND FORM's CARD OF 'laws.FnFares'. -/
def fnFaresUptoCard : Claim7 := { stood := { row := fnFaresUptoRow, standIns := [], harness := (true, "ce63b70153ae5b84c9cf8725f6542b7d7b299c9668800db9b14a526ea027472a"), looks := false }, kinds := [], alts := [], laidByText := true, laidKinds := [.data, .data], laidTests := true, laidLooks := .later }
def FnFaresUptoCardSaid : Prop := Claim7.holds Tryd.pinned (.plain (OpenSpec.upto fnFaresSpec)) fnFaresUptoCard
end Rows
end Go.Proofs.YtaalhmaacaahhaaDoor
