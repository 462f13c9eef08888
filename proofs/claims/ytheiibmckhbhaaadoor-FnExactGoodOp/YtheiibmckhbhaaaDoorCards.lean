/-
  DERIVED. GIVEN WITH THE SEED: THE CARDS: each row of YtheiibmckhbhaaaDoorRows.lean that lists a variable, with what it lists TIED to the program's text (the seventh form; the later family's looks); each row that meets fmt, with fmt's text TOLD by the authors' own Lean function (tested against real Go, not proved from fmt's source: count such statements apart). THE CARD IS WHAT COUNTS. Prove the row's statement (the work); the ties are given (YtheiibmckhbhaaaDoorTie.lean); close each card by the builder's one call (the guide's Derived/Test/ToyasCard.lean, 'card_holds'). Laid BY PROGRAM, IN A SANDBOX (cutbox-door.mjs). By AI agents, Wed Nov 11 2026. No macro, syntax, notation, axiom, sorry.
-/
import Derived.Test.YtheiibmckhbhaaaDoorRows
import GoSem.ClaimSeven
namespace Go.Proofs.YtheiibmckhbhaaaDoor
namespace Rows

/-- THE TIED CARD OF 'laws.FnExactGoodOp'. -/
def fnExactGoodOpCard : Claim7 := { stood := { row := fnExactGoodOpRow, standIns := [], harness := (true, "2b7b160fae2a004c62e85b5a0021c29892c369faeee8db8230fe578361f53b04"), looks := false }, kinds := [], alts := [], laidByText := true, laidKinds := [.data], laidTests := true, laidLooks := .later }
def FnExactGoodOpCardSaid : Prop := Claim7.holds Tryd.pinned (.plain (OpenSpec.ofChange fnExactGoodOpSpec)) fnExactGoodOpCard

/-- THE SECOND FORM's CARD OF 'laws.FnExactGoodOp'. -/
def fnExactGoodOpUptoCard : Claim7 := { stood := { row := fnExactGoodOpUptoRow, standIns := [], harness := (true, "2b7b160fae2a004c62e85b5a0021c29892c369faeee8db8230fe578361f53b04"), looks := false }, kinds := [], alts := [], laidByText := true, laidKinds := [.data], laidTests := true, laidLooks := .later }
def FnExactGoodOpUptoCardSaid : Prop := Claim7.holds Tryd.pinned (.plain (OpenSpec.upto fnExactGoodOpSpec)) fnExactGoodOpUptoCard
end Rows
end Go.Proofs.YtheiibmckhbhaaaDoor
