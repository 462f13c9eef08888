/-
  DERIVED. GIVEN WITH THE SEED: THE CARDS: each row of YtgjcmifnigdndaaDoorRows.lean that lists a variable, with what it lists TIED to the program's text (the seventh form; the later family's looks); each row that meets fmt, with fmt's text TOLD by the authors' own Lean function (tested against real Go, not proved from fmt's source: count such statements apart). THE CARD IS WHAT COUNTS. Prove the row's statement (the work); the ties are given (YtgjcmifnigdndaaDoorTie.lean); close each card by the builder's one call (the guide's Derived/Test/ToyasCard.lean, 'card_holds'). Laid BY PROGRAM, IN A SANDBOX (cutbox-door.mjs). By AI agents, Wed Nov 11 2026. No macro, syntax, notation, axiom, sorry.
-/
import Derived.Test.YtgjcmifnigdndaaDoorRows
import GoSem.ClaimSeven
namespace Go.Proofs.YtgjcmifnigdndaaDoor
namespace Rows

/-- THE TIED CARD OF 'laws.FnExactMostSteps'. -/
def fnExactMostStepsCard : Claim7 := { stood := { row := fnExactMostStepsRow, standIns := [], harness := (true, "06e354452e5b61fc4d58e051dc05a8edcd03976af551dacc8bf8d83d1da3bc5f"), looks := false }, kinds := [], alts := [], laidByText := true, laidKinds := [.data], laidTests := true, laidLooks := .later }
def FnExactMostStepsCardSaid : Prop := Claim7.holds Tryd.pinned (.plain (OpenSpec.ofChange fnExactMostStepsSpec)) fnExactMostStepsCard

/-- THE SECOND FORM's CARD OF 'laws.FnExactMostSteps'. -/
def fnExactMostStepsUptoCard : Claim7 := { stood := { row := fnExactMostStepsUptoRow, standIns := [], harness := (true, "06e354452e5b61fc4d58e051dc05a8edcd03976af551dacc8bf8d83d1da3bc5f"), looks := false }, kinds := [], alts := [], laidByText := true, laidKinds := [.data], laidTests := true, laidLooks := .later }
def FnExactMostStepsUptoCardSaid : Prop := Claim7.holds Tryd.pinned (.plain (OpenSpec.upto fnExactMostStepsSpec)) fnExactMostStepsUptoCard
end Rows
end Go.Proofs.YtgjcmifnigdndaaDoor
