/-
  DERIVED. GIVEN WITH THE SEED: THE CARDS: each row of YtaalhmaacaahhajDoorRows.lean that lists a variable, with what it lists TIED to the program's text (the seventh form; the later family's looks); each row that meets fmt, with fmt's text TOLD by the authors' own Lean function (tested against real Go, not proved from fmt's source: count such statements apart). THE CARD IS WHAT COUNTS. Prove the row's statement (the work); the ties are given (YtaalhmaacaahhajDoorTie.lean); close each card by the builder's one call (the guide's Derived/Test/ToyasCard.lean, 'card_holds'). Laid BY PROGRAM, IN A SANDBOX (cutbox-door.mjs). By AI agents, Wed Nov 11 2026. No macro, syntax, notation, axiom, sorry.
-/
import Derived.Test.YtaalhmaacaahhajDoorRows
import GoSem.ClaimSeven
namespace Go.Proofs.YtaalhmaacaahhajDoor
namespace Rows

/-- THE TIED CARD OF 'laws.FnExactCarFare'. -/
def fnExactCarFareCard : Claim7 := { stood := { row := fnExactCarFareRow, standIns := [], harness := (true, "fb84bfd189d2416ba7d5a54fe13a67f508355edeae2f96692095aa4cb4aa03bb"), looks := false }, kinds := [], alts := [], laidByText := true, laidKinds := [.data], laidTests := true, laidLooks := .later }
def FnExactCarFareCardSaid : Prop := Claim7.holds Tryd.pinned (.plain (OpenSpec.ofChange fnExactCarFareSpec)) fnExactCarFareCard

/-- THE TIED CARD OF 'laws.FnExactCabinFare'. -/
def fnExactCabinFareCard : Claim7 := { stood := { row := fnExactCabinFareRow, standIns := [], harness := (true, "fb84bfd189d2416ba7d5a54fe13a67f508355edeae2f96692095aa4cb4aa03bb"), looks := false }, kinds := [], alts := [], laidByText := true, laidKinds := [.data], laidTests := true, laidLooks := .later }
def FnExactCabinFareCardSaid : Prop := Claim7.holds Tryd.pinned (.plain (OpenSpec.ofChange fnExactCabinFareSpec)) fnExactCabinFareCard

/-- THE TIED CARD OF 'laws.FnExactPriceOf'. -/
def fnExactPriceOfCard : Claim7 := { stood := { row := fnExactPriceOfRow, standIns := [], harness := (true, "fb84bfd189d2416ba7d5a54fe13a67f508355edeae2f96692095aa4cb4aa03bb"), looks := false }, kinds := [], alts := [], laidByText := true, laidKinds := [.data, .data], laidTests := true, laidLooks := .later }
def FnExactPriceOfCardSaid : Prop := Claim7.holds Tryd.pinned (.plain (OpenSpec.ofChange fnExactPriceOfSpec)) fnExactPriceOfCard

/-- THE SECOND FORM's CARD OF 'laws.FnExactCarFare'. -/
def fnExactCarFareUptoCard : Claim7 := { stood := { row := fnExactCarFareUptoRow, standIns := [], harness := (true, "fb84bfd189d2416ba7d5a54fe13a67f508355edeae2f96692095aa4cb4aa03bb"), looks := false }, kinds := [], alts := [], laidByText := true, laidKinds := [.data], laidTests := true, laidLooks := .later }
def FnExactCarFareUptoCardSaid : Prop := Claim7.holds Tryd.pinned (.plain (OpenSpec.upto fnExactCarFareSpec)) fnExactCarFareUptoCard

/-- THE SECOND FORM's CARD OF 'laws.FnExactCabinFare'. -/
def fnExactCabinFareUptoCard : Claim7 := { stood := { row := fnExactCabinFareUptoRow, standIns := [], harness := (true, "fb84bfd189d2416ba7d5a54fe13a67f508355edeae2f96692095aa4cb4aa03bb"), looks := false }, kinds := [], alts := [], laidByText := true, laidKinds := [.data], laidTests := true, laidLooks := .later }
def FnExactCabinFareUptoCardSaid : Prop := Claim7.holds Tryd.pinned (.plain (OpenSpec.upto fnExactCabinFareSpec)) fnExactCabinFareUptoCard

/-- THE SECOND FORM's CARD OF 'laws.FnExactPriceOf'. -/
def fnExactPriceOfUptoCard : Claim7 := { stood := { row := fnExactPriceOfUptoRow, standIns := [], harness := (true, "fb84bfd189d2416ba7d5a54fe13a67f508355edeae2f96692095aa4cb4aa03bb"), looks := false }, kinds := [], alts := [], laidByText := true, laidKinds := [.data, .data], laidTests := true, laidLooks := .later }
def FnExactPriceOfUptoCardSaid : Prop := Claim7.holds Tryd.pinned (.plain (OpenSpec.upto fnExactPriceOfSpec)) fnExactPriceOfUptoCard
end Rows
end Go.Proofs.YtaalhmaacaahhajDoor
