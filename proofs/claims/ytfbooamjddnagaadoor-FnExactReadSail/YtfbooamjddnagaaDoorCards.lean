/-
  DERIVED. GIVEN WITH THE SEED: THE CARDS: each row of YtfbooamjddnagaaDoorRows.lean that lists a variable, with what it lists TIED to the program's text (the seventh form; the later family's looks); each row that meets fmt, with fmt's text TOLD by the authors' own Lean function (tested against real Go, not proved from fmt's source: count such statements apart). THE CARD IS WHAT COUNTS. Prove the row's statement (the work); the ties are given (YtfbooamjddnagaaDoorTie.lean); close each card by the builder's one call (the guide's Derived/Test/ToyasCard.lean, 'card_holds'). Laid BY PROGRAM, IN A SANDBOX (cutbox-door.mjs). By AI agents, Wed Nov 11 2026. No macro, syntax, notation, axiom, sorry.
-/
import Derived.Test.YtfbooamjddnagaaDoorRows
import GoSem.ClaimSeven
namespace Go.Proofs.YtfbooamjddnagaaDoor
namespace Rows

/-- THE TIED CARD OF 'laws.FnExactOpText'. -/
def fnExactOpTextCard : Claim7 := { stood := { row := fnExactOpTextRow, standIns := [], harness := (true, "352dfbf8ffe5f5b490bee3eb62a0752da52e70cd82acfb21dc75f699c8ae7790"), looks := false }, kinds := [], alts := [], laidByText := true, laidKinds := [.data, .data, .data, .data, .data], laidTests := true, laidLooks := .later }
def FnExactOpTextCardSaid : Prop := Claim7.holds Tryd.pinned (.plain (OpenSpec.ofChange fnExactOpTextSpec)) fnExactOpTextCard

/-- THE TIED CARD OF 'laws.FnExactReadOp'. -/
def fnExactReadOpCard : Claim7 := { stood := { row := fnExactReadOpRow, standIns := [], harness := (true, "352dfbf8ffe5f5b490bee3eb62a0752da52e70cd82acfb21dc75f699c8ae7790"), looks := false }, kinds := [], alts := [], laidByText := true, laidKinds := [.data, .data, .data, .data, .data], laidTests := true, laidLooks := .later }
def FnExactReadOpCardSaid : Prop := Claim7.holds Tryd.pinned (.plain (OpenSpec.ofChange fnExactReadOpSpec)) fnExactReadOpCard

/-- THE TIED CARD OF 'laws.FnExactSailText'. -/
def fnExactSailTextCard : Claim7 := { stood := { row := fnExactSailTextRow, standIns := [], harness := (true, "352dfbf8ffe5f5b490bee3eb62a0752da52e70cd82acfb21dc75f699c8ae7790"), looks := false }, kinds := [], alts := [], laidByText := true, laidKinds := [.data, .data, .data, .data], laidTests := true, laidLooks := .later }
def FnExactSailTextCardSaid : Prop := Claim7.holds Tryd.pinned (.plain (OpenSpec.ofChange fnExactSailTextSpec)) fnExactSailTextCard

/-- THE TIED CARD OF 'laws.FnExactReadSail'. -/
def fnExactReadSailCard : Claim7 := { stood := { row := fnExactReadSailRow, standIns := [], harness := (true, "352dfbf8ffe5f5b490bee3eb62a0752da52e70cd82acfb21dc75f699c8ae7790"), looks := false }, kinds := [], alts := [], laidByText := true, laidKinds := [.data, .data, .data, .data], laidTests := true, laidLooks := .later }
def FnExactReadSailCardSaid : Prop := Claim7.holds Tryd.pinned (.plain (OpenSpec.ofChange fnExactReadSailSpec)) fnExactReadSailCard

/-- THE SECOND FORM's CARD OF 'laws.FnExactOpText'. -/
def fnExactOpTextUptoCard : Claim7 := { stood := { row := fnExactOpTextUptoRow, standIns := [], harness := (true, "352dfbf8ffe5f5b490bee3eb62a0752da52e70cd82acfb21dc75f699c8ae7790"), looks := false }, kinds := [], alts := [], laidByText := true, laidKinds := [.data, .data, .data, .data, .data], laidTests := true, laidLooks := .later }
def FnExactOpTextUptoCardSaid : Prop := Claim7.holds Tryd.pinned (.plain (OpenSpec.upto fnExactOpTextSpec)) fnExactOpTextUptoCard

/-- THE SECOND FORM's CARD OF 'laws.FnExactReadOp'. -/
def fnExactReadOpUptoCard : Claim7 := { stood := { row := fnExactReadOpUptoRow, standIns := [], harness := (true, "352dfbf8ffe5f5b490bee3eb62a0752da52e70cd82acfb21dc75f699c8ae7790"), looks := false }, kinds := [], alts := [], laidByText := true, laidKinds := [.data, .data, .data, .data, .data], laidTests := true, laidLooks := .later }
def FnExactReadOpUptoCardSaid : Prop := Claim7.holds Tryd.pinned (.plain (OpenSpec.upto fnExactReadOpSpec)) fnExactReadOpUptoCard

/-- THE SECOND FORM's CARD OF 'laws.FnExactSailText'. -/
def fnExactSailTextUptoCard : Claim7 := { stood := { row := fnExactSailTextUptoRow, standIns := [], harness := (true, "352dfbf8ffe5f5b490bee3eb62a0752da52e70cd82acfb21dc75f699c8ae7790"), looks := false }, kinds := [], alts := [], laidByText := true, laidKinds := [.data, .data, .data, .data], laidTests := true, laidLooks := .later }
def FnExactSailTextUptoCardSaid : Prop := Claim7.holds Tryd.pinned (.plain (OpenSpec.upto fnExactSailTextSpec)) fnExactSailTextUptoCard

/-- THE SECOND FORM's CARD OF 'laws.FnExactReadSail'. -/
def fnExactReadSailUptoCard : Claim7 := { stood := { row := fnExactReadSailUptoRow, standIns := [], harness := (true, "352dfbf8ffe5f5b490bee3eb62a0752da52e70cd82acfb21dc75f699c8ae7790"), looks := false }, kinds := [], alts := [], laidByText := true, laidKinds := [.data, .data, .data, .data], laidTests := true, laidLooks := .later }
def FnExactReadSailUptoCardSaid : Prop := Claim7.holds Tryd.pinned (.plain (OpenSpec.upto fnExactReadSailSpec)) fnExactReadSailUptoCard
end Rows
end Go.Proofs.YtfbooamjddnagaaDoor
