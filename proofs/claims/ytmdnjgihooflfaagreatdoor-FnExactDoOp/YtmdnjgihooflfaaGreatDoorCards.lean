/-
  DERIVED. GIVEN WITH THE SEED: THE CARDS: each row of YtmdnjgihooflfaaGreatDoorRows.lean that lists a variable, with what it lists TIED to the program's text (the seventh form; the later family's looks); each row that meets fmt, with fmt's text TOLD by the authors' own Lean function (tested against real Go, not proved from fmt's source: count such statements apart). THE CARD IS WHAT COUNTS. Prove the row's statement (the work); the ties are given (YtmdnjgihooflfaaGreatDoorTie.lean); close each card by the builder's one call (the guide's Derived/Test/ToyasCard.lean, 'card_holds'). Laid BY PROGRAM, IN A SANDBOX (cutbox-door.mjs). By AI agents, Wed Nov 11 2026. No macro, syntax, notation, axiom, sorry.
-/
import Derived.Test.YtmdnjgihooflfaaGreatDoorRows
import GoSem.ClaimSeven
namespace Go.Proofs.YtmdnjgihooflfaaGreatDoor
namespace Rows

/-- THE TIED CARD OF 'laws.FnExactDoOp'. -/
def fnExactDoOpCard : Claim7 := { stood := { row := fnExactDoOpRow, standIns := [], harness := (true, "03294214aca307b14c95dd961f57e17ed941d4cbe14020112a634380070a549c"), looks := true }, kinds := [], alts := [], laidByText := true, laidKinds := [.handle, .data, .data, .sentinel, .sentinel, .sentinel, .sentinel, .sentinel, .sentinel, .sentinel, .sentinel, .data], laidTests := true, laidLooks := .later }
def FnExactDoOpCardSaid : Prop := Claim7.holds Tryz.pinned (.plain (OpenSpec.ofChange fnExactDoOpSpec)) fnExactDoOpCard

/-- THE TIED CARD OF 'laws.FnExactDoAll'. -/
def fnExactDoAllCard : Claim7 := { stood := { row := fnExactDoAllRow, standIns := [], harness := (true, "03294214aca307b14c95dd961f57e17ed941d4cbe14020112a634380070a549c"), looks := true }, kinds := [], alts := [], laidByText := true, laidKinds := [.handle, .data, .data, .sentinel, .sentinel, .sentinel, .sentinel, .sentinel, .sentinel, .sentinel, .sentinel, .data], laidTests := true, laidLooks := .later }
def FnExactDoAllCardSaid : Prop := Claim7.holds Tryz.pinned (.plain (OpenSpec.ofChange fnExactDoAllSpec)) fnExactDoAllCard

/-- THE TIED CARD OF 'laws.FnExactReplayDone'. -/
def fnExactReplayDoneCard : Claim7 := { stood := { row := fnExactReplayDoneRow, standIns := [], harness := (true, "03294214aca307b14c95dd961f57e17ed941d4cbe14020112a634380070a549c"), looks := true }, kinds := [], alts := [], laidByText := true, laidKinds := [.handle, .data, .data, .sentinel, .sentinel, .sentinel, .sentinel, .sentinel, .sentinel, .sentinel, .sentinel, .data], laidTests := true, laidLooks := .later }
def FnExactReplayDoneCardSaid : Prop := Claim7.holds Tryz.pinned (.plain (OpenSpec.ofChange fnExactReplayDoneSpec)) fnExactReplayDoneCard

/-- THE SECOND FORM's CARD OF 'laws.FnExactDoOp'. -/
def fnExactDoOpUptoCard : Claim7 := { stood := { row := fnExactDoOpUptoRow, standIns := [], harness := (true, "03294214aca307b14c95dd961f57e17ed941d4cbe14020112a634380070a549c"), looks := true }, kinds := [], alts := [], laidByText := true, laidKinds := [.handle, .data, .data, .sentinel, .sentinel, .sentinel, .sentinel, .sentinel, .sentinel, .sentinel, .sentinel, .data], laidTests := true, laidLooks := .later }
def FnExactDoOpUptoCardSaid : Prop := Claim7.holds Tryz.pinned (.plain (OpenSpec.upto fnExactDoOpSpec)) fnExactDoOpUptoCard

/-- THE SECOND FORM's CARD OF 'laws.FnExactDoAll'. -/
def fnExactDoAllUptoCard : Claim7 := { stood := { row := fnExactDoAllUptoRow, standIns := [], harness := (true, "03294214aca307b14c95dd961f57e17ed941d4cbe14020112a634380070a549c"), looks := true }, kinds := [], alts := [], laidByText := true, laidKinds := [.handle, .data, .data, .sentinel, .sentinel, .sentinel, .sentinel, .sentinel, .sentinel, .sentinel, .sentinel, .data], laidTests := true, laidLooks := .later }
def FnExactDoAllUptoCardSaid : Prop := Claim7.holds Tryz.pinned (.plain (OpenSpec.upto fnExactDoAllSpec)) fnExactDoAllUptoCard

/-- THE SECOND FORM's CARD OF 'laws.FnExactReplayDone'. -/
def fnExactReplayDoneUptoCard : Claim7 := { stood := { row := fnExactReplayDoneUptoRow, standIns := [], harness := (true, "03294214aca307b14c95dd961f57e17ed941d4cbe14020112a634380070a549c"), looks := true }, kinds := [], alts := [], laidByText := true, laidKinds := [.handle, .data, .data, .sentinel, .sentinel, .sentinel, .sentinel, .sentinel, .sentinel, .sentinel, .sentinel, .data], laidTests := true, laidLooks := .later }
def FnExactReplayDoneUptoCardSaid : Prop := Claim7.holds Tryz.pinned (.plain (OpenSpec.upto fnExactReplayDoneSpec)) fnExactReplayDoneUptoCard
end Rows
end Go.Proofs.YtmdnjgihooflfaaGreatDoor
