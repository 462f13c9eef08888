/-
  No cell of these rows narrows 'for every input' (looked for: loops, veiled, ifaces, maps, wideKeys, modest, calm, conditions, laid).
  DERIVED. THE GIVEN ROWS OF THIS SEAT. 6 by the template 'for every input the law returns true; each argument reads behind the call as it read before'; 0 by the template 'total and deterministic' (their statements: YtaalhmaacaahhahTotals.lean).
  GIVEN WITH THE SEED: the statements are not yours to turn. If you find one false, say at which input.
  Laid BY PROGRAM, IN A SANDBOX (cutbox-rows.mjs): the forced cells as the released guide's own fill.sh prints them over the translation 7aa89c27b14a4fe7… (all of the seat's roots in one cut). By AI agents, Wed Nov 11 2026. No macro, syntax, notation, axiom, sorry.
-/
import Derived.Test.YtaalhmaacaahhahChecked
import GoSem.Claim
import GoSem.ClaimJoined
import GoSem.ClaimMapViews
import Derived.JoinedTies
import Derived.KernelRfl
namespace Go.Proofs.Ytaalhmaacaahhah
/- THE CELL 'sum', in the pinned program and in every row, IS THE sha256 OF THE DUMP (.gsa) THAT YtaalhmaacaahhahProg.lean LOADS. Nothing in Lean hashes anything: it is a label: what it is worth is what the hold of that sum in a sandbox is worth. -/
noncomputable def Try.pinned : Pinned := { name := "ytaalhmaacaahhah", sum := "7aa89c27b14a4fe725eafdc04f036c5b1c3d9b6d471a561a7f1542ee0c1dd3de", checked := Try.checked }
namespace Rows
def none {H : Type} : Left H := { results := [], args := [] }

/-- 'laws.FnExactGoodTimetable': WHATEVER THE INPUT: true; the input reads as it did. -/
def fnExactGoodTimetableSpec : ChangeSpec := { name := "fnExactGoodTimetable", fn := fun _ => fun
  | [d] => { results := [.lit (.bool true)], args := [d] }
  | _ => none }
def fnExactGoodTimetableRow : OpenClaim := { program := "ytaalhmaacaahhah", sum := "7aa89c27b14a4fe725eafdc04f036c5b1c3d9b6d471a561a7f1542ee0c1dd3de", func := "loop.example/g00084/laws.FnExactGoodTimetable", spec := "fnExactGoodTimetable", apart := false }
def FnExactGoodTimetableSaid : Prop := fnExactGoodTimetableRow.holds Try.pinned (OpenSpec.ofChange fnExactGoodTimetableSpec)

/-- ITS FALSE NEIGHBOUR: 'it returns false'. Refute it at one input. -/
def fnExactGoodTimetableWrong : ChangeSpec := { name := "fnExactGoodTimetable", fn := fun _ => fun
  | [d] => { results := [.lit (.bool false)], args := [d] }
  | _ => none }
def FnExactGoodTimetableWrongFalsely : Prop := fnExactGoodTimetableRow.holds Try.pinned (OpenSpec.ofChange fnExactGoodTimetableWrong)

/-- 'laws.FnExactLegsFit': WHATEVER THE INPUT: true; the input reads as it did. -/
def fnExactLegsFitSpec : ChangeSpec := { name := "fnExactLegsFit", fn := fun _ => fun
  | [d1, d2] => { results := [.lit (.bool true)], args := [d1, d2] }
  | _ => none }
def fnExactLegsFitRow : OpenClaim := { program := "ytaalhmaacaahhah", sum := "7aa89c27b14a4fe725eafdc04f036c5b1c3d9b6d471a561a7f1542ee0c1dd3de", func := "loop.example/g00084/laws.FnExactLegsFit", spec := "fnExactLegsFit", apart := false }
def FnExactLegsFitSaid : Prop := fnExactLegsFitRow.holds Try.pinned (OpenSpec.ofChange fnExactLegsFitSpec)

/-- ITS FALSE NEIGHBOUR: 'it returns false'. Refute it at one input. -/
def fnExactLegsFitWrong : ChangeSpec := { name := "fnExactLegsFit", fn := fun _ => fun
  | [d1, d2] => { results := [.lit (.bool false)], args := [d1, d2] }
  | _ => none }
def FnExactLegsFitWrongFalsely : Prop := fnExactLegsFitRow.holds Try.pinned (OpenSpec.ofChange fnExactLegsFitWrong)

/-- 'laws.FnExactEarliestRoute': WHATEVER THE INPUT: true; the input reads as it did. -/
def fnExactEarliestRouteSpec : ChangeSpec := { name := "fnExactEarliestRoute", fn := fun _ => fun
  | [d1, d2, d3, d4] => { results := [.lit (.bool true)], args := [d1, d2, d3, d4] }
  | _ => none }
def fnExactEarliestRouteRow : OpenClaim := { program := "ytaalhmaacaahhah", sum := "7aa89c27b14a4fe725eafdc04f036c5b1c3d9b6d471a561a7f1542ee0c1dd3de", func := "loop.example/g00084/laws.FnExactEarliestRoute", spec := "fnExactEarliestRoute", unfollowed := true, recurses := true, apart := false }
def FnExactEarliestRouteSaid : Prop := fnExactEarliestRouteRow.holds Try.pinned (OpenSpec.ofChange fnExactEarliestRouteSpec)

/-- ITS FALSE NEIGHBOUR: 'it returns false'. Refute it at one input. -/
def fnExactEarliestRouteWrong : ChangeSpec := { name := "fnExactEarliestRoute", fn := fun _ => fun
  | [d1, d2, d3, d4] => { results := [.lit (.bool false)], args := [d1, d2, d3, d4] }
  | _ => none }
def FnExactEarliestRouteWrongFalsely : Prop := fnExactEarliestRouteRow.holds Try.pinned (OpenSpec.ofChange fnExactEarliestRouteWrong)

/-- 'laws.FnExactPairKey': WHATEVER THE INPUT: true; the input reads as it did. -/
def fnExactPairKeySpec : ChangeSpec := { name := "fnExactPairKey", fn := fun _ => fun
  | [d1, d2] => { results := [.lit (.bool true)], args := [d1, d2] }
  | _ => none }
def fnExactPairKeyRow : OpenClaim := { program := "ytaalhmaacaahhah", sum := "7aa89c27b14a4fe725eafdc04f036c5b1c3d9b6d471a561a7f1542ee0c1dd3de", func := "loop.example/g00084/laws.FnExactPairKey", spec := "fnExactPairKey", apart := false }
def FnExactPairKeySaid : Prop := fnExactPairKeyRow.holds Try.pinned (OpenSpec.ofChange fnExactPairKeySpec)

/-- ITS FALSE NEIGHBOUR: 'it returns false'. Refute it at one input. -/
def fnExactPairKeyWrong : ChangeSpec := { name := "fnExactPairKey", fn := fun _ => fun
  | [d1, d2] => { results := [.lit (.bool false)], args := [d1, d2] }
  | _ => none }
def FnExactPairKeyWrongFalsely : Prop := fnExactPairKeyRow.holds Try.pinned (OpenSpec.ofChange fnExactPairKeyWrong)

/-- 'laws.FnExactGoodDeck': WHATEVER THE INPUT: true; the input reads as it did. -/
def fnExactGoodDeckSpec : ChangeSpec := { name := "fnExactGoodDeck", fn := fun _ => fun
  | [d1, d2] => { results := [.lit (.bool true)], args := [d1, d2] }
  | _ => none }
def fnExactGoodDeckRow : OpenClaim := { program := "ytaalhmaacaahhah", sum := "7aa89c27b14a4fe725eafdc04f036c5b1c3d9b6d471a561a7f1542ee0c1dd3de", func := "loop.example/g00084/laws.FnExactGoodDeck", spec := "fnExactGoodDeck", unfollowed := true, recurses := true, apart := false }
def FnExactGoodDeckSaid : Prop := fnExactGoodDeckRow.holds Try.pinned (OpenSpec.ofChange fnExactGoodDeckSpec)

/-- ITS FALSE NEIGHBOUR: 'it returns false'. Refute it at one input. -/
def fnExactGoodDeckWrong : ChangeSpec := { name := "fnExactGoodDeck", fn := fun _ => fun
  | [d1, d2] => { results := [.lit (.bool false)], args := [d1, d2] }
  | _ => none }
def FnExactGoodDeckWrongFalsely : Prop := fnExactGoodDeckRow.holds Try.pinned (OpenSpec.ofChange fnExactGoodDeckWrong)

/-- 'laws.FnExactFreeLengths': WHATEVER THE INPUT: true; the input reads as it did. -/
def fnExactFreeLengthsSpec : ChangeSpec := { name := "fnExactFreeLengths", fn := fun _ => fun
  | [d1, d2] => { results := [.lit (.bool true)], args := [d1, d2] }
  | _ => none }
def fnExactFreeLengthsRow : OpenClaim := { program := "ytaalhmaacaahhah", sum := "7aa89c27b14a4fe725eafdc04f036c5b1c3d9b6d471a561a7f1542ee0c1dd3de", func := "loop.example/g00084/laws.FnExactFreeLengths", spec := "fnExactFreeLengths", unfollowed := true, recurses := true, apart := false }
def FnExactFreeLengthsSaid : Prop := fnExactFreeLengthsRow.holds Try.pinned (OpenSpec.ofChange fnExactFreeLengthsSpec)

/-- ITS FALSE NEIGHBOUR: 'it returns false'. Refute it at one input. -/
def fnExactFreeLengthsWrong : ChangeSpec := { name := "fnExactFreeLengths", fn := fun _ => fun
  | [d1, d2] => { results := [.lit (.bool false)], args := [d1, d2] }
  | _ => none }
def FnExactFreeLengthsWrongFalsely : Prop := fnExactFreeLengthsRow.holds Try.pinned (OpenSpec.ofChange fnExactFreeLengthsWrong)

/- THE SECOND FORM. 'bulk': how many values and letters a reading holds, each counted each time it is reached (what is shared counts as often as it is met; a slice's spare places count too). A statement '..UptoSaid' is the law's where the arguments, and the package variables that the reading takes, are together of bulk at most 1048576: NARROWER than '..Said'. Prove '..Said' where nothing that the law and all that it calls make is longer than what came in: it says more and counts as full. Else prove '..UptoSaid'. A law counts once. -/
mutual
def uptoBulk {H : Type} : DataW H → Nat
  | .lit (.string bytes) => bytes.length + 1
  | .lit _ => 1
  | .nil => 1
  | .ptr d => uptoBulk d + 1
  | .slice elems spare => uptoBulkAll elems + uptoBulkAll spare + 1
  | .agg parts => uptoBulkAll parts + 1
  | .iface _ d => uptoBulk d + 1
  | .map entries => uptoBulkEntries entries + 1
  | .held _ => 1
def uptoBulkAll {H : Type} : List (DataW H) → Nat
  | [] => 0
  | d :: r => uptoBulk d + uptoBulkAll r
def uptoBulkEntries {H : Type} : List (Lit × DataW H) → Nat
  | [] => 0
  | x :: r => uptoBulkEntry x + uptoBulkEntries r
def uptoBulkEntry {H : Type} : Lit × DataW H → Nat
  | (.string bytes, d) => bytes.length + uptoBulk d + 1
  | (_, d) => uptoBulk d + 1
 end
def uptoSmall : (H : Type) → List (DataW H) → Bool := fun _ ds => decide (uptoBulkAll ds ≤ 1048576)
def OpenSpec.upto (s : _root_.Go.ChangeSpec) : _root_.Go.OpenSpec := { _root_.Go.OpenSpec.ofChange s with cond := some uptoSmall }

/-- 'laws.FnExactGoodTimetable', WHERE WHAT IT READS IS OF BULK AT MOST 1048576: true; the input reads as it did. -/
def fnExactGoodTimetableUptoRow : OpenClaim := { program := "ytaalhmaacaahhah", sum := "7aa89c27b14a4fe725eafdc04f036c5b1c3d9b6d471a561a7f1542ee0c1dd3de", func := "loop.example/g00084/laws.FnExactGoodTimetable", spec := "fnExactGoodTimetable", apart := false, narrowed := true }
def FnExactGoodTimetableUptoSaid : Prop := fnExactGoodTimetableUptoRow.holds Try.pinned (OpenSpec.upto fnExactGoodTimetableSpec)

/-- 'laws.FnExactLegsFit', WHERE WHAT IT READS IS OF BULK AT MOST 1048576: true; the input reads as it did. -/
def fnExactLegsFitUptoRow : OpenClaim := { program := "ytaalhmaacaahhah", sum := "7aa89c27b14a4fe725eafdc04f036c5b1c3d9b6d471a561a7f1542ee0c1dd3de", func := "loop.example/g00084/laws.FnExactLegsFit", spec := "fnExactLegsFit", apart := false, narrowed := true }
def FnExactLegsFitUptoSaid : Prop := fnExactLegsFitUptoRow.holds Try.pinned (OpenSpec.upto fnExactLegsFitSpec)

/-- 'laws.FnExactEarliestRoute', WHERE WHAT IT READS IS OF BULK AT MOST 1048576: true; the input reads as it did. -/
def fnExactEarliestRouteUptoRow : OpenClaim := { program := "ytaalhmaacaahhah", sum := "7aa89c27b14a4fe725eafdc04f036c5b1c3d9b6d471a561a7f1542ee0c1dd3de", func := "loop.example/g00084/laws.FnExactEarliestRoute", spec := "fnExactEarliestRoute", unfollowed := true, recurses := true, apart := false, narrowed := true }
def FnExactEarliestRouteUptoSaid : Prop := fnExactEarliestRouteUptoRow.holds Try.pinned (OpenSpec.upto fnExactEarliestRouteSpec)

/-- 'laws.FnExactPairKey', WHERE WHAT IT READS IS OF BULK AT MOST 1048576: true; the input reads as it did. -/
def fnExactPairKeyUptoRow : OpenClaim := { program := "ytaalhmaacaahhah", sum := "7aa89c27b14a4fe725eafdc04f036c5b1c3d9b6d471a561a7f1542ee0c1dd3de", func := "loop.example/g00084/laws.FnExactPairKey", spec := "fnExactPairKey", apart := false, narrowed := true }
def FnExactPairKeyUptoSaid : Prop := fnExactPairKeyUptoRow.holds Try.pinned (OpenSpec.upto fnExactPairKeySpec)

/-- 'laws.FnExactGoodDeck', WHERE WHAT IT READS IS OF BULK AT MOST 1048576: true; the input reads as it did. -/
def fnExactGoodDeckUptoRow : OpenClaim := { program := "ytaalhmaacaahhah", sum := "7aa89c27b14a4fe725eafdc04f036c5b1c3d9b6d471a561a7f1542ee0c1dd3de", func := "loop.example/g00084/laws.FnExactGoodDeck", spec := "fnExactGoodDeck", unfollowed := true, recurses := true, apart := false, narrowed := true }
def FnExactGoodDeckUptoSaid : Prop := fnExactGoodDeckUptoRow.holds Try.pinned (OpenSpec.upto fnExactGoodDeckSpec)

/-- 'laws.FnExactFreeLengths', WHERE WHAT IT READS IS OF BULK AT MOST 1048576: true; the input reads as it did. -/
def fnExactFreeLengthsUptoRow : OpenClaim := { program := "ytaalhmaacaahhah", sum := "7aa89c27b14a4fe725eafdc04f036c5b1c3d9b6d471a561a7f1542ee0c1dd3de", func := "loop.example/g00084/laws.FnExactFreeLengths", spec := "fnExactFreeLengths", unfollowed := true, recurses := true, apart := false, narrowed := true }
def FnExactFreeLengthsUptoSaid : Prop := fnExactFreeLengthsUptoRow.holds Try.pinned (OpenSpec.upto fnExactFreeLengthsSpec)

end Rows
end Go.Proofs.Ytaalhmaacaahhah
