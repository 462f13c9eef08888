/-
  No cell of these rows narrows 'for every input' (looked for: loops, veiled, ifaces, maps, wideKeys, modest, calm, conditions, laid).
  DERIVED. THE GIVEN ROWS OF THIS SEAT. 6 by the template 'for every input the law returns true; each argument reads behind the call as it read before'; 0 by the template 'total and deterministic' (their statements: YtaalhmaacaahhagTotals.lean).
  GIVEN WITH THE SEED: the statements are not yours to turn. If you find one false, say at which input.
  Laid BY PROGRAM, IN A SANDBOX (cutbox-rows.mjs): the forced cells as the released guide's own fill.sh prints them over the translation ebfed6fb045ae40b… (all of the seat's roots in one cut). By AI agents, Wed Nov 11 2026. No macro, syntax, notation, axiom, sorry.
-/
import Derived.Test.YtaalhmaacaahhagChecked
import GoSem.Claim
import GoSem.ClaimJoined
import GoSem.ClaimMapViews
import Derived.JoinedTies
import Derived.KernelRfl
namespace Go.Proofs.Ytaalhmaacaahhag
/- THE CELL 'sum', in the pinned program and in every row, IS THE sha256 OF THE DUMP (.gsa) THAT YtaalhmaacaahhagProg.lean LOADS. Nothing in Lean hashes anything: it is a label: what it is worth is what the hold of that sum in a sandbox is worth. -/
noncomputable def Try.pinned : Pinned := { name := "ytaalhmaacaahhag", sum := "ebfed6fb045ae40b81ec410e0c797d7a7944e5ae5bca20130825b0099fe89f95", checked := Try.checked }
namespace Rows
def none {H : Type} : Left H := { results := [], args := [] }

/-- 'laws.FnExactLeaveLocks': WHATEVER THE INPUT: true; the input reads as it did. -/
def fnExactLeaveLocksSpec : ChangeSpec := { name := "fnExactLeaveLocks", fn := fun _ => fun
  | [d1, d2] => { results := [.lit (.bool true)], args := [d1, d2] }
  | _ => none }
def fnExactLeaveLocksRow : OpenClaim := { program := "ytaalhmaacaahhag", sum := "ebfed6fb045ae40b81ec410e0c797d7a7944e5ae5bca20130825b0099fe89f95", func := "loop.example/g00084/laws.FnExactLeaveLocks", spec := "fnExactLeaveLocks", inPlace := ["slices.overlaps[loop.example/g00084/impl.Asked]"], recurses := true, apart := false }
def FnExactLeaveLocksSaid : Prop := fnExactLeaveLocksRow.holds Try.pinned (OpenSpec.ofChange fnExactLeaveLocksSpec)

/-- ITS FALSE NEIGHBOUR: 'it returns false'. Refute it at one input. -/
def fnExactLeaveLocksWrong : ChangeSpec := { name := "fnExactLeaveLocks", fn := fun _ => fun
  | [d1, d2] => { results := [.lit (.bool false)], args := [d1, d2] }
  | _ => none }
def FnExactLeaveLocksWrongFalsely : Prop := fnExactLeaveLocksRow.holds Try.pinned (OpenSpec.ofChange fnExactLeaveLocksWrong)

/-- 'laws.FnExactKeysOf': WHATEVER THE INPUT: true; the input reads as it did. -/
def fnExactKeysOfSpec : ChangeSpec := { name := "fnExactKeysOf", fn := fun _ => fun
  | [d1, d2] => { results := [.lit (.bool true)], args := [d1, d2] }
  | _ => none }
def fnExactKeysOfRow : OpenClaim := { program := "ytaalhmaacaahhag", sum := "ebfed6fb045ae40b81ec410e0c797d7a7944e5ae5bca20130825b0099fe89f95", func := "loop.example/g00084/laws.FnExactKeysOf", spec := "fnExactKeysOf", apart := false }
def FnExactKeysOfSaid : Prop := fnExactKeysOfRow.holds Try.pinned (OpenSpec.ofChange fnExactKeysOfSpec)

/-- ITS FALSE NEIGHBOUR: 'it returns false'. Refute it at one input. -/
def fnExactKeysOfWrong : ChangeSpec := { name := "fnExactKeysOf", fn := fun _ => fun
  | [d1, d2] => { results := [.lit (.bool false)], args := [d1, d2] }
  | _ => none }
def FnExactKeysOfWrongFalsely : Prop := fnExactKeysOfRow.holds Try.pinned (OpenSpec.ofChange fnExactKeysOfWrong)

/-- 'laws.FnExactWaitsAt': WHATEVER THE INPUT: true; the input reads as it did. -/
def fnExactWaitsAtSpec : ChangeSpec := { name := "fnExactWaitsAt", fn := fun _ => fun
  | [d1, d2] => { results := [.lit (.bool true)], args := [d1, d2] }
  | _ => none }
def fnExactWaitsAtRow : OpenClaim := { program := "ytaalhmaacaahhag", sum := "ebfed6fb045ae40b81ec410e0c797d7a7944e5ae5bca20130825b0099fe89f95", func := "loop.example/g00084/laws.FnExactWaitsAt", spec := "fnExactWaitsAt", apart := false }
def FnExactWaitsAtSaid : Prop := fnExactWaitsAtRow.holds Try.pinned (OpenSpec.ofChange fnExactWaitsAtSpec)

/-- ITS FALSE NEIGHBOUR: 'it returns false'. Refute it at one input. -/
def fnExactWaitsAtWrong : ChangeSpec := { name := "fnExactWaitsAt", fn := fun _ => fun
  | [d1, d2] => { results := [.lit (.bool false)], args := [d1, d2] }
  | _ => none }
def FnExactWaitsAtWrongFalsely : Prop := fnExactWaitsAtRow.holds Try.pinned (OpenSpec.ofChange fnExactWaitsAtWrong)

/-- 'laws.FnExactWaitsFor': WHATEVER THE INPUT: true; the input reads as it did. -/
def fnExactWaitsForSpec : ChangeSpec := { name := "fnExactWaitsFor", fn := fun _ => fun
  | [d1, d2] => { results := [.lit (.bool true)], args := [d1, d2] }
  | _ => none }
def fnExactWaitsForRow : OpenClaim := { program := "ytaalhmaacaahhag", sum := "ebfed6fb045ae40b81ec410e0c797d7a7944e5ae5bca20130825b0099fe89f95", func := "loop.example/g00084/laws.FnExactWaitsFor", spec := "fnExactWaitsFor", recurses := true, apart := false }
def FnExactWaitsForSaid : Prop := fnExactWaitsForRow.holds Try.pinned (OpenSpec.ofChange fnExactWaitsForSpec)

/-- ITS FALSE NEIGHBOUR: 'it returns false'. Refute it at one input. -/
def fnExactWaitsForWrong : ChangeSpec := { name := "fnExactWaitsFor", fn := fun _ => fun
  | [d1, d2] => { results := [.lit (.bool false)], args := [d1, d2] }
  | _ => none }
def FnExactWaitsForWrongFalsely : Prop := fnExactWaitsForRow.holds Try.pinned (OpenSpec.ofChange fnExactWaitsForWrong)

/-- 'laws.FnExactCycleIn': WHATEVER THE INPUT: true; the input reads as it did. -/
def fnExactCycleInSpec : ChangeSpec := { name := "fnExactCycleIn", fn := fun _ => fun
  | [d] => { results := [.lit (.bool true)], args := [d] }
  | _ => none }
def fnExactCycleInRow : OpenClaim := { program := "ytaalhmaacaahhag", sum := "ebfed6fb045ae40b81ec410e0c797d7a7944e5ae5bca20130825b0099fe89f95", func := "loop.example/g00084/laws.FnExactCycleIn", spec := "fnExactCycleIn", recurses := true, apart := false }
def FnExactCycleInSaid : Prop := fnExactCycleInRow.holds Try.pinned (OpenSpec.ofChange fnExactCycleInSpec)

/-- ITS FALSE NEIGHBOUR: 'it returns false'. Refute it at one input. -/
def fnExactCycleInWrong : ChangeSpec := { name := "fnExactCycleIn", fn := fun _ => fun
  | [d] => { results := [.lit (.bool false)], args := [d] }
  | _ => none }
def FnExactCycleInWrongFalsely : Prop := fnExactCycleInRow.holds Try.pinned (OpenSpec.ofChange fnExactCycleInWrong)

/-- 'laws.FnExactGoodSailing': WHATEVER THE INPUT: true; the input reads as it did. -/
def fnExactGoodSailingSpec : ChangeSpec := { name := "fnExactGoodSailing", fn := fun _ => fun
  | [d] => { results := [.lit (.bool true)], args := [d] }
  | _ => none }
def fnExactGoodSailingRow : OpenClaim := { program := "ytaalhmaacaahhag", sum := "ebfed6fb045ae40b81ec410e0c797d7a7944e5ae5bca20130825b0099fe89f95", func := "loop.example/g00084/laws.FnExactGoodSailing", spec := "fnExactGoodSailing", apart := false }
def FnExactGoodSailingSaid : Prop := fnExactGoodSailingRow.holds Try.pinned (OpenSpec.ofChange fnExactGoodSailingSpec)

/-- ITS FALSE NEIGHBOUR: 'it returns false'. Refute it at one input. -/
def fnExactGoodSailingWrong : ChangeSpec := { name := "fnExactGoodSailing", fn := fun _ => fun
  | [d] => { results := [.lit (.bool false)], args := [d] }
  | _ => none }
def FnExactGoodSailingWrongFalsely : Prop := fnExactGoodSailingRow.holds Try.pinned (OpenSpec.ofChange fnExactGoodSailingWrong)

/- THE SECOND FORM. 'bulk': how many values and letters a reading holds, each counted each time it is reached (what is shared counts as often as it is met; a slice's spare places count too). A statement '..UptoSaid' is the law's where the arguments, and the package variables that the reading takes, are together of bulk at most 1048576: NARROWER than '..Said'. Prove '..Said' where nothing that the law and all that it calls make is longer than what came in: it says more and counts as full. Else prove '..UptoSaid'. A law counts once. -/
mutual
def uptoBulk {H : Type} : DataW H → Nat
  | .lit (.string bytes) => bytes.length + 1
  | .lit _ => 1
  | .nil => 1
  | .ptr d => uptoBulk d + 1
  | .slice elems spare => uptoBulkAll elems + uptoBulkAll spare + 1
  | .agg parts => uptoBulkAll parts + 1
  | .iface _ d => uptoBulk d + 1
  | .map entries => uptoBulkEntries entries + 1
  | .held _ => 1
def uptoBulkAll {H : Type} : List (DataW H) → Nat
  | [] => 0
  | d :: r => uptoBulk d + uptoBulkAll r
def uptoBulkEntries {H : Type} : List (Lit × DataW H) → Nat
  | [] => 0
  | x :: r => uptoBulkEntry x + uptoBulkEntries r
def uptoBulkEntry {H : Type} : Lit × DataW H → Nat
  | (.string bytes, d) => bytes.length + uptoBulk d + 1
  | (_, d) => uptoBulk d + 1
 end
def uptoSmall : (H : Type) → List (DataW H) → Bool := fun _ ds => decide (uptoBulkAll ds ≤ 1048576)
def OpenSpec.upto (s : _root_.Go.ChangeSpec) : _root_.Go.OpenSpec := { _root_.Go.OpenSpec.ofChange s with cond := some uptoSmall }

/-- 'laws.FnExactLeaveLocks', WHERE WHAT IT READS IS OF BULK AT MOST 1048576: true; the input reads as it did. -/
def fnExactLeaveLocksUptoRow : OpenClaim := { program := "ytaalhmaacaahhag", sum := "ebfed6fb045ae40b81ec410e0c797d7a7944e5ae5bca20130825b0099fe89f95", func := "loop.example/g00084/laws.FnExactLeaveLocks", spec := "fnExactLeaveLocks", inPlace := ["slices.overlaps[loop.example/g00084/impl.Asked]"], recurses := true, apart := false, narrowed := true }
def FnExactLeaveLocksUptoSaid : Prop := fnExactLeaveLocksUptoRow.holds Try.pinned (OpenSpec.upto fnExactLeaveLocksSpec)

/-- 'laws.FnExactKeysOf', WHERE WHAT IT READS IS OF BULK AT MOST 1048576: true; the input reads as it did. -/
def fnExactKeysOfUptoRow : OpenClaim := { program := "ytaalhmaacaahhag", sum := "ebfed6fb045ae40b81ec410e0c797d7a7944e5ae5bca20130825b0099fe89f95", func := "loop.example/g00084/laws.FnExactKeysOf", spec := "fnExactKeysOf", apart := false, narrowed := true }
def FnExactKeysOfUptoSaid : Prop := fnExactKeysOfUptoRow.holds Try.pinned (OpenSpec.upto fnExactKeysOfSpec)

/-- 'laws.FnExactWaitsAt', WHERE WHAT IT READS IS OF BULK AT MOST 1048576: true; the input reads as it did. -/
def fnExactWaitsAtUptoRow : OpenClaim := { program := "ytaalhmaacaahhag", sum := "ebfed6fb045ae40b81ec410e0c797d7a7944e5ae5bca20130825b0099fe89f95", func := "loop.example/g00084/laws.FnExactWaitsAt", spec := "fnExactWaitsAt", apart := false, narrowed := true }
def FnExactWaitsAtUptoSaid : Prop := fnExactWaitsAtUptoRow.holds Try.pinned (OpenSpec.upto fnExactWaitsAtSpec)

/-- 'laws.FnExactWaitsFor', WHERE WHAT IT READS IS OF BULK AT MOST 1048576: true; the input reads as it did. -/
def fnExactWaitsForUptoRow : OpenClaim := { program := "ytaalhmaacaahhag", sum := "ebfed6fb045ae40b81ec410e0c797d7a7944e5ae5bca20130825b0099fe89f95", func := "loop.example/g00084/laws.FnExactWaitsFor", spec := "fnExactWaitsFor", recurses := true, apart := false, narrowed := true }
def FnExactWaitsForUptoSaid : Prop := fnExactWaitsForUptoRow.holds Try.pinned (OpenSpec.upto fnExactWaitsForSpec)

/-- 'laws.FnExactCycleIn', WHERE WHAT IT READS IS OF BULK AT MOST 1048576: true; the input reads as it did. -/
def fnExactCycleInUptoRow : OpenClaim := { program := "ytaalhmaacaahhag", sum := "ebfed6fb045ae40b81ec410e0c797d7a7944e5ae5bca20130825b0099fe89f95", func := "loop.example/g00084/laws.FnExactCycleIn", spec := "fnExactCycleIn", recurses := true, apart := false, narrowed := true }
def FnExactCycleInUptoSaid : Prop := fnExactCycleInUptoRow.holds Try.pinned (OpenSpec.upto fnExactCycleInSpec)

/-- 'laws.FnExactGoodSailing', WHERE WHAT IT READS IS OF BULK AT MOST 1048576: true; the input reads as it did. -/
def fnExactGoodSailingUptoRow : OpenClaim := { program := "ytaalhmaacaahhag", sum := "ebfed6fb045ae40b81ec410e0c797d7a7944e5ae5bca20130825b0099fe89f95", func := "loop.example/g00084/laws.FnExactGoodSailing", spec := "fnExactGoodSailing", apart := false, narrowed := true }
def FnExactGoodSailingUptoSaid : Prop := fnExactGoodSailingUptoRow.holds Try.pinned (OpenSpec.upto fnExactGoodSailingSpec)

end Rows
end Go.Proofs.Ytaalhmaacaahhag
