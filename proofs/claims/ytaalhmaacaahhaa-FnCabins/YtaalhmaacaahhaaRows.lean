/-
  No cell of these rows narrows 'for every input' (looked for: loops, veiled, ifaces, maps, wideKeys, modest, calm, conditions, laid).
  DERIVED. THE GIVEN ROWS OF THIS SEAT. 5 by the template 'for every input the law returns true; each argument reads behind the call as it read before'; 0 by the template 'total and deterministic' (their statements: YtaalhmaacaahhaaTotals.lean).
  GIVEN WITH THE SEED: the statements are not yours to turn. If you find one false, say at which input.
  Laid BY PROGRAM, IN A SANDBOX (cutbox-rows.mjs): the forced cells as the released guide's own fill.sh prints them over the translation c9b711f26ffabb6b… (all of the seat's roots in one cut). By AI agents, Wed Nov 11 2026. No macro, syntax, notation, axiom, sorry.
-/
import Derived.Test.YtaalhmaacaahhaaChecked
import GoSem.Claim
import GoSem.ClaimJoined
import GoSem.ClaimMapViews
import Derived.JoinedTies
import Derived.KernelRfl
namespace Go.Proofs.Ytaalhmaacaahhaa
/- THE CELL 'sum', in the pinned program and in every row, IS THE sha256 OF THE DUMP (.gsa) THAT YtaalhmaacaahhaaProg.lean LOADS. Nothing in Lean hashes anything: it is a label: what it is worth is what the hold of that sum in a sandbox is worth. -/
noncomputable def Try.pinned : Pinned := { name := "ytaalhmaacaahhaa", sum := "c9b711f26ffabb6b069948916000774213051fae7c32a05d0077e7881f14b507", checked := Try.checked }
namespace Rows
def none {H : Type} : Left H := { results := [], args := [] }

/-- 'laws.FnHandles': WHATEVER THE INPUT: true; the input reads as it did. -/
def fnHandlesSpec : ChangeSpec := { name := "fnHandles", fn := fun _ => fun
  | [d] => { results := [.lit (.bool true)], args := [d] }
  | _ => none }
def fnHandlesRow : OpenClaim := { program := "ytaalhmaacaahhaa", sum := "c9b711f26ffabb6b069948916000774213051fae7c32a05d0077e7881f14b507", func := "loop.example/g00084/laws.FnHandles", spec := "fnHandles", apart := false }
def FnHandlesSaid : Prop := fnHandlesRow.holds Try.pinned (OpenSpec.ofChange fnHandlesSpec)

/-- ITS FALSE NEIGHBOUR: 'it returns false'. Refute it at one input. -/
def fnHandlesWrong : ChangeSpec := { name := "fnHandles", fn := fun _ => fun
  | [d] => { results := [.lit (.bool false)], args := [d] }
  | _ => none }
def FnHandlesWrongFalsely : Prop := fnHandlesRow.holds Try.pinned (OpenSpec.ofChange fnHandlesWrong)

/-- 'laws.FnLocks': WHATEVER THE INPUT: true; the input reads as it did. -/
def fnLocksSpec : ChangeSpec := { name := "fnLocks", fn := fun _ => fun
  | [d1, d2] => { results := [.lit (.bool true)], args := [d1, d2] }
  | _ => none }
def fnLocksRow : OpenClaim := { program := "ytaalhmaacaahhaa", sum := "c9b711f26ffabb6b069948916000774213051fae7c32a05d0077e7881f14b507", func := "loop.example/g00084/laws.FnLocks", spec := "fnLocks", inPlace := ["slices.overlaps[loop.example/g00084/impl.Lock]", "slices.overlaps[loop.example/g00084/impl.Asked]"], unfollowed := true, recurses := true, apart := false }
def FnLocksSaid : Prop := fnLocksRow.holds Try.pinned (OpenSpec.ofChange fnLocksSpec)

/-- ITS FALSE NEIGHBOUR: 'it returns false'. Refute it at one input. -/
def fnLocksWrong : ChangeSpec := { name := "fnLocks", fn := fun _ => fun
  | [d1, d2] => { results := [.lit (.bool false)], args := [d1, d2] }
  | _ => none }
def FnLocksWrongFalsely : Prop := fnLocksRow.holds Try.pinned (OpenSpec.ofChange fnLocksWrong)

/-- 'laws.FnRoutes': WHATEVER THE INPUT: true; the input reads as it did. -/
def fnRoutesSpec : ChangeSpec := { name := "fnRoutes", fn := fun _ => fun
  | [d] => { results := [.lit (.bool true)], args := [d] }
  | _ => none }
def fnRoutesRow : OpenClaim := { program := "ytaalhmaacaahhaa", sum := "c9b711f26ffabb6b069948916000774213051fae7c32a05d0077e7881f14b507", func := "loop.example/g00084/laws.FnRoutes", spec := "fnRoutes", unfollowed := true, recurses := true, apart := false }
def FnRoutesSaid : Prop := fnRoutesRow.holds Try.pinned (OpenSpec.ofChange fnRoutesSpec)

/-- ITS FALSE NEIGHBOUR: 'it returns false'. Refute it at one input. -/
def fnRoutesWrong : ChangeSpec := { name := "fnRoutes", fn := fun _ => fun
  | [d] => { results := [.lit (.bool false)], args := [d] }
  | _ => none }
def FnRoutesWrongFalsely : Prop := fnRoutesRow.holds Try.pinned (OpenSpec.ofChange fnRoutesWrong)

/-- 'laws.FnDecks': WHATEVER THE INPUT: true; the input reads as it did. -/
def fnDecksSpec : ChangeSpec := { name := "fnDecks", fn := fun _ => fun
  | [d] => { results := [.lit (.bool true)], args := [d] }
  | _ => none }
def fnDecksRow : OpenClaim := { program := "ytaalhmaacaahhaa", sum := "c9b711f26ffabb6b069948916000774213051fae7c32a05d0077e7881f14b507", func := "loop.example/g00084/laws.FnDecks", spec := "fnDecks", unfollowed := true, recurses := true, apart := false }
def FnDecksSaid : Prop := fnDecksRow.holds Try.pinned (OpenSpec.ofChange fnDecksSpec)

/-- ITS FALSE NEIGHBOUR: 'it returns false'. Refute it at one input. -/
def fnDecksWrong : ChangeSpec := { name := "fnDecks", fn := fun _ => fun
  | [d] => { results := [.lit (.bool false)], args := [d] }
  | _ => none }
def FnDecksWrongFalsely : Prop := fnDecksRow.holds Try.pinned (OpenSpec.ofChange fnDecksWrong)

/-- 'laws.FnCabins': WHATEVER THE INPUT: true; the input reads as it did. -/
def fnCabinsSpec : ChangeSpec := { name := "fnCabins", fn := fun _ => fun
  | [d1, d2] => { results := [.lit (.bool true)], args := [d1, d2] }
  | _ => none }
def fnCabinsRow : OpenClaim := { program := "ytaalhmaacaahhaa", sum := "c9b711f26ffabb6b069948916000774213051fae7c32a05d0077e7881f14b507", func := "loop.example/g00084/laws.FnCabins", spec := "fnCabins", unfollowed := true, recurses := true, apart := false }
def FnCabinsSaid : Prop := fnCabinsRow.holds Try.pinned (OpenSpec.ofChange fnCabinsSpec)

/-- ITS FALSE NEIGHBOUR: 'it returns false'. Refute it at one input. -/
def fnCabinsWrong : ChangeSpec := { name := "fnCabins", fn := fun _ => fun
  | [d1, d2] => { results := [.lit (.bool false)], args := [d1, d2] }
  | _ => none }
def FnCabinsWrongFalsely : Prop := fnCabinsRow.holds Try.pinned (OpenSpec.ofChange fnCabinsWrong)

/- THE SECOND FORM. 'bulk': how many values and letters a reading holds, each counted each time it is reached (what is shared counts as often as it is met; a slice's spare places count too). A statement '..UptoSaid' is the law's where the arguments, and the package variables that the reading takes, are together of bulk at most 1048576: NARROWER than '..Said'. Prove '..Said' where nothing that the law and all that it calls make is longer than what came in: it says more and counts as full. Else prove '..UptoSaid'. A law counts once. -/
mutual
def uptoBulk {H : Type} : DataW H → Nat
  | .lit (.string bytes) => bytes.length + 1
  | .lit _ => 1
  | .nil => 1
  | .ptr d => uptoBulk d + 1
  | .slice elems spare => uptoBulkAll elems + uptoBulkAll spare + 1
  | .agg parts => uptoBulkAll parts + 1
  | .iface _ d => uptoBulk d + 1
  | .map entries => uptoBulkEntries entries + 1
  | .held _ => 1
def uptoBulkAll {H : Type} : List (DataW H) → Nat
  | [] => 0
  | d :: r => uptoBulk d + uptoBulkAll r
def uptoBulkEntries {H : Type} : List (Lit × DataW H) → Nat
  | [] => 0
  | x :: r => uptoBulkEntry x + uptoBulkEntries r
def uptoBulkEntry {H : Type} : Lit × DataW H → Nat
  | (.string bytes, d) => bytes.length + uptoBulk d + 1
  | (_, d) => uptoBulk d + 1
 end
def uptoSmall : (H : Type) → List (DataW H) → Bool := fun _ ds => decide (uptoBulkAll ds ≤ 1048576)
def OpenSpec.upto (s : _root_.Go.ChangeSpec) : _root_.Go.OpenSpec := { _root_.Go.OpenSpec.ofChange s with cond := some uptoSmall }

/-- 'laws.FnHandles', WHERE WHAT IT READS IS OF BULK AT MOST 1048576: true; the input reads as it did. -/
def fnHandlesUptoRow : OpenClaim := { program := "ytaalhmaacaahhaa", sum := "c9b711f26ffabb6b069948916000774213051fae7c32a05d0077e7881f14b507", func := "loop.example/g00084/laws.FnHandles", spec := "fnHandles", apart := false, narrowed := true }
def FnHandlesUptoSaid : Prop := fnHandlesUptoRow.holds Try.pinned (OpenSpec.upto fnHandlesSpec)

/-- 'laws.FnLocks', WHERE WHAT IT READS IS OF BULK AT MOST 1048576: true; the input reads as it did. -/
def fnLocksUptoRow : OpenClaim := { program := "ytaalhmaacaahhaa", sum := "c9b711f26ffabb6b069948916000774213051fae7c32a05d0077e7881f14b507", func := "loop.example/g00084/laws.FnLocks", spec := "fnLocks", inPlace := ["slices.overlaps[loop.example/g00084/impl.Lock]", "slices.overlaps[loop.example/g00084/impl.Asked]"], unfollowed := true, recurses := true, apart := false, narrowed := true }
def FnLocksUptoSaid : Prop := fnLocksUptoRow.holds Try.pinned (OpenSpec.upto fnLocksSpec)

/-- 'laws.FnRoutes', WHERE WHAT IT READS IS OF BULK AT MOST 1048576: true; the input reads as it did. -/
def fnRoutesUptoRow : OpenClaim := { program := "ytaalhmaacaahhaa", sum := "c9b711f26ffabb6b069948916000774213051fae7c32a05d0077e7881f14b507", func := "loop.example/g00084/laws.FnRoutes", spec := "fnRoutes", unfollowed := true, recurses := true, apart := false, narrowed := true }
def FnRoutesUptoSaid : Prop := fnRoutesUptoRow.holds Try.pinned (OpenSpec.upto fnRoutesSpec)

/-- 'laws.FnDecks', WHERE WHAT IT READS IS OF BULK AT MOST 1048576: true; the input reads as it did. -/
def fnDecksUptoRow : OpenClaim := { program := "ytaalhmaacaahhaa", sum := "c9b711f26ffabb6b069948916000774213051fae7c32a05d0077e7881f14b507", func := "loop.example/g00084/laws.FnDecks", spec := "fnDecks", unfollowed := true, recurses := true, apart := false, narrowed := true }
def FnDecksUptoSaid : Prop := fnDecksUptoRow.holds Try.pinned (OpenSpec.upto fnDecksSpec)

/-- 'laws.FnCabins', WHERE WHAT IT READS IS OF BULK AT MOST 1048576: true; the input reads as it did. -/
def fnCabinsUptoRow : OpenClaim := { program := "ytaalhmaacaahhaa", sum := "c9b711f26ffabb6b069948916000774213051fae7c32a05d0077e7881f14b507", func := "loop.example/g00084/laws.FnCabins", spec := "fnCabins", unfollowed := true, recurses := true, apart := false, narrowed := true }
def FnCabinsUptoSaid : Prop := fnCabinsUptoRow.holds Try.pinned (OpenSpec.upto fnCabinsSpec)

end Rows
end Go.Proofs.Ytaalhmaacaahhaa
