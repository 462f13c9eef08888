/-
  No cell of these rows narrows 'for every input' (looked for: loops, veiled, ifaces, maps, wideKeys, modest, calm, conditions, laid).
  DERIVED. THE GIVEN ROWS OF THIS SEAT. 6 by the template 'for every input the law returns true; each argument reads behind the call as it read before'; 0 by the template 'total and deterministic' (their statements: YtbmaiidpeafkjafTotals.lean).
  GIVEN WITH THE SEED: the statements are not yours to turn. If you find one false, say at which input.
  Laid BY PROGRAM, IN A SANDBOX (cutbox-rows.mjs): the forced cells as the released guide's own fill.sh prints them over the translation 5b0af33631fbf3d3… (all of the seat's roots in one cut). By AI agents, Wed Nov 11 2026. No macro, syntax, notation, axiom, sorry.
-/
import Derived.Test.YtbmaiidpeafkjafChecked
import GoSem.Claim
import GoSem.ClaimJoined
import GoSem.ClaimMapViews
import Derived.JoinedTies
import Derived.KernelRfl
namespace Go.Proofs.Ytbmaiidpeafkjaf
/- THE CELL 'sum', in the pinned program and in every row, IS THE sha256 OF THE DUMP (.gsa) THAT YtbmaiidpeafkjafProg.lean LOADS. Nothing in Lean hashes anything: it is a label: what it is worth is what the hold of that sum in a sandbox is worth. -/
noncomputable def Try.pinned : Pinned := { name := "ytbmaiidpeafkjaf", sum := "5b0af33631fbf3d319fb42f3e27c4228253ffd501aaf1ec52812022d505982ad", checked := Try.checked }
namespace Rows
def none {H : Type} : Left H := { results := [], args := [] }

/-- 'laws.FnExactGetRecord': WHATEVER THE INPUT: true; the input reads as it did. -/
def fnExactGetRecordSpec : ChangeSpec := { name := "fnExactGetRecord", fn := fun _ => fun
  | [d1, d2] => { results := [.lit (.bool true)], args := [d1, d2] }
  | _ => none }
def fnExactGetRecordRow : OpenClaim := { program := "ytbmaiidpeafkjaf", sum := "5b0af33631fbf3d319fb42f3e27c4228253ffd501aaf1ec52812022d505982ad", func := "loop.example/g00084/laws.FnExactGetRecord", spec := "fnExactGetRecord", apart := false }
def FnExactGetRecordSaid : Prop := fnExactGetRecordRow.holds Try.pinned (OpenSpec.ofChange fnExactGetRecordSpec)

/-- ITS FALSE NEIGHBOUR: 'it returns false'. Refute it at one input. -/
def fnExactGetRecordWrong : ChangeSpec := { name := "fnExactGetRecord", fn := fun _ => fun
  | [d1, d2] => { results := [.lit (.bool false)], args := [d1, d2] }
  | _ => none }
def FnExactGetRecordWrongFalsely : Prop := fnExactGetRecordRow.holds Try.pinned (OpenSpec.ofChange fnExactGetRecordWrong)

/-- 'laws.FnExactSetRecord': WHATEVER THE INPUT: true; the input reads as it did. -/
def fnExactSetRecordSpec : ChangeSpec := { name := "fnExactSetRecord", fn := fun _ => fun
  | [d1, d2, d3] => { results := [.lit (.bool true)], args := [d1, d2, d3] }
  | _ => none }
def fnExactSetRecordRow : OpenClaim := { program := "ytbmaiidpeafkjaf", sum := "5b0af33631fbf3d319fb42f3e27c4228253ffd501aaf1ec52812022d505982ad", func := "loop.example/g00084/laws.FnExactSetRecord", spec := "fnExactSetRecord", apart := false }
def FnExactSetRecordSaid : Prop := fnExactSetRecordRow.holds Try.pinned (OpenSpec.ofChange fnExactSetRecordSpec)

/-- ITS FALSE NEIGHBOUR: 'it returns false'. Refute it at one input. -/
def fnExactSetRecordWrong : ChangeSpec := { name := "fnExactSetRecord", fn := fun _ => fun
  | [d1, d2, d3] => { results := [.lit (.bool false)], args := [d1, d2, d3] }
  | _ => none }
def FnExactSetRecordWrongFalsely : Prop := fnExactSetRecordRow.holds Try.pinned (OpenSpec.ofChange fnExactSetRecordWrong)

/-- 'laws.FnExactDropRecord': WHATEVER THE INPUT: true; the input reads as it did. -/
def fnExactDropRecordSpec : ChangeSpec := { name := "fnExactDropRecord", fn := fun _ => fun
  | [d1, d2] => { results := [.lit (.bool true)], args := [d1, d2] }
  | _ => none }
def fnExactDropRecordRow : OpenClaim := { program := "ytbmaiidpeafkjaf", sum := "5b0af33631fbf3d319fb42f3e27c4228253ffd501aaf1ec52812022d505982ad", func := "loop.example/g00084/laws.FnExactDropRecord", spec := "fnExactDropRecord", apart := false }
def FnExactDropRecordSaid : Prop := fnExactDropRecordRow.holds Try.pinned (OpenSpec.ofChange fnExactDropRecordSpec)

/-- ITS FALSE NEIGHBOUR: 'it returns false'. Refute it at one input. -/
def fnExactDropRecordWrong : ChangeSpec := { name := "fnExactDropRecord", fn := fun _ => fun
  | [d1, d2] => { results := [.lit (.bool false)], args := [d1, d2] }
  | _ => none }
def FnExactDropRecordWrongFalsely : Prop := fnExactDropRecordRow.holds Try.pinned (OpenSpec.ofChange fnExactDropRecordWrong)

/-- 'laws.FnExactRecordsIn': WHATEVER THE INPUT: true; the input reads as it did. -/
def fnExactRecordsInSpec : ChangeSpec := { name := "fnExactRecordsIn", fn := fun _ => fun
  | [d] => { results := [.lit (.bool true)], args := [d] }
  | _ => none }
def fnExactRecordsInRow : OpenClaim := { program := "ytbmaiidpeafkjaf", sum := "5b0af33631fbf3d319fb42f3e27c4228253ffd501aaf1ec52812022d505982ad", func := "loop.example/g00084/laws.FnExactRecordsIn", spec := "fnExactRecordsIn", apart := false }
def FnExactRecordsInSaid : Prop := fnExactRecordsInRow.holds Try.pinned (OpenSpec.ofChange fnExactRecordsInSpec)

/-- ITS FALSE NEIGHBOUR: 'it returns false'. Refute it at one input. -/
def fnExactRecordsInWrong : ChangeSpec := { name := "fnExactRecordsIn", fn := fun _ => fun
  | [d] => { results := [.lit (.bool false)], args := [d] }
  | _ => none }
def FnExactRecordsInWrongFalsely : Prop := fnExactRecordsInRow.holds Try.pinned (OpenSpec.ofChange fnExactRecordsInWrong)

/-- 'laws.FnExactGoodLocks': WHATEVER THE INPUT: true; the input reads as it did. -/
def fnExactGoodLocksSpec : ChangeSpec := { name := "fnExactGoodLocks", fn := fun _ => fun
  | [d] => { results := [.lit (.bool true)], args := [d] }
  | _ => none }
def fnExactGoodLocksRow : OpenClaim := { program := "ytbmaiidpeafkjaf", sum := "5b0af33631fbf3d319fb42f3e27c4228253ffd501aaf1ec52812022d505982ad", func := "loop.example/g00084/laws.FnExactGoodLocks", spec := "fnExactGoodLocks", apart := false }
def FnExactGoodLocksSaid : Prop := fnExactGoodLocksRow.holds Try.pinned (OpenSpec.ofChange fnExactGoodLocksSpec)

/-- ITS FALSE NEIGHBOUR: 'it returns false'. Refute it at one input. -/
def fnExactGoodLocksWrong : ChangeSpec := { name := "fnExactGoodLocks", fn := fun _ => fun
  | [d] => { results := [.lit (.bool false)], args := [d] }
  | _ => none }
def FnExactGoodLocksWrongFalsely : Prop := fnExactGoodLocksRow.holds Try.pinned (OpenSpec.ofChange fnExactGoodLocksWrong)

/-- 'laws.FnExactAskLock': WHATEVER THE INPUT: true; the input reads as it did. -/
def fnExactAskLockSpec : ChangeSpec := { name := "fnExactAskLock", fn := fun _ => fun
  | [d1, d2, d3, d4] => { results := [.lit (.bool true)], args := [d1, d2, d3, d4] }
  | _ => none }
def fnExactAskLockRow : OpenClaim := { program := "ytbmaiidpeafkjaf", sum := "5b0af33631fbf3d319fb42f3e27c4228253ffd501aaf1ec52812022d505982ad", func := "loop.example/g00084/laws.FnExactAskLock", spec := "fnExactAskLock", inPlace := ["slices.overlaps[loop.example/g00084/impl.Lock]", "slices.overlaps[loop.example/g00084/impl.Asked]"], unfollowed := true, recurses := true, apart := false }
def FnExactAskLockSaid : Prop := fnExactAskLockRow.holds Try.pinned (OpenSpec.ofChange fnExactAskLockSpec)

/-- ITS FALSE NEIGHBOUR: 'it returns false'. Refute it at one input. -/
def fnExactAskLockWrong : ChangeSpec := { name := "fnExactAskLock", fn := fun _ => fun
  | [d1, d2, d3, d4] => { results := [.lit (.bool false)], args := [d1, d2, d3, d4] }
  | _ => none }
def FnExactAskLockWrongFalsely : Prop := fnExactAskLockRow.holds Try.pinned (OpenSpec.ofChange fnExactAskLockWrong)

/- THE SECOND FORM. 'bulk': how many values and letters a reading holds, each counted each time it is reached (what is shared counts as often as it is met; a slice's spare places count too). A statement '..UptoSaid' is the law's where the arguments, and the package variables that the reading takes, are together of bulk at most 1048576: NARROWER than '..Said'. Prove '..Said' where nothing that the law and all that it calls make is longer than what came in: it says more and counts as full. Else prove '..UptoSaid'. A law counts once. -/
mutual
def uptoBulk {H : Type} : DataW H → Nat
  | .lit (.string bytes) => bytes.length + 1
  | .lit _ => 1
  | .nil => 1
  | .ptr d => uptoBulk d + 1
  | .slice elems spare => uptoBulkAll elems + uptoBulkAll spare + 1
  | .agg parts => uptoBulkAll parts + 1
  | .iface _ d => uptoBulk d + 1
  | .map entries => uptoBulkEntries entries + 1
  | .held _ => 1
def uptoBulkAll {H : Type} : List (DataW H) → Nat
  | [] => 0
  | d :: r => uptoBulk d + uptoBulkAll r
def uptoBulkEntries {H : Type} : List (Lit × DataW H) → Nat
  | [] => 0
  | x :: r => uptoBulkEntry x + uptoBulkEntries r
def uptoBulkEntry {H : Type} : Lit × DataW H → Nat
  | (.string bytes, d) => bytes.length + uptoBulk d + 1
  | (_, d) => uptoBulk d + 1
 end
def uptoSmall : (H : Type) → List (DataW H) → Bool := fun _ ds => decide (uptoBulkAll ds ≤ 1048576)
def OpenSpec.upto (s : _root_.Go.ChangeSpec) : _root_.Go.OpenSpec := { _root_.Go.OpenSpec.ofChange s with cond := some uptoSmall }

/-- 'laws.FnExactGetRecord', WHERE WHAT IT READS IS OF BULK AT MOST 1048576: true; the input reads as it did. -/
def fnExactGetRecordUptoRow : OpenClaim := { program := "ytbmaiidpeafkjaf", sum := "5b0af33631fbf3d319fb42f3e27c4228253ffd501aaf1ec52812022d505982ad", func := "loop.example/g00084/laws.FnExactGetRecord", spec := "fnExactGetRecord", apart := false, narrowed := true }
def FnExactGetRecordUptoSaid : Prop := fnExactGetRecordUptoRow.holds Try.pinned (OpenSpec.upto fnExactGetRecordSpec)

/-- 'laws.FnExactSetRecord', WHERE WHAT IT READS IS OF BULK AT MOST 1048576: true; the input reads as it did. -/
def fnExactSetRecordUptoRow : OpenClaim := { program := "ytbmaiidpeafkjaf", sum := "5b0af33631fbf3d319fb42f3e27c4228253ffd501aaf1ec52812022d505982ad", func := "loop.example/g00084/laws.FnExactSetRecord", spec := "fnExactSetRecord", apart := false, narrowed := true }
def FnExactSetRecordUptoSaid : Prop := fnExactSetRecordUptoRow.holds Try.pinned (OpenSpec.upto fnExactSetRecordSpec)

/-- 'laws.FnExactDropRecord', WHERE WHAT IT READS IS OF BULK AT MOST 1048576: true; the input reads as it did. -/
def fnExactDropRecordUptoRow : OpenClaim := { program := "ytbmaiidpeafkjaf", sum := "5b0af33631fbf3d319fb42f3e27c4228253ffd501aaf1ec52812022d505982ad", func := "loop.example/g00084/laws.FnExactDropRecord", spec := "fnExactDropRecord", apart := false, narrowed := true }
def FnExactDropRecordUptoSaid : Prop := fnExactDropRecordUptoRow.holds Try.pinned (OpenSpec.upto fnExactDropRecordSpec)

/-- 'laws.FnExactRecordsIn', WHERE WHAT IT READS IS OF BULK AT MOST 1048576: true; the input reads as it did. -/
def fnExactRecordsInUptoRow : OpenClaim := { program := "ytbmaiidpeafkjaf", sum := "5b0af33631fbf3d319fb42f3e27c4228253ffd501aaf1ec52812022d505982ad", func := "loop.example/g00084/laws.FnExactRecordsIn", spec := "fnExactRecordsIn", apart := false, narrowed := true }
def FnExactRecordsInUptoSaid : Prop := fnExactRecordsInUptoRow.holds Try.pinned (OpenSpec.upto fnExactRecordsInSpec)

/-- 'laws.FnExactGoodLocks', WHERE WHAT IT READS IS OF BULK AT MOST 1048576: true; the input reads as it did. -/
def fnExactGoodLocksUptoRow : OpenClaim := { program := "ytbmaiidpeafkjaf", sum := "5b0af33631fbf3d319fb42f3e27c4228253ffd501aaf1ec52812022d505982ad", func := "loop.example/g00084/laws.FnExactGoodLocks", spec := "fnExactGoodLocks", apart := false, narrowed := true }
def FnExactGoodLocksUptoSaid : Prop := fnExactGoodLocksUptoRow.holds Try.pinned (OpenSpec.upto fnExactGoodLocksSpec)

/-- 'laws.FnExactAskLock', WHERE WHAT IT READS IS OF BULK AT MOST 1048576: true; the input reads as it did. -/
def fnExactAskLockUptoRow : OpenClaim := { program := "ytbmaiidpeafkjaf", sum := "5b0af33631fbf3d319fb42f3e27c4228253ffd501aaf1ec52812022d505982ad", func := "loop.example/g00084/laws.FnExactAskLock", spec := "fnExactAskLock", inPlace := ["slices.overlaps[loop.example/g00084/impl.Lock]", "slices.overlaps[loop.example/g00084/impl.Asked]"], unfollowed := true, recurses := true, apart := false, narrowed := true }
def FnExactAskLockUptoSaid : Prop := fnExactAskLockUptoRow.holds Try.pinned (OpenSpec.upto fnExactAskLockSpec)

end Rows
end Go.Proofs.Ytbmaiidpeafkjaf
