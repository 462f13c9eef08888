/-
  No cell of these rows narrows 'for every input' (looked for: loops, veiled, ifaces, maps, wideKeys, modest, calm, conditions, laid).
  DERIVED. THE GIVEN ROWS OF THIS SEAT. 3 by the template 'for every input the law returns true; each argument reads behind the call as it read before'; 0 by the template 'total and deterministic' (their statements: YtaalhmaacaahhajTotals.lean).
  GIVEN WITH THE SEED: the statements are not yours to turn. If you find one false, say at which input.
  Laid BY PROGRAM, IN A SANDBOX (cutbox-rows.mjs): the forced cells as the released guide's own fill.sh prints them over the translation 42073642dced4847… (all of the seat's roots in one cut). By AI agents, Wed Nov 11 2026. No macro, syntax, notation, axiom, sorry.
-/
import Derived.Test.YtaalhmaacaahhajChecked
import GoSem.Claim
import GoSem.ClaimJoined
import GoSem.ClaimMapViews
import Derived.JoinedTies
import Derived.KernelRfl
namespace Go.Proofs.Ytaalhmaacaahhaj
/- THE CELL 'sum', in the pinned program and in every row, IS THE sha256 OF THE DUMP (.gsa) THAT YtaalhmaacaahhajProg.lean LOADS. Nothing in Lean hashes anything: it is a label: what it is worth is what the hold of that sum in a sandbox is worth. -/
noncomputable def Try.pinned : Pinned := { name := "ytaalhmaacaahhaj", sum := "42073642dced4847076ff8882d777e3c362ac6f4946524ec308d12cf135292cb", checked := Try.checked }
namespace Rows
def none {H : Type} : Left H := { results := [], args := [] }

/-- 'laws.FnExactGoodSeats': WHATEVER THE INPUT: true; the input reads as it did. -/
def fnExactGoodSeatsSpec : ChangeSpec := { name := "fnExactGoodSeats", fn := fun _ => fun
  | [d1, d2] => { results := [.lit (.bool true)], args := [d1, d2] }
  | _ => none }
def fnExactGoodSeatsRow : OpenClaim := { program := "ytaalhmaacaahhaj", sum := "42073642dced4847076ff8882d777e3c362ac6f4946524ec308d12cf135292cb", func := "loop.example/g00084/laws.FnExactGoodSeats", spec := "fnExactGoodSeats", unfollowed := true, recurses := true, apart := false }
def FnExactGoodSeatsSaid : Prop := fnExactGoodSeatsRow.holds Try.pinned (OpenSpec.ofChange fnExactGoodSeatsSpec)

/-- ITS FALSE NEIGHBOUR: 'it returns false'. Refute it at one input. -/
def fnExactGoodSeatsWrong : ChangeSpec := { name := "fnExactGoodSeats", fn := fun _ => fun
  | [d1, d2] => { results := [.lit (.bool false)], args := [d1, d2] }
  | _ => none }
def FnExactGoodSeatsWrongFalsely : Prop := fnExactGoodSeatsRow.holds Try.pinned (OpenSpec.ofChange fnExactGoodSeatsWrong)

/-- 'laws.FnExactTakeSeats': WHATEVER THE INPUT: true; the input reads as it did. -/
def fnExactTakeSeatsSpec : ChangeSpec := { name := "fnExactTakeSeats", fn := fun _ => fun
  | [d1, d2, d3, d4] => { results := [.lit (.bool true)], args := [d1, d2, d3, d4] }
  | _ => none }
def fnExactTakeSeatsRow : OpenClaim := { program := "ytaalhmaacaahhaj", sum := "42073642dced4847076ff8882d777e3c362ac6f4946524ec308d12cf135292cb", func := "loop.example/g00084/laws.FnExactTakeSeats", spec := "fnExactTakeSeats", unfollowed := true, recurses := true, apart := false }
def FnExactTakeSeatsSaid : Prop := fnExactTakeSeatsRow.holds Try.pinned (OpenSpec.ofChange fnExactTakeSeatsSpec)

/-- ITS FALSE NEIGHBOUR: 'it returns false'. Refute it at one input. -/
def fnExactTakeSeatsWrong : ChangeSpec := { name := "fnExactTakeSeats", fn := fun _ => fun
  | [d1, d2, d3, d4] => { results := [.lit (.bool false)], args := [d1, d2, d3, d4] }
  | _ => none }
def FnExactTakeSeatsWrongFalsely : Prop := fnExactTakeSeatsRow.holds Try.pinned (OpenSpec.ofChange fnExactTakeSeatsWrong)

/-- 'laws.FnExactGoodParty': WHATEVER THE INPUT: true; the input reads as it did. -/
def fnExactGoodPartySpec : ChangeSpec := { name := "fnExactGoodParty", fn := fun _ => fun
  | [d] => { results := [.lit (.bool true)], args := [d] }
  | _ => none }
def fnExactGoodPartyRow : OpenClaim := { program := "ytaalhmaacaahhaj", sum := "42073642dced4847076ff8882d777e3c362ac6f4946524ec308d12cf135292cb", func := "loop.example/g00084/laws.FnExactGoodParty", spec := "fnExactGoodParty", apart := false }
def FnExactGoodPartySaid : Prop := fnExactGoodPartyRow.holds Try.pinned (OpenSpec.ofChange fnExactGoodPartySpec)

/-- ITS FALSE NEIGHBOUR: 'it returns false'. Refute it at one input. -/
def fnExactGoodPartyWrong : ChangeSpec := { name := "fnExactGoodParty", fn := fun _ => fun
  | [d] => { results := [.lit (.bool false)], args := [d] }
  | _ => none }
def FnExactGoodPartyWrongFalsely : Prop := fnExactGoodPartyRow.holds Try.pinned (OpenSpec.ofChange fnExactGoodPartyWrong)

/- THE SECOND FORM. 'bulk': how many values and letters a reading holds, each counted each time it is reached (what is shared counts as often as it is met; a slice's spare places count too). A statement '..UptoSaid' is the law's where the arguments, and the package variables that the reading takes, are together of bulk at most 1048576: NARROWER than '..Said'. Prove '..Said' where nothing that the law and all that it calls make is longer than what came in: it says more and counts as full. Else prove '..UptoSaid'. A law counts once. -/
mutual
def uptoBulk {H : Type} : DataW H → Nat
  | .lit (.string bytes) => bytes.length + 1
  | .lit _ => 1
  | .nil => 1
  | .ptr d => uptoBulk d + 1
  | .slice elems spare => uptoBulkAll elems + uptoBulkAll spare + 1
  | .agg parts => uptoBulkAll parts + 1
  | .iface _ d => uptoBulk d + 1
  | .map entries => uptoBulkEntries entries + 1
  | .held _ => 1
def uptoBulkAll {H : Type} : List (DataW H) → Nat
  | [] => 0
  | d :: r => uptoBulk d + uptoBulkAll r
def uptoBulkEntries {H : Type} : List (Lit × DataW H) → Nat
  | [] => 0
  | x :: r => uptoBulkEntry x + uptoBulkEntries r
def uptoBulkEntry {H : Type} : Lit × DataW H → Nat
  | (.string bytes, d) => bytes.length + uptoBulk d + 1
  | (_, d) => uptoBulk d + 1
 end
def uptoSmall : (H : Type) → List (DataW H) → Bool := fun _ ds => decide (uptoBulkAll ds ≤ 1048576)
def OpenSpec.upto (s : _root_.Go.ChangeSpec) : _root_.Go.OpenSpec := { _root_.Go.OpenSpec.ofChange s with cond := some uptoSmall }

/-- 'laws.FnExactGoodSeats', WHERE WHAT IT READS IS OF BULK AT MOST 1048576: true; the input reads as it did. -/
def fnExactGoodSeatsUptoRow : OpenClaim := { program := "ytaalhmaacaahhaj", sum := "42073642dced4847076ff8882d777e3c362ac6f4946524ec308d12cf135292cb", func := "loop.example/g00084/laws.FnExactGoodSeats", spec := "fnExactGoodSeats", unfollowed := true, recurses := true, apart := false, narrowed := true }
def FnExactGoodSeatsUptoSaid : Prop := fnExactGoodSeatsUptoRow.holds Try.pinned (OpenSpec.upto fnExactGoodSeatsSpec)

/-- 'laws.FnExactTakeSeats', WHERE WHAT IT READS IS OF BULK AT MOST 1048576: true; the input reads as it did. -/
def fnExactTakeSeatsUptoRow : OpenClaim := { program := "ytaalhmaacaahhaj", sum := "42073642dced4847076ff8882d777e3c362ac6f4946524ec308d12cf135292cb", func := "loop.example/g00084/laws.FnExactTakeSeats", spec := "fnExactTakeSeats", unfollowed := true, recurses := true, apart := false, narrowed := true }
def FnExactTakeSeatsUptoSaid : Prop := fnExactTakeSeatsUptoRow.holds Try.pinned (OpenSpec.upto fnExactTakeSeatsSpec)

/-- 'laws.FnExactGoodParty', WHERE WHAT IT READS IS OF BULK AT MOST 1048576: true; the input reads as it did. -/
def fnExactGoodPartyUptoRow : OpenClaim := { program := "ytaalhmaacaahhaj", sum := "42073642dced4847076ff8882d777e3c362ac6f4946524ec308d12cf135292cb", func := "loop.example/g00084/laws.FnExactGoodParty", spec := "fnExactGoodParty", apart := false, narrowed := true }
def FnExactGoodPartyUptoSaid : Prop := fnExactGoodPartyUptoRow.holds Try.pinned (OpenSpec.upto fnExactGoodPartySpec)

end Rows
end Go.Proofs.Ytaalhmaacaahhaj
