/-
  NARROWER THAN 'FOR EVERY INPUT', by the rows' own cells (each row's printed sentence says how): FnExactCarFare: laid · FnExactCabinFare: laid · FnExactPriceOf: laid.
  DERIVED. THE GIVEN ROWS OF THIS SEAT. 3 by the template 'for every input the law returns true; each argument reads behind the call as it read before'; 0 by the template 'total and deterministic' (their statements: YtaalhmaacaahhajDoorTotals.lean).
  GIVEN WITH THE SEED: the statements are not yours to turn. If you find one false, say at which input.
  Laid BY PROGRAM, IN A SANDBOX (cutbox-rows.mjs): the forced cells as the released guide's own fill.sh prints them over the translation c8fd5cb70f483a37… (all of the seat's roots in one cut). By AI agents, Wed Nov 11 2026. No macro, syntax, notation, axiom, sorry.
-/
import Derived.Test.YtaalhmaacaahhajDoorChecked
import GoSem.Claim
import GoSem.ClaimJoined
import GoSem.ClaimMapViews
import Derived.JoinedTies
import Derived.KernelRfl
namespace Go.Proofs.YtaalhmaacaahhajDoor
/- THE CELL 'sum', in the pinned program and in every row, IS THE sha256 OF THE DUMP (.gsa) THAT YtaalhmaacaahhajDoorProg.lean LOADS. Nothing in Lean hashes anything: it is a label: what it is worth is what the hold of that sum in a sandbox is worth. -/
noncomputable def Tryd.pinned : Pinned := { name := "ytaalhmaacaahhajdoor", sum := "c8fd5cb70f483a375e88e6db944959a603af9e8adb037e31832d15c8d5aa675d", checked := Tryd.checked }
namespace Rows
def none {H : Type} : Left H := { results := [], args := [] }

/- WHAT THE LISTED PACKAGE-LEVEL VARIABLES READ AS WHEN THE CALL BEGINS. Each datum BY PROGRAM (the guide's laid-datum.mjs) off the statement by which the dump's own 'gosem.cut.vars' lays the variable. In a bare row this is a premise. The card (YtaalhmaacaahhajDoorCards.lean) ties it to the program's text. -/
def laid_loop_example_g00084_impl_carBands {H : Type} : DataW H := .agg [.agg [.lit (.int .i64 0), .lit (.int .i64 60)], .agg [.lit (.int .i64 450), .lit (.int .i64 30)], .agg [.lit (.int .i64 600), .lit (.int .i64 25)]]
def laid_loop_example_g00084_impl_berthFares {H : Type} : DataW H := .agg [.lit (.int .i64 30), .lit (.int .i64 50), .lit (.int .i64 80)]

/-- 'laws.FnExactCarFare': WHATEVER THE INPUT: true; the input reads as it did. -/
def fnExactCarFareSpec : ChangeSpec := { name := "fnExactCarFare", vars := ["loop.example/g00084/impl.carBands"], fn := fun _ => fun
  | [d1, d2, g1] => { results := [.lit (.bool true)], args := [d1, d2], vars := [g1] }
  | _ => none }
def fnExactCarFareRow : OpenClaim := { program := "ytaalhmaacaahhajdoor", sum := "c8fd5cb70f483a375e88e6db944959a603af9e8adb037e31832d15c8d5aa675d", func := "loop.example/g00084/laws.FnExactCarFare", spec := "fnExactCarFare", named := ["loop.example/g00084/impl.carBands"], apart := false, laid := [("loop.example/g00084/impl.carBands", laid_loop_example_g00084_impl_carBands)] }
def FnExactCarFareSaid : Prop := fnExactCarFareRow.holds Tryd.pinned (OpenSpec.ofChange fnExactCarFareSpec)

/-- ITS FALSE NEIGHBOUR: 'it returns false'. Refute it at one input. -/
def fnExactCarFareWrong : ChangeSpec := { name := "fnExactCarFare", vars := ["loop.example/g00084/impl.carBands"], fn := fun _ => fun
  | [d1, d2, g1] => { results := [.lit (.bool false)], args := [d1, d2], vars := [g1] }
  | _ => none }
def FnExactCarFareWrongFalsely : Prop := fnExactCarFareRow.holds Tryd.pinned (OpenSpec.ofChange fnExactCarFareWrong)

/-- 'laws.FnExactCabinFare': WHATEVER THE INPUT: true; the input reads as it did. -/
def fnExactCabinFareSpec : ChangeSpec := { name := "fnExactCabinFare", vars := ["loop.example/g00084/impl.berthFares"], fn := fun _ => fun
  | [d1, d2, d3, g1] => { results := [.lit (.bool true)], args := [d1, d2, d3], vars := [g1] }
  | _ => none }
def fnExactCabinFareRow : OpenClaim := { program := "ytaalhmaacaahhajdoor", sum := "c8fd5cb70f483a375e88e6db944959a603af9e8adb037e31832d15c8d5aa675d", func := "loop.example/g00084/laws.FnExactCabinFare", spec := "fnExactCabinFare", named := ["loop.example/g00084/impl.berthFares"], apart := false, laid := [("loop.example/g00084/impl.berthFares", laid_loop_example_g00084_impl_berthFares)] }
def FnExactCabinFareSaid : Prop := fnExactCabinFareRow.holds Tryd.pinned (OpenSpec.ofChange fnExactCabinFareSpec)

/-- ITS FALSE NEIGHBOUR: 'it returns false'. Refute it at one input. -/
def fnExactCabinFareWrong : ChangeSpec := { name := "fnExactCabinFare", vars := ["loop.example/g00084/impl.berthFares"], fn := fun _ => fun
  | [d1, d2, d3, g1] => { results := [.lit (.bool false)], args := [d1, d2, d3], vars := [g1] }
  | _ => none }
def FnExactCabinFareWrongFalsely : Prop := fnExactCabinFareRow.holds Tryd.pinned (OpenSpec.ofChange fnExactCabinFareWrong)

/-- 'laws.FnExactPriceOf': WHATEVER THE INPUT: true; the input reads as it did. -/
def fnExactPriceOfSpec : ChangeSpec := { name := "fnExactPriceOf", vars := ["loop.example/g00084/impl.carBands", "loop.example/g00084/impl.berthFares"], fn := fun _ => fun
  | [d1, d2, g1, g2] => { results := [.lit (.bool true)], args := [d1, d2], vars := [g1, g2] }
  | _ => none }
def fnExactPriceOfRow : OpenClaim := { program := "ytaalhmaacaahhajdoor", sum := "c8fd5cb70f483a375e88e6db944959a603af9e8adb037e31832d15c8d5aa675d", func := "loop.example/g00084/laws.FnExactPriceOf", spec := "fnExactPriceOf", named := ["loop.example/g00084/impl.carBands", "loop.example/g00084/impl.berthFares"], apart := false, laid := [("loop.example/g00084/impl.carBands", laid_loop_example_g00084_impl_carBands), ("loop.example/g00084/impl.berthFares", laid_loop_example_g00084_impl_berthFares)] }
def FnExactPriceOfSaid : Prop := fnExactPriceOfRow.holds Tryd.pinned (OpenSpec.ofChange fnExactPriceOfSpec)

/-- ITS FALSE NEIGHBOUR: 'it returns false'. Refute it at one input. -/
def fnExactPriceOfWrong : ChangeSpec := { name := "fnExactPriceOf", vars := ["loop.example/g00084/impl.carBands", "loop.example/g00084/impl.berthFares"], fn := fun _ => fun
  | [d1, d2, g1, g2] => { results := [.lit (.bool false)], args := [d1, d2], vars := [g1, g2] }
  | _ => none }
def FnExactPriceOfWrongFalsely : Prop := fnExactPriceOfRow.holds Tryd.pinned (OpenSpec.ofChange fnExactPriceOfWrong)

/- THE SECOND FORM. 'bulk': how many values and letters a reading holds, each counted each time it is reached (what is shared counts as often as it is met; a slice's spare places count too). A statement '..UptoSaid' is the law's where the arguments, and the package variables that the reading takes, are together of bulk at most 1048576: NARROWER than '..Said'. Prove '..Said' where nothing that the law and all that it calls make is longer than what came in: it says more and counts as full. Else prove '..UptoSaid'. A law counts once. -/
mutual
def uptoBulk {H : Type} : DataW H → Nat
  | .lit (.string bytes) => bytes.length + 1
  | .lit _ => 1
  | .nil => 1
  | .ptr d => uptoBulk d + 1
  | .slice elems spare => uptoBulkAll elems + uptoBulkAll spare + 1
  | .agg parts => uptoBulkAll parts + 1
  | .iface _ d => uptoBulk d + 1
  | .map entries => uptoBulkEntries entries + 1
  | .held _ => 1
def uptoBulkAll {H : Type} : List (DataW H) → Nat
  | [] => 0
  | d :: r => uptoBulk d + uptoBulkAll r
def uptoBulkEntries {H : Type} : List (Lit × DataW H) → Nat
  | [] => 0
  | x :: r => uptoBulkEntry x + uptoBulkEntries r
def uptoBulkEntry {H : Type} : Lit × DataW H → Nat
  | (.string bytes, d) => bytes.length + uptoBulk d + 1
  | (_, d) => uptoBulk d + 1
 end
def uptoSmall : (H : Type) → List (DataW H) → Bool := fun _ ds => decide (uptoBulkAll ds ≤ 1048576)
def OpenSpec.upto (s : _root_.Go.ChangeSpec) : _root_.Go.OpenSpec := { _root_.Go.OpenSpec.ofChange s with cond := some uptoSmall }

/-- 'laws.FnExactCarFare', WHERE WHAT IT READS IS OF BULK AT MOST 1048576: true; the input reads as it did. -/
def fnExactCarFareUptoRow : OpenClaim := { program := "ytaalhmaacaahhajdoor", sum := "c8fd5cb70f483a375e88e6db944959a603af9e8adb037e31832d15c8d5aa675d", func := "loop.example/g00084/laws.FnExactCarFare", spec := "fnExactCarFare", named := ["loop.example/g00084/impl.carBands"], apart := false, laid := [("loop.example/g00084/impl.carBands", laid_loop_example_g00084_impl_carBands)], narrowed := true }
def FnExactCarFareUptoSaid : Prop := fnExactCarFareUptoRow.holds Tryd.pinned (OpenSpec.upto fnExactCarFareSpec)

/-- 'laws.FnExactCabinFare', WHERE WHAT IT READS IS OF BULK AT MOST 1048576: true; the input reads as it did. -/
def fnExactCabinFareUptoRow : OpenClaim := { program := "ytaalhmaacaahhajdoor", sum := "c8fd5cb70f483a375e88e6db944959a603af9e8adb037e31832d15c8d5aa675d", func := "loop.example/g00084/laws.FnExactCabinFare", spec := "fnExactCabinFare", named := ["loop.example/g00084/impl.berthFares"], apart := false, laid := [("loop.example/g00084/impl.berthFares", laid_loop_example_g00084_impl_berthFares)], narrowed := true }
def FnExactCabinFareUptoSaid : Prop := fnExactCabinFareUptoRow.holds Tryd.pinned (OpenSpec.upto fnExactCabinFareSpec)

/-- 'laws.FnExactPriceOf', WHERE WHAT IT READS IS OF BULK AT MOST 1048576: true; the input reads as it did. -/
def fnExactPriceOfUptoRow : OpenClaim := { program := "ytaalhmaacaahhajdoor", sum := "c8fd5cb70f483a375e88e6db944959a603af9e8adb037e31832d15c8d5aa675d", func := "loop.example/g00084/laws.FnExactPriceOf", spec := "fnExactPriceOf", named := ["loop.example/g00084/impl.carBands", "loop.example/g00084/impl.berthFares"], apart := false, laid := [("loop.example/g00084/impl.carBands", laid_loop_example_g00084_impl_carBands), ("loop.example/g00084/impl.berthFares", laid_loop_example_g00084_impl_berthFares)], narrowed := true }
def FnExactPriceOfUptoSaid : Prop := fnExactPriceOfUptoRow.holds Tryd.pinned (OpenSpec.upto fnExactPriceOfSpec)

end Rows
end Go.Proofs.YtaalhmaacaahhajDoor
