/-
  No cell of these rows narrows 'for every input' (looked for: loops, veiled, ifaces, maps, wideKeys, modest, calm, conditions, laid).
  DERIVED. THE GIVEN ROWS OF THIS SEAT. 6 by the template 'for every input the law returns true; each argument reads behind the call as it read before'; 0 by the template 'total and deterministic' (their statements: YtaalhmaacaahhaiTotals.lean).
  GIVEN WITH THE SEED: the statements are not yours to turn. If you find one false, say at which input.
  Laid BY PROGRAM, IN A SANDBOX (cutbox-rows.mjs): the forced cells as the released guide's own fill.sh prints them over the translation 5b7f5c024bf0ff66… (all of the seat's roots in one cut). By AI agents, Wed Nov 11 2026. No macro, syntax, notation, axiom, sorry.
-/
import Derived.Test.YtaalhmaacaahhaiChecked
import GoSem.Claim
import GoSem.ClaimJoined
import GoSem.ClaimMapViews
import Derived.JoinedTies
import Derived.KernelRfl
namespace Go.Proofs.Ytaalhmaacaahhai
/- THE CELL 'sum', in the pinned program and in every row, IS THE sha256 OF THE DUMP (.gsa) THAT YtaalhmaacaahhaiProg.lean LOADS. Nothing in Lean hashes anything: it is a label: what it is worth is what the hold of that sum in a sandbox is worth. -/
noncomputable def Try.pinned : Pinned := { name := "ytaalhmaacaahhai", sum := "5b7f5c024bf0ff668a87859e434371a893b7be72cc641cf7926376f9dce648b4", checked := Try.checked }
namespace Rows
def none {H : Type} : Left H := { results := [], args := [] }

/-- 'laws.FnExactPlaceCar': WHATEVER THE INPUT: true; the input reads as it did. -/
def fnExactPlaceCarSpec : ChangeSpec := { name := "fnExactPlaceCar", fn := fun _ => fun
  | [d1, d2, d3, d4, d5] => { results := [.lit (.bool true)], args := [d1, d2, d3, d4, d5] }
  | _ => none }
def fnExactPlaceCarRow : OpenClaim := { program := "ytaalhmaacaahhai", sum := "5b7f5c024bf0ff668a87859e434371a893b7be72cc641cf7926376f9dce648b4", func := "loop.example/g00084/laws.FnExactPlaceCar", spec := "fnExactPlaceCar", unfollowed := true, recurses := true, apart := false }
def FnExactPlaceCarSaid : Prop := fnExactPlaceCarRow.holds Try.pinned (OpenSpec.ofChange fnExactPlaceCarSpec)

/-- ITS FALSE NEIGHBOUR: 'it returns false'. Refute it at one input. -/
def fnExactPlaceCarWrong : ChangeSpec := { name := "fnExactPlaceCar", fn := fun _ => fun
  | [d1, d2, d3, d4, d5] => { results := [.lit (.bool false)], args := [d1, d2, d3, d4, d5] }
  | _ => none }
def FnExactPlaceCarWrongFalsely : Prop := fnExactPlaceCarRow.holds Try.pinned (OpenSpec.ofChange fnExactPlaceCarWrong)

/-- 'laws.FnExactTakeOff': WHATEVER THE INPUT: true; the input reads as it did. -/
def fnExactTakeOffSpec : ChangeSpec := { name := "fnExactTakeOff", fn := fun _ => fun
  | [d1, d2, d3] => { results := [.lit (.bool true)], args := [d1, d2, d3] }
  | _ => none }
def fnExactTakeOffRow : OpenClaim := { program := "ytaalhmaacaahhai", sum := "5b7f5c024bf0ff668a87859e434371a893b7be72cc641cf7926376f9dce648b4", func := "loop.example/g00084/laws.FnExactTakeOff", spec := "fnExactTakeOff", unfollowed := true, recurses := true, apart := false }
def FnExactTakeOffSaid : Prop := fnExactTakeOffRow.holds Try.pinned (OpenSpec.ofChange fnExactTakeOffSpec)

/-- ITS FALSE NEIGHBOUR: 'it returns false'. Refute it at one input. -/
def fnExactTakeOffWrong : ChangeSpec := { name := "fnExactTakeOff", fn := fun _ => fun
  | [d1, d2, d3] => { results := [.lit (.bool false)], args := [d1, d2, d3] }
  | _ => none }
def FnExactTakeOffWrongFalsely : Prop := fnExactTakeOffRow.holds Try.pinned (OpenSpec.ofChange fnExactTakeOffWrong)

/-- 'laws.FnExactGoodRooms': WHATEVER THE INPUT: true; the input reads as it did. -/
def fnExactGoodRoomsSpec : ChangeSpec := { name := "fnExactGoodRooms", fn := fun _ => fun
  | [d1, d2] => { results := [.lit (.bool true)], args := [d1, d2] }
  | _ => none }
def fnExactGoodRoomsRow : OpenClaim := { program := "ytaalhmaacaahhai", sum := "5b7f5c024bf0ff668a87859e434371a893b7be72cc641cf7926376f9dce648b4", func := "loop.example/g00084/laws.FnExactGoodRooms", spec := "fnExactGoodRooms", unfollowed := true, recurses := true, apart := false }
def FnExactGoodRoomsSaid : Prop := fnExactGoodRoomsRow.holds Try.pinned (OpenSpec.ofChange fnExactGoodRoomsSpec)

/-- ITS FALSE NEIGHBOUR: 'it returns false'. Refute it at one input. -/
def fnExactGoodRoomsWrong : ChangeSpec := { name := "fnExactGoodRooms", fn := fun _ => fun
  | [d1, d2] => { results := [.lit (.bool false)], args := [d1, d2] }
  | _ => none }
def FnExactGoodRoomsWrongFalsely : Prop := fnExactGoodRoomsRow.holds Try.pinned (OpenSpec.ofChange fnExactGoodRoomsWrong)

/-- 'laws.FnExactFreeBerths': WHATEVER THE INPUT: true; the input reads as it did. -/
def fnExactFreeBerthsSpec : ChangeSpec := { name := "fnExactFreeBerths", fn := fun _ => fun
  | [d1, d2] => { results := [.lit (.bool true)], args := [d1, d2] }
  | _ => none }
def fnExactFreeBerthsRow : OpenClaim := { program := "ytaalhmaacaahhai", sum := "5b7f5c024bf0ff668a87859e434371a893b7be72cc641cf7926376f9dce648b4", func := "loop.example/g00084/laws.FnExactFreeBerths", spec := "fnExactFreeBerths", unfollowed := true, recurses := true, apart := false }
def FnExactFreeBerthsSaid : Prop := fnExactFreeBerthsRow.holds Try.pinned (OpenSpec.ofChange fnExactFreeBerthsSpec)

/-- ITS FALSE NEIGHBOUR: 'it returns false'. Refute it at one input. -/
def fnExactFreeBerthsWrong : ChangeSpec := { name := "fnExactFreeBerths", fn := fun _ => fun
  | [d1, d2] => { results := [.lit (.bool false)], args := [d1, d2] }
  | _ => none }
def FnExactFreeBerthsWrongFalsely : Prop := fnExactFreeBerthsRow.holds Try.pinned (OpenSpec.ofChange fnExactFreeBerthsWrong)

/-- 'laws.FnExactPlaceWhole': WHATEVER THE INPUT: true; the input reads as it did. -/
def fnExactPlaceWholeSpec : ChangeSpec := { name := "fnExactPlaceWhole", fn := fun _ => fun
  | [d1, d2, d3, d4, d5] => { results := [.lit (.bool true)], args := [d1, d2, d3, d4, d5] }
  | _ => none }
def fnExactPlaceWholeRow : OpenClaim := { program := "ytaalhmaacaahhai", sum := "5b7f5c024bf0ff668a87859e434371a893b7be72cc641cf7926376f9dce648b4", func := "loop.example/g00084/laws.FnExactPlaceWhole", spec := "fnExactPlaceWhole", unfollowed := true, recurses := true, apart := false }
def FnExactPlaceWholeSaid : Prop := fnExactPlaceWholeRow.holds Try.pinned (OpenSpec.ofChange fnExactPlaceWholeSpec)

/-- ITS FALSE NEIGHBOUR: 'it returns false'. Refute it at one input. -/
def fnExactPlaceWholeWrong : ChangeSpec := { name := "fnExactPlaceWhole", fn := fun _ => fun
  | [d1, d2, d3, d4, d5] => { results := [.lit (.bool false)], args := [d1, d2, d3, d4, d5] }
  | _ => none }
def FnExactPlaceWholeWrongFalsely : Prop := fnExactPlaceWholeRow.holds Try.pinned (OpenSpec.ofChange fnExactPlaceWholeWrong)

/-- 'laws.FnExactPlaceBerths': WHATEVER THE INPUT: true; the input reads as it did. -/
def fnExactPlaceBerthsSpec : ChangeSpec := { name := "fnExactPlaceBerths", fn := fun _ => fun
  | [d1, d2, d3, d4, d5] => { results := [.lit (.bool true)], args := [d1, d2, d3, d4, d5] }
  | _ => none }
def fnExactPlaceBerthsRow : OpenClaim := { program := "ytaalhmaacaahhai", sum := "5b7f5c024bf0ff668a87859e434371a893b7be72cc641cf7926376f9dce648b4", func := "loop.example/g00084/laws.FnExactPlaceBerths", spec := "fnExactPlaceBerths", unfollowed := true, recurses := true, apart := false }
def FnExactPlaceBerthsSaid : Prop := fnExactPlaceBerthsRow.holds Try.pinned (OpenSpec.ofChange fnExactPlaceBerthsSpec)

/-- ITS FALSE NEIGHBOUR: 'it returns false'. Refute it at one input. -/
def fnExactPlaceBerthsWrong : ChangeSpec := { name := "fnExactPlaceBerths", fn := fun _ => fun
  | [d1, d2, d3, d4, d5] => { results := [.lit (.bool false)], args := [d1, d2, d3, d4, d5] }
  | _ => none }
def FnExactPlaceBerthsWrongFalsely : Prop := fnExactPlaceBerthsRow.holds Try.pinned (OpenSpec.ofChange fnExactPlaceBerthsWrong)

/- THE SECOND FORM. 'bulk': how many values and letters a reading holds, each counted each time it is reached (what is shared counts as often as it is met; a slice's spare places count too). A statement '..UptoSaid' is the law's where the arguments, and the package variables that the reading takes, are together of bulk at most 1048576: NARROWER than '..Said'. Prove '..Said' where nothing that the law and all that it calls make is longer than what came in: it says more and counts as full. Else prove '..UptoSaid'. A law counts once. -/
mutual
def uptoBulk {H : Type} : DataW H → Nat
  | .lit (.string bytes) => bytes.length + 1
  | .lit _ => 1
  | .nil => 1
  | .ptr d => uptoBulk d + 1
  | .slice elems spare => uptoBulkAll elems + uptoBulkAll spare + 1
  | .agg parts => uptoBulkAll parts + 1
  | .iface _ d => uptoBulk d + 1
  | .map entries => uptoBulkEntries entries + 1
  | .held _ => 1
def uptoBulkAll {H : Type} : List (DataW H) → Nat
  | [] => 0
  | d :: r => uptoBulk d + uptoBulkAll r
def uptoBulkEntries {H : Type} : List (Lit × DataW H) → Nat
  | [] => 0
  | x :: r => uptoBulkEntry x + uptoBulkEntries r
def uptoBulkEntry {H : Type} : Lit × DataW H → Nat
  | (.string bytes, d) => bytes.length + uptoBulk d + 1
  | (_, d) => uptoBulk d + 1
 end
def uptoSmall : (H : Type) → List (DataW H) → Bool := fun _ ds => decide (uptoBulkAll ds ≤ 1048576)
def OpenSpec.upto (s : _root_.Go.ChangeSpec) : _root_.Go.OpenSpec := { _root_.Go.OpenSpec.ofChange s with cond := some uptoSmall }

/-- 'laws.FnExactPlaceCar', WHERE WHAT IT READS IS OF BULK AT MOST 1048576: true; the input reads as it did. -/
def fnExactPlaceCarUptoRow : OpenClaim := { program := "ytaalhmaacaahhai", sum := "5b7f5c024bf0ff668a87859e434371a893b7be72cc641cf7926376f9dce648b4", func := "loop.example/g00084/laws.FnExactPlaceCar", spec := "fnExactPlaceCar", unfollowed := true, recurses := true, apart := false, narrowed := true }
def FnExactPlaceCarUptoSaid : Prop := fnExactPlaceCarUptoRow.holds Try.pinned (OpenSpec.upto fnExactPlaceCarSpec)

/-- 'laws.FnExactTakeOff', WHERE WHAT IT READS IS OF BULK AT MOST 1048576: true; the input reads as it did. -/
def fnExactTakeOffUptoRow : OpenClaim := { program := "ytaalhmaacaahhai", sum := "5b7f5c024bf0ff668a87859e434371a893b7be72cc641cf7926376f9dce648b4", func := "loop.example/g00084/laws.FnExactTakeOff", spec := "fnExactTakeOff", unfollowed := true, recurses := true, apart := false, narrowed := true }
def FnExactTakeOffUptoSaid : Prop := fnExactTakeOffUptoRow.holds Try.pinned (OpenSpec.upto fnExactTakeOffSpec)

/-- 'laws.FnExactGoodRooms', WHERE WHAT IT READS IS OF BULK AT MOST 1048576: true; the input reads as it did. -/
def fnExactGoodRoomsUptoRow : OpenClaim := { program := "ytaalhmaacaahhai", sum := "5b7f5c024bf0ff668a87859e434371a893b7be72cc641cf7926376f9dce648b4", func := "loop.example/g00084/laws.FnExactGoodRooms", spec := "fnExactGoodRooms", unfollowed := true, recurses := true, apart := false, narrowed := true }
def FnExactGoodRoomsUptoSaid : Prop := fnExactGoodRoomsUptoRow.holds Try.pinned (OpenSpec.upto fnExactGoodRoomsSpec)

/-- 'laws.FnExactFreeBerths', WHERE WHAT IT READS IS OF BULK AT MOST 1048576: true; the input reads as it did. -/
def fnExactFreeBerthsUptoRow : OpenClaim := { program := "ytaalhmaacaahhai", sum := "5b7f5c024bf0ff668a87859e434371a893b7be72cc641cf7926376f9dce648b4", func := "loop.example/g00084/laws.FnExactFreeBerths", spec := "fnExactFreeBerths", unfollowed := true, recurses := true, apart := false, narrowed := true }
def FnExactFreeBerthsUptoSaid : Prop := fnExactFreeBerthsUptoRow.holds Try.pinned (OpenSpec.upto fnExactFreeBerthsSpec)

/-- 'laws.FnExactPlaceWhole', WHERE WHAT IT READS IS OF BULK AT MOST 1048576: true; the input reads as it did. -/
def fnExactPlaceWholeUptoRow : OpenClaim := { program := "ytaalhmaacaahhai", sum := "5b7f5c024bf0ff668a87859e434371a893b7be72cc641cf7926376f9dce648b4", func := "loop.example/g00084/laws.FnExactPlaceWhole", spec := "fnExactPlaceWhole", unfollowed := true, recurses := true, apart := false, narrowed := true }
def FnExactPlaceWholeUptoSaid : Prop := fnExactPlaceWholeUptoRow.holds Try.pinned (OpenSpec.upto fnExactPlaceWholeSpec)

/-- 'laws.FnExactPlaceBerths', WHERE WHAT IT READS IS OF BULK AT MOST 1048576: true; the input reads as it did. -/
def fnExactPlaceBerthsUptoRow : OpenClaim := { program := "ytaalhmaacaahhai", sum := "5b7f5c024bf0ff668a87859e434371a893b7be72cc641cf7926376f9dce648b4", func := "loop.example/g00084/laws.FnExactPlaceBerths", spec := "fnExactPlaceBerths", unfollowed := true, recurses := true, apart := false, narrowed := true }
def FnExactPlaceBerthsUptoSaid : Prop := fnExactPlaceBerthsUptoRow.holds Try.pinned (OpenSpec.upto fnExactPlaceBerthsSpec)

end Rows
end Go.Proofs.Ytaalhmaacaahhai
