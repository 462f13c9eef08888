/-
  DERIVED. GIVEN WITH THE SEED: THE PROGRAM's TIES (one call each: nine closed facts by the kernel) AND EACH ROW's TIE, after the 31st guide's Derived/Test/Toyas{Tie, Card}.lean. No idea stands in it: it is a product of the set-up. Laid BY PROGRAM, IN A SANDBOX (cutbox-door.mjs). By AI agents, Wed Nov 11 2026. No macro, syntax, notation, axiom, sorry.
-/
import Derived.Test.YtaalhmaacaahhajDoorRows
import Derived.LaidByTextLater
import Derived.SevenTiedAt
import Derived.LaidSub
import Derived.LaidOnce
namespace Go.Proofs.YtaalhmaacaahhajDoor
open Go
set_option maxRecDepth 100000
theorem seatTie1 : Tryd.prog.laidByTextLater [("loop.example/g00084/impl.carBands", Rows.laid_loop_example_g00084_impl_carBands), ("loop.example/g00084/impl.berthFares", Rows.laid_loop_example_g00084_impl_berthFares)] [.data, .data] true :=
  Program.laidByTextLater_by_one 22 8 7 (by kernel_rfl) (by kernel_rfl) (by kernel_rfl) (by kernel_rfl) (by kernel_rfl) (by kernel_rfl) (fun _ _ => by kernel_rfl)
theorem noOwnUnsafe : Tryd.pinned.checked.prog.headLifts.contains "ownunsafe" = false := by kernel_rfl
theorem tie : Tryd.prog.laidByTextLater [("loop.example/g00084/impl.carBands", Rows.laid_loop_example_g00084_impl_carBands)] [.data] true :=
  Program.laidByTextLater.sub seatTie1 ["loop.example/g00084/impl.carBands"] (by kernel_rfl) (by kernel_rfl)
theorem fnExactCarFare_row_tie : Rows.fnExactCarFareRow.laidByTextAt .later Tryd.pinned [.data] true :=
  OpenClaim.laidByTextAt_later rfl rfl tie noOwnUnsafe
theorem tie2 : Tryd.prog.laidByTextLater [("loop.example/g00084/impl.berthFares", Rows.laid_loop_example_g00084_impl_berthFares)] [.data] true :=
  Program.laidByTextLater.sub seatTie1 ["loop.example/g00084/impl.berthFares"] (by kernel_rfl) (by kernel_rfl)
theorem fnExactCabinFare_row_tie : Rows.fnExactCabinFareRow.laidByTextAt .later Tryd.pinned [.data] true :=
  OpenClaim.laidByTextAt_later rfl rfl tie2 noOwnUnsafe
theorem tie3 : Tryd.prog.laidByTextLater [("loop.example/g00084/impl.carBands", Rows.laid_loop_example_g00084_impl_carBands), ("loop.example/g00084/impl.berthFares", Rows.laid_loop_example_g00084_impl_berthFares)] [.data, .data] true :=
  Program.laidByTextLater.sub seatTie1 ["loop.example/g00084/impl.carBands", "loop.example/g00084/impl.berthFares"] (by kernel_rfl) (by kernel_rfl)
theorem fnExactPriceOf_row_tie : Rows.fnExactPriceOfRow.laidByTextAt .later Tryd.pinned [.data, .data] true :=
  OpenClaim.laidByTextAt_later rfl rfl tie3 noOwnUnsafe
theorem fnExactCarFareUpto_row_tie : Rows.fnExactCarFareUptoRow.laidByTextAt .later Tryd.pinned [.data] true :=
  OpenClaim.laidByTextAt_later rfl rfl tie noOwnUnsafe
theorem fnExactCabinFareUpto_row_tie : Rows.fnExactCabinFareUptoRow.laidByTextAt .later Tryd.pinned [.data] true :=
  OpenClaim.laidByTextAt_later rfl rfl tie2 noOwnUnsafe
theorem fnExactPriceOfUpto_row_tie : Rows.fnExactPriceOfUptoRow.laidByTextAt .later Tryd.pinned [.data, .data] true :=
  OpenClaim.laidByTextAt_later rfl rfl tie3 noOwnUnsafe
end Go.Proofs.YtaalhmaacaahhajDoor
