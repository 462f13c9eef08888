/-
  DERIVED. GIVEN WITH THE SEED: THE PROGRAM's TIES (one call each: nine closed facts by the kernel) AND EACH ROW's TIE, after the 31st guide's Derived/Test/Toyas{Tie, Card}.lean. No idea stands in it: it is a product of the set-up. Laid BY PROGRAM, IN A SANDBOX (cutbox-door.mjs). By AI agents, Wed Nov 11 2026. No macro, syntax, notation, axiom, sorry.
-/
import Derived.Test.YtmdnjgihooflfaaGreatDoorRows
import Derived.LaidByTextLater
import Derived.SevenTiedAt
import Derived.LaidSub
import Derived.LaidOnce
namespace Go.Proofs.YtmdnjgihooflfaaGreatDoor
open Go
set_option maxRecDepth 100000
theorem seatTie1 : Tryz.prog.laidByTextLater [("errors.errorType", Rows.laid_errors_errorType), ("loop.example/g00084/impl.carBands", Rows.laid_loop_example_g00084_impl_carBands), ("loop.example/g00084/impl.berthFares", Rows.laid_loop_example_g00084_impl_berthFares), ("loop.example/g00084/impl.errForm", Rows.laid_loop_example_g00084_impl_errForm), ("loop.example/g00084/impl.errRoute", Rows.laid_loop_example_g00084_impl_errRoute), ("loop.example/g00084/impl.errNone", Rows.laid_loop_example_g00084_impl_errNone), ("loop.example/g00084/impl.errState", Rows.laid_loop_example_g00084_impl_errState), ("loop.example/g00084/impl.errDeck", Rows.laid_loop_example_g00084_impl_errDeck), ("loop.example/g00084/impl.errCabin", Rows.laid_loop_example_g00084_impl_errCabin), ("loop.example/g00084/impl.errPeople", Rows.laid_loop_example_g00084_impl_errPeople), ("loop.example/g00084/impl.errFull", Rows.laid_loop_example_g00084_impl_errFull), ("loop.example/g00084/impl.opForms", Rows.laid_loop_example_g00084_impl_opForms)] [.handle, .data, .data, .sentinel, .sentinel, .sentinel, .sentinel, .sentinel, .sentinel, .sentinel, .sentinel, .data] true :=
  Program.laidByTextLater_by_one 195 8 71 (by kernel_rfl) (by kernel_rfl) (by kernel_rfl) (by kernel_rfl) (by kernel_rfl) (by kernel_rfl) (fun _ _ => by kernel_rfl)
theorem noOwnUnsafe : Tryz.pinned.checked.prog.headLifts.contains "ownunsafe" = false := by kernel_rfl
theorem tie : Tryz.prog.laidByTextLater [("errors.errorType", Rows.laid_errors_errorType), ("loop.example/g00084/impl.carBands", Rows.laid_loop_example_g00084_impl_carBands), ("loop.example/g00084/impl.berthFares", Rows.laid_loop_example_g00084_impl_berthFares), ("loop.example/g00084/impl.errForm", Rows.laid_loop_example_g00084_impl_errForm), ("loop.example/g00084/impl.errRoute", Rows.laid_loop_example_g00084_impl_errRoute), ("loop.example/g00084/impl.errNone", Rows.laid_loop_example_g00084_impl_errNone), ("loop.example/g00084/impl.errState", Rows.laid_loop_example_g00084_impl_errState), ("loop.example/g00084/impl.errDeck", Rows.laid_loop_example_g00084_impl_errDeck), ("loop.example/g00084/impl.errCabin", Rows.laid_loop_example_g00084_impl_errCabin), ("loop.example/g00084/impl.errPeople", Rows.laid_loop_example_g00084_impl_errPeople), ("loop.example/g00084/impl.errFull", Rows.laid_loop_example_g00084_impl_errFull), ("loop.example/g00084/impl.opForms", Rows.laid_loop_example_g00084_impl_opForms)] [.handle, .data, .data, .sentinel, .sentinel, .sentinel, .sentinel, .sentinel, .sentinel, .sentinel, .sentinel, .data] true :=
  Program.laidByTextLater.sub seatTie1 ["errors.errorType", "loop.example/g00084/impl.carBands", "loop.example/g00084/impl.berthFares", "loop.example/g00084/impl.errForm", "loop.example/g00084/impl.errRoute", "loop.example/g00084/impl.errNone", "loop.example/g00084/impl.errState", "loop.example/g00084/impl.errDeck", "loop.example/g00084/impl.errCabin", "loop.example/g00084/impl.errPeople", "loop.example/g00084/impl.errFull", "loop.example/g00084/impl.opForms"] (by kernel_rfl) (by kernel_rfl)
theorem fnExactDoOp_row_tie : Rows.fnExactDoOpRow.laidByTextAt .later Tryz.pinned [.handle, .data, .data, .sentinel, .sentinel, .sentinel, .sentinel, .sentinel, .sentinel, .sentinel, .sentinel, .data] true :=
  OpenClaim.laidByTextAt_later rfl rfl tie noOwnUnsafe
theorem fnExactDoAll_row_tie : Rows.fnExactDoAllRow.laidByTextAt .later Tryz.pinned [.handle, .data, .data, .sentinel, .sentinel, .sentinel, .sentinel, .sentinel, .sentinel, .sentinel, .sentinel, .data] true :=
  OpenClaim.laidByTextAt_later rfl rfl tie noOwnUnsafe
theorem fnExactReplayDone_row_tie : Rows.fnExactReplayDoneRow.laidByTextAt .later Tryz.pinned [.handle, .data, .data, .sentinel, .sentinel, .sentinel, .sentinel, .sentinel, .sentinel, .sentinel, .sentinel, .data] true :=
  OpenClaim.laidByTextAt_later rfl rfl tie noOwnUnsafe
theorem fnExactDoOpUpto_row_tie : Rows.fnExactDoOpUptoRow.laidByTextAt .later Tryz.pinned [.handle, .data, .data, .sentinel, .sentinel, .sentinel, .sentinel, .sentinel, .sentinel, .sentinel, .sentinel, .data] true :=
  OpenClaim.laidByTextAt_later rfl rfl tie noOwnUnsafe
theorem fnExactDoAllUpto_row_tie : Rows.fnExactDoAllUptoRow.laidByTextAt .later Tryz.pinned [.handle, .data, .data, .sentinel, .sentinel, .sentinel, .sentinel, .sentinel, .sentinel, .sentinel, .sentinel, .data] true :=
  OpenClaim.laidByTextAt_later rfl rfl tie noOwnUnsafe
theorem fnExactReplayDoneUpto_row_tie : Rows.fnExactReplayDoneUptoRow.laidByTextAt .later Tryz.pinned [.handle, .data, .data, .sentinel, .sentinel, .sentinel, .sentinel, .sentinel, .sentinel, .sentinel, .sentinel, .data] true :=
  OpenClaim.laidByTextAt_later rfl rfl tie noOwnUnsafe
end Go.Proofs.YtmdnjgihooflfaaGreatDoor
