/-
  OWN TEXT: the walk of laws.FnExactCabinFare: it returns true, and nothing that was there is written.
-/
import Derived.Test.YtaalhmaacaahhajDoorSpecFe
import Derived.Test.YtaalhmaacaahhajDoorCabinI
namespace Go.Proofs.YtaalhmaacaahhajDoor
open Go.RowKit

set_option maxHeartbeats 800000 in
theorem lawCabinFare (x : Int) (b : Bool) (y : Int) (w : World) (hF : FaresAt w) :
    Calls Tryd.prog 4 #[.int .i64 x, .bool b, .int .i64 y] w fun e w' => e = .returned (.bool true) ∧ Below w.heap.size w w' := by
  have HF : Hid (FaresAt w) := hF
  clear hF
  go_enter Tryd.func4, Tryd.ntmps4
  go_wp2_with fail
  refine (specCabin_any x b y _).mono ?_
  rintro e w1 ⟨rfl, hb1⟩
  have b1 : Below w.heap.size w w1 := hb1
  clear hb1
  go_wp2_with fail
  refine (implCabin_any x b y _ (HF.out.below b1)).mono ?_
  rintro e w2 ⟨rfl, hb2⟩
  have b2 : Below w.heap.size w w2 := after b1 hb2
  clear hb2 b1
  go_wp2
  go_ret
  exact ⟨rfl, b2⟩

end Go.Proofs.YtaalhmaacaahhajDoor
