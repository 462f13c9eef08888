/-
  OWN TEXT: the walk of laws.FnExactGoodTimetable: it returns true, and nothing that was there is written.
-/
import Derived.Test.YtaalhmaacaahhahSpecT
import Derived.Test.YtaalhmaacaahhahImplT
namespace Go.Proofs.Ytaalhmaacaahhah
open Go.RowKit

set_option maxHeartbeats 1600000 in
theorem lawGoodTimetable (ao : Option Addr) (N c : Nat) (S : Nat → Sail) (w : World) (hN : N ≤ 1000000000000000) (hs : ShortAll N S 1000000000000000) (hx : SailsAt w ao N S) :
    Calls Try.prog 3 #[.slice ao N c] w fun e w' => e = .returned (.bool true) ∧ Below w.heap.size w w' := by
  go_enter Try.func3, Try.ntmps3
  go_wp2_with fail
  refine (szSailingS_any ao N c S _ hN hs hx).mono ?_
  rintro e w1 ⟨r, rfl, hr, hb1⟩
  rcases hr with rfl | ⟨r0, hf, hs2⟩
  · go_wp2
    go_ret
    exact ⟨rfl, hb1⟩
  · have HS : Hid (ShortAll N S 1048576) := hs2
    have d0 : decide (r < 0) = false := by simpa using r0
    clear hs2 hs
    go_wp2_with fail
    refine (toSailingS_any ao N c S _ hf HS.out (hx.below hb1)).mono ?_
    rintro e w2 ⟨g, h, q, rfl, hl2, hb2⟩
    have hl2 := hl2.sails (fun i hi => (HS.out i hi).2.2.1) (fun i hi => (HS.out i hi).2.2.2)
    have hbel2 := after hb1 hb2
    clear hb1 hb2
    go_wp2_with fail
    refine (specTab_any _ N N S _ hf HS.out hl2).mono ?_
    rintro e w3 ⟨⟨b1, rfl, hi1⟩, hb3⟩
    have HI1 : Hid (b1 = true ↔ GoodTab N S) := hi1
    have hbel3 := after hbel2 hb3
    clear hi1 hl2 hbel2 hb3
    go_wp2_with fail
    refine (toSailingS_any ao N c S _ hf HS.out (hx.below hbel3)).mono ?_
    rintro e w4 ⟨g, h, q, rfl, hl4, hb4⟩
    have hl4 := hl4.sails (fun i hi => (HS.out i hi).2.2.1) (fun i hi => (HS.out i hi).2.2.2)
    have hbel4 := after hbel3 hb4
    clear hbel3 hb4
    go_wp2_with fail
    refine (implTab_any _ N N S _ hf HS.out hl4).mono ?_
    rintro e w5 ⟨⟨b2, rfl, hi2⟩, hb5⟩
    obtain rfl : b2 = b1 := bool_eq hi2 HI1.out
    have hl5 := hl4.below hb5
    have hbel5 := after hbel4 hb5
    clear hi2 HI1 hl4 hbel4 hb5
    go_wp2_with fail
    refine (toSailingS_any ao N c S _ hf HS.out (hx.below hbel5)).mono ?_
    rintro e w6 ⟨g6, h6, q6, rfl, hl6, hb6⟩
    have hl6 := hl6.sails (fun i hi => (HS.out i hi).2.2.1) (fun i hi => (HS.out i hi).2.2.2)
    have hl5 := hl5.below hb6
    have hbel6 := after hbel5 hb6
    clear hbel5 hb6
    go_wp2_with fail
    refine (eqSailingS_same _ _ N N N S _ hf HS.out hl5 hl6).mono ?_
    rintro e w7 ⟨rfl, hb7⟩
    go_wp2
    go_ret
    exact ⟨rfl, after hbel6 hb7⟩

end Go.Proofs.Ytaalhmaacaahhah
