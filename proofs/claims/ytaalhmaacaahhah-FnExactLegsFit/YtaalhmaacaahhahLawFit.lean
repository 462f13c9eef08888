/-
  OWN TEXT: the walk of laws.FnExactLegsFit: it returns true, and nothing that was there is written.
-/
import Derived.Test.YtaalhmaacaahhahFitS
import Derived.Test.YtaalhmaacaahhahFitI
import Derived.Test.YtaalhmaacaahhahInts
namespace Go.Proofs.Ytaalhmaacaahhah
open Go.RowKit

set_option maxHeartbeats 1600000 in
theorem lawLegsFit (ao : Option Addr) (N c : Nat) (S : Nat → Sail) (bo : Option Addr) (n c' : Nat) (G : Nat → Int) (w : World) (hN : N ≤ 1000000000000000) (hs : ShortAll N S 1000000000000000) (hx : SailsAt w ao N S) (hn : n ≤ 1000000000000000) (hy : IntsAt w bo n G) :
    Calls Try.prog 4 #[.slice ao N c, .slice bo n c'] w fun e w' => e = .returned (.bool true) ∧ Below w.heap.size w w' := by
  by_cases hm : n ≤ 1048576
  case neg =>
    have dm : decide (1048576 < n) = true := by simp; omega
    go_enter Try.func4, Try.ntmps4
    go_wp2
    go_ret
    exact ⟨rfl, Below.refl _ _⟩
  have dm : decide (1048576 < n) = false := by simp; omega
  go_enter Try.func4, Try.ntmps4
  go_wp2_with fail
  refine (szSailingS_any ao N c S _ hN hs hx).mono ?_
  rintro e w1 ⟨r, rfl, hr, hb1⟩
  rcases hr with rfl | ⟨r0, hf, hs2⟩
  · go_wp2
    go_ret
    exact ⟨rfl, hb1⟩
  · have HS : Hid (ShortAll N S 1048576) := hs2
    have d0 : decide (r < 0) = false := by simpa using r0
    clear hs2 hs
    go_wp2_with fail
    refine (toSailingS_any ao N c S _ hf HS.out (hx.below hb1)).mono ?_
    rintro e w2 ⟨g, h, q, rfl, hl2, hb2⟩
    have hl2 := hl2.sails (fun i hi => (HS.out i hi).2.2.1) (fun i hi => (HS.out i hi).2.2.2)
    have hbel2 := after hb1 hb2
    clear hb1 hb2
    go_wp2_with fail
    refine (toIntS_any bo n c' G _ hm (hy.below hbel2)).mono ?_
    rintro e w3 ⟨g3, rfl, _, hr3, hb3⟩
    have hi3 := IntsAt.of_row hr3
    have hl3 := hl2.below hb3
    have hbel3 := after hbel2 hb3
    clear hl2 hbel2 hb3 hr3
    go_wp2_with fail
    refine (specFit_any _ _ N n N n S G _ hf hm HS.out hl3 hi3).mono ?_
    rintro e w4 ⟨⟨b1, rfl, hi1⟩, hb4⟩
    have HI1 : Hid (b1 = true ↔ GoodTab N S ∧ LegsOk N S n G) := hi1
    have hbel4 := after hbel3 hb4
    clear hi1 hl3 hi3 hbel3 hb4
    go_wp2_with fail
    refine (toSailingS_any ao N c S _ hf HS.out (hx.below hbel4)).mono ?_
    rintro e w5 ⟨g5, h5, q5, rfl, hl5, hb5⟩
    have hl5 := hl5.sails (fun i hi => (HS.out i hi).2.2.1) (fun i hi => (HS.out i hi).2.2.2)
    have hbel5 := after hbel4 hb5
    clear hbel4 hb5
    go_wp2_with fail
    refine (toIntS_any bo n c' G _ hm (hy.below hbel5)).mono ?_
    rintro e w6 ⟨g6, rfl, _, hr6, hb6⟩
    have hi6 := IntsAt.of_row hr6
    have hl6 := hl5.below hb6
    have hbel6 := after hbel5 hb6
    clear hl5 hbel5 hb6 hr6
    go_wp2_with fail
    refine (implFit_any _ _ N n N n S G _ hf hm HS.out hl6 hi6).mono ?_
    rintro e w7 ⟨⟨b2, rfl, hi2⟩, hb7⟩
    obtain rfl : b2 = b1 := bool_eq hi2 HI1.out
    have hl7 := hl6.below hb7
    have hi7 := hi6.below hb7
    have hbel7 := after hbel6 hb7
    clear hi2 HI1 hl6 hi6 hbel6 hb7
    go_wp2_with fail
    refine (toSailingS_any ao N c S _ hf HS.out (hx.below hbel7)).mono ?_
    rintro e w8 ⟨g8, h8, q8, rfl, hl8, hb8⟩
    have hl8 := hl8.sails (fun i hi => (HS.out i hi).2.2.1) (fun i hi => (HS.out i hi).2.2.2)
    have hl7 := hl7.below hb8
    have hi7 := hi7.below hb8
    have hbel8 := after hbel7 hb8
    clear hbel7 hb8
    go_wp2_with fail
    refine (eqSailingS_same _ _ N N N S _ hf HS.out hl7 hl8).mono ?_
    rintro e w9 ⟨rfl, hb9⟩
    have hi9 := hi7.below hb9
    have hbel9 := after hbel8 hb9
    clear hl7 hl8 hi7 hbel8 hb9
    go_wp2_with fail
    refine (toIntS_any bo n c' G _ hm (hy.below hbel9)).mono ?_
    rintro e w10 ⟨g10, rfl, _, hr10, hb10⟩
    have hi10 := IntsAt.of_row hr10
    have hi9 := hi9.below hb10
    have hbel10 := after hbel9 hb10
    clear hbel9 hb10 hr10
    go_wp2_with fail
    refine (eqIntS_same _ _ n n n G _ hm hi9 hi10).mono ?_
    rintro e w11 ⟨rfl, hb11⟩
    go_wp2
    go_ret
    exact ⟨rfl, after hbel10 hb11⟩

end Go.Proofs.Ytaalhmaacaahhah
