/-
  OWN TEXT: the contract of the specification's LegsFit.
-/
import Derived.Test.YtaalhmaacaahhahFitS0
namespace Go.Proofs.Ytaalhmaacaahhah
open Go.RowKit

set_option maxHeartbeats 800000 in
theorem specFit_any (ao bo : Option Addr) (N n c c' : Nat) (S : Nat → Sail) (G : Nat → Int) (w : World) (hN : N ≤ 1048576) (hn : n ≤ 1048576) (hs : ShortAll N S 1048576) (hx : SailsAt w ao N S) (hy : IntsAt w bo n G) :
    Calls Try.prog 14 #[.slice ao N c, .slice bo n c'] w fun e w' => SaysIf (GoodTab N S ∧ LegsOk N S n G) e ∧ Below w.heap.size w w' := by
  go_enter Try.func14, Try.ntmps14
  go_wp2_with fail
  refine (specTab_any ao N c S _ hN hs hx).mono ?_
  rintro e w1 ⟨⟨b1, rfl, hi1⟩, hb1⟩
  cases b1 with
  | false =>
    have HN : Hid (¬ GoodTab N S) := fun h => by have := hi1.2 h; cases this
    clear hi1
    go_wp2
    go_ret
    exact ⟨says_no (fun h => HN.out h.1), hb1⟩
  | true =>
    have HT : Hid (GoodTab N S) := hi1.1 rfl
    clear hi1
    go_wp2_with fail
    refine (l3Fit_any ao bo N n c c' S G _ hN hn (hx.below hb1) (hy.below hb1)).mono ?_
    rintro e w2 ⟨⟨b2, rfl, hi2⟩, hb2⟩
    have HI : Hid (b2 = true ↔ LegsOk N S n G) := hi2
    clear hi2
    go_wp2
    go_ret
    exact ⟨⟨b2, rfl, by rw [HI.out]; exact ⟨fun h => ⟨HT.out, h⟩, fun h => h.2⟩⟩, after hb1 hb2⟩

end Go.Proofs.Ytaalhmaacaahhah
