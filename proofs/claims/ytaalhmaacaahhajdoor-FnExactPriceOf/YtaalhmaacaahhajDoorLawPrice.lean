/-
  OWN TEXT: the walk of laws.FnExactPriceOf: it returns true, and nothing that was there is written.
-/
import Derived.Test.YtaalhmaacaahhajDoorSpecFh
import Derived.Test.YtaalhmaacaahhajDoorLParty
import Derived.Test.YtaalhmaacaahhajDoorPriceI
namespace Go.Proofs.YtaalhmaacaahhajDoor
open Go.RowKit

set_option maxHeartbeats 1600000 in
theorem lawPriceOf (pe len hei cl : Int) (all : Bool) (be : Int) (legs : Int) (w : World) (hB : BandsAt w) (hF : FaresAt w) :
    Calls Tryd.prog 5 #[.agg #[.int .i64 pe, .int .i64 len, .int .i64 hei, .int .i64 cl, .bool all, .int .i64 be], .int .i64 legs] w fun e w' => e = .returned (.bool true) ∧ Below w.heap.size w w' := by
  have HB : Hid (BandsAt w) := hB
  have HF : Hid (FaresAt w) := hF
  clear hB hF
  have hb0 : Below w.heap.size w (w.alloc (.cells #[.int .i64 pe, .int .i64 len, .int .i64 hei, .int .i64 cl, .bool all, .int .i64 be] 27)) := push (Below.refl _ _) _
  have b0 := heap_alloc_new w (.cells #[.int .i64 pe, .int .i64 len, .int .i64 hei, .int .i64 cl, .bool all, .int .i64 be] 27)
  go_enter Tryd.func5, Tryd.ntmps5
  go_wp2_with fail
  generalize w.alloc (.cells #[.int .i64 pe, .int .i64 len, .int .i64 hei, .int .i64 cl, .bool all, .int .i64 be] 27) = W at hb0 b0 ⊢
  refine (toParty_any pe len hei cl all be _).mono ?_
  rintro e w1 ⟨rfl, hb1⟩
  have bw1 := after hb0 hb1
  have c1 := blk_below b0 hb1
  clear hb0 b0 hb1
  go_wp2_with fail
  refine (specPrice_any pe len hei cl all be legs _).mono ?_
  rintro e w2 ⟨he2, hb2⟩
  unfold PriceRes at he2
  obtain ⟨V, hV⟩ : ∃ V, V = (if PriceOk ⟨pe, len, hei, cl, all, be⟩ legs then priceOf ⟨pe, len, hei, cl, all, be⟩ legs else 0) := ⟨_, rfl⟩
  obtain ⟨K, hK⟩ : ∃ K, K = decide (PriceOk ⟨pe, len, hei, cl, all, be⟩ legs) := ⟨_, rfl⟩
  rw [← hV, ← hK] at he2
  have HV : Hid (V = (if PriceOk ⟨pe, len, hei, cl, all, be⟩ legs then priceOf ⟨pe, len, hei, cl, all, be⟩ legs else 0)) := hV
  have HK : Hid (K = decide (PriceOk ⟨pe, len, hei, cl, all, be⟩ legs)) := hK
  clear hV hK
  subst he2
  have bw2 := after bw1 hb2
  have c2 := blk_below c1 hb2
  clear bw1 c1 hb2
  have y0 := blk_cell c2 0 _ rfl
  have y1 := blk_cell c2 1 _ rfl
  have y2 := blk_cell c2 2 _ rfl
  have y3 := blk_cell c2 3 _ rfl
  have y4 := blk_cell c2 4 _ rfl
  have y5 := blk_cell c2 5 _ rfl
  go_wp2_with fail
  refine (toParty_any pe len hei cl all be _).mono ?_
  rintro e w3 ⟨rfl, hb3⟩
  have bw3 := after bw2 hb3
  clear bw2 hb3 c2 y0 y1 y2 y3 y4 y5
  go_wp2_with fail
  refine (implPrice_any pe len hei cl all be legs _ (HB.out.below bw3) (HF.out.below bw3)).mono ?_
  rintro e w4 ⟨he4, hb4⟩
  unfold PriceRes at he4
  rw [← HV.out, ← HK.out] at he4
  subst he4
  have bw4 := after bw3 hb4
  clear bw3 hb4
  go_wp2
  go_ret
  exact ⟨rfl, bw4⟩

end Go.Proofs.YtaalhmaacaahhajDoor
