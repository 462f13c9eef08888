/-
  OWN TEXT: the walk of laws.FnExactGoodParty: it returns true, and nothing that was there is written.
-/
import Derived.Test.YtaalhmaacaahhajSpecFg
import Derived.Test.YtaalhmaacaahhajLParty
import Derived.Test.YtaalhmaacaahhajPartyI
namespace Go.Proofs.Ytaalhmaacaahhaj
open Go.RowKit

set_option maxHeartbeats 1600000 in
theorem lawGoodParty (pe len hei cl : Int) (all : Bool) (be : Int) (w : World) :
    Calls Try.prog 5 #[.agg #[.int .i64 pe, .int .i64 len, .int .i64 hei, .int .i64 cl, .bool all, .int .i64 be]] w fun e w' => e = .returned (.bool true) ∧ Below w.heap.size w w' := by
  have hb0 : Below w.heap.size w (w.alloc (.cells #[.int .i64 pe, .int .i64 len, .int .i64 hei, .int .i64 cl, .bool all, .int .i64 be] 34)) := push (Below.refl _ _) _
  have b0 := heap_alloc_new w (.cells #[.int .i64 pe, .int .i64 len, .int .i64 hei, .int .i64 cl, .bool all, .int .i64 be] 34)
  go_enter Try.func5, Try.ntmps5
  go_wp2_with fail
  generalize w.alloc (.cells #[.int .i64 pe, .int .i64 len, .int .i64 hei, .int .i64 cl, .bool all, .int .i64 be] 34) = W at hb0 b0 ⊢
  refine (toParty_any pe len hei cl all be _).mono ?_
  rintro e w1 ⟨rfl, hb1⟩
  have bw1 := after hb0 hb1
  have c1 := blk_below b0 hb1
  clear hb0 b0 hb1
  go_wp2_with fail
  refine (specParty_any pe len hei cl all be _).mono ?_
  rintro e w2 ⟨⟨q1, rfl, hq1⟩, hb2⟩
  have HQ : Hid (q1 = true ↔ PartyOk ⟨pe, len, hei, cl, all, be⟩) := hq1
  clear hq1
  have bw2 := after bw1 hb2
  have c2 := blk_below c1 hb2
  clear bw1 c1 hb2
  have y0 := blk_cell c2 0 _ rfl
  have y1 := blk_cell c2 1 _ rfl
  have y2 := blk_cell c2 2 _ rfl
  have y3 := blk_cell c2 3 _ rfl
  have y4 := blk_cell c2 4 _ rfl
  have y5 := blk_cell c2 5 _ rfl
  go_wp2_with fail
  refine (toParty_any pe len hei cl all be _).mono ?_
  rintro e w3 ⟨rfl, hb3⟩
  have bw3 := after bw2 hb3
  clear bw2 hb3 c2 y0 y1 y2 y3 y4 y5
  go_wp2_with fail
  refine (implParty_any pe len hei cl all be _).mono ?_
  rintro e w4 ⟨⟨q2, rfl, hq2⟩, hb4⟩
  obtain rfl : q2 = q1 := bool_eq hq2 HQ.out
  clear hq2 HQ
  have bw4 := after bw3 hb4
  clear bw3 hb4
  go_wp2
  go_ret
  exact ⟨rfl, bw4⟩

end Go.Proofs.Ytaalhmaacaahhaj
