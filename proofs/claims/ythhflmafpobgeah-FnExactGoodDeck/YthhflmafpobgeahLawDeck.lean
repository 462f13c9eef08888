/-
  OWN TEXT: the walk of laws.FnExactGoodDeck: it returns true, and nothing that was there is written.
-/
import Derived.Test.YthhflmafpobgeahSpecD2
import Derived.Test.YthhflmafpobgeahDeckI
import Derived.Test.YthhflmafpobgeahLLane
import Derived.Test.YthhflmafpobgeahLStay
namespace Go.Proofs.Ythhflmafpobgeah
open Go.RowKit

set_option maxHeartbeats 1600000 in
theorem lawGoodDeck (ao : Option Addr) (m mc : Nat) (p : Pairs) (bo : Option Addr) (n c : Nat) (S : Nat → Stay) (w : World) (hl : p.n = m) (hm : m ≤ 1000000000000000) (hx : PairsAt w ao p) (hn : n ≤ 1000000000000000) (hz : StaysAt w bo n S) :
    Calls Try.prog 7 #[.slice ao m mc, .slice bo n c] w fun e w' => e = .returned (.bool true) ∧ Below w.heap.size w w' := by
  have HL : Hid (p.n = m) := hl
  clear hl
  go_enter Try.func7, Try.ntmps7
  go_wp2_with fail
  refine (szLaneS_any ao m mc _ _ (by omega) (by omega) hm).mono ?_
  rintro e w1 ⟨r, rfl, hr, hb1⟩
  rcases hr with rfl | ⟨r0, r1, hm2⟩
  · go_wp2
    go_ret
    exact ⟨rfl, hb1⟩
  have d0 : decide (r < 0) = false := by simpa using r0
  clear hm
  go_wp2_with fail
  refine (szStayS_any bo n c r _ r0 r1 hn).mono ?_
  rintro e w2 ⟨r', rfl, hr', hb2⟩
  have bw2 := after hb1 hb2
  clear hb1 hb2
  rcases hr' with rfl | ⟨r0', r1', hn2⟩
  · go_wp2
    go_ret
    exact ⟨rfl, bw2⟩
  have d1 : decide (r' < 0) = false := by simpa using r0'
  clear hn
  go_wp2_with fail
  refine (toLaneS_any ao m mc p _ HL.out hm2 (hx.below bw2)).mono ?_
  rintro e w3 ⟨g3, rfl, hg3, row3, hb3⟩
  have bw3 := after bw2 hb3
  clear bw2 hb3
  go_wp2_with fail
  refine (toStayS_any bo n c S _ hn2 (hz.below bw3)).mono ?_
  rintro e w4 ⟨g4, rfl, hg4, row4, hb4⟩
  have bw4 := after bw3 hb4
  have row3' := row_below row3 hb4
  clear bw3 row3 hb4
  go_wp2_with fail
  refine (specDeck_any _ _ m m n n p S _ HL.out hm2 hn2 (Nat.le_refl _) (PairsAt.of_row (by rw [HL.out]; exact row3')) (StaysAt.of_row row4)).mono ?_
  rintro e w5 ⟨⟨b1, rfl, hi1⟩, hb5⟩
  have HI1 : Hid (b1 = true ↔ DeckI p n S) := by rw [hi1]; exact deck_iff p n S
  have bw5 := after bw4 hb5
  clear bw4 row3' row4 hb5 hi1
  go_wp2_with fail
  refine (toLaneS_any ao m mc p _ HL.out hm2 (hx.below bw5)).mono ?_
  rintro e w6 ⟨g6, rfl, hg6, row6, hb6⟩
  have bw6 := after bw5 hb6
  clear bw5 hb6
  go_wp2_with fail
  refine (toStayS_any bo n c S _ hn2 (hz.below bw6)).mono ?_
  rintro e w7 ⟨g7, rfl, hg7, row7, hb7⟩
  have bw7 := after bw6 hb7
  have row6 := row_below row6 hb7
  clear bw6 hb7
  go_wp2_with fail
  refine (implDeck_any _ _ m m n n p S _ HL.out hm2 hn2 (Nat.le_refl _) (PairsAt.of_row (by rw [HL.out]; exact row6)) (StaysAt.of_row row7)).mono ?_
  rintro e w8 ⟨⟨b2, rfl, hi2⟩, hb8⟩
  obtain rfl : b2 = b1 := bool_eq hi2 HI1.out
  have bw8 := after bw7 hb8
  have row6 := row_below row6 hb8
  have row7 := row_below row7 hb8
  clear bw7 hb8 hi2 HI1
  go_wp2_with fail
  refine (toLaneS_any ao m mc p _ HL.out hm2 (hx.below bw8)).mono ?_
  rintro e w9 ⟨g9, rfl, hg9, row9, hb9⟩
  have bw9 := after bw8 hb9
  have row6 := row_below row6 hb9
  have row7 := row_below row7 hb9
  clear bw8 hb9
  go_wp2_with fail
  refine (eqLaneS_same _ _ m m m p _ HL.out hm2 (PairsAt.of_row (by rw [HL.out]; exact row6)) (PairsAt.of_row (by rw [HL.out]; exact row9))).mono ?_
  rintro e wa ⟨rfl, hba⟩
  have bwa := after bw9 hba
  have row7 := row_below row7 hba
  clear bw9 hba
  go_wp2_with fail
  refine (toStayS_any bo n c S _ hn2 (hz.below bwa)).mono ?_
  rintro e wb ⟨gb, rfl, hgb, rowb, hbb⟩
  have bwb := after bwa hbb
  have row7 := row_below row7 hbb
  clear bwa hbb
  go_wp2_with fail
  refine (eqStayS_same _ _ n n n S _ (by omega) (StaysAt.of_row row7) (StaysAt.of_row rowb)).mono ?_
  rintro e wc ⟨rfl, hbc⟩
  go_wp2
  go_ret
  exact ⟨rfl, after bwb hbc⟩

end Go.Proofs.Ythhflmafpobgeah
