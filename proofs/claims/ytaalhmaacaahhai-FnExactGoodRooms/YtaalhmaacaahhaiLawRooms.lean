/-
  OWN TEXT: the walk of laws.FnExactGoodRooms: it returns true, and nothing that was there is written.
-/
import Derived.Test.YtaalhmaacaahhaiSpecR
import Derived.Test.YtaalhmaacaahhaiRoomsI
import Derived.Test.YtaalhmaacaahhaiLRoom
import Derived.Test.YtaalhmaacaahhaiLCab
namespace Go.Proofs.Ytaalhmaacaahhai
open Go.RowKit

set_option maxHeartbeats 3200000 in
set_option maxRecDepth 100000 in
theorem lawGoodRooms (o0 : Option Addr) (n0 c0 : Nat) (S0 : Pairs) (o1 : Option Addr) (n1 c1 : Nat) (S1 : Nat → Room) (w : World) (hl0 : S0.n = n0) (hn0 : n0 ≤ 1000000000000000) (hx0 : PairsAt w o0 S0) (hn1 : n1 ≤ 1000000000000000) (hx1 : RoomsAt w o1 n1 S1) :
    Calls Try.prog 5 #[.slice o0 n0 c0, .slice o1 n1 c1] w fun e w' => e = .returned (.bool true) ∧ Below w.heap.size w w' := by
  have HL0 : Hid (S0.n = n0) := hl0
  clear hl0
  go_enter Try.func5, Try.ntmps5
  go_wp2_with fail
  refine (szCabinS_any o0 n0 c0 _ _ (by omega) (by omega) hn0).mono ?_
  rintro e ws0 ⟨r0, rfl, hr0, hs0⟩
  have bs0 := hs0
  clear hs0
  rcases hr0 with rfl | ⟨z0, y0, m0⟩
  · go_wp2
    go_ret
    exact ⟨rfl, bs0⟩
  have d0 : decide (r0 < 0) = false := by simpa using z0
  clear hn0
  go_wp2_with fail
  refine (szRoomS_any o1 n1 c1 r0 _ z0 y0 hn1).mono ?_
  rintro e ws1 ⟨r1, rfl, hr1, hs1⟩
  have bs1 := after bs0 hs1
  clear bs0
  clear hs1
  rcases hr1 with rfl | ⟨z1, y1, m1⟩
  · go_wp2
    go_ret
    exact ⟨rfl, bs1⟩
  have d1 : decide (r1 < 0) = false := by simpa using z1
  clear hn1
  clear z0 y0 z1 y1
  go_wp2_with fail
  refine (toCabinS_any o0 n0 c0 S0 _ HL0.out m0 (hx0.below bs1)).mono ?_
  rintro e w1 ⟨ga0, rfl, hgga0, ga0r_1, hb1⟩
  have bw1 := after bs1 hb1
  clear bs1 hb1
  go_wp2_with fail
  refine (toRoomS_any o1 n1 c1 S1 _ m1 (hx1.below bw1)).mono ?_
  rintro e w2 ⟨ga1, rfl, hgga1, ga1r_2, hb2⟩
  have bw2 := after bw1 hb2
  have ga0r_2 := row_below ga0r_1 hb2
  clear bw1 hb2 ga0r_1
  go_wp2_with fail
  refine (specRooms_any _ _ n0 n0 n1 n1 S0 S1  _ HL0.out m0 m1 (Nat.le_refl _) (PairsAt.of_row (by rw [HL0.out]; exact ga0r_2)) (RoomsAt.of_row ga1r_2)).mono ?_
  rintro e w3 ⟨⟨vw, rfl, hivw⟩, hb3⟩
  have bw3 := after bw2 hb3
  have ga0r_3 := row_below ga0r_2 hb3
  have ga1r_3 := row_below ga1r_2 hb3
  clear bw2 hb3 ga0r_2 ga1r_2
  clear ga0r_3
  clear ga1r_3
  go_wp2_with fail
  refine (toCabinS_any o0 n0 c0 S0 _ HL0.out m0 (hx0.below bw3)).mono ?_
  rintro e w4 ⟨gx0, rfl, hggx0, gx0r_4, hb4⟩
  have bw4 := after bw3 hb4
  clear bw3 hb4
  go_wp2_with fail
  refine (toRoomS_any o1 n1 c1 S1 _ m1 (hx1.below bw4)).mono ?_
  rintro e w5 ⟨gx1, rfl, hggx1, gx1r_5, hb5⟩
  have bw5 := after bw4 hb5
  have gx0r_5 := row_below gx0r_4 hb5
  clear bw4 hb5 gx0r_4
  go_wp2_with fail
  refine (implRooms_any _ _ n0 n0 n1 n1 S0 S1  _ HL0.out m0 m1 (Nat.le_refl _) (PairsAt.of_row (by rw [HL0.out]; exact gx0r_5)) (RoomsAt.of_row gx1r_5)).mono ?_
  rintro e w6 ⟨⟨vg, rfl, hivg⟩, hb6⟩
  have bw6 := after bw5 hb6
  have gx0r_6 := row_below gx0r_5 hb6
  have gx1r_6 := row_below gx1r_5 hb6
  clear bw5 hb6 gx0r_5 gx1r_5
  obtain rfl : vg = vw := bool_eq hivg hivw
  clear hivg hivw
  go_wp2_with fail
  refine (toCabinS_any o0 n0 c0 S0 _ HL0.out m0 (hx0.below bw6)).mono ?_
  rintro e w7 ⟨ge0, rfl, hgge0, ge0r_7, hb7⟩
  have bw7 := after bw6 hb7
  have gx0r_7 := row_below gx0r_6 hb7
  have gx1r_7 := row_below gx1r_6 hb7
  clear bw6 hb7 gx0r_6 gx1r_6
  go_wp2_with fail
  refine (eqCabinS_same _ _ n0 n0 n0 S0 _ HL0.out m0 (PairsAt.of_row (by rw [HL0.out]; exact gx0r_7)) (PairsAt.of_row (by rw [HL0.out]; exact ge0r_7))).mono ?_
  rintro e w8 ⟨rfl, hb8⟩
  have bw8 := after bw7 hb8
  have gx0r_8 := row_below gx0r_7 hb8
  have gx1r_8 := row_below gx1r_7 hb8
  have ge0r_8 := row_below ge0r_7 hb8
  clear bw7 hb8 gx0r_7 gx1r_7 ge0r_7
  clear ge0r_8
  go_wp2_with fail
  refine (toRoomS_any o1 n1 c1 S1 _ m1 (hx1.below bw8)).mono ?_
  rintro e w9 ⟨ge1, rfl, hgge1, ge1r_9, hb9⟩
  have bw9 := after bw8 hb9
  have gx0r_9 := row_below gx0r_8 hb9
  have gx1r_9 := row_below gx1r_8 hb9
  clear bw8 hb9 gx0r_8 gx1r_8
  go_wp2_with fail
  refine (eqRoomS_same _ _ n1 n1 n1 S1 _ (by omega) (RoomsAt.of_row gx1r_9) (RoomsAt.of_row ge1r_9)).mono ?_
  rintro e w10 ⟨rfl, hb10⟩
  have bw10 := after bw9 hb10
  have gx0r_10 := row_below gx0r_9 hb10
  have gx1r_10 := row_below gx1r_9 hb10
  have ge1r_10 := row_below ge1r_9 hb10
  clear bw9 hb10 gx0r_9 gx1r_9 ge1r_9
  clear ge1r_10
  go_wp2
  go_ret
  exact ⟨rfl, bw10⟩

end Go.Proofs.Ytaalhmaacaahhai
