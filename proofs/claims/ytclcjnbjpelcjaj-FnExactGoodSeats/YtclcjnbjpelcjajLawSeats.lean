/-
  OWN TEXT: the walk of laws.FnExactGoodSeats: it returns true, and nothing that was there is written.
-/
import Derived.Test.YtclcjnbjpelcjajSpecSe
import Derived.Test.YtclcjnbjpelcjajSeatsI
import Derived.Test.YtclcjnbjpelcjajLSeat
namespace Go.Proofs.Ytclcjnbjpelcjaj
open Go.RowKit

set_option maxHeartbeats 3200000 in
set_option maxRecDepth 100000 in
theorem lawGoodSeats (a0 : Int) (o1 : Option Addr) (n1 c1 : Nat) (S1 : Nat → Seat) (w : World) (hn1 : n1 ≤ 1000000000000000) (hx1 : SeatsAt w o1 n1 S1) :
    Calls Try.prog 3 #[.int .i64 a0, .slice o1 n1 c1] w fun e w' => e = .returned (.bool true) ∧ Below w.heap.size w w' := by
  go_enter Try.func3, Try.ntmps3
  go_wp2_with fail
  refine (szSeatS_any o1 n1 c1 _ _ (by omega) (by omega) hn1).mono ?_
  rintro e ws1 ⟨r1, rfl, hr1, hs1⟩
  have bs1 := hs1
  clear hs1
  rcases hr1 with rfl | ⟨z1, y1, m1⟩
  · go_wp2
    go_ret
    exact ⟨rfl, bs1⟩
  have d1 : decide (r1 < 0) = false := by simpa using z1
  clear hn1
  clear z1 y1
  go_wp2_with fail
  refine (toSeatS_any o1 n1 c1 S1 _ m1 (hx1.below bs1)).mono ?_
  rintro e w1 ⟨ga1, rfl, hgga1, ga1r_1, hb1⟩
  have bw1 := after bs1 hb1
  clear bs1 hb1
  go_wp2_with fail
  refine (specSeats_any a0 _ n1 n1 S1 _ (by omega) (Nat.le_refl _) (SeatsAt.of_row ga1r_1)).mono ?_
  rintro e w2 ⟨⟨vw, rfl, hivw⟩, hb2⟩
  have bw2 := after bw1 hb2
  have ga1r_2 := row_below ga1r_1 hb2
  clear bw1 hb2 ga1r_1
  clear ga1r_2
  go_wp2_with fail
  refine (toSeatS_any o1 n1 c1 S1 _ m1 (hx1.below bw2)).mono ?_
  rintro e w3 ⟨gx1, rfl, hggx1, gx1r_3, hb3⟩
  have bw3 := after bw2 hb3
  clear bw2 hb3
  go_wp2_with fail
  refine (implSeats_any a0 _ n1 n1 S1 _ (by omega) (Nat.le_refl _) (SeatsAt.of_row gx1r_3)).mono ?_
  rintro e w4 ⟨⟨vg, rfl, hivg⟩, hb4⟩
  have bw4 := after bw3 hb4
  have gx1r_4 := row_below gx1r_3 hb4
  clear bw3 hb4 gx1r_3
  obtain rfl : vg = vw := bool_eq hivg hivw
  clear hivg hivw
  go_wp2_with fail
  refine (toSeatS_any o1 n1 c1 S1 _ m1 (hx1.below bw4)).mono ?_
  rintro e w5 ⟨ge1, rfl, hgge1, ge1r_5, hb5⟩
  have bw5 := after bw4 hb5
  have gx1r_5 := row_below gx1r_4 hb5
  clear bw4 hb5 gx1r_4
  go_wp2_with fail
  refine (eqSeatS_same _ _ n1 n1 n1 S1 _ (by omega) (SeatsAt.of_row gx1r_5) (SeatsAt.of_row ge1r_5)).mono ?_
  rintro e w6 ⟨rfl, hb6⟩
  have bw6 := after bw5 hb6
  have gx1r_6 := row_below gx1r_5 hb6
  have ge1r_6 := row_below ge1r_5 hb6
  clear bw5 hb6 gx1r_5 ge1r_5
  clear ge1r_6
  go_wp2
  go_ret
  exact ⟨rfl, bw6⟩

end Go.Proofs.Ytclcjnbjpelcjaj
