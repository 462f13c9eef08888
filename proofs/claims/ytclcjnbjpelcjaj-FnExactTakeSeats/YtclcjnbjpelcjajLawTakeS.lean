/-
  OWN TEXT: the walk of laws.FnExactTakeSeats: it returns true, and nothing that was there is written.
-/
import Derived.Test.YtclcjnbjpelcjajSpecSe
import Derived.Test.YtclcjnbjpelcjajSeatsI
import Derived.Test.YtclcjnbjpelcjajHeldSeat
import Derived.Test.YtclcjnbjpelcjajLSeat
namespace Go.Proofs.Ytclcjnbjpelcjaj
open Go.RowKit

set_option maxHeartbeats 3200000 in
set_option maxRecDepth 100000 in
theorem lawTakeSeats (a0 : Int) (o1 : Option Addr) (n1 c1 : Nat) (S1 : Nat → Seat) (a2 : Int) (a3 : Int) (w : World) (hn1 : n1 ≤ 1000000000000000) (hx1 : SeatsAt w o1 n1 S1) :
    Calls Try.prog 4 #[.int .i64 a0, .slice o1 n1 c1, .int .i64 a2, .int .i64 a3] w fun e w' => e = .returned (.bool true) ∧ Below w.heap.size w w' := by
  have HB : Hid (takeSLen a0 n1 S1 a2 a3 ≤ 60) := takeSLen_le a0 n1 S1 a2 a3
  obtain ⟨ok, hok⟩ : ∃ q : Bool, q = takeSOk a0 n1 S1 a2 a3 := ⟨_, rfl⟩
  have Hok : Hid (ok = takeSOk a0 n1 S1 a2 a3) := hok
  obtain ⟨N, hN⟩ : ∃ q : Nat, q = takeSLen a0 n1 S1 a2 a3 := ⟨_, rfl⟩
  have HN : Hid (N = takeSLen a0 n1 S1 a2 a3) := hN
  obtain ⟨F, hF⟩ : ∃ q : Nat → Seat, q = seatsWith S1 n1 a2 a3 := ⟨_, rfl⟩
  have HF : Hid (F = seatsWith S1 n1 a2 a3) := hF
  have hNb : N ≤ 60 := by rw [hN]; exact HB.out
  clear HB hok hN hF
  go_enter Try.func4, Try.ntmps4
  go_wp2_with fail
  refine (szSeatS_any o1 n1 c1 _ _ (by omega) (by omega) hn1).mono ?_
  rintro e ws1 ⟨r1, rfl, hr1, hs1⟩
  have bs1 := hs1
  clear hs1
  rcases hr1 with rfl | ⟨z1, y1, m1⟩
  · go_wp2
    go_ret
    exact ⟨rfl, bs1⟩
  have d1 : decide (r1 < 0) = false := by simpa using z1
  clear hn1
  clear z1 y1
  go_wp2_with fail
  refine (toSeatS_any o1 n1 c1 S1 _ m1 (hx1.below bs1)).mono ?_
  rintro e w1 ⟨ga1, rfl, hgga1, ga1r_1, hb1⟩
  have bw1 := after bs1 hb1
  clear bs1 hb1
  go_wp2_with fail
  refine (specTakeS_any a0 _ n1 n1 S1 a2 a3 _ (by omega) (Nat.le_refl _) (SeatsAt.of_row ga1r_1) (fun h => by cases h)).mono ?_
  rintro e w2 ⟨⟨vw, hevw, vwo_2⟩, hb2⟩
  rw [← Hok.out] at hevw
  rw [← HN.out, ← HF.out] at vwo_2
  subst hevw
  have bw2 := after bw1 hb2
  have ga1r_2 := row_below ga1r_1 hb2
  clear bw1 hb2 ga1r_1
  clear ga1r_2
  have HWS : Hid (w.heap.size ≤ w2.heap.size) := bw2.size
  obtain ⟨aw, cw, rfl, _⟩ := own_form vwo_2
  have HWL : Hid (∀ b, (Value.slice aw N cw).ownBlock = some b → b < w2.heap.size) := fun b hb => (World.ownsRow.lt vwo_2 b hb).2
  go_wp2_with fail
  refine (toSeatS_any o1 n1 c1 S1 _ m1 (hx1.below bw2)).mono ?_
  rintro e w3 ⟨gx1, rfl, hggx1, gx1r_3, hb3⟩
  have bw3 := after bw2 hb3
  have vwo_3 := own_below hb3 vwo_2
  clear bw2 hb3 vwo_2
  have HXB1 : Hid (w2.heap.size ≤ gx1 ∧ gx1 < w3.heap.size ∧ w2.heap.size ≤ w3.heap.size) := ⟨hggx1, gx1r_3.lt, by have := hggx1; have := gx1r_3.lt; omega⟩
  go_wp2_with fail
  refine (implTakeS_any a0 _ n1 n1 S1 a2 a3 _ (by omega) (Nat.le_refl _) (SeatsAt.of_row gx1r_3) (fun h => by cases h)).mono ?_
  rintro e w4 ⟨⟨vg, hevg, vgo_4⟩, hb4⟩
  rw [← Hok.out] at hevg
  rw [← HN.out, ← HF.out] at vgo_4
  subst hevg
  have bw4 := after bw3 hb4
  have vwo_4 := own_below hb4 vwo_3
  have gx1r_4 := row_below gx1r_3 hb4
  clear bw3 hb4 vwo_3 gx1r_3
  obtain ⟨ag, cg, rfl, _⟩ := own_form vgo_4
  have HGL : Hid (∀ b, (Value.slice ag N cg).ownBlock = some b → w3.heap.size ≤ b) := fun b hb => (World.ownsRow.lt vgo_4 b hb).1
  go_wp2_with fail
  refine (eqSeatS_same ag aw N cg cw F _ (by omega) (seats_of_own vgo_4) (seats_of_own vwo_4)).mono ?_
  rintro e w5 ⟨rfl, hb5⟩
  have bw5 := after bw4 hb5
  have vwo_5 := own_below hb5 vwo_4
  have gx1r_5 := row_below gx1r_4 hb5
  have vgo_5 := own_below hb5 vgo_4
  clear bw4 hb5 vwo_4 gx1r_4 vgo_4
  go_wp2_with fail
  refine (toSeatS_any o1 n1 c1 S1 _ m1 (hx1.below bw5)).mono ?_
  rintro e w6 ⟨ge1, rfl, hgge1, ge1r_6, hb6⟩
  have bw6 := after bw5 hb6
  have vwo_6 := own_below hb6 vwo_5
  have gx1r_6 := row_below gx1r_5 hb6
  have vgo_6 := own_below hb6 vgo_5
  clear bw5 hb6 vwo_5 gx1r_5 vgo_5
  go_wp2_with fail
  refine (eqSeatS_same _ _ n1 n1 n1 S1 _ (by omega) (SeatsAt.of_row gx1r_6) (SeatsAt.of_row ge1r_6)).mono ?_
  rintro e w7 ⟨rfl, hb7⟩
  have bw7 := after bw6 hb7
  have vwo_7 := own_below hb7 vwo_6
  have gx1r_7 := row_below gx1r_6 hb7
  have vgo_7 := own_below hb7 vgo_6
  have ge1r_7 := row_below ge1r_6 hb7
  clear bw6 hb7 vwo_6 gx1r_6 vgo_6 ge1r_6
  clear ge1r_7
  go_wp2_with fail
  refine (markSeatS_own _ n1 n1 w2.heap.size S1 _ _ (by omega) (by omega) (by omega) (own_of_row gx1r_7 HXB1.out.1 (by unfold maxLen; omega))).mono ?_
  rintro e w8 ⟨rfl, _, hk8⟩
  have HY1 : Hid (∀ b, (Value.slice (some ⟨gx1, 0, none⟩) n1 n1).ownBlock = some b → b = gx1) := fun b hb => by simp only [Value.ownBlock, Option.some.injEq] at hb; exact hb.symm
  have bw8 := Kept.below bw7 bw7.size hk8 (fun b hb => by have := HY1.out b hb; have := HXB1.out; have := HWS.out; omega)
  have vwo_8 := hk8.own vwo_7 (fun b hb e => by have := HY1.out b e; have := HXB1.out; have := HWL.out b hb; omega)
  have vgo_8 := hk8.own vgo_7 (fun b hb e => by have := HY1.out b e; have := HXB1.out; have := HGL.out b hb; omega)
  clear bw7 vwo_7 vgo_7 hk8 gx1r_7
  have dk : decide ((1 : Int) + 2 * (n1 : Int) < 0) = false := by simp; omega
  go_wp2_with fail
  refine (eqSeatS_same ag aw N cg cw F _ (by omega) (seats_of_own vgo_8) (seats_of_own vwo_8)).mono ?_
  rintro e w9 ⟨rfl, hb9⟩
  have bw9 := after bw8 hb9
  have vwo_9 := own_below hb9 vwo_8
  have vgo_9 := own_below hb9 vgo_8
  clear bw8 hb9 vwo_8 vgo_8
  go_wp2_with fail
  refine (markSeatS_own ag N cg w3.heap.size F 1 _ (by omega) (by omega) (by omega) vgo_9).mono ?_
  rintro e w10 ⟨rfl, vmo_10, hk10⟩
  have HGK : Hid (∀ b, (Value.slice ag N cg).ownBlock = some b → w3.heap.size ≤ b) := HGL.out
  have bw10 := Kept.below bw9 bw9.size hk10 (fun b hb => by have := HGK.out b hb; have := HXB1.out; have := HWS.out; omega)
  have vwo_10 := hk10.own vwo_9 (fun b hb e => by have := HGK.out b e; have := HWL.out b hb; have := HXB1.out; omega)
  clear bw9 vwo_9 vgo_9 hk10
  go_wp2_with fail
  refine (heldSeatS_yes ag N cg 1 _ (by omega) (by omega) (by omega) (seats_of_own vmo_10)).mono ?_
  rintro e w' ⟨rfl, hw'⟩
  have hw10 := hw'.symm
  subst hw10
  have dm : decide ((1 : Int) + 2 * (N : Int) < 0) = false := by simp; omega
  go_wp2_with fail
  refine (toSeatS_any o1 n1 c1 S1 _ m1 (hx1.below bw10)).mono ?_
  rintro e w11 ⟨gz1, rfl, hggz1, gz1r_11, hb11⟩
  have bw11 := after bw10 hb11
  have vwo_11 := own_below hb11 vwo_10
  have vmo_11 := own_below hb11 vmo_10
  clear bw10 hb11 vwo_10 vmo_10
  go_wp2_with fail
  refine (implTakeS_any a0 _ n1 n1 S1 a2 a3 _ (by omega) (Nat.le_refl _) (SeatsAt.of_row gz1r_11) (fun h => by cases h)).mono ?_
  rintro e w12 ⟨⟨vk, hevk, vko_12⟩, hb12⟩
  rw [← Hok.out] at hevk
  rw [← HN.out, ← HF.out] at vko_12
  subst hevk
  have bw12 := after bw11 hb12
  have vwo_12 := own_below hb12 vwo_11
  have vmo_12 := own_below hb12 vmo_11
  have gz1r_12 := row_below gz1r_11 hb12
  clear bw11 hb12 vwo_11 vmo_11 gz1r_11
  clear gz1r_12
  obtain ⟨ak, ck, rfl, _⟩ := own_form vko_12
  go_wp2_with fail
  refine (eqSeatS_same ak aw N ck cw F _ (by omega) (seats_of_own vko_12) (seats_of_own vwo_12)).mono ?_
  rintro e w13 ⟨rfl, hb13⟩
  have bw13 := after bw12 hb13
  have vwo_13 := own_below hb13 vwo_12
  have vmo_13 := own_below hb13 vmo_12
  have vko_13 := own_below hb13 vko_12
  clear bw12 hb13 vwo_12 vmo_12 vko_12
  go_wp2_with fail
  refine (heldSeatS_yes ag N cg 1 _ (by omega) (by omega) (by omega) (seats_of_own vmo_13)).mono ?_
  rintro e w' ⟨rfl, hw'⟩
  have hw13 := hw'.symm
  subst hw13
  go_wp2
  go_ret
  exact ⟨rfl, bw13⟩

end Go.Proofs.Ytclcjnbjpelcjaj
