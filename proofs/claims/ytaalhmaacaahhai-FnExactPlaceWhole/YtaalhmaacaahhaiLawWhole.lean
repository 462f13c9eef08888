/-
  OWN TEXT: the walk of laws.FnExactPlaceWhole: it returns true, and nothing that was there is written.
-/
import Derived.Test.YtaalhmaacaahhaiSpecW
import Derived.Test.YtaalhmaacaahhaiWholeI
import Derived.Test.YtaalhmaacaahhaiLRoom
import Derived.Test.YtaalhmaacaahhaiLCab
import Derived.Test.YtaalhmaacaahhaiMarkCab
import Derived.Test.YtaalhmaacaahhaiHeldRoom
namespace Go.Proofs.Ytaalhmaacaahhai
open Go.RowKit

set_option maxHeartbeats 3200000 in
set_option maxRecDepth 100000 in
theorem lawPlaceWhole (o0 : Option Addr) (n0 c0 : Nat) (S0 : Pairs) (o1 : Option Addr) (n1 c1 : Nat) (S1 : Nat → Room) (a2 : Int) (a3 : Int) (a4 : Int) (w : World) (hl0 : S0.n = n0) (hn0 : n0 ≤ 1000000000000000) (hx0 : PairsAt w o0 S0) (hn1 : n1 ≤ 1000000000000000) (hx1 : RoomsAt w o1 n1 S1) :
    Calls Try.prog 7 #[.slice o0 n0 c0, .slice o1 n1 c1, .int .i64 a2, .int .i64 a3, .int .i64 a4] w fun e w' => e = .returned (.bool true) ∧ Below w.heap.size w w' := by
  have HL0 : Hid (S0.n = n0) := hl0
  clear hl0
  have HB : Hid (wholeLen S0 n1 S1 a2 a3 a4 ≤ 60) := wholeLen_le S0 n1 S1 a2 a3 a4
  obtain ⟨ok, hok⟩ : ∃ q : Bool, q = wholeOk S0 n1 S1 a2 a3 a4 := ⟨_, rfl⟩
  have Hok : Hid (ok = wholeOk S0 n1 S1 a2 a3 a4) := hok
  obtain ⟨la, hla⟩ : ∃ q : Int, q = wholeAt S0 n1 S1 a2 a3 a4 := ⟨_, rfl⟩
  have Hla : Hid (la = wholeAt S0 n1 S1 a2 a3 a4) := hla
  obtain ⟨N, hN⟩ : ∃ q : Nat, q = wholeLen S0 n1 S1 a2 a3 a4 := ⟨_, rfl⟩
  have HN : Hid (N = wholeLen S0 n1 S1 a2 a3 a4) := hN
  obtain ⟨F, hF⟩ : ∃ q : Nat → Room, q = wholeRooms S0 n1 S1 a2 a3 a4 := ⟨_, rfl⟩
  have HF : Hid (F = wholeRooms S0 n1 S1 a2 a3 a4) := hF
  have hNb : N ≤ 60 := by rw [hN]; exact HB.out
  clear HB hok hla hN hF
  go_enter Try.func7, Try.ntmps7
  go_wp2_with fail
  refine (szCabinS_any o0 n0 c0 _ _ (by omega) (by omega) hn0).mono ?_
  rintro e ws0 ⟨r0, rfl, hr0, hs0⟩
  have bs0 := hs0
  clear hs0
  rcases hr0 with rfl | ⟨z0, y0, m0⟩
  · go_wp2
    go_ret
    exact ⟨rfl, bs0⟩
  have d0 : decide (r0 < 0) = false := by simpa using z0
  clear hn0
  go_wp2_with fail
  refine (szRoomS_any o1 n1 c1 r0 _ z0 y0 hn1).mono ?_
  rintro e ws1 ⟨r1, rfl, hr1, hs1⟩
  have bs1 := after bs0 hs1
  clear bs0
  clear hs1
  rcases hr1 with rfl | ⟨z1, y1, m1⟩
  · go_wp2
    go_ret
    exact ⟨rfl, bs1⟩
  have d1 : decide (r1 < 0) = false := by simpa using z1
  clear hn1
  clear z0 y0 z1 y1
  go_wp2_with fail
  refine (toCabinS_any o0 n0 c0 S0 _ HL0.out m0 (hx0.below bs1)).mono ?_
  rintro e w1 ⟨ga0, rfl, hgga0, ga0r_1, hb1⟩
  have bw1 := after bs1 hb1
  clear bs1 hb1
  go_wp2_with fail
  refine (toRoomS_any o1 n1 c1 S1 _ m1 (hx1.below bw1)).mono ?_
  rintro e w2 ⟨ga1, rfl, hgga1, ga1r_2, hb2⟩
  have bw2 := after bw1 hb2
  have ga0r_2 := row_below ga0r_1 hb2
  clear bw1 hb2 ga0r_1
  go_wp2_with fail
  refine (specWhole_any _ _ n0 n0 n1 n1 S0 S1 a2 a3 a4 _ HL0.out m0 m1 (Nat.le_refl _) (PairsAt.of_row (by rw [HL0.out]; exact ga0r_2)) (RoomsAt.of_row ga1r_2) (fun h => by cases h)).mono ?_
  rintro e w3 ⟨⟨vw, hevw, vwo_3⟩, hb3⟩
  rw [← Hok.out, ← Hla.out] at hevw
  rw [← HN.out, ← HF.out] at vwo_3
  subst hevw
  have bw3 := after bw2 hb3
  have ga0r_3 := row_below ga0r_2 hb3
  have ga1r_3 := row_below ga1r_2 hb3
  clear bw2 hb3 ga0r_2 ga1r_2
  clear ga0r_3
  clear ga1r_3
  have HWS : Hid (w.heap.size ≤ w3.heap.size) := bw3.size
  obtain ⟨aw, cw, rfl, _⟩ := own_form vwo_3
  have HWL : Hid (∀ b, (Value.slice aw N cw).ownBlock = some b → b < w3.heap.size) := fun b hb => (World.ownsRow.lt vwo_3 b hb).2
  go_wp2_with fail
  refine (toCabinS_any o0 n0 c0 S0 _ HL0.out m0 (hx0.below bw3)).mono ?_
  rintro e w4 ⟨gx0, rfl, hggx0, gx0r_4, hb4⟩
  have bw4 := after bw3 hb4
  have vwo_4 := own_below hb4 vwo_3
  clear bw3 hb4 vwo_3
  have HXB0 : Hid (w3.heap.size ≤ gx0 ∧ gx0 < w4.heap.size ∧ w3.heap.size ≤ w4.heap.size) := ⟨hggx0, gx0r_4.lt, by have := hggx0; have := gx0r_4.lt; omega⟩
  go_wp2_with fail
  refine (toRoomS_any o1 n1 c1 S1 _ m1 (hx1.below bw4)).mono ?_
  rintro e w5 ⟨gx1, rfl, hggx1, gx1r_5, hb5⟩
  have bw5 := after bw4 hb5
  have vwo_5 := own_below hb5 vwo_4
  have gx0r_5 := row_below gx0r_4 hb5
  clear bw4 hb5 vwo_4 gx0r_4
  have HXB1 : Hid (w4.heap.size ≤ gx1 ∧ gx1 < w5.heap.size ∧ w4.heap.size ≤ w5.heap.size) := ⟨hggx1, gx1r_5.lt, by have := hggx1; have := gx1r_5.lt; omega⟩
  go_wp2_with fail
  refine (implWhole_any _ _ n0 n0 n1 n1 S0 S1 a2 a3 a4 _ HL0.out m0 m1 (Nat.le_refl _) (PairsAt.of_row (by rw [HL0.out]; exact gx0r_5)) (RoomsAt.of_row gx1r_5) (fun h => by cases h)).mono ?_
  rintro e w6 ⟨⟨vg, hevg, vgo_6⟩, hb6⟩
  rw [← Hok.out, ← Hla.out] at hevg
  rw [← HN.out, ← HF.out] at vgo_6
  subst hevg
  have bw6 := after bw5 hb6
  have vwo_6 := own_below hb6 vwo_5
  have gx0r_6 := row_below gx0r_5 hb6
  have gx1r_6 := row_below gx1r_5 hb6
  clear bw5 hb6 vwo_5 gx0r_5 gx1r_5
  obtain ⟨ag, cg, rfl, _⟩ := own_form vgo_6
  have HGL : Hid (∀ b, (Value.slice ag N cg).ownBlock = some b → w5.heap.size ≤ b) := fun b hb => (World.ownsRow.lt vgo_6 b hb).1
  go_wp2_with fail
  refine (eqRoomS_same ag aw N cg cw F _ (by omega) (rooms_of_own vgo_6) (rooms_of_own vwo_6)).mono ?_
  rintro e w7 ⟨rfl, hb7⟩
  have bw7 := after bw6 hb7
  have vwo_7 := own_below hb7 vwo_6
  have gx0r_7 := row_below gx0r_6 hb7
  have gx1r_7 := row_below gx1r_6 hb7
  have vgo_7 := own_below hb7 vgo_6
  clear bw6 hb7 vwo_6 gx0r_6 gx1r_6 vgo_6
  go_wp2_with fail
  refine (toCabinS_any o0 n0 c0 S0 _ HL0.out m0 (hx0.below bw7)).mono ?_
  rintro e w8 ⟨ge0, rfl, hgge0, ge0r_8, hb8⟩
  have bw8 := after bw7 hb8
  have vwo_8 := own_below hb8 vwo_7
  have gx0r_8 := row_below gx0r_7 hb8
  have gx1r_8 := row_below gx1r_7 hb8
  have vgo_8 := own_below hb8 vgo_7
  clear bw7 hb8 vwo_7 gx0r_7 gx1r_7 vgo_7
  go_wp2_with fail
  refine (eqCabinS_same _ _ n0 n0 n0 S0 _ HL0.out m0 (PairsAt.of_row (by rw [HL0.out]; exact gx0r_8)) (PairsAt.of_row (by rw [HL0.out]; exact ge0r_8))).mono ?_
  rintro e w9 ⟨rfl, hb9⟩
  have bw9 := after bw8 hb9
  have vwo_9 := own_below hb9 vwo_8
  have gx0r_9 := row_below gx0r_8 hb9
  have gx1r_9 := row_below gx1r_8 hb9
  have vgo_9 := own_below hb9 vgo_8
  have ge0r_9 := row_below ge0r_8 hb9
  clear bw8 hb9 vwo_8 gx0r_8 gx1r_8 vgo_8 ge0r_8
  clear ge0r_9
  go_wp2_with fail
  refine (toRoomS_any o1 n1 c1 S1 _ m1 (hx1.below bw9)).mono ?_
  rintro e w10 ⟨ge1, rfl, hgge1, ge1r_10, hb10⟩
  have bw10 := after bw9 hb10
  have vwo_10 := own_below hb10 vwo_9
  have gx0r_10 := row_below gx0r_9 hb10
  have gx1r_10 := row_below gx1r_9 hb10
  have vgo_10 := own_below hb10 vgo_9
  clear bw9 hb10 vwo_9 gx0r_9 gx1r_9 vgo_9
  go_wp2_with fail
  refine (eqRoomS_same _ _ n1 n1 n1 S1 _ (by omega) (RoomsAt.of_row gx1r_10) (RoomsAt.of_row ge1r_10)).mono ?_
  rintro e w11 ⟨rfl, hb11⟩
  have bw11 := after bw10 hb11
  have vwo_11 := own_below hb11 vwo_10
  have gx0r_11 := row_below gx0r_10 hb11
  have gx1r_11 := row_below gx1r_10 hb11
  have vgo_11 := own_below hb11 vgo_10
  have ge1r_11 := row_below ge1r_10 hb11
  clear bw10 hb11 vwo_10 gx0r_10 gx1r_10 vgo_10 ge1r_10
  clear ge1r_11
  go_wp2_with fail
  refine (markCabinS_own gx0 n0 w3.heap.size (pairCell S0) _ _ m0 (by omega) (by omega) (own_of_row gx0r_11 HXB0.out.1 (by unfold maxLen; omega))).mono ?_
  rintro e w12 ⟨rfl, _, hk12⟩
  have HY0 : Hid (∀ b, b = gx0 → b = gx0) := fun b h => h
  have bw12 := Kept.below bw11 bw11.size hk12 (fun b hb => by have := HY0.out b hb; have := HXB0.out; have := HXB1.out; have := HWS.out; omega)
  have vwo_12 := hk12.own vwo_11 (fun b hb e => by have := HY0.out b e; have := HXB0.out; have := HXB1.out; have := HWL.out b hb; omega)
  have vgo_12 := hk12.own vgo_11 (fun b hb e => by have := HY0.out b e; have := HXB0.out; have := HXB1.out; have := HGL.out b hb; omega)
  have gx1r_12 : w12.rowIs gx1 _ _ _ := gx1r_11.of_block (hk12.block gx1 gx1r_11.lt (fun e => by have := HY0.out _ e; have := HXB0.out; have := HXB1.out; omega))
  clear bw11 vwo_11 vgo_11 hk12 gx0r_11 gx1r_11
  go_wp2_with fail
  refine (markRoomS_own _ n1 n1 w4.heap.size S1 _ _ (by omega) (by omega) (by omega) (own_of_row gx1r_12 HXB1.out.1 (by unfold maxLen; omega))).mono ?_
  rintro e w13 ⟨rfl, _, hk13⟩
  have HY1 : Hid (∀ b, (Value.slice (some ⟨gx1, 0, none⟩) n1 n1).ownBlock = some b → b = gx1) := fun b hb => by simp only [Value.ownBlock, Option.some.injEq] at hb; exact hb.symm
  have bw13 := Kept.below bw12 bw12.size hk13 (fun b hb => by have := HY1.out b hb; have := HXB0.out; have := HXB1.out; have := HWS.out; omega)
  have vwo_13 := hk13.own vwo_12 (fun b hb e => by have := HY1.out b e; have := HXB0.out; have := HXB1.out; have := HWL.out b hb; omega)
  have vgo_13 := hk13.own vgo_12 (fun b hb e => by have := HY1.out b e; have := HXB0.out; have := HXB1.out; have := HGL.out b hb; omega)
  clear bw12 vwo_12 vgo_12 hk13 gx1r_12
  have dk : decide ((1 : Int) + 2 * (n0 : Int) + 4 * (n1 : Int) < 0) = false := by simp; omega
  go_wp2_with fail
  refine (eqRoomS_same ag aw N cg cw F _ (by omega) (rooms_of_own vgo_13) (rooms_of_own vwo_13)).mono ?_
  rintro e w14 ⟨rfl, hb14⟩
  have bw14 := after bw13 hb14
  have vwo_14 := own_below hb14 vwo_13
  have vgo_14 := own_below hb14 vgo_13
  clear bw13 hb14 vwo_13 vgo_13
  go_wp2_with fail
  refine (markRoomS_own ag N cg w5.heap.size F 1 _ (by omega) (by omega) (by omega) vgo_14).mono ?_
  rintro e w15 ⟨rfl, vmo_15, hk15⟩
  have HGK : Hid (∀ b, (Value.slice ag N cg).ownBlock = some b → w5.heap.size ≤ b) := HGL.out
  have bw15 := Kept.below bw14 bw14.size hk15 (fun b hb => by have := HGK.out b hb; have := HXB0.out; have := HXB1.out; have := HWS.out; omega)
  have vwo_15 := hk15.own vwo_14 (fun b hb e => by have := HGK.out b e; have := HWL.out b hb; have := HXB0.out; have := HXB1.out; omega)
  clear bw14 vwo_14 vgo_14 hk15
  go_wp2_with fail
  refine (heldRoomS_yes ag N cg 1 _ (by omega) (by omega) (by omega) (rooms_of_own vmo_15)).mono ?_
  rintro e w' ⟨rfl, hw'⟩
  have hw15 := hw'.symm
  subst hw15
  have dm : decide ((1 : Int) + 4 * (N : Int) < 0) = false := by simp; omega
  go_wp2_with fail
  refine (toCabinS_any o0 n0 c0 S0 _ HL0.out m0 (hx0.below bw15)).mono ?_
  rintro e w16 ⟨gz0, rfl, hggz0, gz0r_16, hb16⟩
  have bw16 := after bw15 hb16
  have vwo_16 := own_below hb16 vwo_15
  have vmo_16 := own_below hb16 vmo_15
  clear bw15 hb16 vwo_15 vmo_15
  go_wp2_with fail
  refine (toRoomS_any o1 n1 c1 S1 _ m1 (hx1.below bw16)).mono ?_
  rintro e w17 ⟨gz1, rfl, hggz1, gz1r_17, hb17⟩
  have bw17 := after bw16 hb17
  have vwo_17 := own_below hb17 vwo_16
  have vmo_17 := own_below hb17 vmo_16
  have gz0r_17 := row_below gz0r_16 hb17
  clear bw16 hb17 vwo_16 vmo_16 gz0r_16
  go_wp2_with fail
  refine (implWhole_any _ _ n0 n0 n1 n1 S0 S1 a2 a3 a4 _ HL0.out m0 m1 (Nat.le_refl _) (PairsAt.of_row (by rw [HL0.out]; exact gz0r_17)) (RoomsAt.of_row gz1r_17) (fun h => by cases h)).mono ?_
  rintro e w18 ⟨⟨vk, hevk, vko_18⟩, hb18⟩
  rw [← Hok.out, ← Hla.out] at hevk
  rw [← HN.out, ← HF.out] at vko_18
  subst hevk
  have bw18 := after bw17 hb18
  have vwo_18 := own_below hb18 vwo_17
  have vmo_18 := own_below hb18 vmo_17
  have gz0r_18 := row_below gz0r_17 hb18
  have gz1r_18 := row_below gz1r_17 hb18
  clear bw17 hb18 vwo_17 vmo_17 gz0r_17 gz1r_17
  clear gz0r_18
  clear gz1r_18
  obtain ⟨ak, ck, rfl, _⟩ := own_form vko_18
  go_wp2_with fail
  refine (eqRoomS_same ak aw N ck cw F _ (by omega) (rooms_of_own vko_18) (rooms_of_own vwo_18)).mono ?_
  rintro e w19 ⟨rfl, hb19⟩
  have bw19 := after bw18 hb19
  have vwo_19 := own_below hb19 vwo_18
  have vmo_19 := own_below hb19 vmo_18
  have vko_19 := own_below hb19 vko_18
  clear bw18 hb19 vwo_18 vmo_18 vko_18
  go_wp2_with fail
  refine (heldRoomS_yes ag N cg 1 _ (by omega) (by omega) (by omega) (rooms_of_own vmo_19)).mono ?_
  rintro e w' ⟨rfl, hw'⟩
  have hw19 := hw'.symm
  subst hw19
  go_wp2
  go_ret
  exact ⟨rfl, bw19⟩

end Go.Proofs.Ytaalhmaacaahhai
