/-
  OWN TEXT: the walk of laws.FnExactPlaceCar: it returns true, and nothing that was there is written.
-/
import Derived.Test.YthhflmafpobgeaiPlaceS
import Derived.Test.YthhflmafpobgeaiPlaceI
import Derived.Test.YthhflmafpobgeaiMarkLane
import Derived.Test.YthhflmafpobgeaiHeldStay
namespace Go.Proofs.Ythhflmafpobgeai
open Go.RowKit

set_option maxHeartbeats 3200000 in
set_option maxRecDepth 100000 in
theorem lawPlaceCar (ao : Option Addr) (m mc : Nat) (p : Pairs) (bo : Option Addr) (n c : Nat) (S : Nat → Stay) (x : Int) (len : Int) (hei : Int) (w : World) (hl : p.n = m) (hm : m ≤ 1000000000000000) (hx : PairsAt w ao p) (hn : n ≤ 1000000000000000) (hz : StaysAt w bo n S) :
    Calls Try.prog 3 #[.slice ao m mc, .slice bo n c, .int .i64 x, .int .i64 len, .int .i64 hei] w fun e w' => e = .returned (.bool true) ∧ Below w.heap.size w w' := by
  have HL : Hid (p.n = m) := hl
  have HB : Hid (placeLen p n S x len hei ≤ 60) := placeLen_le p n S x len hei
  obtain ⟨ok, hok⟩ : ∃ q : Bool, q = placeOk p n S x len hei := ⟨_, rfl⟩
  have Hok : Hid (ok = placeOk p n S x len hei) := hok
  obtain ⟨la, hla⟩ : ∃ q : Int, q = placeLane p n S x len hei := ⟨_, rfl⟩
  have Hla : Hid (la = placeLane p n S x len hei) := hla
  obtain ⟨N, hN⟩ : ∃ q : Nat, q = placeLen p n S x len hei := ⟨_, rfl⟩
  have HN : Hid (N = placeLen p n S x len hei) := hN
  obtain ⟨F, hF⟩ : ∃ q : Nat → Stay, q = placed p n S x len hei := ⟨_, rfl⟩
  have HF : Hid (F = placed p n S x len hei) := hF
  have hNb : N ≤ 60 := by rw [hN]; exact HB.out
  clear hl HB hok hla hN hF
  go_enter Try.func3, Try.ntmps3
  go_wp2_with fail
  refine (szLaneS_any ao m mc _ _ (by omega) (by omega) hm).mono ?_
  rintro e w1 ⟨r, rfl, hr, hb1⟩
  rcases hr with rfl | ⟨r0, r1, hm2⟩
  · go_wp2
    go_ret
    exact ⟨rfl, hb1⟩
  have d0 : decide (r < 0) = false := by simpa using r0
  clear hm
  go_wp2_with fail
  refine (szStayS_any bo n c r _ r0 r1 hn).mono ?_
  rintro e w2 ⟨r', rfl, hr', hb2⟩
  have bw2 := after hb1 hb2
  clear hb1 hb2
  rcases hr' with rfl | ⟨r0', r1', hn2⟩
  · go_wp2
    go_ret
    exact ⟨rfl, bw2⟩
  have d1 : decide (r' < 0) = false := by simpa using r0'
  clear hn r0 r1 r0' r1'
  go_wp2_with fail
  refine (toLaneS_any ao m mc p _ HL.out hm2 (hx.below bw2)).mono ?_
  rintro e w3 ⟨ga, rfl, hg3, gar_3, hb3⟩
  have bw3 := after bw2 hb3
  clear bw2 hb3
  go_wp2_with fail
  refine (toStayS_any bo n c S _ hn2 (hz.below bw3)).mono ?_
  rintro e w4 ⟨gb, rfl, hg4, gbr_4, hb4⟩
  have bw4 := after bw3 hb4
  have gar_4 := row_below gar_3 hb4
  clear bw3 hb4 gar_3
  go_wp2_with fail
  refine (specPlace_any _ _ m m n n p S x len hei _ HL.out hm2 hn2 (Nat.le_refl _) (PairsAt.of_row (by rw [HL.out]; exact gar_4)) (StaysAt.of_row gbr_4) (fun h => by cases h)).mono ?_
  rintro e w5 ⟨⟨vw, he5, vwo_5⟩, hb5⟩
  rw [← Hok.out, ← Hla.out] at he5
  rw [← HN.out, ← HF.out] at vwo_5
  subst he5
  have bw5 := after bw4 hb5
  have gar_5 := row_below gar_4 hb5
  have gbr_5 := row_below gbr_4 hb5
  clear bw4 hb5 gar_4 gbr_4
  clear gar_5 gbr_5
  have HWS5 : Hid (w.heap.size ≤ w5.heap.size) := bw5.size
  obtain ⟨aw, cw, rfl, _⟩ := own_form vwo_5
  have HWL : Hid (∀ b, (Value.slice aw N cw).ownBlock = some b → b < w5.heap.size) := fun b hb => (World.ownsRow.lt vwo_5 b hb).2
  go_wp2_with fail
  refine (toLaneS_any ao m mc p _ HL.out hm2 (hx.below bw5)).mono ?_
  rintro e w6 ⟨gx, rfl, hg6, gxr_6, hb6⟩
  have bw6 := after bw5 hb6
  have vwo_6 := own_below hb6 vwo_5
  clear bw5 hb6 vwo_5
  have HWS : Hid (w.heap.size ≤ w5.heap.size) := HWS5.out
  have HXB : Hid (w5.heap.size ≤ gx ∧ gx < w6.heap.size) := ⟨hg6, gxr_6.lt⟩
  go_wp2_with fail
  refine (toStayS_any bo n c S _ hn2 (hz.below bw6)).mono ?_
  rintro e w7 ⟨gy, rfl, hg7, gyr_7, hb7⟩
  have bw7 := after bw6 hb7
  have vwo_7 := own_below hb7 vwo_6
  have gxr_7 := row_below gxr_6 hb7
  clear bw6 hb7 vwo_6 gxr_6
  have HYB : Hid (w6.heap.size ≤ gy ∧ gy < w7.heap.size) := ⟨hg7, gyr_7.lt⟩
  have HSZ : Hid (w.heap.size ≤ w7.heap.size) := bw7.size
  go_wp2_with fail
  refine (implPlace_any _ _ m m n n p S x len hei _ HL.out hm2 hn2 (Nat.le_refl _) (PairsAt.of_row (by rw [HL.out]; exact gxr_7)) (StaysAt.of_row gyr_7) (fun h => by cases h)).mono ?_
  rintro e w8 ⟨⟨vg, he8, vgo_8⟩, hb8⟩
  rw [← Hok.out, ← Hla.out] at he8
  rw [← HN.out, ← HF.out] at vgo_8
  subst he8
  have bw8 := after bw7 hb8
  have vwo_8 := own_below hb8 vwo_7
  have gxr_8 := row_below gxr_7 hb8
  have gyr_8 := row_below gyr_7 hb8
  clear bw7 hb8 vwo_7 gxr_7 gyr_7
  obtain ⟨ag, cg, rfl, _⟩ := own_form vgo_8
  have HGL : Hid (∀ b, (Value.slice ag N cg).ownBlock = some b → w7.heap.size ≤ b) := fun b hb => (World.ownsRow.lt vgo_8 b hb).1
  go_wp2_with fail
  refine (eqStayS_same ag aw N cg cw F _ (by omega) (stays_of_own vgo_8) (stays_of_own vwo_8)).mono ?_
  rintro e w9 ⟨rfl, hb9⟩
  have bw9 := after bw8 hb9
  have vwo_9 := own_below hb9 vwo_8
  have gxr_9 := row_below gxr_8 hb9
  have gyr_9 := row_below gyr_8 hb9
  have vgo_9 := own_below hb9 vgo_8
  clear bw8 hb9 vwo_8 gxr_8 gyr_8 vgo_8
  go_wp2_with fail
  refine (toLaneS_any ao m mc p _ HL.out hm2 (hx.below bw9)).mono ?_
  rintro e wa ⟨g1, rfl, hga, g1r_a, hba⟩
  have bwa := after bw9 hba
  have vwo_a := own_below hba vwo_9
  have gxr_a := row_below gxr_9 hba
  have gyr_a := row_below gyr_9 hba
  have vgo_a := own_below hba vgo_9
  clear bw9 hba vwo_9 gxr_9 gyr_9 vgo_9
  go_wp2_with fail
  refine (eqLaneS_same _ _ m m m p _ HL.out hm2 (PairsAt.of_row (by rw [HL.out]; exact gxr_a)) (PairsAt.of_row (by rw [HL.out]; exact g1r_a))).mono ?_
  rintro e wb ⟨rfl, hbb⟩
  have bwb := after bwa hbb
  have vwo_b := own_below hbb vwo_a
  have gxr_b := row_below gxr_a hbb
  have gyr_b := row_below gyr_a hbb
  have vgo_b := own_below hbb vgo_a
  have g1r_b := row_below g1r_a hbb
  clear bwa hbb vwo_a gxr_a gyr_a vgo_a g1r_a
  clear g1r_b
  go_wp2_with fail
  refine (toStayS_any bo n c S _ hn2 (hz.below bwb)).mono ?_
  rintro e wc ⟨g2, rfl, hgc, g2r_c, hbc⟩
  have bwc := after bwb hbc
  have vwo_c := own_below hbc vwo_b
  have gxr_c := row_below gxr_b hbc
  have gyr_c := row_below gyr_b hbc
  have vgo_c := own_below hbc vgo_b
  clear bwb hbc vwo_b gxr_b gyr_b vgo_b
  go_wp2_with fail
  refine (eqStayS_same _ _ n n n S _ (by omega) (StaysAt.of_row gyr_c) (StaysAt.of_row g2r_c)).mono ?_
  rintro e wd ⟨rfl, hbd⟩
  have bwd := after bwc hbd
  have vwo_d := own_below hbd vwo_c
  have gxr_d := row_below gxr_c hbd
  have gyr_d := row_below gyr_c hbd
  have vgo_d := own_below hbd vgo_c
  have g2r_d := row_below g2r_c hbd
  clear bwc hbd vwo_c gxr_c gyr_c vgo_c g2r_c
  clear g2r_d
  go_wp2_with fail
  refine (markLaneS_own gx m w5.heap.size (pairCell p) 1 _ hm2 (by omega) (by omega) (own_of_row gxr_d HXB.out.1 (by unfold maxLen; omega))).mono ?_
  rintro e we ⟨rfl, _, hke⟩
  have bwe := Kept.below bwd bwd.size hke (fun b hb => by have := HXB.out; have := HWS.out; omega)
  have vwo_e := hke.own vwo_d (fun b hb e => by have := HXB.out; have := HWL.out b hb; omega)
  have vgo_e := hke.own vgo_d (fun b hb e => by have := HXB.out; have := HYB.out; have := HGL.out b hb; omega)
  have gyr_e : we.rowIs gy _ _ _ := gyr_d.of_block (hke.block gy gyr_d.lt (by have := HXB.out; have := HYB.out; omega))
  clear bwd vwo_d vgo_d gyr_d gxr_d hke
  go_wp2_with fail
  refine (markStayS_own _ n n w6.heap.size S _ _ (by omega) (by omega) (by omega) (own_of_row gyr_e HYB.out.1 (by unfold maxLen; omega))).mono ?_
  rintro e wf ⟨rfl, _, hkf⟩
  have HYK : Hid (∀ b, (Value.slice (some ⟨gy, 0, none⟩) n n).ownBlock = some b → b = gy) := fun b hb => by simp only [Value.ownBlock, Option.some.injEq] at hb; exact hb.symm
  have bwf := Kept.below bwe bwe.size hkf (fun b hb => by have := HYK.out b hb; have := HYB.out; have := HXB.out; have := HWS.out; omega)
  have vwo_f := hkf.own vwo_e (fun b hb e => by have := HYK.out b e; have := HXB.out; have := HYB.out; have := HWL.out b hb; omega)
  have vgo_f := hkf.own vgo_e (fun b hb e => by have := HYK.out b e; have := HYB.out; have := HGL.out b hb; omega)
  have dk : decide ((1 : Int) + 2 * (m : Int) + 4 * (n : Int) < 0) = false := by simp; omega
  clear bwe vwo_e vgo_e gyr_e hkf
  go_wp2_with fail
  refine (eqStayS_same ag aw N cg cw F _ (by omega) (stays_of_own vgo_f) (stays_of_own vwo_f)).mono ?_
  rintro e wg ⟨rfl, hbg⟩
  have bwg := after bwf hbg
  have vwo_g := own_below hbg vwo_f
  have vgo_g := own_below hbg vgo_f
  clear bwf hbg vwo_f vgo_f
  go_wp2_with fail
  refine (markStayS_own ag N cg w7.heap.size F 1 _ (by omega) (by omega) (by omega) vgo_g).mono ?_
  rintro e wh ⟨rfl, vmo_h, hkh⟩
  have HGK : Hid (∀ b, (Value.slice ag N cg).ownBlock = some b → w7.heap.size ≤ b) := HGL.out
  have bwh := Kept.below bwg bwg.size hkh (fun b hb => by have := HGK.out b hb; have := HSZ.out; omega)
  have vwo_h := hkh.own vwo_g (fun b hb e => by have := HGK.out b e; have := HWL.out b hb; have := HXB.out; have := HYB.out; omega)
  clear bwg vwo_g vgo_g hkh
  go_wp2_with fail
  refine (heldStayS_yes ag N cg 1 _ (by omega) (by omega) (by omega) (stays_of_own vmo_h)).mono ?_
  rintro e w' ⟨rfl, hw'⟩
  have hwh := hw'.symm
  subst hwh
  have dm : decide ((1 : Int) + 4 * (N : Int) < 0) = false := by simp; omega
  go_wp2_with fail
  refine (toLaneS_any ao m mc p _ HL.out hm2 (hx.below bwh)).mono ?_
  rintro e wi ⟨g3, rfl, hgi, g3r_i, hbi⟩
  have bwi := after bwh hbi
  have vwo_i := own_below hbi vwo_h
  have vmo_i := own_below hbi vmo_h
  clear bwh hbi vwo_h vmo_h
  go_wp2_with fail
  refine (toStayS_any bo n c S _ hn2 (hz.below bwi)).mono ?_
  rintro e wj ⟨g4, rfl, hgj, g4r_j, hbj⟩
  have bwj := after bwi hbj
  have vwo_j := own_below hbj vwo_i
  have vmo_j := own_below hbj vmo_i
  have g3r_j := row_below g3r_i hbj
  clear bwi hbj vwo_i vmo_i g3r_i
  go_wp2_with fail
  refine (implPlace_any _ _ m m n n p S x len hei _ HL.out hm2 hn2 (Nat.le_refl _) (PairsAt.of_row (by rw [HL.out]; exact g3r_j)) (StaysAt.of_row g4r_j) (fun h => by cases h)).mono ?_
  rintro e wk ⟨⟨vk, hek, vko_k⟩, hbk⟩
  rw [← Hok.out, ← Hla.out] at hek
  rw [← HN.out, ← HF.out] at vko_k
  subst hek
  have bwk := after bwj hbk
  have vwo_k := own_below hbk vwo_j
  have vmo_k := own_below hbk vmo_j
  have g3r_k := row_below g3r_j hbk
  have g4r_k := row_below g4r_j hbk
  clear bwj hbk vwo_j vmo_j g3r_j g4r_j
  clear g3r_k g4r_k
  obtain ⟨ak, ck, rfl, _⟩ := own_form vko_k
  go_wp2_with fail
  refine (eqStayS_same ak aw N ck cw F _ (by omega) (stays_of_own vko_k) (stays_of_own vwo_k)).mono ?_
  rintro e wl ⟨rfl, hbl⟩
  have bwl := after bwk hbl
  have vwo_l := own_below hbl vwo_k
  have vmo_l := own_below hbl vmo_k
  have vko_l := own_below hbl vko_k
  clear bwk hbl vwo_k vmo_k vko_k
  go_wp2_with fail
  refine (heldStayS_yes ag N cg 1 _ (by omega) (by omega) (by omega) (stays_of_own vmo_l)).mono ?_
  rintro e w' ⟨rfl, hw'⟩
  have hwl := hw'.symm
  subst hwl
  go_wp2
  go_ret
  exact ⟨rfl, bwl⟩

end Go.Proofs.Ythhflmafpobgeai
