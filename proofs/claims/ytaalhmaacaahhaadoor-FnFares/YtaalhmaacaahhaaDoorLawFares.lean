/-
  OWN TEXT: the walk of laws.FnFares: it returns true, and nothing that was there is written.
-/
import Derived.Test.YtaalhmaacaahhaaDoorDrawQ
import Derived.Test.YtaalhmaacaahhaaDoorPriceI
import Derived.Test.YtaalhmaacaahhaaDoorPlainFb
import Derived.Deep.DeepCutAuto
namespace Go.Proofs.YtaalhmaacaahhaaDoor
open Go.RowKit

set_option maxHeartbeats 6400000 in
set_option maxRecDepth 100000 in
theorem lawFares (ao : Option Addr) (n c : Nat) (w : World) (_hn : n ≤ 1000000000000000) (hx : BytesAt w ao n) (hB : BandsAt w) (hF : FaresAt w) :
    Calls Tryd.prog 3 #[.slice ao n c] w fun e w' => e = .returned (.bool true) ∧ Below w.heap.size w w' := by
  have HB : Hid (BandsAt w) := hB
  have HF : Hid (FaresAt w) := hF
  clear hB hF
  by_cases h20 : (1048576 : Int) < (n : Int)
  · have d0 : decide ((1048576 : Int) < (n : Int)) = true := decide_eq_true h20
    go_enter Tryd.func3, Tryd.ntmps3
    go_wp2
    go_ret
    exact ⟨rfl, Below.refl _ _⟩
  · have d0 : decide ((1048576 : Int) < (n : Int)) = false := decide_eq_false h20
    go_enter Tryd.func3, Tryd.ntmps3
    go_wp2_with fail
    refine (drawPrice_any ao n c _ hx).mono ?_
    rintro e w1 ⟨⟨pe, len, hei, cl, all, be, k, rfl, hk5⟩, hb1⟩
    clear hx d0 h20
    go_wp2_with fail
    have hbA : Below w.heap.size w (w1.alloc (.cells #[.int .i64 pe, .int .i64 len, .int .i64 hei, .int .i64 cl, .bool all, .int .i64 be] 24)) := push hb1 _
    have bA := heap_alloc_new w1 (.cells #[.int .i64 pe, .int .i64 len, .int .i64 hei, .int .i64 cl, .bool all, .int .i64 be] 24)
    have hs1 := hb1.size
    generalize w1.alloc (.cells #[.int .i64 pe, .int .i64 len, .int .i64 hei, .int .i64 cl, .bool all, .int .i64 be] 24) = wA at hbA bA ⊢
    generalize w1.heap.size = pb at bA hs1 ⊢
    clear hb1
    refine (implPrice_any pe len hei cl all be k _ (HB.out.below hbA) (HF.out.below hbA)).mono ?_
    rintro e w2 ⟨he2, hb2⟩
    unfold PriceRes at he2
    obtain ⟨V, hV⟩ : ∃ V, V = (if PriceOk ⟨pe, len, hei, cl, all, be⟩ k then priceOf ⟨pe, len, hei, cl, all, be⟩ k else 0) := ⟨_, rfl⟩
    obtain ⟨K, hK⟩ : ∃ K, K = decide (PriceOk ⟨pe, len, hei, cl, all, be⟩ k) := ⟨_, rfl⟩
    rw [← hV, ← hK] at he2
    have HV : Hid (V = (if PriceOk ⟨pe, len, hei, cl, all, be⟩ k then priceOf ⟨pe, len, hei, cl, all, be⟩ k else 0)) := hV
    have HK : Hid (K = decide (PriceOk ⟨pe, len, hei, cl, all, be⟩ k)) := hK
    clear hV hK
    subst he2
    have bw2 := after hbA hb2
    have b2 := blk_below bA hb2
    clear hbA bA hb2
    have y0 := blk_cell b2 0 _ rfl
    have y1 := blk_cell b2 1 _ rfl
    have y2 := blk_cell b2 2 _ rfl
    have y3 := blk_cell b2 3 _ rfl
    have y4 := blk_cell b2 4 _ rfl
    have y5 := blk_cell b2 5 _ rfl
    go_wp2_with fail
    refine (specPrice_any pe len hei cl all be k _).mono ?_
    rintro e w3 ⟨he3, hb3⟩
    unfold PriceRes at he3
    rw [← HV.out, ← HK.out] at he3
    subst he3
    have bw3 := after bw2 hb3
    have b3 := blk_below b2 hb3
    clear bw2 b2 hb3 y0 y1 y2 y3 y4 y5
    cases K with
    | false =>
      have HV0 : Hid (V = 0) := by rw [HV.out]; exact if_neg (of_decide_eq_false HK.out.symm)
      obtain rfl : V = 0 := HV0.out
      clear HV HV0
      go_wp2
      go_ret
      exact ⟨rfl, bw3⟩
    | true =>
      have HP : Hid (PriceOk ⟨pe, len, hei, cl, all, be⟩ k) := by show PriceOk ⟨pe, len, hei, cl, all, be⟩ k; exact of_decide_eq_true HK.out.symm
      have HVV : Hid (V = priceOf ⟨pe, len, hei, cl, all, be⟩ k) := by rw [HV.out]; exact if_pos HP.out
      clear HV HK
      obtain ⟨cf, hcf⟩ : ∃ c, c = carFare len hei := ⟨_, rfl⟩
      obtain ⟨bf, hbf⟩ : ∃ c, c = cabinFare cl all be := ⟨_, rfl⟩
      have b1' : 0 ≤ cf ∧ cf ≤ 500 := by rw [hcf]; exact carFare_bounds len hei
      have b2' : 0 ≤ bf ∧ bf ≤ 320 := by rw [hbf]; exact cabinFare_bounds cl all be
      have HCF : Hid (cf = carFare len hei) := hcf
      have HBF : Hid (bf = cabinFare cl all be) := hbf
      have hp : 1 ≤ pe ∧ pe ≤ 20 := HP.out.1.1
      have hw1 : IntKind.i64.wrap (40 * pe) = 40 * pe := by rw [IntKind.wrap_i64]; omega
      have hw2 : IntKind.i64.wrap (40 * pe + cf) = 40 * pe + cf := by rw [IntKind.wrap_i64]; omega
      have hw3 : IntKind.i64.wrap (40 * pe + cf + bf) = 40 * pe + cf + bf := by rw [IntKind.wrap_i64]; omega
      obtain ⟨M, hM⟩ : ∃ M, M = (k : Int) * (40 * pe + cf + bf) := ⟨_, rfl⟩
      have hMb : 0 ≤ M ∧ M ≤ 10000 := by
        rw [hM]
        rcases legs_three HP.out.2 with h | h | h <;> rw [h] <;> omega
      have hw4 : IntKind.i64.wrap ((k : Int) * (40 * pe + cf + bf)) = M := by rw [← hM, IntKind.wrap_i64]; omega
      have hVM : V ≤ M := by rw [HVV.out, hM, hcf, hbf]; exact price_le HP.out
      have hV1 : 1 ≤ V := by rw [HVV.out]; exact price_pos HP.out
      have d1 : decide (M < V) = false := decide_eq_false (by omega)
      have d2 : decide (V < 1) = false := decide_eq_false (by omega)
      clear hcf hbf hM hMb
      go_upto_region 10 with fail
      have s3 := blk_lt b3
      have z0 : ∀ g : Grown w3, g.val.cell? ⟨pb, 0, none⟩ = some (.int .i64 pe) := fun g => (g.bel.cell s3).trans (blk_cell b3 0 _ rfl)
      have z1 : ∀ g : Grown w3, g.val.cell? ⟨pb, 1, none⟩ = some (.int .i64 len) := fun g => (g.bel.cell s3).trans (blk_cell b3 1 _ rfl)
      have z2 : ∀ g : Grown w3, g.val.cell? ⟨pb, 2, none⟩ = some (.int .i64 hei) := fun g => (g.bel.cell s3).trans (blk_cell b3 2 _ rfl)
      have z3 : ∀ g : Grown w3, g.val.cell? ⟨pb, 3, none⟩ = some (.int .i64 cl) := fun g => (g.bel.cell s3).trans (blk_cell b3 3 _ rfl)
      have z4 : ∀ g : Grown w3, g.val.cell? ⟨pb, 4, none⟩ = some (.bool all) := fun g => (g.bel.cell s3).trans (blk_cell b3 4 _ rfl)
      have z5 : ∀ g : Grown w3, g.val.cell? ⟨pb, 5, none⟩ = some (.int .i64 be) := fun g => (g.bel.cell s3).trans (blk_cell b3 5 _ rfl)
      have ZB : Hid (∀ g : Grown w3, BandsAt g.val) := fun g => (HB.out.below bw3).below g.bel
      have ZF : Hid (∀ g : Grown w3, FaresAt g.val) := fun g => (HF.out.below bw3).below g.bel
      refine wp_region_grow (by kernel_rfl) (by kernel_rfl) ?_
      repeat (first | go_big_quiet_skip | (go_big_quiet_want; go_big_quiet_op; first | go_big_quiet_on | (apply Exists.intro; refine ⟨fun g => ?_, ?_⟩; (focus (first | (go_at_call 7; refine grown_call (v := .int .i64 cf) ((implCar_any _ _ _ (ZB.out g)).mono ?_); rintro e w2 ⟨rfl, hb2⟩; exact ⟨by rw [HCF.out], hb2⟩) | (go_at_call 8; refine grown_call (v := .int .i64 bf) ((implCabin_any _ _ _ _ (ZF.out g)).mono ?_); rintro e w2 ⟨rfl, hb2⟩; exact ⟨by rw [HBF.out], hb2⟩))); go_big_quiet_on)))
      refine wpQuiet_nil ?_
      rintro _ ⟨g, rfl⟩
      have b4 := blk_below b3 g.bel
      have bw4 := after bw3 g.bel
      have HB4 : Hid (BandsAt g.val) := ZB.out g
      have HF4 : Hid (FaresAt g.val) := ZF.out g
      clear z0 z1 z2 z3 z4 z5 ZB ZF b3 bw3 s3 hw1 hw2 hw3
      generalize g.val = w4 at b4 bw4 HB4 HF4 ⊢
      clear g
      generalize 40 * pe + cf + bf = SM at hw4 ⊢
      have y0 := blk_cell b4 0 _ rfl
      have f0 := blk_free b4 0
      by_cases k7 : pe = 7
      · subst k7
        go_wp2
        go_ret
        exact ⟨rfl, bw4⟩
      · have e7 : (pe == 7) = false := by simpa using k7
        by_cases k20 : pe = 20
        · subst k20
          go_wp2
          go_ret
          exact ⟨rfl, bw4⟩
        · have e20 : (pe == 20) = false := by simpa using k20
          have hwp : IntKind.i64.wrap (pe + 1) = pe + 1 := by rw [IntKind.wrap_i64]; omega
          have HUP : Hid _ := price_up HP.out k7 k20
          clear k7 k20
          have b5 := blk_set b4 0 (.int .i64 (pe + 1))
          have bw5 : Below w.heap.size w (w4.setCell ⟨pb, 0, none⟩ (.int .i64 (pe + 1))) := bw4.setCell (p := ⟨pb, 0, none⟩) hs1 _
          have HB5 : Hid (BandsAt (w4.setCell ⟨pb, 0, none⟩ (.int .i64 (pe + 1)))) := HB.out.below bw5
          have HF5 : Hid (FaresAt (w4.setCell ⟨pb, 0, none⟩ (.int .i64 (pe + 1)))) := HF.out.below bw5
          have y1 := blk_cell b4 1 _ rfl
          have y2 := blk_cell b4 2 _ rfl
          have y3 := blk_cell b4 3 _ rfl
          have y4 := blk_cell b4 4 _ rfl
          have y5 := blk_cell b4 5 _ rfl
          go_wp2_with fail
          refine (implPrice_any (pe + 1) len hei cl all be k _ HB5.out HF5.out).mono ?_
          rintro e w6 ⟨he6, hb6⟩
          unfold PriceRes at he6
          rw [if_pos HUP.out.1, decide_eq_true HUP.out.1] at he6
          obtain ⟨U, hU⟩ : ∃ U, U = priceOf ⟨pe + 1, len, hei, cl, all, be⟩ k := ⟨_, rfl⟩
          rw [← hU] at he6
          have d3 : decide (V ≤ U) = true := decide_eq_true (by rw [HVV.out, hU]; exact HUP.out.2)
          subst he6
          have bw6 := after bw5 hb6
          clear hU b5 y0 y1 y2 y3 y4 y5 f0 b4 bw4 HB5 HF5 HB4 HF4 bw5 hb6
          go_wp2
          go_ret
          exact ⟨rfl, bw6⟩

end Go.Proofs.YtaalhmaacaahhaaDoor
