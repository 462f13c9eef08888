/-
  OWN TEXT: contracts of the program's legFare and PriceOf, where the two tables lie as the program's text lays them.
-/
import Derived.Test.YtaalhmaacaahhaaDoorPartyI
import Derived.Test.YtaalhmaacaahhaaDoorSpecFh
import Derived.Test.YtaalhmaacaahhaaDoorCarI
import Derived.Test.YtaalhmaacaahhaaDoorCabinI
import Derived.Deep.DeepCutAuto
namespace Go.Proofs.YtaalhmaacaahhaaDoor
open Go.RowKit

set_option maxHeartbeats 3200000 in
set_option maxRecDepth 100000 in
theorem legFare_any (pe len hei cl : Int) (all : Bool) (be : Int) (w : World) (hp : In pe 1 20) (hB : BandsAt w) (hF : FaresAt w) :
    Calls Tryd.prog 13 #[.agg #[.int .i64 pe, .int .i64 len, .int .i64 hei, .int .i64 cl, .bool all, .int .i64 be]] w fun e w' => e = .returned (.int .i64 (40 * pe + carFare len hei + cabinFare cl all be)) ∧ Below w.heap.size w w' := by
  obtain ⟨cf, hcf⟩ : ∃ c, c = carFare len hei := ⟨_, rfl⟩
  obtain ⟨bf, hbf⟩ : ∃ c, c = cabinFare cl all be := ⟨_, rfl⟩
  rw [← hcf, ← hbf]
  have b1 : 0 ≤ cf ∧ cf ≤ 500 := by rw [hcf]; exact carFare_bounds len hei
  have b2 : 0 ≤ bf ∧ bf ≤ 320 := by rw [hbf]; exact cabinFare_bounds cl all be
  have HCF : Hid (cf = carFare len hei) := hcf
  have HBF : Hid (bf = cabinFare cl all be) := hbf
  have HB : Hid (BandsAt w) := hB
  have HF : Hid (FaresAt w) := hF
  unfold In at hp
  have hw1 : IntKind.i64.wrap (40 * pe) = 40 * pe := by rw [IntKind.wrap_i64]; omega
  have hw2 : IntKind.i64.wrap (40 * pe + cf) = 40 * pe + cf := by rw [IntKind.wrap_i64]; omega
  have hw3 : IntKind.i64.wrap (40 * pe + cf + bf) = 40 * pe + cf + bf := by rw [IntKind.wrap_i64]; omega
  clear hcf hbf hB hF b1 b2 hp
  go_enter Tryd.func13, Tryd.ntmps13
  go_upto_region 1 with fail
  have hb0 : Below w.heap.size w (w.alloc (.cells #[.int .i64 pe, .int .i64 len, .int .i64 hei, .int .i64 cl, .bool all, .int .i64 be] 24)) := push (Below.refl _ _) _
  have b0 := heap_alloc_new w (.cells #[.int .i64 pe, .int .i64 len, .int .i64 hei, .int .i64 cl, .bool all, .int .i64 be] 24)
  generalize w.alloc (.cells #[.int .i64 pe, .int .i64 len, .int .i64 hei, .int .i64 cl, .bool all, .int .i64 be] 24) = W at hb0 b0 ⊢
  have s0 := blk_lt b0
  have z0 : ∀ g : Grown W, g.val.cell? ⟨w.heap.size, 0, none⟩ = some (.int .i64 pe) := fun g => (g.bel.cell s0).trans (blk_cell b0 0 _ rfl)
  have z1 : ∀ g : Grown W, g.val.cell? ⟨w.heap.size, 1, none⟩ = some (.int .i64 len) := fun g => (g.bel.cell s0).trans (blk_cell b0 1 _ rfl)
  have z2 : ∀ g : Grown W, g.val.cell? ⟨w.heap.size, 2, none⟩ = some (.int .i64 hei) := fun g => (g.bel.cell s0).trans (blk_cell b0 2 _ rfl)
  have z3 : ∀ g : Grown W, g.val.cell? ⟨w.heap.size, 3, none⟩ = some (.int .i64 cl) := fun g => (g.bel.cell s0).trans (blk_cell b0 3 _ rfl)
  have z4 : ∀ g : Grown W, g.val.cell? ⟨w.heap.size, 4, none⟩ = some (.bool all) := fun g => (g.bel.cell s0).trans (blk_cell b0 4 _ rfl)
  have z5 : ∀ g : Grown W, g.val.cell? ⟨w.heap.size, 5, none⟩ = some (.int .i64 be) := fun g => (g.bel.cell s0).trans (blk_cell b0 5 _ rfl)
  have ZB : Hid (∀ g : Grown W, BandsAt g.val) := fun g => (HB.out.below hb0).below g.bel
  have ZF : Hid (∀ g : Grown W, FaresAt g.val) := fun g => (HF.out.below hb0).below g.bel
  refine wp_region_grow (by kernel_rfl) (by kernel_rfl) ?_
  repeat (first | go_big_quiet_skip | (go_big_quiet_want; go_big_quiet_op; first | go_big_quiet_on | (apply Exists.intro; refine ⟨fun g => ?_, ?_⟩; (focus (first | (go_at_call 7; refine grown_call (v := .int .i64 cf) ((implCar_any _ _ _ (ZB.out g)).mono ?_); rintro e w2 ⟨rfl, hb2⟩; exact ⟨by rw [HCF.out], hb2⟩) | (go_at_call 8; refine grown_call (v := .int .i64 bf) ((implCabin_any _ _ _ _ (ZF.out g)).mono ?_); rintro e w2 ⟨rfl, hb2⟩; exact ⟨by rw [HBF.out], hb2⟩))); go_big_quiet_on)))
  refine wpQuiet_nil ?_
  rintro _ ⟨g, rfl⟩
  clear z0 z1 z2 z3 z4 z5
  go_wp2
  go_ret
  exact ⟨rfl, after hb0 g.bel⟩

set_option maxHeartbeats 3200000 in
theorem implPrice_any (pe len hei cl : Int) (all : Bool) (be legs : Int) (w : World) (hB : BandsAt w) (hF : FaresAt w) :
    Calls Tryd.prog 5 #[.agg #[.int .i64 pe, .int .i64 len, .int .i64 hei, .int .i64 cl, .bool all, .int .i64 be], .int .i64 legs] w fun e w' => PriceRes ⟨pe, len, hei, cl, all, be⟩ legs e ∧ Below w.heap.size w w' := by
  have HB : Hid (BandsAt w) := hB
  have HF : Hid (FaresAt w) := hF
  clear hB hF
  go_enter Tryd.func5, Tryd.ntmps5
  go_wp2_with fail
  have hb0 : Below w.heap.size w (w.alloc (.cells #[.int .i64 pe, .int .i64 len, .int .i64 hei, .int .i64 cl, .bool all, .int .i64 be] 24)) := push (Below.refl _ _) _
  have b0 := heap_alloc_new w (.cells #[.int .i64 pe, .int .i64 len, .int .i64 hei, .int .i64 cl, .bool all, .int .i64 be] 24)
  generalize w.alloc (.cells #[.int .i64 pe, .int .i64 len, .int .i64 hei, .int .i64 cl, .bool all, .int .i64 be] 24) = W at hb0 b0 ⊢
  refine (implParty_any pe len hei cl all be _).mono ?_
  rintro e w1 ⟨⟨q, rfl, hq⟩, hb1⟩
  have b1 := blk_below b0 hb1
  have bw1 := after hb0 hb1
  have y0 := blk_cell b1 0 _ rfl
  have y1 := blk_cell b1 1 _ rfl
  have y2 := blk_cell b1 2 _ rfl
  have y3 := blk_cell b1 3 _ rfl
  have y4 := blk_cell b1 4 _ rfl
  have y5 := blk_cell b1 5 _ rfl
  clear hb0 b0 hb1
  cases q with
  | false =>
    have HN : Hid (¬ PartyOk ⟨pe, len, hei, cl, all, be⟩) := fun h => by have := hq.2 h; cases this
    clear hq b1
    go_wp2
    exact bodyPost_ret (v := .tuple #[.int .i64 0, .bool false]) (by simp [results, Tryd.results5, go_sem]) rfl ⟨priceRes_no (fun h => HN.out h.1), bw1⟩
  | true =>
    have HY : Hid (PartyOk ⟨pe, len, hei, cl, all, be⟩) := hq.1 rfl
    clear hq
    by_cases k1 : In legs 1 3
    · have x1 : decide (In legs 1 3) = true := decide_eq_true k1
      have K1 : Hid (In legs 1 3) := k1
      obtain ⟨F, hF⟩ : ∃ F, F = 40 * pe + carFare len hei + cabinFare cl all be := ⟨_, rfl⟩
      have HFF : Hid (F = 40 * pe + carFare len hei + cabinFare cl all be) := hF
      have hF0 : 0 ≤ F ∧ F ≤ 2000 := by
        have h1 := carFare_bounds len hei
        have h2 := cabinFare_bounds cl all be
        have h3 := HY.out.1
        unfold In at h3
        dsimp only at h3
        rw [hF]; omega
      obtain ⟨V, hV⟩ : ∃ V, V = priceOf ⟨pe, len, hei, cl, all, be⟩ legs := ⟨_, rfl⟩
      obtain ⟨M, hM⟩ : ∃ M, M = legs * F := ⟨_, rfl⟩
      have HVM : Hid (V = lessOf pe legs M) := by show V = _; rw [hV, hM, hF]; rfl
      have HVV : Hid (V = priceOf ⟨pe, len, hei, cl, all, be⟩ legs) := hV
      have hMb : 0 ≤ M ∧ M ≤ 10000 := by
        have h3 : legs = 1 ∨ legs = 2 ∨ legs = 3 := by unfold In at k1; omega
        rw [hM]
        rcases h3 with rfl | rfl | rfl <;> omega
      have hw4 : IntKind.i64.wrap (legs * F) = M := by rw [← hM, IntKind.wrap_i64]; omega
      clear k1 hF hV hM hF0
      go_wp2_with (first | (go_at_call 12; refine (within_is _ _ _ _).mono ?_; rintro e w' ⟨rfl, hw'⟩; have hw' := hw'.symm; subst hw'))
      refine (legFare_any pe len hei cl all be _ HY.out.1 (HB.out.below bw1) (HF.out.below bw1)).mono ?_
      rw [← HFF.out]
      rintro e w2 ⟨rfl, hb2⟩
      have c0 := blk_cell (blk_below b1 hb2) 0 _ rfl
      have bw2 := after bw1 hb2
      clear y0 y1 y2 y3 y4 y5 b1 hb2
      have q1 : Int.tdiv M 20 = M / 20 := by rw [Int.tdiv_eq_ediv_of_nonneg hMb.1]
      have q2 : Int.tdiv M 10 = M / 10 := by rw [Int.tdiv_eq_ediv_of_nonneg hMb.1]
      have hw5 : IntKind.i64.wrap (M / 20) = M / 20 := by rw [IntKind.wrap_i64]; omega
      have hw6 : IntKind.i64.wrap (M - M / 20) = M - M / 20 := by rw [IntKind.wrap_i64]; omega
      have hw7 : IntKind.i64.wrap (M / 10) = M / 10 := by rw [IntKind.wrap_i64]; omega
      have hw8 : IntKind.i64.wrap (M - M / 10) = M - M / 10 := by rw [IntKind.wrap_i64]; omega
      have q3 : Int.tdiv (M - M / 20) 10 = (M - M / 20) / 10 := by rw [Int.tdiv_eq_ediv_of_nonneg (by omega)]
      have hw9 : IntKind.i64.wrap ((M - M / 20) / 10) = (M - M / 20) / 10 := by rw [IntKind.wrap_i64]; omega
      have hwa : IntKind.i64.wrap (M - M / 20 - (M - M / 20) / 10) = M - M / 20 - (M - M / 20) / 10 := by rw [IntKind.wrap_i64]; omega
      by_cases j1 : 8 ≤ pe
      · have r1 : decide (8 ≤ pe) = true := decide_eq_true j1
        by_cases j2 : legs = 3
        · subst j2
          have HR : Hid (priceOf ⟨pe, len, hei, cl, all, be⟩ 3 = M - M / 20 - (M - M / 20) / 10) := by show priceOf _ _ = _; rw [← HVV.out, HVM.out]; unfold lessOf; rw [if_pos j1, if_pos rfl]
          clear j1
          go_wp2
          exact bodyPost_ret (v := .tuple #[.int .i64 (M - M / 20 - (M - M / 20) / 10), .bool true]) (by simp [results, Tryd.results5, go_sem]) rfl ⟨by rw [← HR.out]; exact priceRes_yes ⟨HY.out, K1.out⟩, bw2⟩
        · have r2 : (legs == 3) = false := by simpa using j2
          have HR : Hid (priceOf ⟨pe, len, hei, cl, all, be⟩ legs = M - M / 20) := by show priceOf _ _ = _; rw [← HVV.out, HVM.out]; unfold lessOf; rw [if_pos j1, if_neg j2]
          clear j1 j2
          go_wp2
          exact bodyPost_ret (v := .tuple #[.int .i64 (M - M / 20), .bool true]) (by simp [results, Tryd.results5, go_sem]) rfl ⟨by rw [← HR.out]; exact priceRes_yes ⟨HY.out, K1.out⟩, bw2⟩
      · have r1 : decide (8 ≤ pe) = false := decide_eq_false j1
        by_cases j2 : legs = 3
        · subst j2
          have HR : Hid (priceOf ⟨pe, len, hei, cl, all, be⟩ 3 = M - M / 10) := by show priceOf _ _ = _; rw [← HVV.out, HVM.out]; unfold lessOf; rw [if_neg j1, if_pos rfl]
          clear j1
          go_wp2
          exact bodyPost_ret (v := .tuple #[.int .i64 (M - M / 10), .bool true]) (by simp [results, Tryd.results5, go_sem]) rfl ⟨by rw [← HR.out]; exact priceRes_yes ⟨HY.out, K1.out⟩, bw2⟩
        · have r2 : (legs == 3) = false := by simpa using j2
          have HR : Hid (priceOf ⟨pe, len, hei, cl, all, be⟩ legs = M) := by show priceOf _ _ = _; rw [← HVV.out, HVM.out]; unfold lessOf; rw [if_neg j1, if_neg j2]
          clear j1 j2
          go_wp2
          exact bodyPost_ret (v := .tuple #[.int .i64 M, .bool true]) (by simp [results, Tryd.results5, go_sem]) rfl ⟨by rw [← HR.out]; exact priceRes_yes ⟨HY.out, K1.out⟩, bw2⟩
    · have x1 : decide (In legs 1 3) = false := decide_eq_false k1
      have K1 : Hid (¬ In legs 1 3) := k1
      clear k1 b1
      go_wp2_with (first | (go_at_call 12; refine (within_is _ _ _ _).mono ?_; rintro e w' ⟨rfl, hw'⟩; have hw' := hw'.symm; subst hw'))
      exact bodyPost_ret (v := .tuple #[.int .i64 0, .bool false]) (by simp [results, Tryd.results5, go_sem]) rfl ⟨priceRes_no (fun h => K1.out h.2), bw1⟩

end Go.Proofs.YtaalhmaacaahhaaDoor
