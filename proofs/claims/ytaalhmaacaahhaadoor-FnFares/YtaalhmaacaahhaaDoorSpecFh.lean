/-
  OWN TEXT: contracts of the specification's l6Price and PriceOf.
-/
import Derived.Test.YtaalhmaacaahhaaDoorSpecFg
import Derived.Test.YtaalhmaacaahhaaDoorSpecFd
import Derived.Test.YtaalhmaacaahhaaDoorSpecFe
import Derived.Deep.DeepCutAuto
namespace Go.Proofs.YtaalhmaacaahhaaDoor
open Go.RowKit

set_option maxHeartbeats 3200000 in
set_option maxRecDepth 100000 in
theorem l6Price_any (pe len hei cl : Int) (all : Bool) (be legs : Int) (w : World) (hp : In pe 1 20) (hl : In legs 1 3) :
    Calls Tryd.prog 16 #[.agg #[.int .i64 pe, .int .i64 len, .int .i64 hei, .int .i64 cl, .bool all, .int .i64 be], .int .i64 legs] w fun e w' => e = .returned (.int .i64 (priceOf ⟨pe, len, hei, cl, all, be⟩ legs)) ∧ Below w.heap.size w w' := by
  obtain ⟨V, hV⟩ : ∃ V, V = priceOf ⟨pe, len, hei, cl, all, be⟩ legs := ⟨_, rfl⟩
  rw [← hV]
  obtain ⟨cf, hcf⟩ : ∃ c, c = carFare len hei := ⟨_, rfl⟩
  obtain ⟨bf, hbf⟩ : ∃ c, c = cabinFare cl all be := ⟨_, rfl⟩
  have HV : Hid (V = lessOf pe legs (legs * (40 * pe + cf + bf))) := by show V = _; rw [hV, hcf, hbf]; rfl
  have b1 : 0 ≤ cf ∧ cf ≤ 500 := by rw [hcf]; exact carFare_bounds len hei
  have b2 : 0 ≤ bf ∧ bf ≤ 320 := by rw [hbf]; exact cabinFare_bounds cl all be
  have HCF : Hid (cf = carFare len hei) := hcf
  have HBF : Hid (bf = cabinFare cl all be) := hbf
  unfold In at hp hl
  have hw1 : IntKind.i64.wrap (40 * pe) = 40 * pe := by rw [IntKind.wrap_i64]; omega
  have hw2 : IntKind.i64.wrap (40 * pe + cf) = 40 * pe + cf := by rw [IntKind.wrap_i64]; omega
  have hw3 : IntKind.i64.wrap (40 * pe + cf + bf) = 40 * pe + cf + bf := by rw [IntKind.wrap_i64]; omega
  obtain ⟨M, hM⟩ : ∃ M, M = legs * (40 * pe + cf + bf) := ⟨_, rfl⟩
  have hMb : 0 ≤ M ∧ M ≤ 10000 := by
    have h3 : legs = 1 ∨ legs = 2 ∨ legs = 3 := by omega
    rw [hM]
    rcases h3 with rfl | rfl | rfl <;> omega
  have hw4 : IntKind.i64.wrap (legs * (40 * pe + cf + bf)) = M := by rw [← hM, IntKind.wrap_i64]; omega
  have HVM : Hid (V = lessOf pe legs M) := by show V = _; rw [HV.out, hM]
  have HLG : Hid (1 ≤ legs ∧ legs ≤ 3) := hl
  clear hV hcf hbf HV hM
  have q1 : Int.tdiv M 20 = M / 20 := by rw [Int.tdiv_eq_ediv_of_nonneg hMb.1]
  have q2 : Int.tdiv M 10 = M / 10 := by rw [Int.tdiv_eq_ediv_of_nonneg hMb.1]
  have hw5 : IntKind.i64.wrap (M / 20) = M / 20 := by rw [IntKind.wrap_i64]; omega
  have hw6 : IntKind.i64.wrap (M - M / 20) = M - M / 20 := by rw [IntKind.wrap_i64]; omega
  have hw7 : IntKind.i64.wrap (M / 10) = M / 10 := by rw [IntKind.wrap_i64]; omega
  have hw8 : IntKind.i64.wrap (M - M / 10) = M - M / 10 := by rw [IntKind.wrap_i64]; omega
  have q3 : Int.tdiv (M - M / 20) 10 = (M - M / 20) / 10 := by rw [Int.tdiv_eq_ediv_of_nonneg (by omega)]
  have hw9 : IntKind.i64.wrap ((M - M / 20) / 10) = (M - M / 20) / 10 := by rw [IntKind.wrap_i64]; omega
  have hwa : IntKind.i64.wrap (M - M / 20 - (M - M / 20) / 10) = M - M / 20 - (M - M / 20) / 10 := by rw [IntKind.wrap_i64]; omega
  go_enter Tryd.func16, Tryd.ntmps16
  go_upto_region 1 with fail
  have hb0 : Below w.heap.size w (w.alloc (.cells #[.int .i64 pe, .int .i64 len, .int .i64 hei, .int .i64 cl, .bool all, .int .i64 be] 24)) := push (Below.refl _ _) _
  have b0 := heap_alloc_new w (.cells #[.int .i64 pe, .int .i64 len, .int .i64 hei, .int .i64 cl, .bool all, .int .i64 be] 24)
  generalize w.alloc (.cells #[.int .i64 pe, .int .i64 len, .int .i64 hei, .int .i64 cl, .bool all, .int .i64 be] 24) = W at hb0 b0 ⊢
  have s0 := blk_lt b0
  have z0 : ∀ g : Grown W, g.val.cell? ⟨w.heap.size, 0, none⟩ = some (.int .i64 pe) := fun g => (g.bel.cell s0).trans (blk_cell b0 0 _ rfl)
  have z1 : ∀ g : Grown W, g.val.cell? ⟨w.heap.size, 1, none⟩ = some (.int .i64 len) := fun g => (g.bel.cell s0).trans (blk_cell b0 1 _ rfl)
  have z2 : ∀ g : Grown W, g.val.cell? ⟨w.heap.size, 2, none⟩ = some (.int .i64 hei) := fun g => (g.bel.cell s0).trans (blk_cell b0 2 _ rfl)
  have z3 : ∀ g : Grown W, g.val.cell? ⟨w.heap.size, 3, none⟩ = some (.int .i64 cl) := fun g => (g.bel.cell s0).trans (blk_cell b0 3 _ rfl)
  have z4 : ∀ g : Grown W, g.val.cell? ⟨w.heap.size, 4, none⟩ = some (.bool all) := fun g => (g.bel.cell s0).trans (blk_cell b0 4 _ rfl)
  have z5 : ∀ g : Grown W, g.val.cell? ⟨w.heap.size, 5, none⟩ = some (.int .i64 be) := fun g => (g.bel.cell s0).trans (blk_cell b0 5 _ rfl)
  refine wp_region_grow (by kernel_rfl) (by kernel_rfl) ?_
  repeat (first | go_big_quiet_skip | (go_big_quiet_want; go_big_quiet_op; first | go_big_quiet_on | (apply Exists.intro; refine ⟨fun g => ?_, ?_⟩; (focus (first | (go_at_call 26; refine grown_call (v := .int .i64 cf) ((specCar_is _ _ _).mono ?_); rintro e w2 ⟨rfl, rfl⟩; exact ⟨by rw [HCF.out], Below.refl _ _⟩) | (go_at_call 27; refine grown_call (v := .int .i64 bf) ((specCabin_any _ _ _ _).mono ?_); rintro e w2 ⟨rfl, hb2⟩; exact ⟨by rw [HBF.out], hb2⟩))); go_big_quiet_on)))
  refine wpQuiet_nil ?_
  rintro _ ⟨g, rfl⟩
  have y0 := z0 g
  clear z0 z1 z2 z3 z4 z5
  by_cases k1 : 8 ≤ pe
  · have x1 : decide (8 ≤ pe) = true := decide_eq_true k1
    by_cases k2 : legs = 3
    · subst k2
      have HR : Hid (V = M - M / 20 - (M - M / 20) / 10) := by show V = _; rw [HVM.out]; unfold lessOf; rw [if_pos k1, if_pos rfl]
      clear k1
      go_wp2
      go_ret
      exact ⟨by rw [HR.out]; rfl, after hb0 g.bel⟩
    · have x2 : (legs == 3) = false := by simpa using k2
      have HR : Hid (V = M - M / 20) := by show V = _; rw [HVM.out]; unfold lessOf; rw [if_pos k1, if_neg k2]
      clear k1 k2
      go_wp2
      go_ret
      exact ⟨by rw [HR.out]; rfl, after hb0 g.bel⟩
  · have x1 : decide (8 ≤ pe) = false := decide_eq_false k1
    by_cases k2 : legs = 3
    · subst k2
      have HR : Hid (V = M - M / 10) := by show V = _; rw [HVM.out]; unfold lessOf; rw [if_neg k1, if_pos rfl]
      clear k1
      go_wp2
      go_ret
      exact ⟨by rw [HR.out]; rfl, after hb0 g.bel⟩
    · have x2 : (legs == 3) = false := by simpa using k2
      have HR : Hid (V = M) := by show V = _; rw [HVM.out]; unfold lessOf; rw [if_neg k1, if_neg k2]
      clear k1 k2
      go_wp2
      go_ret
      exact ⟨by rw [HR.out]; rfl, after hb0 g.bel⟩

/-- What PriceOf answers. -/
def PriceRes (p : Party) (legs : Int) (e : Ending) : Prop := e = .returned (.tuple #[.int .i64 (if PriceOk p legs then priceOf p legs else 0), .bool (decide (PriceOk p legs))])
theorem priceRes_yes {p : Party} {legs : Int} (h : PriceOk p legs) : PriceRes p legs (.returned (.tuple #[.int .i64 (priceOf p legs), .bool true])) := by
  unfold PriceRes; rw [if_pos h, decide_eq_true h]
theorem priceRes_no {p : Party} {legs : Int} (h : ¬ PriceOk p legs) : PriceRes p legs (.returned (.tuple #[.int .i64 0, .bool false])) := by
  unfold PriceRes; rw [if_neg h, decide_eq_false h]

set_option maxHeartbeats 1600000 in
theorem specPrice_any (pe len hei cl : Int) (all : Bool) (be legs : Int) (w : World) :
    Calls Tryd.prog 6 #[.agg #[.int .i64 pe, .int .i64 len, .int .i64 hei, .int .i64 cl, .bool all, .int .i64 be], .int .i64 legs] w fun e w' => PriceRes ⟨pe, len, hei, cl, all, be⟩ legs e ∧ Below w.heap.size w w' := by
  go_enter Tryd.func6, Tryd.ntmps6
  go_wp2_with fail
  have hb0 : Below w.heap.size w (w.alloc (.cells #[.int .i64 pe, .int .i64 len, .int .i64 hei, .int .i64 cl, .bool all, .int .i64 be] 24)) := push (Below.refl _ _) _
  have b0 := heap_alloc_new w (.cells #[.int .i64 pe, .int .i64 len, .int .i64 hei, .int .i64 cl, .bool all, .int .i64 be] 24)
  generalize w.alloc (.cells #[.int .i64 pe, .int .i64 len, .int .i64 hei, .int .i64 cl, .bool all, .int .i64 be] 24) = W at hb0 b0 ⊢
  refine (specParty_any pe len hei cl all be _).mono ?_
  rintro e w1 ⟨⟨q, rfl, hq⟩, hb1⟩
  have b1 := blk_below b0 hb1
  have bw1 := after hb0 hb1
  have y0 := blk_cell b1 0 _ rfl
  have y1 := blk_cell b1 1 _ rfl
  have y2 := blk_cell b1 2 _ rfl
  have y3 := blk_cell b1 3 _ rfl
  have y4 := blk_cell b1 4 _ rfl
  have y5 := blk_cell b1 5 _ rfl
  clear hb0 b0 hb1 b1
  cases q with
  | false =>
    have HN : Hid (¬ PartyOk ⟨pe, len, hei, cl, all, be⟩) := fun h => by have := hq.2 h; cases this
    clear hq
    go_wp2
    exact bodyPost_ret (v := .tuple #[.int .i64 0, .bool false]) (by simp [results, Tryd.results6, go_sem]) rfl ⟨priceRes_no (fun h => HN.out h.1), bw1⟩
  | true =>
    have HY : Hid (PartyOk ⟨pe, len, hei, cl, all, be⟩) := hq.1 rfl
    clear hq
    by_cases k1 : In legs 1 3
    · have x1 : decide (In legs 1 3) = true := decide_eq_true k1
      have K1 : Hid (In legs 1 3) := k1
      clear k1
      go_wp2_with (first | (go_at_call 15; refine (l1In_is _ _ _ _).mono ?_; rintro e w' ⟨rfl, hw'⟩; have hw' := hw'.symm; subst hw') | (go_at_call 16; refine (l6Price_any pe len hei cl all be legs _ HY.out.1 K1.out).mono ?_; rintro e w2 ⟨rfl, hb2⟩))
      exact bodyPost_ret (v := .tuple #[.int .i64 (priceOf ⟨pe, len, hei, cl, all, be⟩ legs), .bool true]) (by simp [results, Tryd.results6, go_sem]) rfl ⟨priceRes_yes ⟨HY.out, K1.out⟩, after bw1 hb2⟩
    · have x1 : decide (In legs 1 3) = false := decide_eq_false k1
      have K1 : Hid (¬ In legs 1 3) := k1
      clear k1
      go_wp2_with (first | (go_at_call 15; refine (l1In_is _ _ _ _).mono ?_; rintro e w' ⟨rfl, hw'⟩; have hw' := hw'.symm; subst hw'))
      exact bodyPost_ret (v := .tuple #[.int .i64 0, .bool false]) (by simp [results, Tryd.results6, go_sem]) rfl ⟨priceRes_no (fun h => K1.out h.2), bw1⟩

end Go.Proofs.YtaalhmaacaahhaaDoor
