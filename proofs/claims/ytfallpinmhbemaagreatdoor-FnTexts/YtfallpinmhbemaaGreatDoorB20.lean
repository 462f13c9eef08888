/-
  OWN TEXT: SpecFd, SpecFe, SpecLp, SpecEa, SpecEb.
-/
import Derived.Deep.DeepCutAuto
import Derived.Deep.RegionLawGrows
import Derived.Deep.RegionHeld3
import Derived.Deep.AppendLies
import Derived.Great.Walk
import Derived.Test.YtfallpinmhbemaaGreatDoorB12
import Derived.Test.YtfallpinmhbemaaGreatDoorB07
import Derived.Test.YtfallpinmhbemaaGreatDoorB01
import Derived.Test.YtfallpinmhbemaaGreatDoorB08
import Derived.Test.YtfallpinmhbemaaGreatDoorB19
namespace Go.Proofs.YtfallpinmhbemaaGreatDoor
open Go.RowKit

set_option maxHeartbeats 800000 in
theorem specCar_is (x y : Int) (w : World) :
    Calls Tryz.prog 155 #[.int .i64 x, .int .i64 y] w fun e w' => e = .returned (.int .i64 (carFare x y)) ∧ w' = w := by
  obtain ⟨V, hV⟩ : ∃ V, V = carFare x y := ⟨_, rfl⟩
  rw [← hV]
  have HV : Hid (V = carFare x y) := hV
  clear hV
  by_cases h0 : CarOk x y
  · have e0 : decide (CarOk x y) = true := decide_eq_true h0
    have H0 : Hid (CarOk x y) := h0
    have HX : Hid (In x 1 2000) := h0.1
    clear h0
    by_cases h1 : 600 < x
    · have e1 : decide (600 < x) = true := decide_eq_true h1
      have h2 : 450 < x := by omega
      have e2 : decide (450 < x) = true := decide_eq_true h2
      have hx := HX.out
      unfold In at hx
      have hw1 : IntKind.i64.wrap (x - 600) = x - 600 := by rw [IntKind.wrap_i64]; omega
      have hw2 : IntKind.i64.wrap (x - 600 + 99) = x - 600 + 99 := by rw [IntKind.wrap_i64]; omega
      have hq : Int.tdiv (x - 600 + 99) 100 = (x - 600 + 99) / 100 := by rw [Int.tdiv_eq_ediv_of_nonneg (by omega)]
      have hw3 : IntKind.i64.wrap ((x - 600 + 99) / 100) = (x - 600 + 99) / 100 := by rw [IntKind.wrap_i64]; omega
      have hw4 : IntKind.i64.wrap (25 * ((x - 600 + 99) / 100)) = 25 * ((x - 600 + 99) / 100) := by rw [IntKind.wrap_i64]; omega
      have hw5 : IntKind.i64.wrap (90 + 25 * ((x - 600 + 99) / 100)) = 90 + 25 * ((x - 600 + 99) / 100) := by rw [IntKind.wrap_i64]; omega
      have hw6 : IntKind.i64.wrap (90 + 25 * ((x - 600 + 99) / 100) + 30) = 90 + 25 * ((x - 600 + 99) / 100) + 30 := by rw [IntKind.wrap_i64]; omega
      clear hx
      by_cases h5 : 220 < y
      · have e5 : decide (220 < y) = true := decide_eq_true h5
        have HR : Hid (V = 90 + 25 * ((x - 600 + 99) / 100) + 30) := by show V = 90 + 25 * ((x - 600 + 99) / 100) + 30; rw [HV.out]; unfold carFare; rw [if_pos H0.out]; simp only [if_pos h1, if_pos h5]; (try omega)
        rw [HR.out]
        go_enter Tryz.func155, Tryz.ntmps155
        go_wp2_with (first | (go_at_call 90; refine (l6Car_is _ _ _).mono ?_; rintro e w' ⟨rfl, hw'⟩; have hw' := hw'.symm; subst hw'))
        go_ret
        exact ⟨rfl, rfl⟩
      · have e5 : decide (220 < y) = false := decide_eq_false h5
        have HR : Hid (V = 90 + 25 * ((x - 600 + 99) / 100)) := by show V = 90 + 25 * ((x - 600 + 99) / 100); rw [HV.out]; unfold carFare; rw [if_pos H0.out]; simp only [if_pos h1, if_neg h5]; (try omega)
        rw [HR.out]
        go_enter Tryz.func155, Tryz.ntmps155
        go_wp2_with (first | (go_at_call 90; refine (l6Car_is _ _ _).mono ?_; rintro e w' ⟨rfl, hw'⟩; have hw' := hw'.symm; subst hw'))
        go_ret
        exact ⟨rfl, rfl⟩
    · have e1 : decide (600 < x) = false := decide_eq_false h1
      by_cases h2 : 450 < x
      · have e2 : decide (450 < x) = true := decide_eq_true h2
        by_cases h5 : 220 < y
        · have e5 : decide (220 < y) = true := decide_eq_true h5
          have HR : Hid (V = 90 + 30) := by show V = 90 + 30; rw [HV.out]; unfold carFare; rw [if_pos H0.out]; simp only [if_neg h1, if_pos h2, if_pos h5]; (try omega)
          rw [HR.out]
          go_enter Tryz.func155, Tryz.ntmps155
          go_wp2_with (first | (go_at_call 90; refine (l6Car_is _ _ _).mono ?_; rintro e w' ⟨rfl, hw'⟩; have hw' := hw'.symm; subst hw'))
          go_ret
          exact ⟨rfl, rfl⟩
        · have e5 : decide (220 < y) = false := decide_eq_false h5
          have HR : Hid (V = 90) := by show V = 90; rw [HV.out]; unfold carFare; rw [if_pos H0.out]; simp only [if_neg h1, if_pos h2, if_neg h5]; (try omega)
          rw [HR.out]
          go_enter Tryz.func155, Tryz.ntmps155
          go_wp2_with (first | (go_at_call 90; refine (l6Car_is _ _ _).mono ?_; rintro e w' ⟨rfl, hw'⟩; have hw' := hw'.symm; subst hw'))
          go_ret
          exact ⟨rfl, rfl⟩
      · have e2 : decide (450 < x) = false := decide_eq_false h2
        by_cases h5 : 220 < y
        · have e5 : decide (220 < y) = true := decide_eq_true h5
          have HR : Hid (V = 60 + 30) := by show V = 60 + 30; rw [HV.out]; unfold carFare; rw [if_pos H0.out]; simp only [if_neg h1, if_neg h2, if_pos h5]; (try omega)
          rw [HR.out]
          go_enter Tryz.func155, Tryz.ntmps155
          go_wp2_with (first | (go_at_call 90; refine (l6Car_is _ _ _).mono ?_; rintro e w' ⟨rfl, hw'⟩; have hw' := hw'.symm; subst hw'))
          go_ret
          exact ⟨rfl, rfl⟩
        · have e5 : decide (220 < y) = false := decide_eq_false h5
          have HR : Hid (V = 60) := by show V = 60; rw [HV.out]; unfold carFare; rw [if_pos H0.out]; simp only [if_neg h1, if_neg h2, if_neg h5]; (try omega)
          rw [HR.out]
          go_enter Tryz.func155, Tryz.ntmps155
          go_wp2_with (first | (go_at_call 90; refine (l6Car_is _ _ _).mono ?_; rintro e w' ⟨rfl, hw'⟩; have hw' := hw'.symm; subst hw'))
          go_ret
          exact ⟨rfl, rfl⟩
  · have e0 : decide (CarOk x y) = false := decide_eq_false h0
    have HR : Hid (V = 0) := by rw [HV.out]; exact if_neg h0
    rw [HR.out]
    clear h0
    go_enter Tryz.func155, Tryz.ntmps155
    go_wp2_with (first | (go_at_call 90; refine (l6Car_is _ _ _).mono ?_; rintro e w' ⟨rfl, hw'⟩; have hw' := hw'.symm; subst hw'))
    go_ret
    exact ⟨rfl, rfl⟩

end Go.Proofs.YtfallpinmhbemaaGreatDoor

namespace Go.Proofs.YtfallpinmhbemaaGreatDoor
open Go.RowKit

set_option maxHeartbeats 1600000 in
theorem specCabin_any (cl : Int) (all : Bool) (be : Int) (w : World) :
    Calls Tryz.prog 156 #[.int .i64 cl, .bool all, .int .i64 be] w fun e w' => e = .returned (.int .i64 (cabinFare cl all be)) ∧ Below w.heap.size w w' := by
  obtain ⟨V, hV⟩ : ∃ V, V = cabinFare cl all be := ⟨_, rfl⟩
  rw [← hV]
  have HV : Hid (V = cabinFare cl all be) := hV
  clear hV
  by_cases h1 : In cl 1 3
  · have e1 : decide (In cl 1 3) = true := decide_eq_true h1
    have H1 : Hid (In cl 1 3) := h1
    cases all with
    | true =>
      by_cases h2 : be = 0
      · subst h2
        have h3 : cl = 1 ∨ cl = 2 ∨ cl = 3 := by unfold In at h1; omega
        clear h1
        rcases h3 with rfl | rfl | rfl
        · have HR : Hid (V = 90) := by show V = 90; rw [HV.out]; exact if_pos ⟨H1.out, .inl ⟨rfl, rfl⟩⟩
          rw [HR.out]
          go_enter Tryz.func156, Tryz.ntmps156
          go_wp2_with (first | (go_at_call 19; refine (l1In_is _ _ _ _).mono ?_; rintro e w' ⟨rfl, hw'⟩; have hw' := hw'.symm; subst hw'))
          go_ret
          exact ⟨rfl, push (Below.refl _ _) _⟩
        · have HR : Hid (V = 150) := by show V = 150; rw [HV.out]; exact if_pos ⟨H1.out, .inl ⟨rfl, rfl⟩⟩
          rw [HR.out]
          go_enter Tryz.func156, Tryz.ntmps156
          go_wp2_with (first | (go_at_call 19; refine (l1In_is _ _ _ _).mono ?_; rintro e w' ⟨rfl, hw'⟩; have hw' := hw'.symm; subst hw'))
          go_ret
          exact ⟨rfl, push (Below.refl _ _) _⟩
        · have HR : Hid (V = 240) := by show V = 240; rw [HV.out]; exact if_pos ⟨H1.out, .inl ⟨rfl, rfl⟩⟩
          rw [HR.out]
          go_enter Tryz.func156, Tryz.ntmps156
          go_wp2_with (first | (go_at_call 19; refine (l1In_is _ _ _ _).mono ?_; rintro e w' ⟨rfl, hw'⟩; have hw' := hw'.symm; subst hw'))
          go_ret
          exact ⟨rfl, push (Below.refl _ _) _⟩
      · have e2 : (be == 0) = false := by simpa using h2
        have e3 : (be != 0) = true := by simpa using h2
        have HR : Hid (V = 0) := by rw [HV.out]; exact if_neg (fun h => by rcases h.2 with h | h; exact h2 h.2; cases h.1)
        rw [HR.out]
        clear h1 h2
        go_enter Tryz.func156, Tryz.ntmps156
        go_wp2_with (first | (go_at_call 19; refine (l1In_is _ _ _ _).mono ?_; rintro e w' ⟨rfl, hw'⟩; have hw' := hw'.symm; subst hw'))
        go_ret
        exact ⟨rfl, Below.refl _ _⟩
    | false =>
      by_cases h2 : In be 1 4
      · have e2 : decide (In be 1 4) = true := decide_eq_true h2
        have H2 : Hid (In be 1 4) := h2
        have h3 : cl = 1 ∨ cl = 2 ∨ cl = 3 := by unfold In at h1; omega
        have h4 : 1 ≤ be ∧ be ≤ 4 := h2
        clear h1 h2
        rcases h3 with rfl | rfl | rfl
        · have HR : Hid (V = 30 * be) := by show V = 30 * be; rw [HV.out]; unfold cabinFare; rw [if_pos ⟨H1.out, .inr ⟨rfl, H2.out⟩⟩]; rfl
          rw [HR.out]
          have hw : IntKind.i64.wrap (30 * be) = 30 * be := by rw [IntKind.wrap_i64]; omega
          go_enter Tryz.func156, Tryz.ntmps156
          go_wp2_with (first | (go_at_call 19; refine (l1In_is _ _ _ _).mono ?_; rintro e w' ⟨rfl, hw'⟩; have hw' := hw'.symm; subst hw'))
          go_ret
          exact ⟨rfl, push (Below.refl _ _) _⟩
        · have HR : Hid (V = 50 * be) := by show V = 50 * be; rw [HV.out]; unfold cabinFare; rw [if_pos ⟨H1.out, .inr ⟨rfl, H2.out⟩⟩]; rfl
          rw [HR.out]
          have hw : IntKind.i64.wrap (50 * be) = 50 * be := by rw [IntKind.wrap_i64]; omega
          go_enter Tryz.func156, Tryz.ntmps156
          go_wp2_with (first | (go_at_call 19; refine (l1In_is _ _ _ _).mono ?_; rintro e w' ⟨rfl, hw'⟩; have hw' := hw'.symm; subst hw'))
          go_ret
          exact ⟨rfl, push (Below.refl _ _) _⟩
        · have HR : Hid (V = 80 * be) := by show V = 80 * be; rw [HV.out]; unfold cabinFare; rw [if_pos ⟨H1.out, .inr ⟨rfl, H2.out⟩⟩]; rfl
          rw [HR.out]
          have hw : IntKind.i64.wrap (80 * be) = 80 * be := by rw [IntKind.wrap_i64]; omega
          go_enter Tryz.func156, Tryz.ntmps156
          go_wp2_with (first | (go_at_call 19; refine (l1In_is _ _ _ _).mono ?_; rintro e w' ⟨rfl, hw'⟩; have hw' := hw'.symm; subst hw'))
          go_ret
          exact ⟨rfl, push (Below.refl _ _) _⟩
      · have e2 : decide (In be 1 4) = false := decide_eq_false h2
        have HR : Hid (V = 0) := by rw [HV.out]; exact if_neg (fun h => by rcases h.2 with h | h; cases h.1; exact h2 h.2)
        rw [HR.out]
        clear h1 h2
        go_enter Tryz.func156, Tryz.ntmps156
        go_wp2_with (first | (go_at_call 19; refine (l1In_is _ _ _ _).mono ?_; rintro e w' ⟨rfl, hw'⟩; have hw' := hw'.symm; subst hw'))
        go_ret
        exact ⟨rfl, Below.refl _ _⟩
  · have e1 : decide (In cl 1 3) = false := decide_eq_false h1
    have HR : Hid (V = 0) := by rw [HV.out]; exact if_neg (fun h => h1 h.1)
    rw [HR.out]
    clear h1
    cases all with
    | true =>
      go_enter Tryz.func156, Tryz.ntmps156
      go_wp2_with (first | (go_at_call 19; refine (l1In_is _ _ _ _).mono ?_; rintro e w' ⟨rfl, hw'⟩; have hw' := hw'.symm; subst hw'))
      go_ret
      exact ⟨rfl, Below.refl _ _⟩
    | false =>
      go_enter Tryz.func156, Tryz.ntmps156
      go_wp2_with (first | (go_at_call 19; refine (l1In_is _ _ _ _).mono ?_; rintro e w' ⟨rfl, hw'⟩; have hw' := hw'.symm; subst hw'))
      go_ret
      exact ⟨rfl, Below.refl _ _⟩

end Go.Proofs.YtfallpinmhbemaaGreatDoor

namespace Go.Proofs.YtfallpinmhbemaaGreatDoor
open Go.RowKit

set_option maxHeartbeats 3200000 in
set_option maxRecDepth 100000 in
theorem l6Price0_any (pe len hei cl : Int) (all : Bool) (be legs : Int) (w : World) (hp : In pe 0 20) (hl : In legs 0 3) :
    Calls Tryz.prog 143 #[.agg #[.int .i64 pe, .int .i64 len, .int .i64 hei, .int .i64 cl, .bool all, .int .i64 be], .int .i64 legs] w fun e w' => e = .returned (.int .i64 (priceOf ⟨pe, len, hei, cl, all, be⟩ legs)) ∧ Below w.heap.size w w' := by
  obtain ⟨V, hV⟩ : ∃ V, V = priceOf ⟨pe, len, hei, cl, all, be⟩ legs := ⟨_, rfl⟩
  rw [← hV]
  obtain ⟨cf, hcf⟩ : ∃ c, c = carFare len hei := ⟨_, rfl⟩
  obtain ⟨bf, hbf⟩ : ∃ c, c = cabinFare cl all be := ⟨_, rfl⟩
  have HV : Hid (V = lessOf pe legs (legs * (40 * pe + cf + bf))) := by show V = _; rw [hV, hcf, hbf]; rfl
  have b1 : 0 ≤ cf ∧ cf ≤ 500 := by rw [hcf]; exact carFare_bounds len hei
  have b2 : 0 ≤ bf ∧ bf ≤ 320 := by rw [hbf]; exact cabinFare_bounds cl all be
  have HCF : Hid (cf = carFare len hei) := hcf
  have HBF : Hid (bf = cabinFare cl all be) := hbf
  unfold In at hp hl
  have hw1 : IntKind.i64.wrap (40 * pe) = 40 * pe := by rw [IntKind.wrap_i64]; omega
  have hw2 : IntKind.i64.wrap (40 * pe + cf) = 40 * pe + cf := by rw [IntKind.wrap_i64]; omega
  have hw3 : IntKind.i64.wrap (40 * pe + cf + bf) = 40 * pe + cf + bf := by rw [IntKind.wrap_i64]; omega
  obtain ⟨M, hM⟩ : ∃ M, M = legs * (40 * pe + cf + bf) := ⟨_, rfl⟩
  have hMb : 0 ≤ M ∧ M ≤ 10000 := by
    have h3 : legs = 0 ∨ legs = 1 ∨ legs = 2 ∨ legs = 3 := by omega
    rw [hM]
    rcases h3 with rfl | rfl | rfl | rfl <;> omega
  have hw4 : IntKind.i64.wrap (legs * (40 * pe + cf + bf)) = M := by rw [← hM, IntKind.wrap_i64]; omega
  have HVM : Hid (V = lessOf pe legs M) := by show V = _; rw [HV.out, hM]
  have HLG : Hid (0 ≤ legs ∧ legs ≤ 3) := hl
  clear hV hcf hbf HV hM
  have q1 : Int.tdiv M 20 = M / 20 := by rw [Int.tdiv_eq_ediv_of_nonneg hMb.1]
  have q2 : Int.tdiv M 10 = M / 10 := by rw [Int.tdiv_eq_ediv_of_nonneg hMb.1]
  have hw5 : IntKind.i64.wrap (M / 20) = M / 20 := by rw [IntKind.wrap_i64]; omega
  have hw6 : IntKind.i64.wrap (M - M / 20) = M - M / 20 := by rw [IntKind.wrap_i64]; omega
  have hw7 : IntKind.i64.wrap (M / 10) = M / 10 := by rw [IntKind.wrap_i64]; omega
  have hw8 : IntKind.i64.wrap (M - M / 10) = M - M / 10 := by rw [IntKind.wrap_i64]; omega
  have q3 : Int.tdiv (M - M / 20) 10 = (M - M / 20) / 10 := by rw [Int.tdiv_eq_ediv_of_nonneg (by omega)]
  have hw9 : IntKind.i64.wrap ((M - M / 20) / 10) = (M - M / 20) / 10 := by rw [IntKind.wrap_i64]; omega
  have hwa : IntKind.i64.wrap (M - M / 20 - (M - M / 20) / 10) = M - M / 20 - (M - M / 20) / 10 := by rw [IntKind.wrap_i64]; omega
  go_enter Tryz.func143, Tryz.ntmps143
  go_upto_region 1 with fail
  have hb0 : Below w.heap.size w (w.alloc (.cells #[.int .i64 pe, .int .i64 len, .int .i64 hei, .int .i64 cl, .bool all, .int .i64 be] 25)) := push (Below.refl _ _) _
  have b0 := heap_alloc_new w (.cells #[.int .i64 pe, .int .i64 len, .int .i64 hei, .int .i64 cl, .bool all, .int .i64 be] 25)
  generalize w.alloc (.cells #[.int .i64 pe, .int .i64 len, .int .i64 hei, .int .i64 cl, .bool all, .int .i64 be] 25) = W at hb0 b0 ⊢
  have s0 := blk_lt b0
  have z0 : ∀ g : Grown W, g.val.cell? ⟨w.heap.size, 0, none⟩ = some (.int .i64 pe) := fun g => (g.bel.cell s0).trans (blk_cell b0 0 _ rfl)
  have z1 : ∀ g : Grown W, g.val.cell? ⟨w.heap.size, 1, none⟩ = some (.int .i64 len) := fun g => (g.bel.cell s0).trans (blk_cell b0 1 _ rfl)
  have z2 : ∀ g : Grown W, g.val.cell? ⟨w.heap.size, 2, none⟩ = some (.int .i64 hei) := fun g => (g.bel.cell s0).trans (blk_cell b0 2 _ rfl)
  have z3 : ∀ g : Grown W, g.val.cell? ⟨w.heap.size, 3, none⟩ = some (.int .i64 cl) := fun g => (g.bel.cell s0).trans (blk_cell b0 3 _ rfl)
  have z4 : ∀ g : Grown W, g.val.cell? ⟨w.heap.size, 4, none⟩ = some (.bool all) := fun g => (g.bel.cell s0).trans (blk_cell b0 4 _ rfl)
  have z5 : ∀ g : Grown W, g.val.cell? ⟨w.heap.size, 5, none⟩ = some (.int .i64 be) := fun g => (g.bel.cell s0).trans (blk_cell b0 5 _ rfl)
  refine wp_region_grow (by kernel_rfl) (by kernel_rfl) ?_
  repeat (first | go_big_quiet_skip | (go_big_quiet_want; go_big_quiet_op; first | go_big_quiet_on | (apply Exists.intro; refine ⟨fun g => ?_, ?_⟩; (focus (first | (go_at_call 155; refine grown_call (v := .int .i64 cf) ((specCar_is _ _ _).mono ?_); rintro e w2 ⟨rfl, rfl⟩; exact ⟨by rw [HCF.out], Below.refl _ _⟩) | (go_at_call 156; refine grown_call (v := .int .i64 bf) ((specCabin_any _ _ _ _).mono ?_); rintro e w2 ⟨rfl, hb2⟩; exact ⟨by rw [HBF.out], hb2⟩))); go_big_quiet_on)))
  refine wpQuiet_nil ?_
  rintro _ ⟨g, rfl⟩
  have y0 := z0 g
  clear z0 z1 z2 z3 z4 z5
  by_cases k1 : 8 ≤ pe
  · have x1 : decide (8 ≤ pe) = true := decide_eq_true k1
    by_cases k2 : legs = 3
    · subst k2
      have HR : Hid (V = M - M / 20 - (M - M / 20) / 10) := by show V = _; rw [HVM.out]; unfold lessOf; rw [if_pos k1, if_pos rfl]
      clear k1
      go_wp2
      go_ret
      exact ⟨by rw [HR.out]; rfl, after hb0 g.bel⟩
    · have x2 : (legs == 3) = false := by simpa using k2
      have HR : Hid (V = M - M / 20) := by show V = _; rw [HVM.out]; unfold lessOf; rw [if_pos k1, if_neg k2]
      clear k1 k2
      go_wp2
      go_ret
      exact ⟨by rw [HR.out]; rfl, after hb0 g.bel⟩
  · have x1 : decide (8 ≤ pe) = false := decide_eq_false k1
    by_cases k2 : legs = 3
    · subst k2
      have HR : Hid (V = M - M / 10) := by show V = _; rw [HVM.out]; unfold lessOf; rw [if_neg k1, if_pos rfl]
      clear k1
      go_wp2
      go_ret
      exact ⟨by rw [HR.out]; rfl, after hb0 g.bel⟩
    · have x2 : (legs == 3) = false := by simpa using k2
      have HR : Hid (V = M) := by show V = _; rw [HVM.out]; unfold lessOf; rw [if_neg k1, if_neg k2]
      clear k1 k2
      go_wp2
      go_ret
      exact ⟨by rw [HR.out]; rfl, after hb0 g.bel⟩

end Go.Proofs.YtfallpinmhbemaaGreatDoor

namespace Go.Proofs.YtfallpinmhbemaaGreatDoor
open Go.RowKit

set_option maxHeartbeats 25600000 in
set_option maxRecDepth 100000 in
theorem l7End_4 (g base N R csa cld cbk clg m : Nat) (asa ald abk alg : Option Addr) (bys : Int) (y : OpD) (x : Off) (L C A B D E : Nat → Value) (w : World) (hq : w.heap[g]? = some (.cells #[.slice asa N csa, .slice ald N cld, .slice abk R cbk] 66 (0, 0))) (ho : OwnOff w base (.slice asa N csa) (.slice ald N cld) (.slice abk R cbk) N N R x L C A B D E) (hxb : x.bkn = R) (hbw : base ≤ w.heap.size) (hkd : y.kind = 4) (hpe : In y.pe 0 20) (hln : y.lgn ≤ 3) (hlg : IntsAt w alg y.lgn y.lg) (hsl : SliceOk alg y.lgn clg) (hlo : 0 < y.lgn → ∀ a, alg = some a → a.block < base) (hnm : y.name = (m : Int) + 1) (hm : m < R) (hR : R ≤ 1048576) :
    Calls Tryz.prog 123 #[.pointer (some ⟨g, 0, none⟩), .int .i64 bys, .agg #[.int .i64 y.kind, .string y.own, .int .i64 y.name, .slice alg y.lgn clg, .int .i64 y.pe, .int .i64 y.len, .int .i64 y.hei, .int .i64 y.cl, .bool y.all, .int .i64 y.be, .int .i64 y.unt, .int .i64 y.now]] w fun e w' => EndIs g base N csa cld asa ald (fun b => b = g ∨ (Value.slice abk R cbk).ownBlock = some b) { x with bk := setB x.bk m (endBook (x.bk m) bys y) } 0 y.name ((x.bk m).price) (fun _ v => v = .slice none 0 0) L C A B D w e w' := by
  rw [hkd, hnm]
  have HO : Hid (OwnOff w base (.slice asa N csa) (.slice ald N cld) (.slice abk R cbk) N N R x L C A B D E) := ho
  have HQ : Hid (w.heap[g]? = some (.cells #[.slice asa N csa, .slice ald N cld, .slice abk R cbk] 66 (0, 0))) := hq
  have HKD : Hid (y.kind = 4) := hkd
  have HXB : Hid (x.bkn = R) := hxb
  have HBW : Hid (base ≤ w.heap.size) := hbw
  have HLG : Hid (IntsAt w alg y.lgn y.lg) := hlg
  have HSL : Hid (SliceOk alg y.lgn clg) := hsl
  have HLO : Hid (0 < y.lgn → ∀ a, alg = some a → a.block < base) := hlo
  obtain ⟨gb, rfl, hb1, hb2⟩ := own_addr ho.bk.row (by omega)
  obtain ⟨cs, hgb⟩ := own_blockE ho.bk.row gb rfl
  obtain ⟨blg, blc, eE, q1, q2, q3⟩ := own_form (ho.bk.legs m hm)
  obtain ⟨b, hbd⟩ : ∃ b, b = x.bk m := ⟨_, rfl⟩
  have HBD : Hid (b = x.bk m) := hbd
  have HGB : Hid (w.heap[gb]? = some (.cells cs 131 (0, 0))) := hgb
  have HCB : Hid (∀ V, Below w.heap.size w V → ∀ j v, (bkC x.bk E m)[j]? = some v → V.cell? ⟨gb, m * 13 + j, none⟩ = some v) := fun V hV j v hv => by
    have hj : j < 13 := by
      have h := (List.getElem?_eq_some_iff.1 hv).1
      exact h
    have h := own_cell ho.bk.row (m * 13 + j) (by omega) rfl
    rw [recCell_at 13 _ m j hj, List.getD_eq_getElem?_getD, hv] at h
    exact (hV.cell (p := ⟨gb, m * 13 + j, none⟩) hb2).trans h
  have HEM : Hid (E m = .slice blg b.lgn blc) := by rw [hbd]; exact eE
  have i1 : (0 : Int) ≤ (m : Int) := by omega
  have i2 : (m : Int) < (R : Int) := by omega
  have hwm : IntKind.i64.wrap ((m : Int) + 1 - 1) = (m : Int) := by rw [IntKind.wrap_i64]; omega
  have HM : Hid (m < R) := hm
  have HBG : Hid (base ≤ gb) := hb1
  clear hgb eE q1 q2 q3 hbd hb1
  clear ho hq hkd hxb hbw hlg hsl hlo hnm hm
  obtain ⟨pr, hpr⟩ : ∃ pr, pr = priceOf ⟨y.pe, y.len, y.hei, y.cl, y.all, y.be⟩ (y.lgn : Int) := ⟨_, rfl⟩
  have HPR : Hid (pr = priceOf ⟨y.pe, y.len, y.hei, y.cl, y.all, y.be⟩ (y.lgn : Int)) := hpr
  have hb0 : Below w.heap.size w ((w.alloc (.cells #[.int .i64 4, .string y.own, .int .i64 ((m : Int) + 1), .slice alg y.lgn clg, .int .i64 y.pe, .int .i64 y.len, .int .i64 y.hei, .int .i64 y.cl, .bool y.all, .int .i64 y.be, .int .i64 y.unt, .int .i64 y.now] 27)).alloc (.cells #[.int .i64 0, .int .i64 0, .int .i64 0, .slice none 0 0] 127)) := push (push (Below.refl _ _) _) _
  have bO := blk_alloc (heap_alloc_new w (.cells #[.int .i64 4, .string y.own, .int .i64 ((m : Int) + 1), .slice alg y.lgn clg, .int .i64 y.pe, .int .i64 y.len, .int .i64 y.hei, .int .i64 y.cl, .bool y.all, .int .i64 y.be, .int .i64 y.unt, .int .i64 y.now] 27)) (.cells #[.int .i64 0, .int .i64 0, .int .i64 0, .slice none 0 0] 127)
  have bA := new2 w (.cells #[.int .i64 4, .string y.own, .int .i64 ((m : Int) + 1), .slice alg y.lgn clg, .int .i64 y.pe, .int .i64 y.len, .int .i64 y.hei, .int .i64 y.cl, .bool y.all, .int .i64 y.be, .int .i64 y.unt, .int .i64 y.now] 27) (.cells #[.int .i64 0, .int .i64 0, .int .i64 0, .slice none 0 0] 127)
  go_enter Tryz.func123, Tryz.ntmps123
  go_wp2_with fail
  generalize ((w.alloc (.cells #[.int .i64 4, .string y.own, .int .i64 ((m : Int) + 1), .slice alg y.lgn clg, .int .i64 y.pe, .int .i64 y.len, .int .i64 y.hei, .int .i64 y.cl, .bool y.all, .int .i64 y.be, .int .i64 y.unt, .int .i64 y.now] 27)).alloc (.cells #[.int .i64 0, .int .i64 0, .int .i64 0, .slice none 0 0] 127)) = W at hb0 bO bA ⊢
  refine (l6Price0_any y.pe y.len y.hei y.cl y.all y.be (y.lgn : Int) _ hpe (by unfold In; omega)).mono ?_
  rintro e V ⟨rfl, hbv⟩
  rw [← hpr]
  clear hpr
  replace hb0 := after hb0 hbv
  replace bO := blk_below bO hbv
  replace bA := blk_below bA hbv
  clear hbv W
  have o0 := blk_cell bO 0 _ rfl
  have n2 : ∀ G : Grown V, G.val.cell? ⟨g, 2, none⟩ = some (.slice (some ⟨gb, 0, none⟩) R cbk) := fun G => blk_cell (blk_below HQ.out (after hb0 G.bel)) 2 _ rfl
  have m2 : ∀ G : Grown V, G.val.cell? ⟨w.heap.size, 2, none⟩ = some (.int .i64 ((m : Int) + 1)) := fun G => blk_cell (blk_below bO G.bel) 2 _ rfl
  go_upto_region 17 with fail
  refine wp_region_grow (by kernel_rfl) (by kernel_rfl) ?_
  repeat (first | go_big_quiet_skip | (go_big_quiet_want; go_big_quiet_op; first | go_big_quiet_on | fail))
  refine wpQuiet_nil ?_
  rintro _ ⟨G, rfl⟩
  replace hb0 := after hb0 G.bel
  replace bO := blk_below bO G.bel
  replace bA := blk_below bA G.bel
  have hsz := blk_lt bA
  have o2 := blk_cell bO 2 _ rfl
  clear o0 n2 m2
  have o0 : ∀ o, (G.val.alloc o).cell? ⟨w.heap.size, 0, none⟩ = some (.int .i64 4) := fun o => blk_cell (blk_alloc bO o) 0 _ rfl
  go_upto_region 20 with fail
  replace hb0 := push hb0 (.cells #[.int .i64 0, .int .i64 ((m : Int) + 1), .int .i64 0, .slice none 0 0] 127)
  replace bO := blk_alloc bO (.cells #[.int .i64 0, .int .i64 ((m : Int) + 1), .int .i64 0, .slice none 0 0] 127)
  replace bA := blk_alloc bA (.cells #[.int .i64 0, .int .i64 ((m : Int) + 1), .int .i64 0, .slice none 0 0] 127)
  have bT := heap_alloc_new G.val (.cells #[.int .i64 0, .int .i64 ((m : Int) + 1), .int .i64 0, .slice none 0 0] 127)
  generalize G.val.alloc (.cells #[.int .i64 0, .int .i64 ((m : Int) + 1), .int .i64 0, .slice none 0 0] 127) = X at hb0 bO bA bT ⊢
  generalize G.val.heap.size = tb at bT hsz ⊢
  clear o0 o2 G V
  have bGB := blk_below HGB.out hb0
  have k10 := HCB.out X hb0 10 _ rfl
  have k11 := HCB.out X hb0 11 _ rfl
  have k12 := HCB.out X hb0 12 _ rfl
  have f10 := blk_free bGB (m * 13 + 10)
  have f11 := blk_free bGB (m * 13 + 11)
  have t0 := blk_cell bT 0 _ rfl
  have t1 := blk_cell bT 1 _ rfl
  have t2 := blk_cell bT 2 _ rfl
  have t3 := blk_cell bT 3 _ rfl
  go_upto_region 23 with fail
  have HNB : Hid (endBook (x.bk m) bys y = { x.bk m with state := 2, unt := 0 }) := by show _ = _; simp [endBook, HKD.out]
  have hkz : Kept X ((X.setCell ⟨gb, m * 13 + 10, none⟩ (.int .i64 2)).setCell ⟨gb, m * 13 + 11, none⟩ (.int .i64 0)) (fun b => b = gb) := (((Kept.refl X (fun b => b = gb)).set (a := ⟨gb, m * 13 + 10, none⟩) rfl _).set (a := ⟨gb, m * 13 + 11, none⟩) rfl _)
  have HROW : Hid (((X.setCell ⟨gb, m * 13 + 10, none⟩ (.int .i64 2)).setCell ⟨gb, m * 13 + 11, none⟩ (.int .i64 0)).ownsRow base 131 13 (.slice (some ⟨gb, 0, none⟩) R cbk) R (bkRow (setB x.bk m (endBook (x.bk m) bys y)) (atV E m (E m)) R)) := by
    refine own_congr (own_store (own_store ((HO.out.below hb0).bk.row) (m * 13 + 10) (.int .i64 2)) (m * 13 + 11) (.int .i64 0)) (fun j _ => rec_put 13 (by decide) (k := m) (C := bkC x.bk E) (C' := bkC (setB x.bk m (endBook (x.bk m) bys y)) (atV E m (E m))) (f := fun i => if i = m * 13 + 11 then (.int .i64 0 : Value) else if i = m * 13 + 10 then (.int .i64 2 : Value) else recCell 13 (bkC x.bk E) i) (fun r hr => ?_) (fun j hj => ?_) (fun i hi => ?_) j)
    · have hR := recCell_at 13 (bkC x.bk E) m r hr
      unfold bkC
      rw [setB_at, atV_at, HNB.out]
      unfold bkC at hR
      have hr13 : r = 0 ∨ r = 1 ∨ r = 2 ∨ r = 3 ∨ r = 4 ∨ r = 5 ∨ r = 6 ∨ r = 7 ∨ r = 8 ∨ r = 9 ∨ r = 10 ∨ r = 11 ∨ r = 12 := by omega
      rcases hr13 with rfl | rfl | rfl | rfl | rfl | rfl | rfl | rfl | rfl | rfl | rfl | rfl | rfl
      · rw [if_neg (by omega), if_neg (by omega), hR]; rfl
      · rw [if_neg (by omega), if_neg (by omega), hR]; rfl
      · rw [if_neg (by omega), if_neg (by omega), hR]; rfl
      · rw [if_neg (by omega), if_neg (by omega), hR]; rfl
      · rw [if_neg (by omega), if_neg (by omega), hR]; rfl
      · rw [if_neg (by omega), if_neg (by omega), hR]; rfl
      · rw [if_neg (by omega), if_neg (by omega), hR]; rfl
      · rw [if_neg (by omega), if_neg (by omega), hR]; rfl
      · rw [if_neg (by omega), if_neg (by omega), hR]; rfl
      · rw [if_neg (by omega), if_neg (by omega), hR]; rfl
      · rw [if_neg (by omega), if_pos rfl]; rfl
      · rw [if_pos rfl]; rfl
      · rw [if_neg (by omega), if_neg (by omega), hR]; rfl
    · rw [if_neg (by omega), if_neg (by omega)]
    · unfold bkC
      rw [setB_ne _ _ _ hi, atV_ne _ _ _ _ hi]
  have HOZ : Hid (OwnOff ((X.setCell ⟨gb, m * 13 + 10, none⟩ (.int .i64 2)).setCell ⟨gb, m * 13 + 11, none⟩ (.int .i64 0)) base (.slice asa N csa) (.slice ald N cld) (.slice (some ⟨gb, 0, none⟩) R cbk) N N R { x with bk := setB x.bk m (endBook (x.bk m) bys y) } L C A B D (atV E m (E m))) := (HO.out.below hb0).putBk hkz HROW.out (by rw [HNB.out]; exact (HO.out.below hb0).bk.legs m HM.out) (HO.out.bk.far_same HM.out)
  have hgg : g ≠ gb := fun e => by have h := HGB.out; rw [← e, HQ.out] at h; simp at h
  have HQZ : Hid (((X.setCell ⟨gb, m * 13 + 10, none⟩ (.int .i64 2)).setCell ⟨gb, m * 13 + 11, none⟩ (.int .i64 0)).heap[g]? = some (.cells #[.slice asa N csa, .slice ald N cld, .slice (some ⟨gb, 0, none⟩) R cbk] 66 (0, 0))) := hkz.blk (blk_below HQ.out hb0) hgg
  have bTZ := hkz.blk bT (by show ¬ _ = _; omega)
  have bAZ := hkz.blk bA (by show ¬ _ = _; omega)
  have HKZ : Hid (Kept w ((X.setCell ⟨gb, m * 13 + 10, none⟩ (.int .i64 2)).setCell ⟨gb, m * 13 + 11, none⟩ (.int .i64 0)) (fun b => b = g ∨ (Value.slice (some ⟨gb, 0, none⟩) R cbk).ownBlock = some b)) := (Kept.of_below hb0).trans (hkz.mono (fun b e => .inr (by rw [show b = gb from e]; rfl)))
  have z12 : ((X.setCell ⟨gb, m * 13 + 10, none⟩ (.int .i64 2)).setCell ⟨gb, m * 13 + 11, none⟩ (.int .i64 0)).cell? ⟨gb, m * 13 + 12, none⟩ = some (.int .i64 (x.bk m).price) := by
    have h := own_cell HROW.out (m * 13 + 12) (by have := HM.out; omega) rfl
    rw [recCell_at 13 _ m 12 (by decide)] at h
    unfold bkC at h
    rw [setB_at, HNB.out] at h
    exact h
  generalize ((X.setCell ⟨gb, m * 13 + 10, none⟩ (.int .i64 2)).setCell ⟨gb, m * 13 + 11, none⟩ (.int .i64 0)) = Z1 at hkz HROW HOZ HQZ bTZ bAZ HKZ z12 ⊢
  clear hkz HROW bT bA bO bGB t0 t1 t2 t3 k10 k11 k12 f10 f11
  have hatb : w.heap.size + 1 ≠ tb := by omega
  obtain ⟨HOY, hQY, HKY, bAY, bTY⟩ := end_price HKZ.out HOZ.out HQZ.out bAZ bTZ hatb (by omega) (.int .i64 ((x.bk m).price)) rfl
  obtain ⟨HOF, hQF, HKF, bF⟩ := end_fin HKY HOY hQY bAY (by omega) (.int .i64 0) (.int .i64 ((m : Int) + 1)) (.int .i64 ((x.bk m).price)) (.slice none 0 0) rfl
  have t0 := blk_cell bTY 0 _ rfl
  have t1 := blk_cell bTY 1 _ rfl
  have t2 := blk_cell bTY 2 _ rfl
  have t3 := blk_cell bTY 3 _ rfl
  have s2 := blk_cell bTZ 2 _ rfl
  have s3 := blk_free bTZ 2
  have v0 := blk_cell bAY 0 _ rfl
  have v1 := blk_cell bAY 1 _ rfl
  have v2 := blk_cell bAY 2 _ rfl
  have v3 := blk_cell bAY 3 _ rfl
  have e0 := blk_free bAY 0
  have e1 := blk_free bAY 1
  have e2 := blk_free bAY 2
  have e3 := blk_free bAY 3
  have HEND : Hid _ := HOF
  have HEQ : Hid _ := hQF
  have HEK : Hid _ := HKF
  clear HOF hQF HKF
  go_wp2
  have x0 := blk_cell bF 0 _ rfl
  have x1 := blk_cell bF 1 _ rfl
  have x2 := blk_cell bF 2 _ rfl
  have x3 := blk_cell bF 3 _ rfl
  refine bodyPost_ret (v := .agg #[.int .i64 0, .int .i64 ((m : Int) + 1), .int .i64 ((x.bk m).price), .slice none 0 0]) (by simp [results, Tryz.results123, go_sem, x0, x1, x2, x3]) rfl ?_
  have hR := HXB.out
  subst hR
  exact ⟨_, _, _, _, rfl, rfl, HEND.out, HEQ.out, HEK.out⟩

end Go.Proofs.YtfallpinmhbemaaGreatDoor

namespace Go.Proofs.YtfallpinmhbemaaGreatDoor
open Go.RowKit

set_option maxHeartbeats 25600000 in
set_option maxRecDepth 100000 in
theorem l7End_5 (g base N R csa cld cbk clg m : Nat) (asa ald abk alg : Option Addr) (bys : Int) (y : OpD) (x : Off) (L C A B D E : Nat → Value) (w : World) (hq : w.heap[g]? = some (.cells #[.slice asa N csa, .slice ald N cld, .slice abk R cbk] 66 (0, 0))) (ho : OwnOff w base (.slice asa N csa) (.slice ald N cld) (.slice abk R cbk) N N R x L C A B D E) (hxb : x.bkn = R) (hbw : base ≤ w.heap.size) (hkd : y.kind = 5) (hpe : In y.pe 0 20) (hln : y.lgn ≤ 3) (hlg : IntsAt w alg y.lgn y.lg) (hsl : SliceOk alg y.lgn clg) (hlo : 0 < y.lgn → ∀ a, alg = some a → a.block < base) (hnm : y.name = (m : Int) + 1) (hm : m < R) (hR : R ≤ 1048576) :
    Calls Tryz.prog 123 #[.pointer (some ⟨g, 0, none⟩), .int .i64 bys, .agg #[.int .i64 y.kind, .string y.own, .int .i64 y.name, .slice alg y.lgn clg, .int .i64 y.pe, .int .i64 y.len, .int .i64 y.hei, .int .i64 y.cl, .bool y.all, .int .i64 y.be, .int .i64 y.unt, .int .i64 y.now]] w fun e w' => EndIs g base N csa cld asa ald (fun b => b = g ∨ (Value.slice abk R cbk).ownBlock = some b) { x with bk := setB x.bk m (endBook (x.bk m) bys y) } 0 y.name (priceOf ⟨y.pe, y.len, y.hei, y.cl, y.all, y.be⟩ (y.lgn : Int)) (fun _ v => v = .slice none 0 0) L C A B D w e w' := by
  obtain ⟨n0, ni, nz0, nz1, nz2⟩ := info_parts Tryz.infoInt
  rw [hkd, hnm]
  have HO : Hid (OwnOff w base (.slice asa N csa) (.slice ald N cld) (.slice abk R cbk) N N R x L C A B D E) := ho
  have HQ : Hid (w.heap[g]? = some (.cells #[.slice asa N csa, .slice ald N cld, .slice abk R cbk] 66 (0, 0))) := hq
  have HKD : Hid (y.kind = 5) := hkd
  have HXB : Hid (x.bkn = R) := hxb
  have HBW : Hid (base ≤ w.heap.size) := hbw
  have HLG : Hid (IntsAt w alg y.lgn y.lg) := hlg
  have HSL : Hid (SliceOk alg y.lgn clg) := hsl
  have HLO : Hid (0 < y.lgn → ∀ a, alg = some a → a.block < base) := hlo
  obtain ⟨gb, rfl, hb1, hb2⟩ := own_addr ho.bk.row (by omega)
  obtain ⟨cs, hgb⟩ := own_blockE ho.bk.row gb rfl
  obtain ⟨blg, blc, eE, q1, q2, q3⟩ := own_form (ho.bk.legs m hm)
  obtain ⟨b, hbd⟩ : ∃ b, b = x.bk m := ⟨_, rfl⟩
  have HBD : Hid (b = x.bk m) := hbd
  have HGB : Hid (w.heap[gb]? = some (.cells cs 131 (0, 0))) := hgb
  have HCB : Hid (∀ V, Below w.heap.size w V → ∀ j v, (bkC x.bk E m)[j]? = some v → V.cell? ⟨gb, m * 13 + j, none⟩ = some v) := fun V hV j v hv => by
    have hj : j < 13 := by
      have h := (List.getElem?_eq_some_iff.1 hv).1
      exact h
    have h := own_cell ho.bk.row (m * 13 + j) (by omega) rfl
    rw [recCell_at 13 _ m j hj, List.getD_eq_getElem?_getD, hv] at h
    exact (hV.cell (p := ⟨gb, m * 13 + j, none⟩) hb2).trans h
  have HEM : Hid (E m = .slice blg b.lgn blc) := by rw [hbd]; exact eE
  have i1 : (0 : Int) ≤ (m : Int) := by omega
  have i2 : (m : Int) < (R : Int) := by omega
  have hwm : IntKind.i64.wrap ((m : Int) + 1 - 1) = (m : Int) := by rw [IntKind.wrap_i64]; omega
  have HM : Hid (m < R) := hm
  have HBG : Hid (base ≤ gb) := hb1
  clear hgb eE q1 q2 q3 hbd hb1
  clear ho hq hkd hxb hbw hlg hsl hlo hnm hm
  obtain ⟨pr, hpr⟩ : ∃ pr, pr = priceOf ⟨y.pe, y.len, y.hei, y.cl, y.all, y.be⟩ (y.lgn : Int) := ⟨_, rfl⟩
  have HPR : Hid (pr = priceOf ⟨y.pe, y.len, y.hei, y.cl, y.all, y.be⟩ (y.lgn : Int)) := hpr
  have hb0 : Below w.heap.size w ((w.alloc (.cells #[.int .i64 5, .string y.own, .int .i64 ((m : Int) + 1), .slice alg y.lgn clg, .int .i64 y.pe, .int .i64 y.len, .int .i64 y.hei, .int .i64 y.cl, .bool y.all, .int .i64 y.be, .int .i64 y.unt, .int .i64 y.now] 27)).alloc (.cells #[.int .i64 0, .int .i64 0, .int .i64 0, .slice none 0 0] 127)) := push (push (Below.refl _ _) _) _
  have bO := blk_alloc (heap_alloc_new w (.cells #[.int .i64 5, .string y.own, .int .i64 ((m : Int) + 1), .slice alg y.lgn clg, .int .i64 y.pe, .int .i64 y.len, .int .i64 y.hei, .int .i64 y.cl, .bool y.all, .int .i64 y.be, .int .i64 y.unt, .int .i64 y.now] 27)) (.cells #[.int .i64 0, .int .i64 0, .int .i64 0, .slice none 0 0] 127)
  have bA := new2 w (.cells #[.int .i64 5, .string y.own, .int .i64 ((m : Int) + 1), .slice alg y.lgn clg, .int .i64 y.pe, .int .i64 y.len, .int .i64 y.hei, .int .i64 y.cl, .bool y.all, .int .i64 y.be, .int .i64 y.unt, .int .i64 y.now] 27) (.cells #[.int .i64 0, .int .i64 0, .int .i64 0, .slice none 0 0] 127)
  go_enter Tryz.func123, Tryz.ntmps123
  go_wp2_with fail
  generalize ((w.alloc (.cells #[.int .i64 5, .string y.own, .int .i64 ((m : Int) + 1), .slice alg y.lgn clg, .int .i64 y.pe, .int .i64 y.len, .int .i64 y.hei, .int .i64 y.cl, .bool y.all, .int .i64 y.be, .int .i64 y.unt, .int .i64 y.now] 27)).alloc (.cells #[.int .i64 0, .int .i64 0, .int .i64 0, .slice none 0 0] 127)) = W at hb0 bO bA ⊢
  refine (l6Price0_any y.pe y.len y.hei y.cl y.all y.be (y.lgn : Int) _ hpe (by unfold In; omega)).mono ?_
  rintro e V ⟨rfl, hbv⟩
  rw [← hpr]
  clear hpr
  replace hb0 := after hb0 hbv
  replace bO := blk_below bO hbv
  replace bA := blk_below bA hbv
  clear hbv W
  have o0 := blk_cell bO 0 _ rfl
  have n2 : ∀ G : Grown V, G.val.cell? ⟨g, 2, none⟩ = some (.slice (some ⟨gb, 0, none⟩) R cbk) := fun G => blk_cell (blk_below HQ.out (after hb0 G.bel)) 2 _ rfl
  have m2 : ∀ G : Grown V, G.val.cell? ⟨w.heap.size, 2, none⟩ = some (.int .i64 ((m : Int) + 1)) := fun G => blk_cell (blk_below bO G.bel) 2 _ rfl
  go_upto_region 17 with fail
  refine wp_region_grow (by kernel_rfl) (by kernel_rfl) ?_
  repeat (first | go_big_quiet_skip | (go_big_quiet_want; go_big_quiet_op; first | go_big_quiet_on | fail))
  refine wpQuiet_nil ?_
  rintro _ ⟨G, rfl⟩
  replace hb0 := after hb0 G.bel
  replace bO := blk_below bO G.bel
  replace bA := blk_below bA G.bel
  have hsz := blk_lt bA
  have o2 := blk_cell bO 2 _ rfl
  clear o0 n2 m2
  have o0 : ∀ o, (G.val.alloc o).cell? ⟨w.heap.size, 0, none⟩ = some (.int .i64 5) := fun o => blk_cell (blk_alloc bO o) 0 _ rfl
  go_upto_region 20 with fail
  replace hb0 := push hb0 (.cells #[.int .i64 0, .int .i64 ((m : Int) + 1), .int .i64 0, .slice none 0 0] 127)
  replace bO := blk_alloc bO (.cells #[.int .i64 0, .int .i64 ((m : Int) + 1), .int .i64 0, .slice none 0 0] 127)
  replace bA := blk_alloc bA (.cells #[.int .i64 0, .int .i64 ((m : Int) + 1), .int .i64 0, .slice none 0 0] 127)
  have bT := heap_alloc_new G.val (.cells #[.int .i64 0, .int .i64 ((m : Int) + 1), .int .i64 0, .slice none 0 0] 127)
  generalize G.val.alloc (.cells #[.int .i64 0, .int .i64 ((m : Int) + 1), .int .i64 0, .slice none 0 0] 127) = X at hb0 bO bA bT ⊢
  generalize G.val.heap.size = tb at bT hsz ⊢
  clear o0 o2 G V
  have bGB := blk_below HGB.out hb0
  have k1 := HCB.out X hb0 1 _ rfl
  have f1 := blk_free bGB (m * 13 + 1)
  go_upto_region 26 with fail
  have hka : Kept X (X.setCell ⟨gb, m * 13 + 1, none⟩ (.int .i64 bys)) (fun b => b = gb) := ((Kept.refl X (fun b => b = gb)).set (a := ⟨gb, m * 13 + 1, none⟩) rfl _)
  have HRa : Hid ((X.setCell ⟨gb, m * 13 + 1, none⟩ (.int .i64 bys)).ownsRow base 131 13 (.slice (some ⟨gb, 0, none⟩) R cbk) R (bkRow (setB x.bk m { x.bk m with who := bys }) (atV E m (E m)) R)) := by
    refine own_congr (own_store ((HO.out.below hb0).bk.row) (m * 13 + 1) (.int .i64 bys)) (fun j _ => rec_put 13 (by decide) (k := m) (C := bkC x.bk E) (C' := bkC (setB x.bk m { x.bk m with who := bys }) (atV E m (E m))) (f := fun i => if i = m * 13 + 1 then (.int .i64 bys : Value) else recCell 13 (bkC x.bk E) i) (fun r hr => ?_) (fun j hj => ?_) (fun i hi => ?_) j)
    · have hR := recCell_at 13 (bkC x.bk E) m r hr
      unfold bkC
      rw [setB_at, atV_at]
      unfold bkC at hR
      have hr13 : r = 0 ∨ r = 1 ∨ r = 2 ∨ r = 3 ∨ r = 4 ∨ r = 5 ∨ r = 6 ∨ r = 7 ∨ r = 8 ∨ r = 9 ∨ r = 10 ∨ r = 11 ∨ r = 12 := by omega
      rcases hr13 with rfl | rfl | rfl | rfl | rfl | rfl | rfl | rfl | rfl | rfl | rfl | rfl | rfl
      · rw [if_neg (by omega), hR]; rfl
      · rw [if_pos (by omega)]; rfl
      · rw [if_neg (by omega), hR]; rfl
      · rw [if_neg (by omega), hR]; rfl
      · rw [if_neg (by omega), hR]; rfl
      · rw [if_neg (by omega), hR]; rfl
      · rw [if_neg (by omega), hR]; rfl
      · rw [if_neg (by omega), hR]; rfl
      · rw [if_neg (by omega), hR]; rfl
      · rw [if_neg (by omega), hR]; rfl
      · rw [if_neg (by omega), hR]; rfl
      · rw [if_neg (by omega), hR]; rfl
      · rw [if_neg (by omega), hR]; rfl
    · rw [if_neg (by omega)]
    · unfold bkC
      rw [setB_ne _ _ _ hi, atV_ne _ _ _ _ hi]
  have HZa : Hid _ := (HO.out.below hb0).putBk hka HRa.out ((HO.out.below hb0).bk.legs m HM.out) (HO.out.bk.far_same HM.out)
  have hgg : g ≠ gb := fun e => by have h := HGB.out; rw [← e, HQ.out] at h; simp at h
  have hgw : w.heap.size ≤ X.heap.size := hb0.size
  have qQ := hka.blk (blk_below HQ.out hb0) hgg
  have bTa := hka.blk bT (by show ¬ _ = _; omega)
  have bAa := hka.blk bA (by show ¬ _ = _; omega)
  have bOa := hka.blk bO (by show ¬ _ = _; omega)
  have HKa : Hid (Kept w (X.setCell ⟨gb, m * 13 + 1, none⟩ (.int .i64 bys)) (fun b => b = g ∨ (Value.slice (some ⟨gb, 0, none⟩) R cbk).ownBlock = some b)) := (Kept.of_below hb0).trans (hka.mono (fun b e => .inr (by rw [show b = gb from e]; rfl)))
  have hbl : ∀ z, Below X.heap.size X z → True := fun _ _ => trivial
  have HLX : Hid (IntsAt (X.setCell ⟨gb, m * 13 + 1, none⟩ (.int .i64 bys)) alg y.lgn y.lg) := ints_off hka (HLG.out.below hb0) HLO.out HBG.out
  have hsX : X.heap.size ≤ (X.setCell ⟨gb, m * 13 + 1, none⟩ (.int .i64 bys)).heap.size := hka.size
  generalize (X.setCell ⟨gb, m * 13 + 1, none⟩ (.int .i64 bys)) = Y at hka HRa HZa qQ bTa bAa bOa HKa HLX hsX ⊢
  clear bT bA bO k1 f1 bGB HRa hka hbl
  have oo3 : ∀ o, (Y.alloc o).cell? ⟨w.heap.size, 3, none⟩ = some (.slice alg y.lgn clg) := fun o => blk_cell (blk_alloc bOa o) 3 _ rfl
  have ho1 : (Y.alloc (.cells #[] 3)).ownsRow Y.heap.size 3 1 (.slice (some ⟨Y.heap.size, 0, none⟩) 0 0) 0 [] := ⟨rfl, .inr ⟨Y.heap.size, 0, #[], rfl, Nat.le_refl _, heap_alloc_new Y _, Nat.le_refl _, Nat.zero_le _, rfl, rfl⟩⟩
  have HC1 : Hid (∀ ad, alg = some ad → ∀ j u, (intList y.lg y.lgn)[j]? = some u → (Y.alloc (.cells #[] 3)).cell? (ad.add j) = some u) := ints_cellsO (HLX.out.below (push (Below.refl _ _) _))
  obtain ⟨cs2, hcs2⟩ := own_blockE HZa.out.bk.row gb rfl
  have HCY : Hid (∀ V, Below Y.heap.size Y V → ∀ j v, (bkC (setB x.bk m { x.bk m with who := bys }) (atV E m (E m)) m)[j]? = some v → V.cell? ⟨gb, m * 13 + j, none⟩ = some v) := fun V hV j v hv => by
    have hj : j < 13 := by
      have h := (List.getElem?_eq_some_iff.1 hv).1
      exact h
    have h := own_cell HZa.out.bk.row (m * 13 + j) (by have := HM.out; omega) rfl
    rw [recCell_at 13 _ m j hj, List.getD_eq_getElem?_getD, hv] at h
    exact (hV.cell (p := ⟨gb, m * 13 + j, none⟩) (blk_lt hcs2)).trans h
  have hwg : w.heap.size ≠ gb := by omega
  go_upto_region 29 with (first | (at_builtin; refine wpList_append_any _ (by rfl) (.tmp 115) (.tmp 117) 23 (by rfl) Y.heap.size 3 n0 (.int .i64 0) 1 8 Tryz.underlying23 ni nz0 nz1 nz2 rfl (by decide) _ 0 [] (by rfl) ho1 alg y.lgn clg (intList y.lg y.lgn) (by rfl) HSL.out.2.2 (by rw [intList_length, Nat.mul_one]) HC1.out (intList_one _ _) (by unfold maxLen; omega) (by omega) (by simp) ?_; intro v4 w4 ho4 hg4; obtain ⟨av, cv, hv4, _⟩ := own_form ho4; rw [Nat.zero_add] at hv4; subst hv4; have hb4 := (push (Below.refl Y.heap.size Y) (.cells #[] 3)).grown hg4 (by simp) (fun j hj => (ho1.lt j hj).1); have bO4 := blk_below bOa hb4; have bG4 := blk_below hcs2 hb4; have k3 := HCY.out w4 hb4 3 _ rfl; have f3 := blk_free bG4 (m * 13 + 3); have k4 := HCY.out w4 hb4 4 _ rfl; have f4 := blk_free bG4 (m * 13 + 4); have k5 := HCY.out w4 hb4 5 _ rfl; have f5 := blk_free bG4 (m * 13 + 5); have k6 := HCY.out w4 hb4 6 _ rfl; have f6 := blk_free bG4 (m * 13 + 6); have k7 := HCY.out w4 hb4 7 _ rfl; have f7 := blk_free bG4 (m * 13 + 7); have k8 := HCY.out w4 hb4 8 _ rfl; have f8 := blk_free bG4 (m * 13 + 8); have k9 := HCY.out w4 hb4 9 _ rfl; have f9 := blk_free bG4 (m * 13 + 9); have k12 := HCY.out w4 hb4 12 _ rfl; have f12 := blk_free bG4 (m * 13 + 12); have oo4 : ∀ v, (w4.setCell ⟨gb, m * 13 + 3, none⟩ v).cell? ⟨w.heap.size, 4, none⟩ = some (.int .i64 y.pe) := fun v => blk_cell (blk_set_other (b' := gb) bO4 (m * 13 + 3) v hwg) 4 _ rfl; have oo5 : ∀ v, (w4.setCell ⟨gb, m * 13 + 3, none⟩ v).cell? ⟨w.heap.size, 5, none⟩ = some (.int .i64 y.len) := fun v => blk_cell (blk_set_other (b' := gb) bO4 (m * 13 + 3) v hwg) 5 _ rfl; have oo6 : ∀ v, (w4.setCell ⟨gb, m * 13 + 3, none⟩ v).cell? ⟨w.heap.size, 6, none⟩ = some (.int .i64 y.hei) := fun v => blk_cell (blk_set_other (b' := gb) bO4 (m * 13 + 3) v hwg) 6 _ rfl; have oo7 : ∀ v, (w4.setCell ⟨gb, m * 13 + 3, none⟩ v).cell? ⟨w.heap.size, 7, none⟩ = some (.int .i64 y.cl) := fun v => blk_cell (blk_set_other (b' := gb) bO4 (m * 13 + 3) v hwg) 7 _ rfl; have oo8 : ∀ v, (w4.setCell ⟨gb, m * 13 + 3, none⟩ v).cell? ⟨w.heap.size, 8, none⟩ = some (.bool y.all) := fun v => blk_cell (blk_set_other (b' := gb) bO4 (m * 13 + 3) v hwg) 8 _ rfl; have oo9 : ∀ v, (w4.setCell ⟨gb, m * 13 + 3, none⟩ v).cell? ⟨w.heap.size, 9, none⟩ = some (.int .i64 y.be) := fun v => blk_cell (blk_set_other (b' := gb) bO4 (m * 13 + 3) v hwg) 9 _ rfl))
  have HNB : Hid (endBook (x.bk m) bys y = { x.bk m with who := bys, lgn := y.lgn, lg := y.lg, pe := y.pe, len := y.len, hei := y.hei, cl := y.cl, all := y.all, be := y.be, price := priceOf ⟨y.pe, y.len, y.hei, y.cl, y.all, y.be⟩ y.lgn }) := by show _ = _; simp [endBook, HKD.out]
  have hkb : Kept w4 ((((((((w4.setCell ⟨gb, m * 13 + 3, none⟩ (.slice av y.lgn cv)).setCell ⟨gb, m * 13 + 4, none⟩ (.int .i64 y.pe)).setCell ⟨gb, m * 13 + 4 + 1, none⟩ (.int .i64 y.len)).setCell ⟨gb, m * 13 + 4 + 2, none⟩ (.int .i64 y.hei)).setCell ⟨gb, m * 13 + 4 + 3, none⟩ (.int .i64 y.cl)).setCell ⟨gb, m * 13 + 4 + 4, none⟩ (.bool y.all)).setCell ⟨gb, m * 13 + 4 + 5, none⟩ (.int .i64 y.be)).setCell ⟨gb, m * 13 + 12, none⟩ (.int .i64 pr)) (fun b => b = gb) := (((((((((Kept.refl w4 (fun b => b = gb)).set (a := ⟨gb, m * 13 + 3, none⟩) rfl _).set (a := ⟨gb, m * 13 + 4, none⟩) rfl _).set (a := ⟨gb, m * 13 + 4 + 1, none⟩) rfl _).set (a := ⟨gb, m * 13 + 4 + 2, none⟩) rfl _).set (a := ⟨gb, m * 13 + 4 + 3, none⟩) rfl _).set (a := ⟨gb, m * 13 + 4 + 4, none⟩) rfl _).set (a := ⟨gb, m * 13 + 4 + 5, none⟩) rfl _).set (a := ⟨gb, m * 13 + 12, none⟩) rfl _)
  have HRb : Hid (((((((((w4.setCell ⟨gb, m * 13 + 3, none⟩ (.slice av y.lgn cv)).setCell ⟨gb, m * 13 + 4, none⟩ (.int .i64 y.pe)).setCell ⟨gb, m * 13 + 4 + 1, none⟩ (.int .i64 y.len)).setCell ⟨gb, m * 13 + 4 + 2, none⟩ (.int .i64 y.hei)).setCell ⟨gb, m * 13 + 4 + 3, none⟩ (.int .i64 y.cl)).setCell ⟨gb, m * 13 + 4 + 4, none⟩ (.bool y.all)).setCell ⟨gb, m * 13 + 4 + 5, none⟩ (.int .i64 y.be)).setCell ⟨gb, m * 13 + 12, none⟩ (.int .i64 pr)).ownsRow base 131 13 (.slice (some ⟨gb, 0, none⟩) R cbk) R (bkRow (setB (setB x.bk m { x.bk m with who := bys }) m (endBook (x.bk m) bys y)) (atV (atV E m (E m)) m (.slice av y.lgn cv)) R)) := by
    refine own_congr (own_store (own_store (own_store (own_store (own_store (own_store (own_store (own_store ((HZa.out.below hb4).bk.row) (m * 13 + 3) (.slice av y.lgn cv)) (m * 13 + 4) (.int .i64 y.pe)) (m * 13 + 4 + 1) (.int .i64 y.len)) (m * 13 + 4 + 2) (.int .i64 y.hei)) (m * 13 + 4 + 3) (.int .i64 y.cl)) (m * 13 + 4 + 4) (.bool y.all)) (m * 13 + 4 + 5) (.int .i64 y.be)) (m * 13 + 12) (.int .i64 pr)) (fun j _ => rec_put 13 (by decide) (k := m) (C := bkC (setB x.bk m { x.bk m with who := bys }) (atV E m (E m))) (C' := bkC (setB (setB x.bk m { x.bk m with who := bys }) m (endBook (x.bk m) bys y)) (atV (atV E m (E m)) m (.slice av y.lgn cv))) (f := fun i => if i = m * 13 + 12 then (.int .i64 pr : Value) else if i = m * 13 + 4 + 5 then (.int .i64 y.be : Value) else if i = m * 13 + 4 + 4 then (.bool y.all : Value) else if i = m * 13 + 4 + 3 then (.int .i64 y.cl : Value) else if i = m * 13 + 4 + 2 then (.int .i64 y.hei : Value) else if i = m * 13 + 4 + 1 then (.int .i64 y.len : Value) else if i = m * 13 + 4 then (.int .i64 y.pe : Value) else if i = m * 13 + 3 then (.slice av y.lgn cv : Value) else recCell 13 (bkC (setB x.bk m { x.bk m with who := bys }) (atV E m (E m))) i) (fun r hr => ?_) (fun j hj => ?_) (fun i hi => ?_) j)
    · have hR := recCell_at 13 (bkC (setB x.bk m { x.bk m with who := bys }) (atV E m (E m))) m r hr
      unfold bkC
      rw [setB_at, atV_at, HNB.out]
      unfold bkC at hR
      have hr13 : r = 0 ∨ r = 1 ∨ r = 2 ∨ r = 3 ∨ r = 4 ∨ r = 5 ∨ r = 6 ∨ r = 7 ∨ r = 8 ∨ r = 9 ∨ r = 10 ∨ r = 11 ∨ r = 12 := by omega
      rcases hr13 with rfl | rfl | rfl | rfl | rfl | rfl | rfl | rfl | rfl | rfl | rfl | rfl | rfl
      · rw [if_neg (by omega), if_neg (by omega), if_neg (by omega), if_neg (by omega), if_neg (by omega), if_neg (by omega), if_neg (by omega), if_neg (by omega), hR, setB_at]; rfl
      · rw [if_neg (by omega), if_neg (by omega), if_neg (by omega), if_neg (by omega), if_neg (by omega), if_neg (by omega), if_neg (by omega), if_neg (by omega), hR, setB_at]; rfl
      · rw [if_neg (by omega), if_neg (by omega), if_neg (by omega), if_neg (by omega), if_neg (by omega), if_neg (by omega), if_neg (by omega), if_neg (by omega), hR, setB_at]; rfl
      · rw [if_neg (by omega), if_neg (by omega), if_neg (by omega), if_neg (by omega), if_neg (by omega), if_neg (by omega), if_neg (by omega), if_pos (by omega)]; rfl
      · rw [if_neg (by omega), if_neg (by omega), if_neg (by omega), if_neg (by omega), if_neg (by omega), if_neg (by omega), if_pos (by omega)]; rfl
      · rw [if_neg (by omega), if_neg (by omega), if_neg (by omega), if_neg (by omega), if_neg (by omega), if_pos (by omega)]; rfl
      · rw [if_neg (by omega), if_neg (by omega), if_neg (by omega), if_neg (by omega), if_pos (by omega)]; rfl
      · rw [if_neg (by omega), if_neg (by omega), if_neg (by omega), if_pos (by omega)]; rfl
      · rw [if_neg (by omega), if_neg (by omega), if_pos (by omega)]; rfl
      · rw [if_neg (by omega), if_pos (by omega)]; rfl
      · rw [if_neg (by omega), if_neg (by omega), if_neg (by omega), if_neg (by omega), if_neg (by omega), if_neg (by omega), if_neg (by omega), if_neg (by omega), hR, setB_at]; rfl
      · rw [if_neg (by omega), if_neg (by omega), if_neg (by omega), if_neg (by omega), if_neg (by omega), if_neg (by omega), if_neg (by omega), if_neg (by omega), hR, setB_at]; rfl
      · rw [if_pos (by omega), HPR.out]; rfl
    · rw [if_neg (by omega), if_neg (by omega), if_neg (by omega), if_neg (by omega), if_neg (by omega), if_neg (by omega), if_neg (by omega), if_neg (by omega)]
    · unfold bkC
      rw [setB_ne _ _ _ hi, atV_ne _ _ _ _ hi]
  have HZb : Hid _ := (HZa.out.below hb4).putBk hkb HRb.out (by rw [HNB.out]; refine own_base ?_ (Nat.le_trans HBW.out (Nat.le_trans hgw hsX)); rw [Nat.zero_add, List.nil_append] at ho4; exact ho4) (fun i hi hne b h1 h2 => by have a1 := ((HZa.out.bk.legs i hi).lt b h1).2; have a2 := (ho4.lt b h2).1; omega)
  have HZc : Hid (OwnOff ((((((((w4.setCell ⟨gb, m * 13 + 3, none⟩ (.slice av y.lgn cv)).setCell ⟨gb, m * 13 + 4, none⟩ (.int .i64 y.pe)).setCell ⟨gb, m * 13 + 4 + 1, none⟩ (.int .i64 y.len)).setCell ⟨gb, m * 13 + 4 + 2, none⟩ (.int .i64 y.hei)).setCell ⟨gb, m * 13 + 4 + 3, none⟩ (.int .i64 y.cl)).setCell ⟨gb, m * 13 + 4 + 4, none⟩ (.bool y.all)).setCell ⟨gb, m * 13 + 4 + 5, none⟩ (.int .i64 y.be)).setCell ⟨gb, m * 13 + 12, none⟩ (.int .i64 pr)) base (.slice asa N csa) (.slice ald N cld) (.slice (some ⟨gb, 0, none⟩) R cbk) N N R { x with bk := setB x.bk m (endBook (x.bk m) bys y) } L C A B D (atV (atV E m (E m)) m (.slice av y.lgn cv))) := by have h := HZb.out; rw [setB_setB] at h; exact h
  have HQZ := hkb.blk (blk_below qQ hb4) hgg
  have bTZ := hkb.blk (blk_below bTa hb4) (by show ¬ _ = _; omega)
  have bAZ := hkb.blk (blk_below bAa hb4) (by show ¬ _ = _; omega)
  have HKZ := (HKa.out.trans (Kept.of_below hb4)).trans (hkb.mono (T := (fun b => b = g ∨ (Value.slice (some ⟨gb, 0, none⟩) R cbk).ownBlock = some b)) (fun b e => .inr (by rw [show b = gb from e]; rfl)))
  generalize ((((((((w4.setCell ⟨gb, m * 13 + 3, none⟩ (.slice av y.lgn cv)).setCell ⟨gb, m * 13 + 4, none⟩ (.int .i64 y.pe)).setCell ⟨gb, m * 13 + 4 + 1, none⟩ (.int .i64 y.len)).setCell ⟨gb, m * 13 + 4 + 2, none⟩ (.int .i64 y.hei)).setCell ⟨gb, m * 13 + 4 + 3, none⟩ (.int .i64 y.cl)).setCell ⟨gb, m * 13 + 4 + 4, none⟩ (.bool y.all)).setCell ⟨gb, m * 13 + 4 + 5, none⟩ (.int .i64 y.be)).setCell ⟨gb, m * 13 + 12, none⟩ (.int .i64 pr)) = Z1 at HZc HQZ bTZ bAZ HKZ hkb HRb HZb ⊢
  have HOZ : Hid _ := HZc
  clear hkb HRb HZb HZc
  clear k3 f3
  clear k4 f4
  clear k5 f5
  clear k6 f6
  clear k7 f7
  clear k8 f8
  clear k9 f9
  clear k12 f12
  clear oo3 oo4 oo5 oo6 oo7 oo8 oo9 ho1 ho4 hg4 bO4 bG4 hb4
  have hatb : w.heap.size + 1 ≠ tb := by omega
  obtain ⟨HOY, hQY, HKY, bAY, bTY⟩ := end_price HKZ HOZ.out HQZ bAZ bTZ hatb (by omega) (.int .i64 (pr)) rfl
  obtain ⟨HOF, hQF, HKF, bF⟩ := end_fin HKY HOY hQY bAY (by omega) (.int .i64 0) (.int .i64 ((m : Int) + 1)) (.int .i64 (pr)) (.slice none 0 0) rfl
  have t0 := blk_cell bTY 0 _ rfl
  have t1 := blk_cell bTY 1 _ rfl
  have t2 := blk_cell bTY 2 _ rfl
  have t3 := blk_cell bTY 3 _ rfl
  have s2 := blk_cell bTZ 2 _ rfl
  have s3 := blk_free bTZ 2
  have v0 := blk_cell bAY 0 _ rfl
  have v1 := blk_cell bAY 1 _ rfl
  have v2 := blk_cell bAY 2 _ rfl
  have v3 := blk_cell bAY 3 _ rfl
  have e0 := blk_free bAY 0
  have e1 := blk_free bAY 1
  have e2 := blk_free bAY 2
  have e3 := blk_free bAY 3
  have HEND : Hid _ := HOF
  have HEQ : Hid _ := hQF
  have HEK : Hid _ := HKF
  clear HOF hQF HKF
  go_wp2
  have x0 := blk_cell bF 0 _ rfl
  have x1 := blk_cell bF 1 _ rfl
  have x2 := blk_cell bF 2 _ rfl
  have x3 := blk_cell bF 3 _ rfl
  refine bodyPost_ret (v := .agg #[.int .i64 0, .int .i64 ((m : Int) + 1), .int .i64 (pr), .slice none 0 0]) (by simp [results, Tryz.results123, go_sem, x0, x1, x2, x3]) rfl ?_
  have hR := HXB.out
  subst hR
  rw [HPR.out] at HEND HEQ HEK ⊢
  exact ⟨_, _, _, _, rfl, rfl, HEND.out, HEQ.out, HEK.out⟩

end Go.Proofs.YtfallpinmhbemaaGreatDoor
