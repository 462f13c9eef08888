/-
  OWN TEXT: contracts of the program's stepsBegun, lengthFare, CarFare, where the table of bands lies as the program's text lays it.
-/
import Derived.Test.YtaalhmaacaahhajDoorCarW
import Derived.Test.YtaalhmaacaahhajDoorBandsI
import Derived.Test.YtaalhmaacaahhajDoorPlainFa
import Derived.Test.YtaalhmaacaahhajDoorKitG
import Derived.Deep.DeepCutAuto
namespace Go.Proofs.YtaalhmaacaahhajDoor
open Go.RowKit

theorem steps_is (x : Int) (w : World) (h : In x 1 1400) :
    Calls Tryd.prog 23 #[.int .i64 x] w fun e w' => e = .returned (.int .i64 ((x + 99) / 100)) ∧ w' = w := by
  unfold In at h
  have hw1 : IntKind.i64.wrap (x + 100) = x + 100 := by rw [IntKind.wrap_i64]; omega
  have hw2 : IntKind.i64.wrap (x + 100 - 1) = x + 99 := by rw [IntKind.wrap_i64]; omega
  have hq : Int.tdiv (x + 99) 100 = (x + 99) / 100 := by rw [Int.tdiv_eq_ediv_of_nonneg (by omega)]
  have hw3 : IntKind.i64.wrap ((x + 99) / 100) = (x + 99) / 100 := by rw [IntKind.wrap_i64]; omega
  go_enter Tryd.func23, Tryd.ntmps23
  go_wp2
  go_ret
  exact ⟨rfl, rfl⟩

set_option maxHeartbeats 800000 in
theorem length_any (x : Int) (w : World) (h : In x 1 2000) (hB : BandsAt w) :
    Calls Tryd.prog 15 #[.int .i64 x] w fun e w' => e = .returned (.int .i64 (if 600 < x then 90 + 25 * ((x - 600 + 99) / 100) else if 450 < x then 90 else 60)) ∧ Below w.heap.size w w' := by
  obtain ⟨V, hV⟩ : ∃ V, V = (if 600 < x then 90 + 25 * ((x - 600 + 99) / 100) else if 450 < x then 90 else 60) := ⟨_, rfl⟩
  rw [← hV]
  have HV : Hid (V = (if 600 < x then 90 + 25 * ((x - 600 + 99) / 100) else if 450 < x then 90 else 60)) := hV
  clear hV
  obtain ⟨b0, b1, b2, b3, b4, b5⟩ := hB
  unfold In at h
  by_cases h1 : 600 < x
  · have e1 : decide (600 < x) = true := decide_eq_true h1
    have hw1 : IntKind.i64.wrap (x - 600) = x - 600 := by rw [IntKind.wrap_i64]; omega
    obtain ⟨q, hq⟩ : ∃ q, q = (x - 600 + 99) / 100 := ⟨_, rfl⟩
    have hq0 : 0 ≤ q ∧ q ≤ 20 := by omega
    have hw4 : IntKind.i64.wrap (25 * q) = 25 * q := by rw [IntKind.wrap_i64]; omega
    have hw5 : IntKind.i64.wrap (25 * q + 30) = 25 * q + 30 := by rw [IntKind.wrap_i64]; omega
    have hw6 : IntKind.i64.wrap (25 * q + 30 + 60) = 25 * q + 30 + 60 := by rw [IntKind.wrap_i64]; omega
    have hst : In (x - 600) 1 1400 := ⟨by omega, by omega⟩
    have HR : Hid (V = 25 * q + 30 + 60) := by show V = 25 * q + 30 + 60; rw [HV.out, if_pos h1, ← hq]; omega
    have HQ : Hid (q = (x - 600 + 99) / 100) := hq
    rw [HR.out]
    clear h hq HV h1
    go_enter Tryd.func15, Tryd.ntmps15
    go_wp2
    go_quiet (first | (go_at_call 23; refine Calls.quiet_of_same (v := .int .i64 q) ((steps_is _ _ hst).mono ?_); rintro e w' ⟨rfl, rfl⟩; exact ⟨by rw [HQ.out], rfl⟩))
    go_wp2
    go_ret
    exact ⟨rfl, below_drewN (Below.refl _ _) _⟩
  · have e1 : decide (600 < x) = false := decide_eq_false h1
    by_cases h2 : 450 < x
    · have e2 : decide (450 < x) = true := decide_eq_true h2
      have HR : Hid (V = 90) := by show V = 90; rw [HV.out, if_neg h1, if_pos h2]
      rw [HR.out]
      clear h h1 h2 HV
      go_enter Tryd.func15, Tryd.ntmps15
      go_wp2
      go_ret
      exact ⟨rfl, Below.refl _ _⟩
    · have e2 : decide (450 < x) = false := decide_eq_false h2
      have e3 : decide (0 < x) = true := decide_eq_true (by omega)
      have HR : Hid (V = 60) := by show V = 60; rw [HV.out, if_neg h1, if_neg h2]
      rw [HR.out]
      clear h h1 h2 HV
      go_enter Tryd.func15, Tryd.ntmps15
      go_wp2
      go_ret
      exact ⟨rfl, Below.refl _ _⟩

set_option maxHeartbeats 800000 in
theorem implCar_any (x y : Int) (w : World) (hB : BandsAt w) :
    Calls Tryd.prog 7 #[.int .i64 x, .int .i64 y] w fun e w' => e = .returned (.int .i64 (carFare x y)) ∧ Below w.heap.size w w' := by
  obtain ⟨V, hV⟩ : ∃ V, V = carFare x y := ⟨_, rfl⟩
  rw [← hV]
  have HV : Hid (V = carFare x y) := hV
  have HB : Hid (BandsAt w) := hB
  clear hV hB
  by_cases h0 : In x 1 2000 ∧ In y 1 500
  · have e0 : decide (In x 1 2000 ∧ In y 1 500) = true := decide_eq_true h0
    obtain ⟨c, hc⟩ : ∃ c, c = decide (In x 1 2000 ∧ In y 1 500) := ⟨_, rfl⟩
    obtain ⟨L, hL⟩ : ∃ L, L = (if 600 < x then 90 + 25 * ((x - 600 + 99) / 100) else if 450 < x then 90 else 60) := ⟨_, rfl⟩
    have HL : Hid (L = (if 600 < x then 90 + 25 * ((x - 600 + 99) / 100) else if 450 < x then 90 else 60)) := hL
    have HX : Hid (In x 1 2000 ∧ In y 1 500) := h0
    have hL0 : 0 ≤ L ∧ L ≤ 1000 := by
      have := h0.1; unfold In at this; rw [hL]; repeat' split
      all_goals omega
    have hw1 : IntKind.i64.wrap (L + 30) = L + 30 := by rw [IntKind.wrap_i64]; omega
    clear hc hL h0 c e0
    by_cases h5 : 220 < y
    · have e5 : decide (220 < y) = true := decide_eq_true h5
      have HR : Hid (V = L + 30) := by show V = L + 30; rw [HV.out, HL.out]; unfold carFare; rw [if_pos (show CarOk x y from HX.out), if_pos h5]
      rw [HR.out]
      clear h5
      go_enter Tryd.func7, Tryd.ntmps7
      go_wp2_with (first | (go_at_call 14; refine (isCar_is _ _ _).mono ?_; rw [decide_eq_true HX.out]; rintro e w' ⟨rfl, hw'⟩; have hw' := hw'.symm; subst hw') | (go_at_call 15; refine (length_any _ _ HX.out.1 HB.out).mono ?_; rw [← HL.out]; rintro e w1 ⟨rfl, hb1⟩))
      go_ret
      exact ⟨rfl, hb1⟩
    · have e5 : decide (220 < y) = false := decide_eq_false h5
      have HR : Hid (V = L) := by show V = L; rw [HV.out, HL.out]; unfold carFare; rw [if_pos (show CarOk x y from HX.out), if_neg h5]; omega
      rw [HR.out]
      clear h5
      go_enter Tryd.func7, Tryd.ntmps7
      go_wp2_with (first | (go_at_call 14; refine (isCar_is _ _ _).mono ?_; rw [decide_eq_true HX.out]; rintro e w' ⟨rfl, hw'⟩; have hw' := hw'.symm; subst hw') | (go_at_call 15; refine (length_any _ _ HX.out.1 HB.out).mono ?_; rw [← HL.out]; rintro e w1 ⟨rfl, hb1⟩))
      go_ret
      exact ⟨rfl, hb1⟩
  · have HX : Hid (¬ (In x 1 2000 ∧ In y 1 500)) := h0
    have HR : Hid (V = 0) := by rw [HV.out]; exact if_neg h0
    rw [HR.out]
    clear h0
    go_enter Tryd.func7, Tryd.ntmps7
    go_wp2_with (first | (go_at_call 14; refine (isCar_is _ _ _).mono ?_; rw [decide_eq_false HX.out]; rintro e w' ⟨rfl, hw'⟩; have hw' := hw'.symm; subst hw'))
    go_ret
    exact ⟨rfl, Below.refl _ _⟩

end Go.Proofs.YtaalhmaacaahhajDoor
