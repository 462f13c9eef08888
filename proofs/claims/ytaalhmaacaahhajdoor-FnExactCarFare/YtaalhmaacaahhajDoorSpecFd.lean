/-
  OWN TEXT: the contract of the specification's CarFare.
-/
import Derived.Test.YtaalhmaacaahhajDoorSpecFc
import Derived.Deep.DeepCutAuto
namespace Go.Proofs.YtaalhmaacaahhajDoor
open Go.RowKit

set_option maxHeartbeats 800000 in
theorem specCar_is (x y : Int) (w : World) :
    Calls Tryd.prog 6 #[.int .i64 x, .int .i64 y] w fun e w' => e = .returned (.int .i64 (carFare x y)) ∧ w' = w := by
  obtain ⟨V, hV⟩ : ∃ V, V = carFare x y := ⟨_, rfl⟩
  rw [← hV]
  have HV : Hid (V = carFare x y) := hV
  clear hV
  by_cases h0 : CarOk x y
  · have e0 : decide (CarOk x y) = true := decide_eq_true h0
    have H0 : Hid (CarOk x y) := h0
    have HX : Hid (In x 1 2000) := h0.1
    clear h0
    by_cases h1 : 600 < x
    · have e1 : decide (600 < x) = true := decide_eq_true h1
      have h2 : 450 < x := by omega
      have e2 : decide (450 < x) = true := decide_eq_true h2
      have hx := HX.out
      unfold In at hx
      have hw1 : IntKind.i64.wrap (x - 600) = x - 600 := by rw [IntKind.wrap_i64]; omega
      have hw2 : IntKind.i64.wrap (x - 600 + 99) = x - 600 + 99 := by rw [IntKind.wrap_i64]; omega
      have hq : Int.tdiv (x - 600 + 99) 100 = (x - 600 + 99) / 100 := by rw [Int.tdiv_eq_ediv_of_nonneg (by omega)]
      have hw3 : IntKind.i64.wrap ((x - 600 + 99) / 100) = (x - 600 + 99) / 100 := by rw [IntKind.wrap_i64]; omega
      have hw4 : IntKind.i64.wrap (25 * ((x - 600 + 99) / 100)) = 25 * ((x - 600 + 99) / 100) := by rw [IntKind.wrap_i64]; omega
      have hw5 : IntKind.i64.wrap (90 + 25 * ((x - 600 + 99) / 100)) = 90 + 25 * ((x - 600 + 99) / 100) := by rw [IntKind.wrap_i64]; omega
      have hw6 : IntKind.i64.wrap (90 + 25 * ((x - 600 + 99) / 100) + 30) = 90 + 25 * ((x - 600 + 99) / 100) + 30 := by rw [IntKind.wrap_i64]; omega
      clear hx
      by_cases h5 : 220 < y
      · have e5 : decide (220 < y) = true := decide_eq_true h5
        have HR : Hid (V = 90 + 25 * ((x - 600 + 99) / 100) + 30) := by show V = 90 + 25 * ((x - 600 + 99) / 100) + 30; rw [HV.out]; unfold carFare; rw [if_pos H0.out]; simp only [if_pos h1, if_pos h5]; (try omega)
        rw [HR.out]
        go_enter Tryd.func6, Tryd.ntmps6
        go_wp2_with (first | (go_at_call 13; refine (l6Car_is _ _ _).mono ?_; rintro e w' ⟨rfl, hw'⟩; have hw' := hw'.symm; subst hw'))
        go_ret
        exact ⟨rfl, rfl⟩
      · have e5 : decide (220 < y) = false := decide_eq_false h5
        have HR : Hid (V = 90 + 25 * ((x - 600 + 99) / 100)) := by show V = 90 + 25 * ((x - 600 + 99) / 100); rw [HV.out]; unfold carFare; rw [if_pos H0.out]; simp only [if_pos h1, if_neg h5]; (try omega)
        rw [HR.out]
        go_enter Tryd.func6, Tryd.ntmps6
        go_wp2_with (first | (go_at_call 13; refine (l6Car_is _ _ _).mono ?_; rintro e w' ⟨rfl, hw'⟩; have hw' := hw'.symm; subst hw'))
        go_ret
        exact ⟨rfl, rfl⟩
    · have e1 : decide (600 < x) = false := decide_eq_false h1
      by_cases h2 : 450 < x
      · have e2 : decide (450 < x) = true := decide_eq_true h2
        by_cases h5 : 220 < y
        · have e5 : decide (220 < y) = true := decide_eq_true h5
          have HR : Hid (V = 90 + 30) := by show V = 90 + 30; rw [HV.out]; unfold carFare; rw [if_pos H0.out]; simp only [if_neg h1, if_pos h2, if_pos h5]; (try omega)
          rw [HR.out]
          go_enter Tryd.func6, Tryd.ntmps6
          go_wp2_with (first | (go_at_call 13; refine (l6Car_is _ _ _).mono ?_; rintro e w' ⟨rfl, hw'⟩; have hw' := hw'.symm; subst hw'))
          go_ret
          exact ⟨rfl, rfl⟩
        · have e5 : decide (220 < y) = false := decide_eq_false h5
          have HR : Hid (V = 90) := by show V = 90; rw [HV.out]; unfold carFare; rw [if_pos H0.out]; simp only [if_neg h1, if_pos h2, if_neg h5]; (try omega)
          rw [HR.out]
          go_enter Tryd.func6, Tryd.ntmps6
          go_wp2_with (first | (go_at_call 13; refine (l6Car_is _ _ _).mono ?_; rintro e w' ⟨rfl, hw'⟩; have hw' := hw'.symm; subst hw'))
          go_ret
          exact ⟨rfl, rfl⟩
      · have e2 : decide (450 < x) = false := decide_eq_false h2
        by_cases h5 : 220 < y
        · have e5 : decide (220 < y) = true := decide_eq_true h5
          have HR : Hid (V = 60 + 30) := by show V = 60 + 30; rw [HV.out]; unfold carFare; rw [if_pos H0.out]; simp only [if_neg h1, if_neg h2, if_pos h5]; (try omega)
          rw [HR.out]
          go_enter Tryd.func6, Tryd.ntmps6
          go_wp2_with (first | (go_at_call 13; refine (l6Car_is _ _ _).mono ?_; rintro e w' ⟨rfl, hw'⟩; have hw' := hw'.symm; subst hw'))
          go_ret
          exact ⟨rfl, rfl⟩
        · have e5 : decide (220 < y) = false := decide_eq_false h5
          have HR : Hid (V = 60) := by show V = 60; rw [HV.out]; unfold carFare; rw [if_pos H0.out]; simp only [if_neg h1, if_neg h2, if_neg h5]; (try omega)
          rw [HR.out]
          go_enter Tryd.func6, Tryd.ntmps6
          go_wp2_with (first | (go_at_call 13; refine (l6Car_is _ _ _).mono ?_; rintro e w' ⟨rfl, hw'⟩; have hw' := hw'.symm; subst hw'))
          go_ret
          exact ⟨rfl, rfl⟩
  · have e0 : decide (CarOk x y) = false := decide_eq_false h0
    have HR : Hid (V = 0) := by rw [HV.out]; exact if_neg h0
    rw [HR.out]
    clear h0
    go_enter Tryd.func6, Tryd.ntmps6
    go_wp2_with (first | (go_at_call 13; refine (l6Car_is _ _ _).mono ?_; rintro e w' ⟨rfl, hw'⟩; have hw' := hw'.symm; subst hw'))
    go_ret
    exact ⟨rfl, rfl⟩

end Go.Proofs.YtaalhmaacaahhajDoor
