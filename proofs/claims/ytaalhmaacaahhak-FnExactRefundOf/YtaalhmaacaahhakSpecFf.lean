/-
  OWN TEXT: the contract of the specification's RefundOf.
-/
import Derived.Test.YtaalhmaacaahhakSpecIn3
import Derived.Test.YtaalhmaacaahhakPlainFa
import Derived.Test.YtaalhmaacaahhakKitG
import Derived.Deep.DeepCutAuto
namespace Go.Proofs.Ytaalhmaacaahhak
open Go.RowKit

set_option maxHeartbeats 800000 in
theorem specRefund_is (x y : Int) (w : World) :
    Calls Try.prog 5 #[.int .i64 x, .int .i64 y] w fun e w' => e = .returned (.int .i64 (refundOf x y)) ∧ w' = w := by
  obtain ⟨V, hV⟩ : ∃ V, V = refundOf x y := ⟨_, rfl⟩
  rw [← hV]
  have HV : Hid (V = refundOf x y) := hV
  clear hV
  by_cases h1 : In x 0 1000000
  · have e1 : decide (In x 0 1000000) = true := decide_eq_true h1
    by_cases h2 : In y (-10000) 10000
    · have e2 : decide (In y (-10000) 10000) = true := decide_eq_true h2
      have h0 : 0 ≤ x := h1.1
      have h00 : x ≤ 1000000 := h1.2
      have HP : Hid (In x 0 1000000 ∧ In y (-10000) 10000) := ⟨h1, h2⟩
      clear h1 h2
      by_cases h3 : 100 ≤ y
      · have e3 : decide (100 ≤ y) = true := decide_eq_true h3
        have HR : Hid (V = x) := by show V = x; rw [HV.out]; unfold refundOf; rw [if_pos HP.out, if_pos h3]
        rw [HR.out]
        clear h3
        go_enter Try.func5, Try.ntmps5
        go_wp2_with (first | (go_at_call 12; refine (l1In_is _ _ _ _).mono ?_; rintro e w' ⟨rfl, hw'⟩; have hw' := hw'.symm; subst hw'))
        go_ret
        exact ⟨rfl, rfl⟩
      · have e3 : decide (100 ≤ y) = false := decide_eq_false h3
        by_cases h4 : 20 ≤ y
        · have e4 : decide (20 ≤ y) = true := decide_eq_true h4
          have HR : Hid (V = x / 2) := by show V = x / 2; rw [HV.out]; unfold refundOf; rw [if_pos HP.out, if_neg h3, if_pos h4]
          have hq : Int.tdiv x 2 = x / 2 := by rw [Int.tdiv_eq_ediv_of_nonneg h0]
          have hwq : IntKind.i64.wrap (x / 2) = x / 2 := by rw [IntKind.wrap_i64]; omega
          rw [HR.out]
          clear h3 h4
          go_enter Try.func5, Try.ntmps5
          go_wp2_with (first | (go_at_call 12; refine (l1In_is _ _ _ _).mono ?_; rintro e w' ⟨rfl, hw'⟩; have hw' := hw'.symm; subst hw'))
          go_ret
          exact ⟨rfl, rfl⟩
        · have e4 : decide (20 ≤ y) = false := decide_eq_false h4
          have HR : Hid (V = 0) := by show V = 0; rw [HV.out]; unfold refundOf; rw [if_pos HP.out, if_neg h3, if_neg h4]
          rw [HR.out]
          clear h3 h4
          go_enter Try.func5, Try.ntmps5
          go_wp2_with (first | (go_at_call 12; refine (l1In_is _ _ _ _).mono ?_; rintro e w' ⟨rfl, hw'⟩; have hw' := hw'.symm; subst hw'))
          go_ret
          exact ⟨rfl, rfl⟩
    · have e2 : decide (In y (-10000) 10000) = false := decide_eq_false h2
      have HR : Hid (V = 0) := by rw [HV.out]; exact if_neg (fun h => h2 h.2)
      rw [HR.out]
      clear h1 h2
      go_enter Try.func5, Try.ntmps5
      go_wp2_with (first | (go_at_call 12; refine (l1In_is _ _ _ _).mono ?_; rintro e w' ⟨rfl, hw'⟩; have hw' := hw'.symm; subst hw'))
      go_ret
      exact ⟨rfl, rfl⟩
  · have e1 : decide (In x 0 1000000) = false := decide_eq_false h1
    have HR : Hid (V = 0) := by rw [HV.out]; exact if_neg (fun h => h1 h.1)
    rw [HR.out]
    clear h1
    go_enter Try.func5, Try.ntmps5
    go_wp2_with (first | (go_at_call 12; refine (l1In_is _ _ _ _).mono ?_; rintro e w' ⟨rfl, hw'⟩; have hw' := hw'.symm; subst hw'))
    go_ret
    exact ⟨rfl, rfl⟩

end Go.Proofs.Ytaalhmaacaahhak
