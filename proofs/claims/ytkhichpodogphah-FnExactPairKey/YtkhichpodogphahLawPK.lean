/-
  OWN TEXT: the walk of laws.FnExactPairKey: it returns true, and nothing is written.
-/
import Derived.Test.YtkhichpodogphahSpecS
import Derived.Test.YtkhichpodogphahImplS1
namespace Go.Proofs.Ytkhichpodogphah
open Go.RowKit

def pairKeyV (s r : Int) : Int := if In s 1 99 ∧ In r 0 2 then 1000 + 3 * s + r else -1
theorem pairKeyV_no {s r : Int} (h : ¬ (In s 1 99 ∧ In r 0 2)) : pairKeyV s r = -1 := if_neg h
theorem pairKeyV_yes {s r : Int} (h : In s 1 99 ∧ In r 0 2) : pairKeyV s r = 1000 + 3 * s + r := if_pos h

set_option maxHeartbeats 400000 in
theorem implPair_is (s r : Int) (w : World) : Calls Try.prog 22 #[.int .i64 s, .int .i64 r] w fun e w' => e = .returned (.int .i64 (pairKeyV s r)) ∧ w' = w := by
  by_cases h1 : In s 1 99
  · have d1 : decide (In s 1 99) = true := decide_eq_true h1
    by_cases h2 : In r 0 2
    · have d2 : decide (In r 0 2) = true := decide_eq_true h2
      rw [pairKeyV_yes ⟨h1, h2⟩]
      obtain ⟨a1, a2⟩ := h1
      obtain ⟨b1, b2⟩ := h2
      go_enter Try.func22, Try.ntmps22
      go_wp2_with (first | (go_at_call 41; refine (sailingId_is _ _).mono ?_; rintro e w' ⟨rfl, hw'⟩; have hw' := hw'.symm; subst hw') | (go_at_call 29; refine (within_is _ _ _ _).mono ?_; rintro e w' ⟨rfl, hw'⟩; have hw' := hw'.symm; subst hw'))
      go_ret
      exact ⟨rfl, rfl⟩
    · have d2 : decide (In r 0 2) = false := decide_eq_false h2
      rw [pairKeyV_no (fun h => h2 h.2)]
      clear h1 h2
      go_enter Try.func22, Try.ntmps22
      go_wp2_with (first | (go_at_call 41; refine (sailingId_is _ _).mono ?_; rintro e w' ⟨rfl, hw'⟩; have hw' := hw'.symm; subst hw') | (go_at_call 29; refine (within_is _ _ _ _).mono ?_; rintro e w' ⟨rfl, hw'⟩; have hw' := hw'.symm; subst hw'))
      go_ret
      exact ⟨rfl, rfl⟩
  · have d1 : decide (In s 1 99) = false := decide_eq_false h1
    rw [pairKeyV_no (fun h => h1 h.1)]
    clear h1
    go_enter Try.func22, Try.ntmps22
    go_wp2_with (first | (go_at_call 41; refine (sailingId_is _ _).mono ?_; rintro e w' ⟨rfl, hw'⟩; have hw' := hw'.symm; subst hw') | (go_at_call 29; refine (within_is _ _ _ _).mono ?_; rintro e w' ⟨rfl, hw'⟩; have hw' := hw'.symm; subst hw'))
    go_ret
    exact ⟨rfl, rfl⟩

set_option maxHeartbeats 400000 in
theorem specPair_is (s r : Int) (w : World) : Calls Try.prog 21 #[.int .i64 s, .int .i64 r] w fun e w' => e = .returned (.int .i64 (pairKeyV s r)) ∧ w' = w := by
  by_cases h1 : In s 1 99
  · have d1 : decide (In s 1 99) = true := decide_eq_true h1
    by_cases h2 : In r 0 2
    · have d2 : decide (In r 0 2) = true := decide_eq_true h2
      rw [pairKeyV_yes ⟨h1, h2⟩]
      obtain ⟨a1, a2⟩ := h1
      obtain ⟨b1, b2⟩ := h2
      go_enter Try.func21, Try.ntmps21
      go_wp2_with (first | (go_at_call 34; refine (l1In_is _ _ _ _).mono ?_; rintro e w' ⟨rfl, hw'⟩; have hw' := hw'.symm; subst hw'))
      go_ret
      exact ⟨rfl, rfl⟩
    · have d2 : decide (In r 0 2) = false := decide_eq_false h2
      rw [pairKeyV_no (fun h => h2 h.2)]
      clear h1 h2
      go_enter Try.func21, Try.ntmps21
      go_wp2_with (first | (go_at_call 34; refine (l1In_is _ _ _ _).mono ?_; rintro e w' ⟨rfl, hw'⟩; have hw' := hw'.symm; subst hw'))
      go_ret
      exact ⟨rfl, rfl⟩
  · have d1 : decide (In s 1 99) = false := decide_eq_false h1
    rw [pairKeyV_no (fun h => h1 h.1)]
    clear h1
    go_enter Try.func21, Try.ntmps21
    go_wp2_with (first | (go_at_call 34; refine (l1In_is _ _ _ _).mono ?_; rintro e w' ⟨rfl, hw'⟩; have hw' := hw'.symm; subst hw'))
    go_ret
    exact ⟨rfl, rfl⟩

set_option maxHeartbeats 400000 in
theorem lawPairKey (s r : Int) (w : World) : Calls Try.prog 6 #[.int .i64 s, .int .i64 r] w fun e w' => e = .returned (.bool true) ∧ Below w.heap.size w w' := by
  go_enter Try.func6, Try.ntmps6
  go_wp2_with (first | (go_at_call 21; refine (specPair_is _ _ _).mono ?_; rintro e w' ⟨rfl, hw'⟩; have hw' := hw'.symm; subst hw') | (go_at_call 22; refine (implPair_is _ _ _).mono ?_; rintro e w' ⟨rfl, hw'⟩; have hw' := hw'.symm; subst hw'))
  go_ret
  exact ⟨rfl, Below.refl _ _⟩

end Go.Proofs.Ytkhichpodogphah
