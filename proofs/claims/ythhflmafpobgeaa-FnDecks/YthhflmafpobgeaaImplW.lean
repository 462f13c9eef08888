/-
  OWN TEXT: contracts of the program's isWithin, isBy, isCar.
-/
import Derived.Test.YthhflmafpobgeaaRows
import Derived.Test.YthhflmafpobgeaaPlainS
import Derived.Deep.RegionHeld3
import Derived.Deep.LoopGhost
import Derived.Deep.DeepCutAuto
namespace Go.Proofs.Ythhflmafpobgeaa
open Go.RowKit

theorem within_yes (x lo hi : Int) (w : World) (h : In x lo hi) :
    Calls Try.prog 77 #[.int .i64 x, .int .i64 lo, .int .i64 hi] w fun e w' => e = .returned (.bool true) ∧ w' = w := by
  have e1 : decide (lo ≤ x) = true := by simpa using h.1
  have e2 : decide (x ≤ hi) = true := by simpa using h.2
  clear h
  go_enter Try.func77, Try.ntmps77
  go_wp2
  go_ret
  exact ⟨rfl, rfl⟩
theorem within_no (x lo hi : Int) (w : World) (h : ¬ In x lo hi) :
    Calls Try.prog 77 #[.int .i64 x, .int .i64 lo, .int .i64 hi] w fun e w' => e = .returned (.bool false) ∧ w' = w := by
  by_cases h1 : lo ≤ x
  · have e1 : decide (lo ≤ x) = true := by simpa using h1
    have e2 : decide (x ≤ hi) = false := by simp; exact Int.not_le.1 (fun h2 => h ⟨h1, h2⟩)
    clear h h1
    go_enter Try.func77, Try.ntmps77
    go_wp2
    go_ret
    exact ⟨rfl, rfl⟩
  · have e1 : decide (lo ≤ x) = false := by simpa using h1
    clear h h1
    go_enter Try.func77, Try.ntmps77
    go_wp2
    go_ret
    exact ⟨rfl, rfl⟩
/-- isWithin in one word: it answers whether x lies there, and the world is as it was. -/
theorem within_is (x lo hi : Int) (w : World) :
    Calls Try.prog 77 #[.int .i64 x, .int .i64 lo, .int .i64 hi] w fun e w' => e = .returned (.bool (decide (In x lo hi))) ∧ w' = w := by
  by_cases h : In x lo hi
  · rw [decide_eq_true h]; exact within_yes x lo hi w h
  · rw [decide_eq_false h]; exact within_no x lo hi w h
theorem isBy_is (x : Int) (w : World) :
    Calls Try.prog 134 #[.int .i64 x] w fun e w' => e = .returned (.bool (decide (In x 1 9999))) ∧ w' = w := by
  go_enter Try.func134, Try.ntmps134
  go_wp2_with (first | (go_at_call 77; refine (within_is _ _ _ _).mono ?_; rintro e w' ⟨rfl, rfl⟩))
  go_ret
  exact ⟨rfl, rfl⟩
theorem isCar_is (x y : Int) (w : World) :
    Calls Try.prog 135 #[.int .i64 x, .int .i64 y] w fun e w' => e = .returned (.bool (decide (In x 1 2000 ∧ In y 1 500))) ∧ w' = w := by
  obtain ⟨c, hc⟩ : ∃ c, c = decide (In x 1 2000 ∧ In y 1 500) := ⟨_, rfl⟩
  rw [← hc]
  have HC : Hid (c = decide (In x 1 2000 ∧ In y 1 500)) := hc
  clear hc
  by_cases h1 : In x 1 2000
  · have e1 : decide (In x 1 2000) = true := decide_eq_true h1
    have H1 : Hid (In x 1 2000) := h1
    clear h1
    by_cases h2 : In y 1 500
    · have e2 : decide (In y 1 500) = true := decide_eq_true h2
      have H2 : Hid (In y 1 500) := h2
      clear h2
      go_enter Try.func135, Try.ntmps135
      go_wp2_with (first | (go_at_call 77; refine (within_is _ _ _ _).mono ?_; rintro e w' ⟨rfl, hw'⟩; have hw' := hw'.symm; subst hw'))
      go_ret
      exact ⟨by rw [HC.out, decide_eq_true ⟨H1.out, H2.out⟩]; rfl, rfl⟩
    · have e2 : decide (In y 1 500) = false := decide_eq_false h2
      have H2 : Hid (¬ In y 1 500) := h2
      clear h2
      go_enter Try.func135, Try.ntmps135
      go_wp2_with (first | (go_at_call 77; refine (within_is _ _ _ _).mono ?_; rintro e w' ⟨rfl, hw'⟩; have hw' := hw'.symm; subst hw'))
      go_ret
      exact ⟨by rw [HC.out, decide_eq_false (fun h => H2.out h.2)]; rfl, rfl⟩
  · have e1 : decide (In x 1 2000) = false := decide_eq_false h1
    have H1 : Hid (¬ In x 1 2000) := h1
    clear h1
    go_enter Try.func135, Try.ntmps135
    go_wp2_with (first | (go_at_call 77; refine (within_is _ _ _ _).mono ?_; rintro e w' ⟨rfl, hw'⟩; have hw' := hw'.symm; subst hw'))
    go_ret
    exact ⟨by rw [HC.out, decide_eq_false (fun h => H1.out h.1)]; rfl, rfl⟩

end Go.Proofs.Ythhflmafpobgeaa
