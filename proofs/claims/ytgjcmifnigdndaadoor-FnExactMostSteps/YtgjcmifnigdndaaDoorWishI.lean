/-
  OWN TEXT: the contract of the program's isCabinWish.
-/
import Derived.Test.YtgjcmifnigdndaaDoorClassI
import Derived.Test.YtgjcmifnigdndaaDoorPlainFa
namespace Go.Proofs.YtgjcmifnigdndaaDoor
open Go.RowKit

set_option maxHeartbeats 800000 in
theorem wish_is (cl : Int) (all : Bool) (be : Int) (w : World) :
    Calls Tryd.prog 31 #[.int .i64 cl, .bool all, .int .i64 be] w fun e w' => e = .returned (.bool (decide (CabOk cl all be))) ∧ w' = w := by
  obtain ⟨c, hc⟩ : ∃ c, c = decide (CabOk cl all be) := ⟨_, rfl⟩
  rw [← hc]
  have HC : Hid (c = decide (CabOk cl all be)) := hc
  clear hc
  by_cases h1 : In cl 1 3
  · have e1 : decide (In cl 1 3) = true := decide_eq_true h1
    have H1 : Hid (In cl 1 3) := h1
    clear h1
    cases all with
    | true =>
      by_cases h2 : be = 0
      · subst h2
        go_enter Tryd.func31, Tryd.ntmps31
        go_wp2_with (first | (go_at_call 32; refine (class_is _ _).mono ?_; rintro e w' ⟨rfl, hw'⟩; have hw' := hw'.symm; subst hw'))
        go_ret
        exact ⟨by rw [HC.out, decide_eq_true ⟨H1.out, .inl ⟨rfl, rfl⟩⟩]; rfl, rfl⟩
      · have e2 : (be == 0) = false := by simpa using h2
        have H2 : Hid (¬ be = 0) := h2
        clear h2
        go_enter Tryd.func31, Tryd.ntmps31
        go_wp2_with (first | (go_at_call 32; refine (class_is _ _).mono ?_; rintro e w' ⟨rfl, hw'⟩; have hw' := hw'.symm; subst hw'))
        go_ret
        exact ⟨by rw [HC.out, decide_eq_false (fun h => by rcases h.2 with h | h; exact H2.out h.2; cases h.1)]; rfl, rfl⟩
    | false =>
      by_cases h2 : In be 1 4
      · have e2 : decide (In be 1 4) = true := decide_eq_true h2
        have H2 : Hid (In be 1 4) := h2
        clear h2
        go_enter Tryd.func31, Tryd.ntmps31
        go_wp2_with (first | (go_at_call 32; refine (class_is _ _).mono ?_; rintro e w' ⟨rfl, hw'⟩; have hw' := hw'.symm; subst hw') | (go_at_call 33; refine (berths_is _ _).mono ?_; rintro e w' ⟨rfl, hw'⟩; have hw' := hw'.symm; subst hw'))
        go_ret
        exact ⟨by rw [HC.out, decide_eq_true ⟨H1.out, .inr ⟨rfl, H2.out⟩⟩]; rfl, rfl⟩
      · have e2 : decide (In be 1 4) = false := decide_eq_false h2
        have H2 : Hid (¬ In be 1 4) := h2
        clear h2
        go_enter Tryd.func31, Tryd.ntmps31
        go_wp2_with (first | (go_at_call 32; refine (class_is _ _).mono ?_; rintro e w' ⟨rfl, hw'⟩; have hw' := hw'.symm; subst hw') | (go_at_call 33; refine (berths_is _ _).mono ?_; rintro e w' ⟨rfl, hw'⟩; have hw' := hw'.symm; subst hw'))
        go_ret
        exact ⟨by rw [HC.out, decide_eq_false (fun h => by rcases h.2 with h | h; cases h.1; exact H2.out h.2)]; rfl, rfl⟩
  · have e1 : decide (In cl 1 3) = false := decide_eq_false h1
    have H1 : Hid (¬ In cl 1 3) := h1
    clear h1
    cases all with
    | true =>
      go_enter Tryd.func31, Tryd.ntmps31
      go_wp2_with (first | (go_at_call 32; refine (class_is _ _).mono ?_; rintro e w' ⟨rfl, hw'⟩; have hw' := hw'.symm; subst hw'))
      go_ret
      exact ⟨by rw [HC.out, decide_eq_false (fun h => H1.out h.1)]; rfl, rfl⟩
    | false =>
      go_enter Tryd.func31, Tryd.ntmps31
      go_wp2_with (first | (go_at_call 32; refine (class_is _ _).mono ?_; rintro e w' ⟨rfl, hw'⟩; have hw' := hw'.symm; subst hw'))
      go_ret
      exact ⟨by rw [HC.out, decide_eq_false (fun h => H1.out h.1)]; rfl, rfl⟩

end Go.Proofs.YtgjcmifnigdndaaDoor
