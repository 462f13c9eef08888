/-
  OWN TEXT: contracts of the specification's l7Named and l7Legs.
-/
import Derived.Test.YtgjcmifnigdndaaDoorPlainOp
import Derived.Test.YtgjcmifnigdndaaDoorSpecFg
import Derived.Test.YtgjcmifnigdndaaDoorSpecName
import Derived.Deep.DeepCutAuto
namespace Go.Proofs.YtgjcmifnigdndaaDoor
open Go.RowKit

theorem l7Named_is (k : Int) (w : World) : Calls Tryd.prog 18 #[.int .i64 k] w fun e w' => e = .returned (.bool (decide (In k 4 8))) ∧ w' = w := by
  go_enter Tryd.func18, Tryd.ntmps18
  go_wp2_with (first | (go_at_call 16; refine (l1In_is _ _ _ _).mono ?_; rintro e w' ⟨rfl, hw'⟩; have hw' := hw'.symm; subst hw'))
  go_ret
  exact ⟨rfl, rfl⟩

theorem l7Legs_is (k : Int) (w : World) : Calls Tryd.prog 19 #[.int .i64 k] w fun e w' => e = .returned (.bool (decide (HasLegs k))) ∧ w' = w := by
  obtain ⟨c, hc⟩ : ∃ c, c = decide (HasLegs k) := ⟨_, rfl⟩
  rw [← hc]
  have HC : Hid (c = decide (HasLegs k)) := hc
  clear hc
  by_cases h1 : k = 1
  · have HR : Hid (c = true) := by rw [HC.out]; exact decide_eq_true (.inl h1)
    subst h1
    go_enter Tryd.func19, Tryd.ntmps19
    go_wp2
    go_ret
    exact ⟨by rw [HR.out]; rfl, rfl⟩
  · have e1 : (k == 1) = false := by simpa using h1
    by_cases h2 : k = 2
    · have HR : Hid (c = true) := by rw [HC.out]; exact decide_eq_true (.inr (.inl h2))
      subst h2
      go_enter Tryd.func19, Tryd.ntmps19
      go_wp2
      go_ret
      exact ⟨by rw [HR.out]; rfl, rfl⟩
    · have e2 : (k == 2) = false := by simpa using h2
      by_cases h3 : k = 3
      · have HR : Hid (c = true) := by rw [HC.out]; exact decide_eq_true (.inr (.inr (.inl h3)))
        subst h3
        go_enter Tryd.func19, Tryd.ntmps19
        go_wp2
        go_ret
        exact ⟨by rw [HR.out]; rfl, rfl⟩
      · have e3 : (k == 3) = false := by simpa using h3
        by_cases h5 : k = 5
        · have HR : Hid (c = true) := by rw [HC.out]; exact decide_eq_true (.inr (.inr (.inr h5)))
          subst h5
          go_enter Tryd.func19, Tryd.ntmps19
          go_wp2
          go_ret
          exact ⟨by rw [HR.out]; rfl, rfl⟩
        · have e5 : (k == 5) = false := by simpa using h5
          have HR : Hid (c = false) := by rw [HC.out]; exact decide_eq_false (fun h => by rcases h with h | h | h | h; exact h1 h; exact h2 h; exact h3 h; exact h5 h)
          clear h1 h2 h3 h5
          go_enter Tryd.func19, Tryd.ntmps19
          go_wp2
          go_ret
          exact ⟨by rw [HR.out]; rfl, rfl⟩

end Go.Proofs.YtgjcmifnigdndaaDoor
