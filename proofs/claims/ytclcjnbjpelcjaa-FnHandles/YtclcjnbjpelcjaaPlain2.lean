/-
  OWN TEXT: plain mathematics of chapter 1, second part: what is got behind a handle.
-/
import Derived.Test.YtclcjnbjpelcjaaPlain1
namespace Go.Proofs.Ytclcjnbjpelcjaa

/-- The value behind a handle: nothing where something stands in its way. -/
def gotOf (n : Nat) (A : Nat → Int) (U : Nat → Bool) (V : Nat → Int) (x a : Int) : Int := if faultOf n A U x a = 0 then V x.toNat else 0
theorem fault_zero {n : Nat} {A : Nat → Int} {U : Nat → Bool} {x a : Int} (h : faultOf n A U x a = 0) : ∃ q : Nat, x = q ∧ q < n ∧ A q = a ∧ U q = true := by
  rcases fault_cases n A U x a with ⟨_, hf⟩ | ⟨q, e, hq, ⟨_, hf⟩ | ⟨_, _, hf⟩ | ⟨h1, h2, _⟩⟩
  · rw [hf] at h; cases h
  · rw [hf] at h; cases h
  · rw [hf] at h; cases h
  · exact ⟨q, e, hq, h1, h2⟩
theorem fault_lo (n : Nat) (A : Nat → Int) (U : Nat → Bool) (x a : Int) : faultOf n A U x a ≠ 1 ∧ 0 ≤ faultOf n A U x a ∧ faultOf n A U x a ≤ 4 := by
  rcases fault_cases n A U x a with ⟨_, hf⟩ | ⟨q, e, hq, ⟨_, hf⟩ | ⟨_, _, hf⟩ | ⟨_, _, hf⟩⟩ <;> rw [hf] <;> decide

end Go.Proofs.Ytclcjnbjpelcjaa
