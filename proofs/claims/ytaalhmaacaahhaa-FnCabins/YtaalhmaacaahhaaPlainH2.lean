/-
  OWN TEXT: the first place of a number in a list, in plain words; no theorem of the program.
-/
import Derived.Test.YtaalhmaacaahhaaPlainS
namespace Go.Proofs.Ytaalhmaacaahhaa
open Go.RowKit

/-- One of the first n is x. -/
def Has (F : Nat → Int) (n : Nat) (x : Int) : Prop := ∃ j, j < n ∧ F j = x
/-- The first place of x among the first n; n where it isn't there. -/
def ixOf (F : Nat → Int) (x : Int) : Nat → Nat
  | 0 => 0
  | n + 1 => if ixOf F x n < n then ixOf F x n else if F n = x then n else n + 1
theorem ixOf_le (F : Nat → Int) (x : Int) (n : Nat) : ixOf F x n ≤ n := by
  induction n with
  | zero => exact Nat.le_refl _
  | succ n ih => unfold ixOf; split <;> (try split) <;> omega
theorem ixOf_before (F : Nat → Int) (x : Int) (n : Nat) : ∀ j, j < ixOf F x n → F j ≠ x := by
  induction n with
  | zero => intro j hj; unfold ixOf at hj; omega
  | succ n ih =>
    intro j hj
    unfold ixOf at hj
    have hl := ixOf_le F x n
    by_cases h1 : ixOf F x n < n
    · rw [if_pos h1] at hj; exact ih j hj
    · rw [if_neg h1] at hj
      have he : ixOf F x n = n := by omega
      by_cases h2 : F n = x
      · rw [if_pos h2] at hj; exact ih j (by omega)
      · rw [if_neg h2] at hj
        by_cases e : j = n
        · subst e; exact h2
        · exact ih j (by omega)
theorem ixOf_at (F : Nat → Int) (x : Int) (n : Nat) (h : ixOf F x n < n) : F (ixOf F x n) = x := by
  induction n with
  | zero => omega
  | succ n ih =>
    unfold ixOf at h ⊢
    by_cases h1 : ixOf F x n < n
    · rw [if_pos h1]; exact ih h1
    · rw [if_neg h1] at h ⊢
      by_cases h2 : F n = x
      · rw [if_pos h2]; exact h2
      · rw [if_neg h2] at h; omega
theorem ixOf_is {F : Nat → Int} {x : Int} {n r : Nat} (hr : r < n) (he : F r = x) (hb : ∀ j, j < r → F j ≠ x) : ixOf F x n = r := by
  have h1 := ixOf_before F x n
  by_cases c : ixOf F x n < r
  · exact absurd (ixOf_at F x n (by omega)) (hb _ c)
  · by_cases c2 : r < ixOf F x n
    · exact absurd he (h1 r c2)
    · omega
theorem ixOf_none {F : Nat → Int} {x : Int} {n : Nat} (hb : ∀ j, j < n → F j ≠ x) : ixOf F x n = n := by
  have h1 := ixOf_le F x n
  by_cases c : ixOf F x n < n
  · exact absurd (ixOf_at F x n c) (hb _ c)
  · omega
theorem has_iff (F : Nat → Int) (n : Nat) (x : Int) : Has F n x ↔ ixOf F x n < n := by
  constructor
  · rintro ⟨j, hj, e⟩
    by_cases c : ixOf F x n < n
    · exact c
    · have := ixOf_le F x n
      exact absurd e (ixOf_before F x n j (by omega))
  · intro h
    exact ⟨_, h, ixOf_at F x n h⟩
theorem not_has {F : Nat → Int} {n : Nat} {x : Int} (h : ∀ j, j < n → F j ≠ x) : ¬ Has F n x := fun ⟨j, hj, e⟩ => h j hj e

/-- The first place of x, -1 where it isn't there. -/
def ixAns (F : Nat → Int) (x : Int) (n : Nat) : Int := if ixOf F x n < n then (ixOf F x n : Int) else -1
theorem ixAns_has (F : Nat → Int) (x : Int) (n : Nat) : 0 ≤ ixAns F x n ↔ Has F n x := by
  rw [has_iff]
  unfold ixAns
  split <;> omega
theorem ixAns_yes {F : Nat → Int} {x : Int} {n : Nat} (h : Has F n x) : ixAns F x n = (ixOf F x n : Int) ∧ ixOf F x n < n := by
  have := (has_iff F n x).1 h
  exact ⟨if_pos this, this⟩
theorem ixAns_no {F : Nat → Int} {x : Int} {n : Nat} (h : ¬ Has F n x) : ixAns F x n = -1 := if_neg (fun c => h ((has_iff F n x).2 c))

end Go.Proofs.Ytaalhmaacaahhaa
