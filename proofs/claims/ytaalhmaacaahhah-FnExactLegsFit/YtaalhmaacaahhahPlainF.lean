/-
  OWN TEXT: where a sailing stands in a timetable, and legs that fit, in plain words.
-/
import Derived.Test.YtaalhmaacaahhahPlainS
namespace Go.Proofs.Ytaalhmaacaahhah
open Go.RowKit

/-- Where the first sailing with the Id x stands among the first n, n where there is none. -/
def findIx (S : Nat → Sail) (x : Int) : Nat → Nat
  | 0 => 0
  | n + 1 => if findIx S x n < n then findIx S x n else if (S n).id = x then n else n + 1
theorem findIx_le (S : Nat → Sail) (x : Int) (n : Nat) : findIx S x n ≤ n := by
  induction n with
  | zero => exact Nat.le_refl _
  | succ n ih => unfold findIx; split <;> (try split) <;> omega
theorem findIx_before (S : Nat → Sail) (x : Int) (n : Nat) : ∀ j, j < findIx S x n → (S j).id ≠ x := by
  induction n with
  | zero => intro j hj; unfold findIx at hj; omega
  | succ n ih =>
    intro j hj
    unfold findIx at hj
    have hl := findIx_le S x n
    split at hj
    · exact ih j hj
    · rename_i h
      split at hj
      · exact ih j (by omega)
      · rename_i h2
        by_cases e : j = n
        · subst e; exact h2
        · exact ih j (by omega)
theorem findIx_at (S : Nat → Sail) (x : Int) (n : Nat) (h : findIx S x n < n) : (S (findIx S x n)).id = x := by
  induction n with
  | zero => omega
  | succ n ih =>
    unfold findIx at h ⊢
    split
    · rename_i h1; exact ih h1
    · rename_i h1
      rw [if_neg h1] at h
      split
      · rename_i h2; exact h2
      · rename_i h2; rw [if_neg h2] at h; omega
/-- The one that is met first is it. -/
theorem findIx_is {S : Nat → Sail} {x : Int} {n r : Nat} (hr : r < n) (he : (S r).id = x) (hb : ∀ j, j < r → (S j).id ≠ x) : findIx S x n = r := by
  have h1 := findIx_before S x n
  by_cases c : findIx S x n < r
  · exact absurd (findIx_at S x n (by omega)) (hb _ c)
  · by_cases c2 : r < findIx S x n
    · exact absurd he (h1 r c2)
    · omega
theorem findIx_none {S : Nat → Sail} {x : Int} {n : Nat} (hb : ∀ j, j < n → (S j).id ≠ x) : findIx S x n = n := by
  have h1 := findIx_le S x n
  by_cases c : findIx S x n < n
  · exact absurd (findIx_at S x n c) (hb _ c)
  · omega

/-- Leg i of the legs G can be taken behind the one ahead. -/
def LegOk (N : Nat) (S : Nat → Sail) (G : Nat → Int) (i : Nat) : Prop :=
  findIx S (G i) N < N ∧ (0 < i → (S (findIx S (G (i - 1)) N)).dst = (S (findIx S (G i) N)).fr ∧ (S (findIx S (G (i - 1)) N)).arr ≤ (S (findIx S (G i) N)).dep)
/-- n legs fit. -/
def LegsOk (N : Nat) (S : Nat → Sail) (n : Nat) (G : Nat → Int) : Prop := 1 ≤ n ∧ n ≤ 3 ∧ ∀ i, i < n → LegOk N S G i

end Go.Proofs.Ytaalhmaacaahhah
