/-
  OWN TEXT: plain words: what DropRecord answers.
-/
import Derived.Test.YtclcjnbjpelcjaaPlain4
namespace Go.Proofs.Ytclcjnbjpelcjaa

/-- What DropRecord answers at a good arena. -/
def dropOut (n m : Nat) (A : Nat → Int) (U : Nat → Bool) (V F : Nat → Int) (x a : Int) : Out :=
  if faultOf n A U x a = 0 then
    (if a + 1 < 9 then ⟨n, m + 1, put A x.toNat (a + 1), put U x.toNat false, put V x.toNat 0, put F m x, 0⟩
     else ⟨n, m, put A x.toNat (a + 1), put U x.toNat false, put V x.toNat 0, F, 0⟩)
  else ⟨n, m, A, U, V, F, faultOf n A U x a⟩
theorem good_few {n m : Nat} {A : Nat → Int} {U : Nat → Bool} {V F : Nat → Int} (h : Good n m A U V F) : n ≤ 20 ∧ m ≤ 20 := by
  have := cntFree_le A U n
  have := h.2.2.2
  have := h.1
  omega
theorem good_age {n m : Nat} {A : Nat → Int} {U : Nat → Bool} {V F : Nat → Int} (h : Good n m A U V F) {q : Nat} (hq : q < n) : 0 ≤ A q ∧ A q ≤ 9 := okSlot_le (h.2.1 q hq)
theorem drop_size {n m : Nat} {A : Nat → Int} {U : Nat → Bool} {V F : Nat → Int} {x a : Int} {o : Out} (_ : n + m ≤ 1048576) (h : Answers (Good n m A U V F) (dropOut n m A U V F x a) o) : o.n + o.m ≤ 1048576 := by
  by_cases hp : Good n m A U V F
  · have := good_few hp
    rw [h.1 hp]
    unfold dropOut
    split
    · split
      · show n + (m + 1) ≤ 1048576; omega
      · show n + m ≤ 1048576; omega
    · show n + m ≤ 1048576; omega
  · rw [h.2 hp]; exact Nat.zero_le _

end Go.Proofs.Ytclcjnbjpelcjaa
