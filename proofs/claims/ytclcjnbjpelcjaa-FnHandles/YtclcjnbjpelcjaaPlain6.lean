/-
  OWN TEXT: plain words: what PutRecord answers.
-/
import Derived.Test.YtclcjnbjpelcjaaPlain4
namespace Go.Proofs.Ytclcjnbjpelcjaa

/-- An answer with a handle. -/
def AnswersH (p : Prop) (yes o : Out × Int × Int) : Prop := (p → o = yes) ∧ (¬ p → o = (badOut, 0, 0))
theorem answersH_one {p q : Prop} {yes o o' : Out × Int × Int} (hpq : p ↔ q) (h : AnswersH p yes o) (h' : AnswersH q yes o') : o' = o := by
  by_cases hp : p
  · rw [h.1 hp, h'.1 (hpq.1 hp)]
  · rw [h.2 hp, h'.2 (fun e => hp (hpq.2 e))]
/-- What PutRecord answers at a good arena. -/
def putOut (n m : Nat) (A : Nat → Int) (U : Nat → Bool) (V F : Nat → Int) (u : Int) : Out × Int × Int :=
  if 0 < m then (⟨n, m - 1, A, put U (F (m - 1)).toNat true, put V (F (m - 1)).toNat u, F, 0⟩, F (m - 1), A (F (m - 1)).toNat)
  else if n = 20 then (⟨n, m, A, U, V, F, 2⟩, 0, 0)
  else (⟨n + 1, m, put A n 0, put U n true, put V n u, F, 0⟩, n, 0)
theorem good_few' {n m : Nat} {A : Nat → Int} {U : Nat → Bool} {V F : Nat → Int} (h : Good n m A U V F) : n ≤ 20 ∧ m ≤ 20 := by
  have := cntFree_le A U n
  have := h.2.2.2
  have := h.1
  omega
theorem good_last {n m : Nat} {A : Nat → Int} {U : Nat → Bool} {V F : Nat → Int} (h : Good n m A U V F) (hm : 0 < m) : ∃ q : Nat, F (m - 1) = q ∧ q < n := by
  have := (h.2.2.1 (m - 1) (by omega)).1
  obtain ⟨q, hq⟩ := Int.eq_ofNat_of_zero_le this.1
  have := this.2.1
  exact ⟨q, hq, by omega⟩
theorem put_size {n m : Nat} {A : Nat → Int} {U : Nat → Bool} {V F : Nat → Int} {u : Int} {o : Out × Int × Int} (h : AnswersH (Good n m A U V F) (putOut n m A U V F u) o) : o.1.n + o.1.m ≤ 1048576 := by
  by_cases hp : Good n m A U V F
  · have := good_few' hp
    rw [h.1 hp]
    unfold putOut
    split
    · show n + (m - 1) ≤ 1048576; omega
    · split
      · show n + m ≤ 1048576; omega
      · show n + 1 + m ≤ 1048576; omega
  · rw [h.2 hp]; exact Nat.zero_le _

end Go.Proofs.Ytclcjnbjpelcjaa
