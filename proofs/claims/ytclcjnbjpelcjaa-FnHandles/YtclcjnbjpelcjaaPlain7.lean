/-
  OWN TEXT: plain words: what store.takeFree answers, and what store.put makes of it.
-/
import Derived.Test.YtclcjnbjpelcjaaKit5
namespace Go.Proofs.Ytclcjnbjpelcjaa
open Go.RowKit

/-- What takeFree leaves, the number, and whether there is one. -/
def takeOut (n m : Nat) (A : Nat → Int) (U : Nat → Bool) (V F : Nat → Int) : Out × Int × Bool :=
  if 0 < m then (⟨n, m - 1, A, U, V, F, 0⟩, F (m - 1), true)
  else if n = 20 then (⟨n, m, A, U, V, F, 0⟩, 0, false)
  else (⟨n + 1, m, put A n 0, put U n false, put V n 0, F, 0⟩, n, true)
theorem take_few {n m : Nat} {A : Nat → Int} {U : Nat → Bool} {V F : Nat → Int} (h : Good n m A U V F) : (takeOut n m A U V F).1.n ≤ 20 ∧ (takeOut n m A U V F).1.m ≤ 20 := by
  have := good_few' h
  unfold takeOut
  split
  · exact ⟨this.1, by show m - 1 ≤ 20; omega⟩
  · split
    · exact this
    · exact ⟨by show n + 1 ≤ 20; omega, this.2⟩
theorem put_of_take {n m : Nat} {A : Nat → Int} {U : Nat → Bool} {V F : Nat → Int} {u : Int} {t : Out} {x : Int} (h : Good n m A U V F) (ht : takeOut n m A U V F = (t, x, true)) : ∃ q : Nat, x = q ∧ q < t.n ∧ putOut n m A U V F u = (⟨t.n, t.m, t.A, put t.U q true, put t.V q u, t.F, 0⟩, (q : Int), t.A q) := by
  unfold takeOut at ht
  unfold putOut
  by_cases hm : 0 < m
  · rw [if_pos hm] at ht ⊢
    obtain ⟨q, hq, hqn⟩ := good_last h hm
    simp only [Prod.mk.injEq, and_true] at ht
    obtain ⟨rfl, rfl⟩ := ht
    exact ⟨q, hq, hqn, by rw [hq, Int.toNat_natCast]⟩
  · rw [if_neg hm] at ht ⊢
    by_cases h20 : n = 20
    · rw [if_pos h20] at ht; simp at ht
    · rw [if_neg h20] at ht ⊢
      simp only [Prod.mk.injEq, and_true] at ht
      obtain ⟨rfl, rfl⟩ := ht
      exact ⟨n, rfl, by show n < n + 1; omega, by simp only [put_put, put_at]⟩
theorem put_of_none {n m : Nat} {A : Nat → Int} {U : Nat → Bool} {V F : Nat → Int} {u : Int} {t : Out} {x : Int} (ht : takeOut n m A U V F = (t, x, false)) : putOut n m A U V F u = (⟨t.n, t.m, t.A, t.U, t.V, t.F, 2⟩, 0, 0) := by
  unfold takeOut at ht
  unfold putOut
  by_cases hm : 0 < m
  · rw [if_pos hm] at ht; simp at ht
  · rw [if_neg hm] at ht ⊢
    by_cases h20 : n = 20
    · rw [if_pos h20] at ht ⊢
      simp only [Prod.mk.injEq, and_true] at ht
      obtain ⟨rfl, rfl⟩ := ht
      rfl
    · rw [if_neg h20] at ht; simp at ht

/-- What a method that writes into the store sb leaves there. -/
def StoreDone (sb base : Nat) (ao bo : Option Addr) (o : Out) (w w' : World) : Prop :=
  ∃ ao' bo' d1 d2, w'.heap[sb]? = some (.cells #[.slice ao' o.n d1, .slice bo' o.m d2] 97 (0, 0)) ∧ w'.ownsRow base 184 3 (.slice ao' o.n d1) o.n (slotList o.A o.U o.V o.n) ∧ w'.ownsRow base 3 1 (.slice bo' o.m d2) o.m (intList o.F o.m) ∧ Kept w w' (fun b => b = sb ∨ headsOf ao bo b) ∧ ¬ headsOf ao' bo' sb ∧ (∀ b, headsOf ao' bo' b → b < w.heap.size → headsOf ao bo b)

end Go.Proofs.Ytclcjnbjpelcjaa
