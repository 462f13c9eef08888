/-
  OWN TEXT: plain words: what a function that hands back an arena and a code answers.
-/
import Derived.Test.YtclcjnbjpelcjaaPlain2
namespace Go.Proofs.Ytclcjnbjpelcjaa

/-- An arena by its lists, and a code. -/
structure Out where
  n : Nat
  m : Nat
  A : Nat → Int
  U : Nat → Bool
  V : Nat → Int
  F : Nat → Int
  c : Int

/-- The zero arena and the code 1. -/
def badOut : Out := ⟨0, 0, fun _ => 0, fun _ => false, fun _ => 0, fun _ => 0, 1⟩
/-- o is what is answered: 'yes' where p, the zero arena where not. -/
def Answers (p : Prop) (yes o : Out) : Prop := (p → o = yes) ∧ (¬ p → o = badOut)
theorem answers_one {p q : Prop} {yes o o' : Out} (hpq : p ↔ q) (h : Answers p yes o) (h' : Answers q yes o') : o' = o := by
  by_cases hp : p
  · rw [h.1 hp, h'.1 (hpq.1 hp)]
  · rw [h.2 hp, h'.2 (fun e => hp (hpq.2 e))]

/-- f, with u at place q. -/
def put {α : Type} (f : Nat → α) (q : Nat) (u : α) (i : Nat) : α := if i = q then u else f i
theorem put_at {α : Type} (f : Nat → α) (q : Nat) (u : α) : put f q u q = u := if_pos rfl
theorem put_ne {α : Type} (f : Nat → α) (q : Nat) (u : α) (i : Nat) (h : i ≠ q) : put f q u i = f i := if_neg h

/-- What SetRecord answers at a good arena. -/
def setOut (n m : Nat) (A : Nat → Int) (U : Nat → Bool) (V F : Nat → Int) (x a u : Int) : Out :=
  ⟨n, m, A, U, if faultOf n A U x a = 0 then put V x.toNat u else V, F, faultOf n A U x a⟩

end Go.Proofs.Ytclcjnbjpelcjaa
