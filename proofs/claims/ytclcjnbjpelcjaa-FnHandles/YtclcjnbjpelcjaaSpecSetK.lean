/-
  OWN TEXT: words for what SetRecord and DropRecord of the specification answer.
-/
import Derived.Test.YtclcjnbjpelcjaaOwn1
import Derived.Test.YtclcjnbjpelcjaaPlain4
namespace Go.Proofs.Ytclcjnbjpelcjaa
open Go.RowKit

/-- The lists of an answer, as a reader may read them. -/
def OutRows (w : World) (base : Nat) (v1 v2 : Value) (o : Out) : Prop :=
  SpecRow w base 106 3 v1 o.n (slotList o.A o.U o.V o.n) ∧ SpecRow w base 3 1 v2 o.m (intList o.F o.m)

theorem spec_value {w : World} {base e n c g q : Nat} {A : Nat → Int} {U : Nat → Bool} {V : Nat → Int} {u : Int} (h : w.ownsRow base e 3 (.slice (some ⟨g, 0, none⟩) n c) n (slotList A U V n)) :
    (w.setCell ⟨g, q * 3 + 2, none⟩ (.int .i64 u)).ownsRow base e 3 (.slice (some ⟨g, 0, none⟩) n c) n (slotList A U (put V q u) n) := by
  refine own_congr (own_store h (q * 3 + 2) _) fun j _ => ?_
  by_cases h2 : j = q * 3 + 2
  · subst h2; rw [if_pos rfl, slotCell_2, put_at]
  · rw [if_neg h2]
    unfold slotCell
    by_cases e2 : j % 3 = 2
    · rw [if_neg (by omega), if_neg (by omega), if_neg (by omega), if_neg (by omega), put_ne _ _ _ _ (by omega)]
    · by_cases e0 : j % 3 = 0
      · rw [if_pos e0, if_pos e0]
      · rw [if_neg e0, if_neg e0, if_pos (by omega), if_pos (by omega)]

theorem SpecRow.far {w : World} {b1 e1 s1 n1 c1 b2 e2 s2 n g : Nat} {v : Value} {x1 xs : List Value} (h : SpecRow w b2 e2 s2 v n xs) (h1 : w.ownsRow b1 e1 s1 (.slice (some ⟨g, 0, none⟩) n1 c1) n1 x1) (hne : e1 ≠ e2) (j : Nat) (u : Value) : SpecRow (w.setCell ⟨g, j, none⟩ u) b2 e2 s2 v n xs := by
  rcases h with h | ⟨h0, h2⟩
  · exact .inl h
  · exact .inr ⟨h0, ((Kept.refl w (fun b => b = g)).set (a := ⟨g, j, none⟩) rfl u).own h2 (fun b hb e => own_apart h1 h2 hne g rfl (e ▸ hb))⟩

end Go.Proofs.Ytclcjnbjpelcjaa
