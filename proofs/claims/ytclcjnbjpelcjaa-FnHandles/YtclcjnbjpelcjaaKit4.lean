/-
  OWN TEXT: small words for walks, fourth part: rows that are cut at their end; rows that are empty with room.
-/
import Derived.Test.YtclcjnbjpelcjaaKit3
import Derived.Test.YtclcjnbjpelcjaaMarkSlotsK
namespace Go.Proofs.Ytclcjnbjpelcjaa
open Go.RowKit

/-- An owned row of numbers, its last one cut off. -/
theorem own_cut {w : World} {base e n c : Nat} {ao : Option Addr} {F : Nat → Int} (h : w.ownsRow base e 1 (.slice ao n c) n (intList F n)) (hn : 0 < n) : w.ownsRow base e 1 (.slice ao (n - 1) c) (n - 1) (intList F (n - 1)) := by
  rcases h.2 with ⟨_, h0⟩ | ⟨g, cap, cur, hv, hb, hg, h1, h2, h3, h4⟩
  · omega
  · simp only [Value.slice.injEq, true_and] at hv
    obtain ⟨rfl, rfl⟩ := hv
    refine ⟨by simp [intList], .inr ⟨g, c, cur, rfl, hb, hg, by omega, h2, h3, ?_⟩⟩
    have e : cur.toList.take ((n - 1) * 1) = (cur.toList.take (n * 1)).take (n - 1) := by rw [List.take_take]; congr 1; omega
    rw [e, h4]
    unfold intList
    rw [← List.map_take, List.take_range]
    congr 2
    omega

/-- A slice without elements and without room, or an owned row. -/
def LooseRow (w : World) (base e size : Nat) (v : Value) (n : Nat) (xs : List Value) : Prop := (n = 0 ∧ ∃ ao, v = .slice ao 0 0) ∨ w.ownsRow base e size v n xs
theorem LooseRow.of_spec {w : World} {base e size n : Nat} {v : Value} {xs : List Value} (h : SpecRow w base e size v n xs) : LooseRow w base e size v n xs := by
  rcases h with h | ⟨_, h⟩
  · exact .inl h
  · exact .inr h
theorem LooseRow.kept {w w' : World} {S : Nat → Prop} {base e size n : Nat} {v : Value} {xs : List Value} (h : LooseRow w base e size v n xs) (hk : Kept w w' S) (hs : ∀ b, v.ownBlock = some b → ¬ S b) : LooseRow w' base e size v n xs := by
  rcases h with h | h2
  · exact .inl h
  · exact .inr (hk.own h2 hs)
theorem LooseRow.below {w w' : World} {base e size n : Nat} {v : Value} {xs : List Value} (h : LooseRow w base e size v n xs) (hb : Below w.heap.size w w') : LooseRow w' base e size v n xs := h.kept (S := fun _ => False) (Kept.of_below hb) (fun _ _ h => h)
theorem LooseRow.alloc {w : World} {base e size n : Nat} {v : Value} {xs : List Value} (h : LooseRow w base e size v n xs) (o : Obj) : LooseRow (w.alloc o) base e size v n xs := h.below (push (Below.refl _ _) o)
theorem LooseRow.drew {w : World} {base e size n : Nat} {v : Value} {xs : List Value} (h : LooseRow w base e size v n xs) : LooseRow w.drew base e size v n xs := h
theorem LooseRow.set {w : World} {base e size n : Nat} {v : Value} {xs : List Value} (h : LooseRow w base e size v n xs) {a : Addr} (ha : a.block < base) (u : Value) : LooseRow (w.setCell a u) base e size v n xs := by
  rcases h with h | h2
  · exact .inl h
  · exact .inr (ownsRow_setCell_below h2 ha u)
theorem LooseRow.base {w : World} {base base' e size n : Nat} {v : Value} {xs : List Value} (h : LooseRow w base e size v n xs) (hb : base' ≤ base) : LooseRow w base' e size v n xs := by
  rcases h with h | h2
  · exact .inl h
  · exact .inr (own_base h2 hb)
theorem LooseRow.slots {w : World} {base e n c : Nat} {ao : Option Addr} {A : Nat → Int} {U : Nat → Bool} {V : Nat → Int} (h : LooseRow w base e 3 (.slice ao n c) n (slotList A U V n)) : SlotsAt w ao n A U V := by
  rcases h with ⟨h, _⟩ | h2
  · intro k hk; omega
  · exact own_slots h2
theorem LooseRow.ints {w : World} {base e n c : Nat} {ao : Option Addr} {F : Nat → Int} (h : LooseRow w base e 1 (.slice ao n c) n (intList F n)) : IntsAt w ao n F := by
  rcases h with ⟨h, _⟩ | h2
  · intro k hk; omega
  · exact own_ints h2
/-- Where v has room its block lies below B. -/
def RowUnder (v : Value) (_n B : Nat) : Prop := (∃ ao, v = .slice ao 0 0) ∨ ∀ b, v.ownBlock = some b → b < B
theorem LooseRow.lt {w : World} {base e size n : Nat} {v : Value} {xs : List Value} (h : LooseRow w base e size v n xs) : RowUnder v n w.heap.size := by
  rcases h with ⟨_, h⟩ | h2
  · exact .inl h
  · exact .inr (fun b hb => (h2.lt b hb).2)
theorem LooseRow.stays {w w' : World} {S : Nat → Prop} {base e size n B : Nat} {v : Value} {xs : List Value} (h : LooseRow w base e size v n xs) (hk : Kept w w' S) (hl : RowUnder v n B) (hs : ∀ b, S b → B ≤ b) : LooseRow w' base e size v n xs := by
  rcases h with h | h2
  · exact .inl h
  · rcases hl with ⟨ao, rfl⟩ | hl
    · obtain ⟨ao', c', e', _⟩ := own_form h2
      simp only [Value.slice.injEq] at e'
      exact .inl ⟨e'.2.1.symm, ao, rfl⟩
    · exact .inr (hk.own h2 (fun b hb s => by have := hl b hb; have := hs b s; omega))
/-- A store into another row leaves it. -/
theorem LooseRow.far {w : World} {b1 e1 s1 n1 c1 b2 e2 s2 n g : Nat} {v : Value} {x1 xs : List Value} (h : LooseRow w b2 e2 s2 v n xs) (h1 : w.ownsRow b1 e1 s1 (.slice (some ⟨g, 0, none⟩) n1 c1) n1 x1) (hne : e1 ≠ e2) (j : Nat) (u : Value) : LooseRow (w.setCell ⟨g, j, none⟩ u) b2 e2 s2 v n xs := by
  rcases h with h | h2
  · exact .inl h
  · exact .inr (((Kept.refl w (fun b => b = g)).set (a := ⟨g, j, none⟩) rfl u).own h2 (fun b hb e => own_apart h1 h2 hne g rfl (e ▸ hb)))

end Go.Proofs.Ytclcjnbjpelcjaa
