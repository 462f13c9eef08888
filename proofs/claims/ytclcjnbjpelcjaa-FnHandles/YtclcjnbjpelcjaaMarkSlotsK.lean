/-
  OWN TEXT: words for marks in slots and for the blocks of an arena's lists.
-/
import Derived.Test.YtclcjnbjpelcjaaKit2
namespace Go.Proofs.Ytclcjnbjpelcjaa
open Go.RowKit

/-- What markSlotS lays into slot j. -/
def mkA (k0 : Int) (j : Nat) : Int := k0 + 3 * j
def mkU (k0 : Int) (j : Nat) : Bool := (k0 + 3 * j + 1) % 3 == 0
def mkV (k0 : Int) (j : Nat) : Int := k0 + 3 * j + 1 + 1

/-- f below t, g from t on. -/
def upon {α : Type} (t : Nat) (f g : Nat → α) (i : Nat) : α := if i < t then f i else g i
theorem upon_at {α : Type} (t : Nat) (f g : Nat → α) : upon (t + 1) f g t = f t := if_pos (by omega)
theorem upon_ne {α : Type} (t : Nat) (f g : Nat → α) (i : Nat) (h : i ≠ t) : upon (t + 1) f g i = upon t f g i := by
  unfold upon; by_cases h2 : i < t
  · rw [if_pos h2, if_pos (by omega)]
  · rw [if_neg h2, if_neg (by omega)]

theorem upon_lt {α : Type} {t i : Nat} (f g : Nat → α) (h : i < t) : upon t f g i = f i := if_pos h
theorem slotCell_congr {A A' : Nat → Int} {U U' : Nat → Bool} {V V' : Nat → Int} {j : Nat} (hA : A (j / 3) = A' (j / 3)) (hU : U (j / 3) = U' (j / 3)) (hV : V (j / 3) = V' (j / 3)) : slotCell A U V j = slotCell A' U' V' j := by
  unfold slotCell; rw [hA, hU, hV]

/-- A slot is stored into an owned row. -/
theorem own_slot {w : World} {base e g n cap N k : Nat} {A A' : Nat → Int} {U U' : Nat → Bool} {V V' : Nat → Int} (h : w.ownsRow base e 3 (.slice (some ⟨g, 0, none⟩) n cap) n ((List.range N).map (slotCell A U V)))
    (hA : ∀ i, i ≠ k → A' i = A i) (hU : ∀ i, i ≠ k → U' i = U i) (hV : ∀ i, i ≠ k → V' i = V i) :
    (((w.setCell ⟨g, k * 3, none⟩ (.int .i64 (A' k))).setCell ⟨g, k * 3 + 1, none⟩ (.bool (U' k))).setCell ⟨g, k * 3 + 2, none⟩ (.int .i64 (V' k))).ownsRow base e 3 (.slice (some ⟨g, 0, none⟩) n cap) n ((List.range N).map (slotCell A' U' V')) := by
  refine own_congr (own_store (own_store (own_store h (k * 3) _) (k * 3 + 1) _) (k * 3 + 2) _) fun j _ => ?_
  by_cases h2 : j = k * 3 + 2
  · subst h2; rw [if_pos rfl, slotCell_2]
  · rw [if_neg h2]
    by_cases h1 : j = k * 3 + 1
    · subst h1; rw [if_pos rfl, slotCell_1]
    · rw [if_neg h1]
      by_cases h0 : j = k * 3
      · subst h0; rw [if_pos rfl, slotCell_0]
      · rw [if_neg h0]
        have hk : j / 3 ≠ k := by omega
        unfold slotCell
        rw [hA _ hk, hU _ hk, hV _ hk]

/-- The block at whose head an address lies. -/
def headOf (ao : Option Addr) (b : Nat) : Prop := ∃ g, ao = some ⟨g, 0, none⟩ ∧ b = g
/-- One of two. -/
def headsOf (ao bo : Option Addr) (b : Nat) : Prop := headOf ao b ∨ headOf bo b
theorem head_own {ao : Option Addr} {n c b : Nat} : headOf ao b ↔ ∃ g, ao = some ⟨g, 0, none⟩ ∧ (Value.slice ao n c).ownBlock = some g ∧ b = g := by
  constructor
  · rintro ⟨g, rfl, rfl⟩; exact ⟨b, rfl, rfl, rfl⟩
  · rintro ⟨g, rfl, _, rfl⟩; exact ⟨b, rfl, rfl⟩
/-- The head of an owned row is one of its own blocks. -/
theorem head_ge {w : World} {base e size n c : Nat} {ao : Option Addr} {xs : List Value} (h : w.ownsRow base e size (.slice ao n c) n xs) : ∀ b, headOf ao b → base ≤ b ∧ b < w.heap.size := by
  rintro b ⟨g, rfl, rfl⟩
  exact h.lt b rfl
/-- Rows of different element types have different heads. -/
theorem heads_apart {w : World} {b1 e1 s1 n1 c1 b2 e2 s2 n2 c2 : Nat} {ao bo : Option Addr} {x1 x2 : List Value} (h1 : w.ownsRow b1 e1 s1 (.slice ao n1 c1) n1 x1) (h2 : w.ownsRow b2 e2 s2 (.slice bo n2 c2) n2 x2) (hne : e1 ≠ e2) : ∀ b, headOf ao b → ¬ headOf bo b := by
  rintro b ⟨g, rfl, rfl⟩ ⟨g', rfl, rfl⟩
  exact own_apart h1 h2 hne b rfl rfl
theorem own_head {v : Value} {ao : Option Addr} {n c g : Nat} (hv : v = .slice ao n c) {w : World} {base e size : Nat} {xs : List Value} (h : w.ownsRow base e size v n xs) (hg : v.ownBlock = some g) : headOf ao g := by
  subst hv
  rcases h.2 with ⟨h0, _⟩ | ⟨g', cap, cur, h0, _⟩
  · rw [h0] at hg; simp [Value.ownBlock] at hg
  · simp only [Value.slice.injEq, true_and] at h0
    obtain ⟨rfl, rfl⟩ := h0
    simp only [Value.ownBlock, Option.some.injEq] at hg
    exact ⟨g', rfl, hg.symm⟩

end Go.Proofs.Ytclcjnbjpelcjaa
