/-
  OWN TEXT: PlainS, SpecIn3.
-/
import Derived.Test.YthcjfoaejomfaaaB04
import Derived.Test.YthcjfoaejomfaaaB09
namespace Go.Proofs.Ythcjfoaejomfaaa
open Go.RowKit

def Letter (b : Int) : Prop := (97 ≤ b ∧ b ≤ 122) ∨ (65 ≤ b ∧ b ≤ 90)
/-- The byte k of a text. -/
def byteAt (s : ByteArray) (k : Nat) : Int := if h : k < s.size then ((s[k]'h).toNat : Int) else 0
theorem byteAt_is (s : ByteArray) (k : Nat) (h : k < s.size) : ((s[k]'h).toNat : Int) = byteAt s k := by unfold byteAt; rw [dif_pos h]
instance (b : Int) : Decidable (Letter b) := by unfold Letter; exact inferInstance
def IsName (s : ByteArray) : Prop := 1 ≤ s.size ∧ s.size ≤ 12 ∧ ∀ k, k < s.size → Letter (byteAt s k)
instance (s : ByteArray) : Decidable (IsName s) := by unfold IsName; exact inferInstance
def In (x lo hi : Int) : Prop := lo ≤ x ∧ x ≤ hi
instance (x lo hi : Int) : Decidable (In x lo hi) := by unfold In; exact inferInstance
def GoodPairs (p : Pairs) (most : Nat) (a1 a2 b1 b2 : Int) : Prop := p.n ≤ most ∧ ∀ k, k < p.n → In (p.A k) a1 a2 ∧ In (p.B k) b1 b2
def GoodSail (s : Sail) : Prop :=
  In s.id 1 99 ∧ IsName s.fr ∧ IsName s.dst ∧ s.fr ≠ s.dst ∧ 0 ≤ s.dep ∧ s.dep < s.arr ∧ s.arr ≤ 10000 ∧ GoodPairs s.la 4 1 5000 100 500 ∧ GoodPairs s.ca 6 1 3 1 4 ∧ In s.most 0 500
def GoodTab (N : Nat) (S : Nat → Sail) : Prop := N ≤ 6 ∧ ∀ k, k < N → GoodSail (S k) ∧ (0 < k → (S (k - 1)).id < (S k).id)

theorem toList_inj {a b : ByteArray} (h : a.toList = b.toList) : a = b := by
  rw [ByteArray.toList_eq, ByteArray.toList_eq] at h
  obtain ⟨⟨x⟩⟩ := a
  obtain ⟨⟨y⟩⟩ := b
  simp at h
  rw [h]
theorem bytes_eq {a b : ByteArray} : (a.toList == b.toList) = true ↔ a = b := by
  rw [beq_iff_eq]
  exact ⟨toList_inj, fun h => by rw [h]⟩
theorem bytes_ne {a b : ByteArray} : (a.toList == b.toList) = false ↔ a ≠ b := by
  rw [beq_eq_false_iff_ne]
  exact ⟨fun h e => h (by rw [e]), fun h e => h (toList_inj e)⟩
def Unlike (a b : ByteArray) : Prop := IsName a ∧ IsName b ∧ a ≠ b
instance (a b : ByteArray) : Decidable (Unlike a b) := by unfold Unlike; exact inferInstance
theorem bool_eq {a b : Bool} {P : Prop} (h1 : a = true ↔ P) (h2 : b = true ↔ P) : a = b := by
  cases a <;> cases b <;> simp_all

end Go.Proofs.Ythcjfoaejomfaaa

namespace Go.Proofs.Ythcjfoaejomfaaa
open Go.RowKit

theorem l1In_is (x lo hi : Int) (w : World) :
    Calls Try.prog 20 #[.int .i64 x, .int .i64 lo, .int .i64 hi] w fun e w' => e = .returned (.bool (decide (In x lo hi))) ∧ w' = w := by
  by_cases h : In x lo hi
  · rw [decide_eq_true h]; exact l1In_yes x lo hi w h.1 h.2
  · rw [decide_eq_false h]; exact l1In_no x lo hi w h

end Go.Proofs.Ythcjfoaejomfaaa
