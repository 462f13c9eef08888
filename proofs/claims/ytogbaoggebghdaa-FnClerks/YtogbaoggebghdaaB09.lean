/-
  OWN TEXT: PlainS, PlainCk.
-/
import Derived.Test.YtogbaoggebghdaaB01
import Derived.Test.YtogbaoggebghdaaB05
namespace Go.Proofs.Ytogbaoggebghdaa
open Go.RowKit

def Letter (b : Int) : Prop := (97 ≤ b ∧ b ≤ 122) ∨ (65 ≤ b ∧ b ≤ 90)
/-- The byte k of a text. -/
def byteAt (s : ByteArray) (k : Nat) : Int := if h : k < s.size then ((s[k]'h).toNat : Int) else 0
theorem byteAt_is (s : ByteArray) (k : Nat) (h : k < s.size) : ((s[k]'h).toNat : Int) = byteAt s k := by unfold byteAt; rw [dif_pos h]
instance (b : Int) : Decidable (Letter b) := by unfold Letter; exact inferInstance
def IsName (s : ByteArray) : Prop := 1 ≤ s.size ∧ s.size ≤ 12 ∧ ∀ k, k < s.size → Letter (byteAt s k)
instance (s : ByteArray) : Decidable (IsName s) := by unfold IsName; exact inferInstance
def In (x lo hi : Int) : Prop := lo ≤ x ∧ x ≤ hi
instance (x lo hi : Int) : Decidable (In x lo hi) := by unfold In; exact inferInstance
def GoodPairs (p : Pairs) (most : Nat) (a1 a2 b1 b2 : Int) : Prop := p.n ≤ most ∧ ∀ k, k < p.n → In (p.A k) a1 a2 ∧ In (p.B k) b1 b2
def GoodSail (s : Sail) : Prop :=
  In s.id 1 99 ∧ IsName s.fr ∧ IsName s.dst ∧ s.fr ≠ s.dst ∧ 0 ≤ s.dep ∧ s.dep < s.arr ∧ s.arr ≤ 10000 ∧ GoodPairs s.la 4 1 5000 100 500 ∧ GoodPairs s.ca 6 1 3 1 4 ∧ In s.most 0 500
def GoodTab (N : Nat) (S : Nat → Sail) : Prop := N ≤ 6 ∧ ∀ k, k < N → GoodSail (S k) ∧ (0 < k → (S (k - 1)).id < (S k).id)

theorem toList_inj {a b : ByteArray} (h : a.toList = b.toList) : a = b := by
  rw [ByteArray.toList_eq, ByteArray.toList_eq] at h
  obtain ⟨⟨x⟩⟩ := a
  obtain ⟨⟨y⟩⟩ := b
  simp at h
  rw [h]
theorem bytes_eq {a b : ByteArray} : (a.toList == b.toList) = true ↔ a = b := by
  rw [beq_iff_eq]
  exact ⟨toList_inj, fun h => by rw [h]⟩
theorem bytes_ne {a b : ByteArray} : (a.toList == b.toList) = false ↔ a ≠ b := by
  rw [beq_eq_false_iff_ne]
  exact ⟨fun h e => h (by rw [e]), fun h e => h (toList_inj e)⟩
def Unlike (a b : ByteArray) : Prop := IsName a ∧ IsName b ∧ a ≠ b
instance (a b : ByteArray) : Decidable (Unlike a b) := by unfold Unlike; exact inferInstance
theorem bool_eq {a b : Bool} {P : Prop} (h1 : a = true ↔ P) (h2 : b = true ↔ P) : a = b := by
  cases a <;> cases b <;> simp_all

end Go.Proofs.Ytogbaoggebghdaa

namespace Go.Proofs.Ytogbaoggebghdaa
open Go.RowKit Classical

/-- One text is below another. -/
def textLt (a b : ByteArray) : Prop := Op.bytesLess a.toList b.toList = true
def AnsZero (c : ClkD) : Prop := c.code = 0 ∧ c.anam = 0 ∧ c.price = 0 ∧ c.rwn = 0
def ClerkOk (S : Nat → ClkD) (i : Nat) : Prop := IsName (S i).nam ∧ (0 < i → textLt (S (i - 1)).nam (S i).nam) ∧ In (S i).num 1 1000000 ∧ ((S i).opn = true → AnsZero (S i))
def ClerksOk (N : Nat) (S : Nat → ClkD) : Prop := N ≤ 20 ∧ ∀ i, i < N → ClerkOk S i
noncomputable def clerksOk (N : Nat) (S : Nat → ClkD) : Bool := decide (ClerksOk N S)

end Go.Proofs.Ytogbaoggebghdaa
