/-
  OWN TEXT: PlainS, PlainFa.
-/
import Derived.Test.YtfbooamjddnagaaDoorB02
namespace Go.Proofs.YtfbooamjddnagaaDoor
open Go.RowKit

def Letter (b : Int) : Prop := (97 ≤ b ∧ b ≤ 122) ∨ (65 ≤ b ∧ b ≤ 90)
/-- The byte k of a text. -/
def byteAt (s : ByteArray) (k : Nat) : Int := if h : k < s.size then ((s[k]'h).toNat : Int) else 0
theorem byteAt_is (s : ByteArray) (k : Nat) (h : k < s.size) : ((s[k]'h).toNat : Int) = byteAt s k := by unfold byteAt; rw [dif_pos h]
instance (b : Int) : Decidable (Letter b) := by unfold Letter; exact inferInstance
def IsName (s : ByteArray) : Prop := 1 ≤ s.size ∧ s.size ≤ 12 ∧ ∀ k, k < s.size → Letter (byteAt s k)
instance (s : ByteArray) : Decidable (IsName s) := by unfold IsName; exact inferInstance
def In (x lo hi : Int) : Prop := lo ≤ x ∧ x ≤ hi
instance (x lo hi : Int) : Decidable (In x lo hi) := by unfold In; exact inferInstance
def GoodPairs (p : Pairs) (most : Nat) (a1 a2 b1 b2 : Int) : Prop := p.n ≤ most ∧ ∀ k, k < p.n → In (p.A k) a1 a2 ∧ In (p.B k) b1 b2
def GoodSail (s : Sail) : Prop :=
  In s.id 1 99 ∧ IsName s.fr ∧ IsName s.dst ∧ s.fr ≠ s.dst ∧ 0 ≤ s.dep ∧ s.dep < s.arr ∧ s.arr ≤ 10000 ∧ GoodPairs s.la 4 1 5000 100 500 ∧ GoodPairs s.ca 6 1 3 1 4 ∧ In s.most 0 500
def GoodTab (N : Nat) (S : Nat → Sail) : Prop := N ≤ 6 ∧ ∀ k, k < N → GoodSail (S k) ∧ (0 < k → (S (k - 1)).id < (S k).id)

theorem toList_inj {a b : ByteArray} (h : a.toList = b.toList) : a = b := by
  rw [ByteArray.toList_eq, ByteArray.toList_eq] at h
  obtain ⟨⟨x⟩⟩ := a
  obtain ⟨⟨y⟩⟩ := b
  simp at h
  rw [h]
theorem bytes_eq {a b : ByteArray} : (a.toList == b.toList) = true ↔ a = b := by
  rw [beq_iff_eq]
  exact ⟨toList_inj, fun h => by rw [h]⟩
theorem bytes_ne {a b : ByteArray} : (a.toList == b.toList) = false ↔ a ≠ b := by
  rw [beq_eq_false_iff_ne]
  exact ⟨fun h e => h (by rw [e]), fun h e => h (toList_inj e)⟩
def Unlike (a b : ByteArray) : Prop := IsName a ∧ IsName b ∧ a ≠ b
instance (a b : ByteArray) : Decidable (Unlike a b) := by unfold Unlike; exact inferInstance
theorem bool_eq {a b : Bool} {P : Prop} (h1 : a = true ↔ P) (h2 : b = true ↔ P) : a = b := by
  cases a <;> cases b <;> simp_all

end Go.Proofs.YtfbooamjddnagaaDoor

namespace Go.Proofs.YtfbooamjddnagaaDoor
open Go.RowKit

structure Party where
  pe : Int
  len : Int
  hei : Int
  cl : Int
  all : Bool
  be : Int
/-- The party as a value. -/
def Party.v (p : Party) : Value := .agg #[.int .i64 p.pe, .int .i64 p.len, .int .i64 p.hei, .int .i64 p.cl, .bool p.all, .int .i64 p.be]
def CarOk (l h : Int) : Prop := In l 1 2000 ∧ In h 1 500
instance (l h : Int) : Decidable (CarOk l h) := by unfold CarOk; exact inferInstance
def CabOk (cl : Int) (all : Bool) (be : Int) : Prop := In cl 1 3 ∧ ((all = true ∧ be = 0) ∨ (all = false ∧ In be 1 4))
instance (cl : Int) (all : Bool) (be : Int) : Decidable (CabOk cl all be) := by unfold CabOk; exact inferInstance
def PartyOk (p : Party) : Prop := In p.pe 1 20 ∧ ((p.len = 0 ∧ p.hei = 0) ∨ CarOk p.len p.hei) ∧ ((p.cl = 0 ∧ p.all = false ∧ p.be = 0) ∨ CabOk p.cl p.all p.be)
instance (p : Party) : Decidable (PartyOk p) := by unfold PartyOk; exact inferInstance
def carFare (l h : Int) : Int := if CarOk l h then (if 600 < l then 90 + 25 * ((l - 600 + 99) / 100) else if 450 < l then 90 else 60) + (if 220 < h then 30 else 0) else 0
def berthFare (cl : Int) : Int := if cl = 1 then 30 else if cl = 2 then 50 else 80
def cabinFare (cl : Int) (all : Bool) (be : Int) : Int := if CabOk cl all be then (if all then 3 * berthFare cl else berthFare cl * be) else 0
/-- A twentieth less for many, a tenth less for three legs. -/
def lessOf (pe legs n : Int) : Int :=
  let a := if 8 ≤ pe then n - n / 20 else n
  if legs = 3 then a - a / 10 else a
def priceOf (p : Party) (legs : Int) : Int := lessOf p.pe legs (legs * (40 * p.pe + carFare p.len p.hei + cabinFare p.cl p.all p.be))
def PriceOk (p : Party) (legs : Int) : Prop := PartyOk p ∧ In legs 1 3
instance (p : Party) (legs : Int) : Decidable (PriceOk p legs) := by unfold PriceOk; exact inferInstance
def refundOf (price left : Int) : Int := if In price 0 1000000 ∧ In left (-10000) 10000 then (if 100 ≤ left then price else if 20 ≤ left then price / 2 else 0) else 0
theorem carFare_bounds (l h : Int) : 0 ≤ carFare l h ∧ carFare l h ≤ 500 := by
  unfold carFare
  by_cases c : CarOk l h
  · have h1 := c.1
    unfold In at h1
    rw [if_pos c]
    repeat' split
    all_goals omega
  · rw [if_neg c]; omega
theorem cabinFare_bounds (cl : Int) (all : Bool) (be : Int) : 0 ≤ cabinFare cl all be ∧ cabinFare cl all be ≤ 320 := by
  have hb : 30 ≤ berthFare cl ∧ berthFare cl ≤ 80 := by unfold berthFare; repeat' split <;> omega
  unfold cabinFare
  by_cases c : CabOk cl all be
  · rw [if_pos c]
    cases all with
    | true => simp; omega
    | false =>
      rcases c.2 with ⟨h, _⟩ | ⟨_, h⟩
      · cases h
      · unfold In at h
        have h4 : be = 1 ∨ be = 2 ∨ be = 3 ∨ be = 4 := by omega
        rcases h4 with rfl | rfl | rfl | rfl <;> simp <;> omega
  · rw [if_neg c]; omega

end Go.Proofs.YtfbooamjddnagaaDoor
