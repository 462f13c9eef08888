/-
  OWN TEXT: fares in plain words; no theorem of the program.
-/
import Derived.Test.YtcioofnmhfehaaaPlainS
namespace Go.Proofs.Ytcioofnmhfehaaa
open Go.RowKit

structure Party where
  pe : Int
  len : Int
  hei : Int
  cl : Int
  all : Bool
  be : Int
/-- The party as a value. -/
def Party.v (p : Party) : Value := .agg #[.int .i64 p.pe, .int .i64 p.len, .int .i64 p.hei, .int .i64 p.cl, .bool p.all, .int .i64 p.be]
def CarOk (l h : Int) : Prop := In l 1 2000 ∧ In h 1 500
instance (l h : Int) : Decidable (CarOk l h) := by unfold CarOk; exact inferInstance
def CabOk (cl : Int) (all : Bool) (be : Int) : Prop := In cl 1 3 ∧ ((all = true ∧ be = 0) ∨ (all = false ∧ In be 1 4))
instance (cl : Int) (all : Bool) (be : Int) : Decidable (CabOk cl all be) := by unfold CabOk; exact inferInstance
def PartyOk (p : Party) : Prop := In p.pe 1 20 ∧ ((p.len = 0 ∧ p.hei = 0) ∨ CarOk p.len p.hei) ∧ ((p.cl = 0 ∧ p.all = false ∧ p.be = 0) ∨ CabOk p.cl p.all p.be)
instance (p : Party) : Decidable (PartyOk p) := by unfold PartyOk; exact inferInstance
def carFare (l h : Int) : Int := if CarOk l h then (if 600 < l then 90 + 25 * ((l - 600 + 99) / 100) else if 450 < l then 90 else 60) + (if 220 < h then 30 else 0) else 0
def berthFare (cl : Int) : Int := if cl = 1 then 30 else if cl = 2 then 50 else 80
def cabinFare (cl : Int) (all : Bool) (be : Int) : Int := if CabOk cl all be then (if all then 3 * berthFare cl else berthFare cl * be) else 0
/-- A twentieth less for many, a tenth less for three legs. -/
def lessOf (pe legs n : Int) : Int :=
  let a := if 8 ≤ pe then n - n / 20 else n
  if legs = 3 then a - a / 10 else a
def priceOf (p : Party) (legs : Int) : Int := lessOf p.pe legs (legs * (40 * p.pe + carFare p.len p.hei + cabinFare p.cl p.all p.be))
def PriceOk (p : Party) (legs : Int) : Prop := PartyOk p ∧ In legs 1 3
instance (p : Party) (legs : Int) : Decidable (PriceOk p legs) := by unfold PriceOk; exact inferInstance
def refundOf (price left : Int) : Int := if In price 0 1000000 ∧ In left (-10000) 10000 then (if 100 ≤ left then price else if 20 ≤ left then price / 2 else 0) else 0
theorem carFare_bounds (l h : Int) : 0 ≤ carFare l h ∧ carFare l h ≤ 500 := by
  unfold carFare
  by_cases c : CarOk l h
  · have h1 := c.1
    unfold In at h1
    rw [if_pos c]
    repeat' split
    all_goals omega
  · rw [if_neg c]; omega
theorem cabinFare_bounds (cl : Int) (all : Bool) (be : Int) : 0 ≤ cabinFare cl all be ∧ cabinFare cl all be ≤ 320 := by
  have hb : 30 ≤ berthFare cl ∧ berthFare cl ≤ 80 := by unfold berthFare; repeat' split <;> omega
  unfold cabinFare
  by_cases c : CabOk cl all be
  · rw [if_pos c]
    cases all with
    | true => simp; omega
    | false =>
      rcases c.2 with ⟨h, _⟩ | ⟨_, h⟩
      · cases h
      · unfold In at h
        have h4 : be = 1 ∨ be = 2 ∨ be = 3 ∨ be = 4 := by omega
        rcases h4 with rfl | rfl | rfl | rfl <;> simp <;> omega
  · rw [if_neg c]; omega

end Go.Proofs.Ytcioofnmhfehaaa
