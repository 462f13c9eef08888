/-
  OWN TEXT: PlainFa, KitG, LParty, LPartyEq.
-/
import Derived.BigQuiet
import Derived.Test.YtlelckbeoclhbaaGreatRows
import Derived.Deep.DeepCutAuto
import Derived.Test.YtlelckbeoclhbaaGreatB06
import Derived.Test.YtlelckbeoclhbaaGreatB00
set_option maxHeartbeats 12800000
set_option maxRecDepth 100000
namespace Go.Proofs.YtlelckbeoclhbaaGreat
open Go.RowKit
structure Party where
  pe : Int
  len : Int
  hei : Int
  cl : Int
  all : Bool
  be : Int
def Party.v (p : Party) : Value := .agg #[.int .i64 p.pe, .int .i64 p.len, .int .i64 p.hei, .int .i64 p.cl, .bool p.all, .int .i64 p.be]
def CarOk (l h : Int) : Prop := In l 1 2000 ∧ In h 1 500
instance (l h : Int) : Decidable (CarOk l h) := by unfold CarOk; exact inferInstance
def CabOk (cl : Int) (all : Bool) (be : Int) : Prop := In cl 1 3 ∧ ((all = true ∧ be = 0) ∨ (all = false ∧ In be 1 4))
instance (cl : Int) (all : Bool) (be : Int) : Decidable (CabOk cl all be) := by unfold CabOk; exact inferInstance
def PartyOk (p : Party) : Prop := In p.pe 1 20 ∧ ((p.len = 0 ∧ p.hei = 0) ∨ CarOk p.len p.hei) ∧ ((p.cl = 0 ∧ p.all = false ∧ p.be = 0) ∨ CabOk p.cl p.all p.be)
instance (p : Party) : Decidable (PartyOk p) := by unfold PartyOk; exact inferInstance
def carFare (l h : Int) : Int := if CarOk l h then (if 600 < l then 90 + 25 * ((l - 600 + 99) / 100) else if 450 < l then 90 else 60) + (if 220 < h then 30 else 0) else 0
def berthFare (cl : Int) : Int := if cl = 1 then 30 else if cl = 2 then 50 else 80
def cabinFare (cl : Int) (all : Bool) (be : Int) : Int := if CabOk cl all be then (if all then 3 * berthFare cl else berthFare cl * be) else 0
def lessOf (pe legs n : Int) : Int :=
  let a := if 8 ≤ pe then n - n / 20 else n
  if legs = 3 then a - a / 10 else a
def priceOf (p : Party) (legs : Int) : Int := lessOf p.pe legs (legs * (40 * p.pe + carFare p.len p.hei + cabinFare p.cl p.all p.be))
def PriceOk (p : Party) (legs : Int) : Prop := PartyOk p ∧ In legs 1 3
instance (p : Party) (legs : Int) : Decidable (PriceOk p legs) := by unfold PriceOk; exact inferInstance
def refundOf (price left : Int) : Int := if In price 0 1000000 ∧ In left (-10000) 10000 then (if 100 ≤ left then price else if 20 ≤ left then price / 2 else 0) else 0
theorem carFare_bounds (l h : Int) : 0 ≤ carFare l h ∧ carFare l h ≤ 500 := by
  unfold carFare
  by_cases c : CarOk l h
  · have h1 := c.1
    unfold In at h1
    rw [if_pos c]
    repeat' split
    all_goals omega
  · rw [if_neg c]; omega
theorem cabinFare_bounds (cl : Int) (all : Bool) (be : Int) : 0 ≤ cabinFare cl all be ∧ cabinFare cl all be ≤ 320 := by
  have hb : 30 ≤ berthFare cl ∧ berthFare cl ≤ 80 := by unfold berthFare; repeat' split <;> omega
  unfold cabinFare
  by_cases c : CabOk cl all be
  · rw [if_pos c]
    cases all with
    | true => simp; omega
    | false =>
      rcases c.2 with ⟨h, _⟩ | ⟨_, h⟩
      · cases h
      · unfold In at h
        have h4 : be = 1 ∨ be = 2 ∨ be = 3 ∨ be = 4 := by omega
        rcases h4 with rfl | rfl | rfl | rfl <;> simp <;> omega
  · rw [if_neg c]; omega
end Go.Proofs.YtlelckbeoclhbaaGreat

namespace Go.Proofs.YtlelckbeoclhbaaGreat
open Go.RowKit
structure Grown (W : World) where
  val : World
  bel : Below W.heap.size W val
instance (W : World) : Nonempty (Grown W) := ⟨⟨W, Below.refl _ _⟩⟩
theorem wp_region_grow {P : Program} {id : Nat} {Q : Exit → Act → World → Prop} {a : Act} {w : World} {l : List Oper} (hm : P.follows .mixedOrders = true) (hB : Region.lexB .any l.toArray = true)
    (h : wpQuiet P l.toArray (fun w' => ∃ g : Grown w, w' = g.val) (fun a' => ∀ w', (∃ g : Grown w, w' = g.val) → Q .normal a' w') l a) : (Code.region id l.toArray true).wp P Q a w :=
  wp_region_quiet (C := fun w' => ∃ g : Grown w, w' = g.val) hm hB ⟨⟨_, (Below.refl _ w).drew⟩, rfl⟩ (by simpa using h)
theorem grown_call {P : Program} {f : FuncId} {args : Array Value} {W : World} {g : Grown W} {v : Value}
    (h : Calls P f args g.val fun e w' => e = .returned v ∧ Below g.val.heap.size g.val w') : Calls P f args g.val fun e w'' => e = .returned v ∧ ∃ g' : Grown W, w'' = g'.val :=
  h.mono fun _ w' ⟨he, hb⟩ => ⟨he, ⟨w', after g.bel hb⟩, rfl⟩
end Go.Proofs.YtlelckbeoclhbaaGreat

namespace Go.Proofs.YtlelckbeoclhbaaGreat
open Go.RowKit
theorem toParty_any (pe len hei cl : Int) (all : Bool) (be : Int) (w : World) :
    Calls Tryz.prog 105 #[.agg #[.int .i64 pe, .int .i64 len, .int .i64 hei, .int .i64 cl, .bool all, .int .i64 be]] w fun e w' => e = .returned (.agg #[.int .i64 pe, .int .i64 len, .int .i64 hei, .int .i64 cl, .bool all, .int .i64 be]) ∧ Below w.heap.size w w' := by
  go_enter Tryz.func105, Tryz.ntmps105
  go_wp2
  exact bodyPost_ret (v := .agg #[.int .i64 pe, .int .i64 len, .int .i64 hei, .int .i64 cl, .bool all, .int .i64 be]) (by simp [results, Tryz.results105, go_sem]) rfl ⟨rfl, push (push (push (Below.refl _ _) _) _) _⟩
end Go.Proofs.YtlelckbeoclhbaaGreat

namespace Go.Proofs.YtlelckbeoclhbaaGreat
open Go.RowKit
theorem eqParty_same (pe len hei cl : Int) (all : Bool) (be : Int) (w : World) :
    Calls Tryz.prog 126 #[.agg #[.int .i64 pe, .int .i64 len, .int .i64 hei, .int .i64 cl, .bool all, .int .i64 be], .agg #[.int .i64 pe, .int .i64 len, .int .i64 hei, .int .i64 cl, .bool all, .int .i64 be]] w fun e w' => e = .returned (.bool true) ∧ Below w.heap.size w w' := by
  go_enter Tryz.func126, Tryz.ntmps126
  go_wp2
  go_ret
  exact ⟨rfl, push (push (Below.refl _ _) _) _⟩
end Go.Proofs.YtlelckbeoclhbaaGreat
