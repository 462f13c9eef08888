/-
  OWN TEXT: PlainOp, FormsI.
-/
import Derived.Test.YtfbooamjddnagaaDoorRows
import Derived.Test.YtfbooamjddnagaaDoorB07
import Derived.Test.YtfbooamjddnagaaDoorB05
import Derived.Test.YtfbooamjddnagaaDoorB00
namespace Go.Proofs.YtfbooamjddnagaaDoor
open Go.RowKit

def OwnerOk (k : Int) (s : ByteArray) : Prop := if k = 2 ∨ k = 3 ∨ k = 7 then IsName s else s.size = 0
instance (k : Int) (s : ByteArray) : Decidable (OwnerOk k s) := by unfold OwnerOk; exact inferInstance
def NameOk (k n : Int) : Prop := if In k 4 8 then In n 1 30 else n = 0
instance (k n : Int) : Decidable (NameOk k n) := by unfold NameOk; exact inferInstance
def HasLegs (k : Int) : Prop := k = 1 ∨ k = 2 ∨ k = 3 ∨ k = 5
instance (k : Int) : Decidable (HasLegs k) := by unfold HasLegs; exact inferInstance
def LegsOkFor (k : Int) (n : Nat) : Prop := if HasLegs k then 1 ≤ n ∧ n ≤ 3 else if k = 9 then n = 1 else n = 0
instance (k : Int) (n : Nat) : Decidable (LegsOkFor k n) := by unfold LegsOkFor; exact inferInstance
def NoParty (p : Party) : Prop := p.pe = 0 ∧ p.len = 0 ∧ p.hei = 0 ∧ p.cl = 0 ∧ p.all = false ∧ p.be = 0
instance (p : Party) : Decidable (NoParty p) := by unfold NoParty; exact inferInstance
def PartyOkFor (k : Int) (p : Party) : Prop := if HasLegs k then PartyOk p else NoParty p
instance (k : Int) (p : Party) : Decidable (PartyOkFor k p) := by unfold PartyOkFor; exact inferInstance
def UntilOk (k u : Int) : Prop := u = 0 ∨ (k = 2 ∧ In u 0 10000)
instance (k u : Int) : Decidable (UntilOk k u) := by unfold UntilOk; exact inferInstance
def NowOk (k u : Int) : Prop := u = 0 ∨ ((k = 8 ∨ k = 6) ∧ In u 0 10000)
instance (k u : Int) : Decidable (NowOk k u) := by unfold NowOk; exact inferInstance
def OpD.p (o : OpD) : Party := ⟨o.pe, o.len, o.hei, o.cl, o.all, o.be⟩
/-- A good operation. -/
def OpOk (o : OpD) : Prop := In o.kind 1 9 ∧ OwnerOk o.kind o.own ∧ NameOk o.kind o.name ∧ LegsOkFor o.kind o.lgn ∧ PartyOkFor o.kind o.p ∧ UntilOk o.kind o.unt ∧ NowOk o.kind o.now
instance (o : OpD) : Decidable (OpOk o) := by unfold OpOk; exact inferInstance

theorem opOk_split {k : Int} {own : ByteArray} {name : Int} {lgn : Nat} {lg : Nat → Int} {pe len hei cl : Int} {all : Bool} {be unt now : Int} (hk : In k 1 9) :
    decide (OpOk ⟨k, own, name, lgn, lg, pe, len, hei, cl, all, be, unt, now⟩) = (decide (OwnerOk k own) && decide (NameOk k name) && decide (LegsOkFor k lgn) && decide (PartyOkFor k ⟨pe, len, hei, cl, all, be⟩) && decide (UntilOk k unt) && decide (NowOk k now)) := by
  rw [Bool.eq_iff_iff]
  simp only [Bool.and_eq_true, decide_eq_true_eq]
  unfold OpOk OpD.p
  exact ⟨fun h => ⟨⟨⟨⟨⟨h.2.1, h.2.2.1⟩, h.2.2.2.1⟩, h.2.2.2.2.1⟩, h.2.2.2.2.2.1⟩, h.2.2.2.2.2.2⟩, fun h => ⟨hk, h.1.1.1.1.1, h.1.1.1.1.2, h.1.1.1.2, h.1.1.2, h.1.2, h.2⟩⟩
theorem owner_empty (own : ByteArray) {k : Int} (hk : ¬ (k = 2 ∨ k = 3 ∨ k = 7)) : decide (OwnerOk k own) = own.toList.isEmpty := by
  rw [Bool.eq_iff_iff]
  rw [decide_eq_true_eq]
  unfold OwnerOk
  rw [if_neg hk, List.isEmpty_iff, ByteArray.toList_eq]
  obtain ⟨⟨l⟩⟩ := own
  show l.length = 0 ↔ l = []
  exact List.length_eq_zero_iff
theorem name_zero (n : Int) {k : Int} (hk : ¬ In k 4 8) : decide (NameOk k n) = (n == 0) := by
  rw [Bool.eq_iff_iff]
  rw [decide_eq_true_eq]
  unfold NameOk
  rw [if_neg hk, beq_iff_eq]
theorem int_zero (n : Nat) : ((n : Int) == 0) = decide (n = 0) := by
  rw [Bool.eq_iff_iff, beq_iff_eq, decide_eq_true_eq]; omega
theorem int_one (n : Nat) : ((n : Int) == 1) = decide (n = 1) := by
  rw [Bool.eq_iff_iff, beq_iff_eq, decide_eq_true_eq]; omega
theorem party_says {k : Int} {p : Party} {q : Bool} (hk : HasLegs k) (h : q = true ↔ PartyOk p) : decide (PartyOkFor k p) = q := by
  rw [Bool.eq_iff_iff, decide_eq_true_eq, h]
  unfold PartyOkFor
  rw [if_pos hk]
/-- The party is the zero one. -/
def PZ (pe len hei cl : Int) (all : Bool) (be : Int) : Bool := decide (NoParty ⟨pe, len, hei, cl, all, be⟩)
theorem pz_no {pe len hei cl : Int} {all : Bool} {be : Int} (h : ¬ NoParty ⟨pe, len, hei, cl, all, be⟩) : PZ pe len hei cl all be = false := decide_eq_false h
theorem party_none {k : Int} {pe len hei cl : Int} {all : Bool} {be : Int} (hk : ¬ HasLegs k) : PZ pe len hei cl all be = decide (PartyOkFor k ⟨pe, len, hei, cl, all, be⟩) := by
  unfold PZ
  rw [Bool.eq_iff_iff, decide_eq_true_eq, decide_eq_true_eq]
  unfold PartyOkFor
  rw [if_neg hk]

end Go.Proofs.YtfbooamjddnagaaDoor

namespace Go.Proofs.YtfbooamjddnagaaDoor
open Go.RowKit

def fOwner (k : Nat) : Bool := decide (k = 2 ∨ k = 3 ∨ k = 7)
def fName (k : Nat) : Bool := decide (4 ≤ k ∧ k ≤ 8)
def fLegs (k : Nat) : Int := if k = 1 ∨ k = 2 ∨ k = 3 ∨ k = 5 then 3 else if k = 9 then 1 else 0
def fParty (k : Nat) : Bool := decide (k = 1 ∨ k = 2 ∨ k = 3 ∨ k = 5)
def fUntil (k : Nat) : Bool := decide (k = 2)
def fNow (k : Nat) : Bool := decide (k = 6 ∨ k = 8)
def fFrees (k : Nat) : Bool := decide (k = 5 ∨ k = 6 ∨ k = 8)
/-- The table of the forms lies there as the program's text lays it. -/
def FormsAt (w : World) : Prop := ∀ k, k < 10 →
  w.cell? ⟨0, k * 7, none⟩ = some (.bool (fOwner k)) ∧ w.cell? ⟨0, k * 7 + 1, none⟩ = some (.bool (fName k)) ∧ w.cell? ⟨0, k * 7 + 2, none⟩ = some (.int .i64 (fLegs k)) ∧
  w.cell? ⟨0, k * 7 + 3, none⟩ = some (.bool (fParty k)) ∧ w.cell? ⟨0, k * 7 + 4, none⟩ = some (.bool (fUntil k)) ∧ w.cell? ⟨0, k * 7 + 5, none⟩ = some (.bool (fNow k)) ∧ w.cell? ⟨0, k * 7 + 6, none⟩ = some (.bool (fFrees k))
theorem FormsAt.lt {w : World} (h : FormsAt w) : 0 < w.heap.size := World.block_lt_of_cell? w _ (h 0 (by decide)).1
theorem FormsAt.below {w w' : World} (h : FormsAt w) (hb : Below w.heap.size w w') : FormsAt w' := by
  intro k hk
  obtain ⟨h0, h1, h2, h3, h4, h5, h6⟩ := h k hk
  have hl := h.lt
  exact ⟨(hb.cell hl).trans h0, (hb.cell hl).trans h1, (hb.cell hl).trans h2, (hb.cell hl).trans h3, (hb.cell hl).trans h4, (hb.cell hl).trans h5, (hb.cell hl).trans h6⟩

end Go.Proofs.YtfbooamjddnagaaDoor
