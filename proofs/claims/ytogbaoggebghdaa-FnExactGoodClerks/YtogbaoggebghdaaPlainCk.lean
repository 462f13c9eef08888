/-
  OWN TEXT: good clerks, in plain words. No theorem of the program.
-/
import Derived.Test.YtogbaoggebghdaaKitClerk
import Derived.Test.YtogbaoggebghdaaPlainS
namespace Go.Proofs.Ytogbaoggebghdaa
open Go.RowKit Classical

/-- One text is below another. -/
def textLt (a b : ByteArray) : Prop := Op.bytesLess a.toList b.toList = true
def AnsZero (c : ClkD) : Prop := c.code = 0 ∧ c.anam = 0 ∧ c.price = 0 ∧ c.rwn = 0
def ClerkOk (S : Nat → ClkD) (i : Nat) : Prop := IsName (S i).nam ∧ (0 < i → textLt (S (i - 1)).nam (S i).nam) ∧ In (S i).num 1 1000000 ∧ ((S i).opn = true → AnsZero (S i))
def ClerksOk (N : Nat) (S : Nat → ClkD) : Prop := N ≤ 20 ∧ ∀ i, i < N → ClerkOk S i
noncomputable def clerksOk (N : Nat) (S : Nat → ClkD) : Bool := decide (ClerksOk N S)

end Go.Proofs.Ytogbaoggebghdaa
