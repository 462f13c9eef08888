/-
  OWN TEXT: when two answers, and what is done and answers, are the same. No theorem of the program.
-/
import Derived.Test.YtcioofnmhfehaaaKitDone
import Derived.Test.YtcioofnmhfehaaaEqRow
namespace Go.Proofs.Ytcioofnmhfehaaa
open Go.RowKit Classical

def AnsSame (a b : AnsD) : Prop := a.code = b.code ∧ a.anam = b.anam ∧ a.price = b.price ∧ rowsAlike a.rwn b.rwn a.rw b.rw
/-- The answer of what is done. -/
def ansOf (d : DoneD) : AnsD := ⟨d.code, d.anam, d.price, d.rwn, d.rw⟩
def DonesSame (N M : Nat) (S : Nat → DoneD) (T : Nat → AnsD) : Prop := N = M ∧ ∀ i, i < N → AnsSame (ansOf (S i)) (T i)
noncomputable def donesSame (N M : Nat) (S : Nat → DoneD) (T : Nat → AnsD) : Bool := decide (DonesSame N M S T)

end Go.Proofs.Ytcioofnmhfehaaa
