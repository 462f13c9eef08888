/-
  OWN TEXT: a row of numbers of which only the form is told, marked.
-/
import Derived.Test.YtcioofnmhfehaaaOwnAny
import Derived.Test.YtcioofnmhfehaaaMarkInts
namespace Go.Proofs.Ytcioofnmhfehaaa
open Go.RowKit

def IntRow (w : World) (base b n : Nat) : Prop := OwnAny w base 3 1 b n (fun xs => ∃ F, xs = intList F n)
theorem markInt_row {w : World} {base b n : Nat} {k : Int} (hn : n ≤ 1048576) (h0 : 0 ≤ k) (h1 : k ≤ 1000000000000000) (h : IntRow w base b n) :
    Calls Try.prog 12 #[.slice (some ⟨b, 0, none⟩) n n, .int .i64 k] w fun e w' => e = .returned (.int .i64 (k + n)) ∧ IntRow w' base b n ∧ Kept w w' (fun x => x = b) := by
  obtain ⟨_, ⟨S, rfl⟩, ho⟩ := h
  exact (markIntS_own _ n n base S k w (by omega) h0 h1 ho).mono fun _ _ ⟨a, b, c⟩ => ⟨a, ⟨_, ⟨_, rfl⟩, b⟩, c.mono (fun x hx => by obtain ⟨g, e, e2⟩ := hx; simp only [Option.some.injEq, Addr.mk.injEq] at e; omega)⟩

end Go.Proofs.Ytcioofnmhfehaaa
