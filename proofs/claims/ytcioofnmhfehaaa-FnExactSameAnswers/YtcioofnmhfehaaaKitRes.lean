/-
  OWN TEXT: what a call hands back out of one cell of its own; a struct that is loaded and stored whole. No theorem of the program.
-/
import Derived.Test.YtcioofnmhfehaaaKit
import Derived.Laws.CopyOwn
import Derived.Laws.Tables
namespace Go.Proofs.Ytcioofnmhfehaaa
open Go.RowKit

theorem results_cell {P : Program} {fn : Func} {tmps : Array Value} {w : World} {r : Nat} {t : TypeId} {a : Addr} {v : Value} (hf : fn.results = #[.cell r t]) (ht : tmps.getD r undef = .pointer (some a)) (hl : (loadVar t a).run P w = .ok v w) :
    (results fn tmps).run P w = .ok v w := by
  have ha : (asAddr (.pointer (some a))).run P w = .ok a w := by simp [asAddr, go_sem]
  unfold results
  rw [hf]
  simp only [List.mapM_toArray, List.mapM_cons, List.mapM_nil, Sem.run_bind, ht]
  simp [↓ha, ↓hl]

end Go.Proofs.Ytcioofnmhfehaaa
