/-
  OWN TEXT: small words for walks, second part: worlds that have drawn.
-/
import Derived.Test.YteniifnhbogbkafKit
namespace Go.Proofs.Yteniifnhbogbkaf
open Go.RowKit

theorem blk_drew {w : World} {b : Nat} {o : Obj} (h : w.heap[b]? = some o) : w.drew.heap[b]? = some o := h

end Go.Proofs.Yteniifnhbogbkaf
