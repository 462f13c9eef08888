/-
  OWN TEXT: contracts of spec.l1In, spec.l1Has, brought together.
-/
import Derived.Test.YtompknfmlnlnfaaSpecIn
import Derived.Test.YtompknfmlnlnfaaSpecHas
namespace Go.Proofs.Ytompknfmlnlnfaa
end Go.Proofs.Ytompknfmlnlnfaa
