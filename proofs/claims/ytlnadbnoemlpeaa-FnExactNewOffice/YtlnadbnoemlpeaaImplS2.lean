/-
  OWN TEXT: the contracts of the program's goodLanes and goodCabins, brought together.
-/
import Derived.Test.YtlnadbnoemlpeaaImplS1
import Derived.Test.YtlnadbnoemlpeaaImplLane
import Derived.Test.YtlnadbnoemlpeaaImplCab
namespace Go.Proofs.Ytlnadbnoemlpeaa
open Go.RowKit

end Go.Proofs.Ytlnadbnoemlpeaa
