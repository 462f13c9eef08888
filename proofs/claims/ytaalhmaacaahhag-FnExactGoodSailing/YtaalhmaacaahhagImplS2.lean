/-
  OWN TEXT: the contracts of the program's goodLanes and goodCabins, brought together.
-/
import Derived.Test.YtaalhmaacaahhagImplS1
import Derived.Test.YtaalhmaacaahhagImplLane
import Derived.Test.YtaalhmaacaahhagImplCab
namespace Go.Proofs.Ytaalhmaacaahhag
open Go.RowKit

end Go.Proofs.Ytaalhmaacaahhag
