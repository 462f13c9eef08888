/-
  OWN TEXT: the contracts of the program's goodLanes and goodCabins, brought together.
-/
import Derived.Test.YtaalhmaacaahhahImplS1
import Derived.Test.YtaalhmaacaahhahImplLane
import Derived.Test.YtaalhmaacaahhahImplCab
namespace Go.Proofs.Ytaalhmaacaahhah
open Go.RowKit

end Go.Proofs.Ytaalhmaacaahhah
