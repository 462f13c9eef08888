/-
  OWN TEXT: LaidB, LaidE, LawDopR.
-/
import Derived.ProofKit
import Derived.OpenShut
import Derived.LaidMore
import Derived.WalkSmall
import Derived.Lib.LaidTab
import Derived.Deep.DeepHandedRow
import Derived.Stop.LaidErr
import Derived.LaidHandle
import Derived.Test.YtmdnjgihooflfaaGreatDoorB38
namespace Go.Proofs.YtmdnjgihooflfaaGreatDoor
open Go.RowKit
open Go.Value (int)
open Go.IntKind (i64)
set_option maxHeartbeats 64000000
set_option maxRecDepth 100000
section
open Go.ChangeShapes Go.WideShapes Go.ChangeAt Go.RowKit
end
section
open Go.ChangeShapes Go.WideShapes Go.ChangeAt Go.RowKit
end
section
open Go.ChangeShapes Go.WideShapes Go.ChangeAt Go.RowKit
theorem lawDoOpR (cs:List Value)(x:Off)(a:Int)(os:List Value)(y:OpD)(w:World)(f:Off.Short x 1000000000000000)(c:Off.Is w cs x)(hr:OpD.Short y 1000000000000000)(d:OpD.Is w os y)
  (h:∃ pe,Zm w/\(Zq w/\Zu w)/\qY w pe/\w.cell? ⟨0,0,none⟩=some (.iface 284 (.agg #[.pointer (some ⟨12,92,none⟩)]))) :
  Calls Tryz.prog 3 #[.agg cs.toArray,int i64 a,.agg os.toArray] w fun e w'=>e=.returned (.bool true)/\Below w.heap.size w w':=by
 obtain⟨pe,h1,h2,h3,b⟩:=h;exact lawDoOp cs os x y a pe w f c hr d h1 h2 h3 b
end
end Go.Proofs.YtmdnjgihooflfaaGreatDoor
