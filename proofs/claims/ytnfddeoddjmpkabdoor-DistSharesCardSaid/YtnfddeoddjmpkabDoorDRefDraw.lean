/-
  The contract of the reference's Draw.
-/
import Derived.Test.YtnfddeoddjmpkabDoorDDraw3
import Derived.Test.YtnfddeoddjmpkabDoorDRefAt
namespace Go.Proofs.YtnfddeoddjmpkabDoor.Di
open Go.RowKit
open St (nextU errS tri nextU_lt)
set_option maxHeartbeats 8000000
end Go.Proofs.YtnfddeoddjmpkabDoor.Di
