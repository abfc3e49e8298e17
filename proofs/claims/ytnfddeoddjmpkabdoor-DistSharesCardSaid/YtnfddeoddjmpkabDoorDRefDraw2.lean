/-
  The reference's Draw at every distribution and stream.
-/
import Derived.Test.YtnfddeoddjmpkabDoorDRefDraw
namespace Go.Proofs.YtnfddeoddjmpkabDoor.Di
open Go.RowKit
open St (nextU errS tri nextU_lt)
set_option maxHeartbeats 4000000
end Go.Proofs.YtnfddeoddjmpkabDoor.Di
