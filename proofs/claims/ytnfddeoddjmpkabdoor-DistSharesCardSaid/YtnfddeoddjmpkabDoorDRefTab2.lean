/-
  The reference's tabled, walked.
-/
import Derived.Test.YtnfddeoddjmpkabDoorDRefTab
namespace Go.Proofs.YtnfddeoddjmpkabDoor.Di
open Go.RowKit
open St (hiN hiN_lt)
set_option maxHeartbeats 8000000
end Go.Proofs.YtnfddeoddjmpkabDoor.Di
