/-
  Package dist's Draw where it draws; Draw at every distribution and stream.
-/
import Derived.Test.YtnfddeoddjmpkabDoorDDraw
namespace Go.Proofs.YtnfddeoddjmpkabDoor.Di
open Go.RowKit
open St (nextU errS tri nextU_lt okS hasS)
set_option maxHeartbeats 4000000
theorem ne01 {H : Nat} : H ≠ H + 1 := by omega
theorem ne21 {H : Nat} : H + 1 + 1 ≠ H + 1 := by omega
end Go.Proofs.YtnfddeoddjmpkabDoor.Di
