/-
  Parts of this proof: The contract of the reference's SameSite.
-/
import Derived.Test.YtbgodajefaahdaaGreatDoorZDCheck
import Derived.Deep.CutRange
import Derived.RangeFuncNested
import Derived.RangeFuncBound
import Derived.RangeFuncCalls
import Derived.RangeFuncLeaves
import Derived.RangeFuncBox
import Derived.Shelf.Abstract
import Derived.OwnWalkIn
import Derived.TacticsInMore
import Derived.LoopNIn
import Derived.LoopIn
import Derived.Deep.TreeCalls
import Derived.Great.BuildSlice
import Derived.ChangeKeysEq
set_option linter.unusedVariables false
namespace Go.Proofs.YtbgodajefaahdaaGreatDoor.Md
open Go.RowKit Go.Maps
set_option maxHeartbeats 8000000
structure WA (P:Program) (OPS:List Oper) (Q:Exit->Act->World->Prop) (n:Nat) (a:Act) (w:World):Prop where
 out:wpList P OPS.toArray Q (OPS.drop n) a w
end Go.Proofs.YtbgodajefaahdaaGreatDoor.Md
