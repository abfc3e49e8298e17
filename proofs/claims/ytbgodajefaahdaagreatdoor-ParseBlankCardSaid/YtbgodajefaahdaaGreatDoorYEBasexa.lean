/-
  Parts of this proof: Words for worlds and expressions in memory. Mathematics of tokens.
-/
import Derived.Test.YtbgodajefaahdaaGreatDoorYNuMath
set_option linter.unusedVariables false
namespace Go.Proofs.YtbgodajefaahdaaGreatDoor
namespace Ex
open Go.RowKit
set_option maxHeartbeats 1000000
theorem iB {a b:Bool} (h:a=b):Ending.returned (.bool a)=.returned (.bool b):=by rw[h]
end Ex
namespace Lx
open Nu
theorem Sr (a b:ByteArray):bs (a++b)=bs a++bs b:=by
 show(a++b).data.toList=_
 rw[ByteArray.data_append,Array.toList_append]
end Lx
end Go.Proofs.YtbgodajefaahdaaGreatDoor
