/-
  Parts of this proof: The contracts of the reference's Routine, Kind and Index.
-/
import Derived.Test.YtaaffmbnhjaebaaGreatZQFlt
namespace Go.Proofs.YtaaffmbnhjaebaaGreat.Md
open Go.RowKit
set_option maxHeartbeats 4000000
set_option linter.unusedVariables false
theorem word_cell {j : Nat} (h : j < words.length) : (#[.string tVar, .string tRes, .string tSto, .string tBlt, .string tQue, .string tStr, .string tTal, .string tLev, .string tCnt, .string tRou] : Array Value)[j]? = some (.string words[j]) := by
 have e : (#[.string tVar, .string tRes, .string tSto, .string tBlt, .string tQue, .string tStr, .string tTal, .string tLev, .string tCnt, .string tRou] : Array Value) = (words.map Value.string).toArray := rfl
 rw [e, List.getElem?_toArray, List.getElem?_map, List.getElem?_eq_getElem h]
 rfl
end Go.Proofs.YtaaffmbnhjaebaaGreat.Md
