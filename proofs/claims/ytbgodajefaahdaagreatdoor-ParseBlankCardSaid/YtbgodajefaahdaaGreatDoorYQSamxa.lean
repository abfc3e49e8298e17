/-
  Parts of this proof: The contracts of sameResource, sameRoutine, same.
-/
import Derived.Test.YtbgodajefaahdaaGreatDoorYQMathxa
import Derived.RangeFuncNested
import Derived.RangeFuncBound
import Derived.RangeFuncCalls
import Derived.RangeFuncLeaves
import Derived.RangeFuncBox
import Derived.Shelf.Abstract
import Derived.OwnWalkIn
import Derived.TacticsInMore
import Derived.LoopNIn
import Derived.LoopIn
set_option linter.unusedVariables false
namespace Go.Proofs.YtbgodajefaahdaaGreatDoor
namespace Md
open Go.RowKit
set_option maxHeartbeats 4000000
attribute [local go_sem] Gf Np Jc Jd Ef Je NG Jf NH Jg Jh Ji Jj Ec Jb Ga Gg Jk Ei Ej El Jl Gh Jm Jn Jo Ap Eg Eh Gb Gc Cg Ed Nz NA NB NC ND NF Nq Nr Ns Nt Nv Nw Ny
theorem Uq (a b:Int):(a==b)=dG a b:=by
 unfold dG;by_cases h:a=b
 · rw[decide_eq_true h,h];exact beq_self_eq_true b
 · rw[decide_eq_false h];exact beq_eq_false_iff_ne.2 h
end Md
end Go.Proofs.YtbgodajefaahdaaGreatDoor
