/-
  Parts of this proof: The law of Checks.
-/
import Derived.Test.YtaaffmbnhjaebaaGreatZQAwk
namespace Go.Proofs.YtaaffmbnhjaebaaGreat.Md
open Go.RowKit Go.Maps
open Go.Proofs.YtaaffmbnhjaebaaGreat.Ex (Lo Gives)
set_option maxHeartbeats 8000000
set_option linter.unusedVariables false
theorem chkX_at {x : Mdl} {P : PMdl} {e : Int} (h : mdlE x = e) (w : World) (hx : OMdl (Lo w.heap.size) w x P) (hf : Fit x) : Calls Tryz.prog 10 #[.agg (cMdl x P)] w (Gives (.int .i64 e) w) := chkM_at h w hx hf.z
end Go.Proofs.YtaaffmbnhjaebaaGreat.Md
