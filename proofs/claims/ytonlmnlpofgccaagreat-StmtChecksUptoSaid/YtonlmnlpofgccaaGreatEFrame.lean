/-
  The last step of a law's row; what an expression's type is.
-/
import Derived.Test.YtonlmnlpofgccaaGreatEBase
import Derived.ProofKit
import Derived.LaidMore
import Derived.LaidHandle
import Derived.MakeChecks
import Derived.OpenShut
import Derived.Stop.Joined
import Derived.Lib.SmallJoins
import Derived.Deep.Slices
import Derived.Deep.Fields
import Derived.ChangeSame
import Derived.SliceStrings
import Derived.SizedLaws
namespace Go.Proofs.YtonlmnlpofgccaaGreat.Ex
open Go.ChangeShapes Go.WideShapes Go.ChangeAt Go.RowKit Go.Joins Go.Deep
open Go.Proofs.YtonlmnlpofgccaaGreat.Na (bs bs_inj chk)
set_option maxHeartbeats 2000000
set_option linter.unusedVariables false
section
variable {H : Type} {enc : TypeId × Value → H}
/-- The last step of a law's row: the result is a bool, the arguments read as before, and of what was there nothing has turned. -/
theorem law_post {f : Func} {s : ChangeSpec} {W W' : World} {args : Array Value} {b : Bool} {ds : List (DataW H)} {before : List MemPlace}
    (hW : DataW.Whole enc Tryz.prog f.params.toList s.vars false W args.toList ds [] before)
    (hres : DataW.TrodAll enc Tryz.prog W' W.heap.size (fun _ => false) false f.resultTypes.toList ((Value.bool b).resultList f.resultTypes.size) (s.fn H (ds ++ [])).results [])
    (hargs : DataW.TrodAll enc Tryz.prog W' 0 (fun k => decide (k < W.heap.size)) true f.params.toList args.toList (s.fn H (ds ++ [])).args before)
    (hvars : DataW.TrodVars enc Tryz.prog W' (fun k => decide (k < W.heap.size)) s.vars (s.fn H (ds ++ [])).vars [])
    (hb : Below W.heap.size W W') : s.post enc Tryz.prog f false true false false W args (.bool b) W' :=
  ⟨ds, [], before, [], before, [], hW, hres, hargs, hvars, World.keptBut_mono (fun _ hp => ⟨hp, Or.inr (Or.inl hp)⟩) (hb.frame (· ∈ before)), fun h => by cases h⟩
theorem own : ownKnob Tryz.prog.godebug = none := by kernel_rfl
theorem laidOut : laidOutB Tryz.prog = true := by kernel_rfl
theorem arg_back {W W' : World} {v : Value} {d : DataW H} {ps : List MemPlace} {t : TypeId} (hr : Tryz.prog.readableRec t = true) (ht : t < Tryz.prog.types.size) (h : DataW.Trod enc Tryz.prog W 0 (fun _ => true) true t v d ps) (hb : Below W.heap.size W W') (hlt : ∀ y ∈ ps, y.block < W.heap.size) :
    DataW.Trod enc Tryz.prog W' 0 (fun k => decide (k < W.heap.size)) true t v d ps := Below.trod laidOut hr ht h hb hlt
theorem ex_is : ∃ f0 f1 f2 f3 : Field, Tryz.prog.underlying 32 = some (.struct #[f0, f1, f2, f3]) ∧ oneCellFields Tryz.prog #[f0, f1, f2, f3] = true ∧ Tryz.prog.cellsOf 32 = 4 ∧
    f0.type = 29 ∧ f1.type = 9 ∧ f2.type = 3 ∧ f3.type = 30 :=
  ⟨_, _, _, _, Tryz.underlying32, by kernel_rfl, by kernel_rfl, rfl, rfl, rfl, rfl⟩
theorem four_of {l : List Value} (h : l.length = 4) : ∃ c0 c1 c2 c3, l = [c0, c1, c2, c3] := by
  match l, h with
  | [c0, c1, c2, c3], _ => exact ⟨c0, c1, c2, c3, rfl⟩
end
end Go.Proofs.YtonlmnlpofgccaaGreat.Ex
