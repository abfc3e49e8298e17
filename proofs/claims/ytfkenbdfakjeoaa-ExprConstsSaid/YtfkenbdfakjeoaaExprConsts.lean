/-
  Const of package expr returns what the reference returns, and Check and CheckCode accept it exactly if it is a constant within the limits, for every type and number. Conditions: none on the arguments.
-/
import Derived.Test.YtfkenbdfakjeoaaEFrame
import Derived.Test.YtfkenbdfakjeoaaEAwake
import Derived.Test.YtfkenbdfakjeoaaELaw7
namespace Go.Proofs.Ytfkenbdfakjeoaa.exprConsts
open Go.ChangeShapes Go.WideShapes Go.ChangeAt Go.RowKit
set_option linter.unusedVariables false
set_option maxHeartbeats 4000000
set_option maxRecDepth 100000 in
theorem lifted (os : Os) (started : os.Started) (H : Type) (enc : TypeId × Value → H) :
    ReturnsInHanded {} Try.checked os 9 .any (Rows.exprConstsSpec.pre6 enc Try.prog Try.f9 Rows.exprConstsRow.domain false) (Rows.exprConstsSpec.post enc Try.prog Try.f9 false true false false) := by
  refine returnsInHanded_of_change (C := Try.checked) Ex.own started (by kernel_rfl) Try.func9
    (ChangeSpec.witness6 (enc := enc) (C := Try.checked) false ⟨#[], #[.int .i64 0, .int .i64 0], []⟩ 8 (by kernel_rfl) (by kernel_rfl) (by kernel_rfl) (by kernel_rfl)) ?_
  intro W base args ds gs before hval0 hW hcnd _
  have hval : ∀ (j : Nat) t v, Try.f9.params[j]? = some t → args[j]? = some v → Value.okWide Try.prog W .any base t v := hval0
  have hW' := hW
  obtain ⟨p, q, hA0, hV, rfl, hfz, hnd⟩ := hW
  have hA : DataW.TrodAll enc Try.prog W 0 (fun _ => true) true Try.f9.params.toList args.toList ds p := hA0
  rw [Try.params9] at hA hval
  obtain ⟨v0, v1, d0, d1, p0, p1, rfl, rfl, rfl, h0, h1⟩ := trodAll_two hA
  obtain ⟨rfl, rfl⟩ := trodVars_none hV
  clear hA0 hval0
  simp only [List.append_nil] at hW'
  have l0 : ∀ y ∈ p0, y.block < W.heap.size := fun y hy => by simpa using hW'.lt y (by simp [hy])
  have l1 : ∀ y ∈ p1, y.block < W.heap.size := fun y hy => by simpa using hW'.lt y (by simp [hy])
  obtain ⟨a0, rfl, -, -, w0⟩ := open_int Try.underlying41 (hval 0 41 v0 rfl rfl) h0
  obtain ⟨a1, rfl, -, -, w1⟩ := open_int Try.underlying3 (hval 1 3 v1 rfl rfl) h1
  refine (Ex.exprConsts_walk Ex.awake_any a0 a1 W ).mono fun e W' ⟨he, hb⟩ => ?_
  subst he
  exact ⟨_, rfl, Ex.law_post hW' (trodAll_mk1 (shut_bool Try.underlying4 _)) (trodAll_mk2 (Ex.arg_back (by kernel_rfl) (of_decide_eq_true (by kernel_rfl)) h0 hb l0) (Ex.arg_back (by kernel_rfl) (of_decide_eq_true (by kernel_rfl)) h1 hb l1)) rfl hb⟩
theorem row_holds : Rows.ExprConstsSaid :=
  OpenClaim.holds_of_wide 9 Try.f9 rfl rfl rfl rfl rfl rfl rfl ⟨rfl, rfl, rfl, rfl, rfl⟩ rfl rfl rfl rfl rfl (by kernel_rfl) Try.func9 (by kernel_rfl)
    (of_decide_eq_true (by kernel_rfl)) (by unfold Func.isWrapper; first | (rw [if_pos (by decide +kernel)]; kernel_rfl) | (rw [if_neg (by decide +kernel)]; exact ⟨rfl, rfl⟩))
    (fun os started H enc _ => lifted os started H enc)
end Go.Proofs.Ytfkenbdfakjeoaa.exprConsts
namespace Go.Proofs.Ytfkenbdfakjeoaa
theorem exprConsts_proved : Rows.ExprConstsSaid := exprConsts.row_holds
end Go.Proofs.Ytfkenbdfakjeoaa
