/-
  Names of package expr returns what the reference returns, the names increase, and each one is accepted as an expression, for every expression (the law looks at expressions of at most 200 nodes and 40 levels). Conditions: none on the arguments.
-/
import Derived.Test.YtfkenbdfakjeoaaEFrame
import Derived.Test.YtfkenbdfakjeoaaEAwake
import Derived.Test.YtfkenbdfakjeoaaELaw4
namespace Go.Proofs.Ytfkenbdfakjeoaa.exprNames
open Go.ChangeShapes Go.WideShapes Go.ChangeAt Go.RowKit
set_option linter.unusedVariables false
set_option maxHeartbeats 4000000
set_option maxRecDepth 100000 in
theorem lifted (os : Os) (started : os.Started) (H : Type) (enc : TypeId × Value → H) :
    ReturnsInHanded {} Try.checked os 6 .any (Rows.exprNamesSpec.pre6 enc Try.prog Try.f6 Rows.exprNamesRow.domain false) (Rows.exprNamesSpec.post enc Try.prog Try.f6 false true false false) := by
  refine returnsInHanded_of_change_sized (C := Try.checked) Ex.own started (by kernel_rfl) Try.func6
    (ChangeSpec.witness6 (enc := enc) (C := Try.checked) false ⟨#[], #[.agg #[.int .i64 0, .string ⟨#[]⟩, .int .i64 0, .slice none 0 0]], []⟩ 8 (by kernel_rfl) (by kernel_rfl) (by kernel_rfl) (by kernel_rfl)) ?_
  intro W base args ds gs before hval0 hW hcnd hsz _
  have hval : ∀ (j : Nat) t v, Try.f6.params[j]? = some t → args[j]? = some v → Value.okWide Try.prog W .any base t v := hval0
  have hW' := hW
  obtain ⟨p, q, hA0, hV, rfl, hfz, hnd⟩ := hW
  have hA : DataW.TrodAll enc Try.prog W 0 (fun _ => true) true Try.f6.params.toList args.toList ds p := hA0
  rw [Try.params6] at hA hval
  obtain ⟨v0, d0, rfl, rfl, h0⟩ := trodAll_one hA
  obtain ⟨rfl, rfl⟩ := trodVars_none hV
  clear hA0 hval0
  simp only [List.append_nil] at hW'
  have l0 : ∀ y ∈ p, y.block < W.heap.size := fun y hy => by simpa using hW'.lt y (by simp [hy])
  have z0 : (d0.weights Try.prog 25).all (· ≤ reachBytes) = true := List.all_eq_true.2 fun x hx => List.all_eq_true.1 hsz x (DataW.weights_mem_each (j := 0) (t := 25) rfl rfl x hx)
  obtain ⟨e0, q0, m0, c0, rfl, I0, S0⟩ := Ex.open_ex (hval 0 25 v0 rfl rfl) h0 z0
  refine (Ex.exprNames_walk Ex.awake_any e0 q0 m0 c0 W I0 S0).mono fun e W' ⟨he, hb⟩ => ?_
  subst he
  exact ⟨_, rfl, Ex.law_post hW' (trodAll_mk1 (shut_bool Try.underlying4 _)) (trodAll_mk1 (Ex.arg_back (by kernel_rfl) (of_decide_eq_true (by kernel_rfl)) h0 hb l0)) rfl hb⟩
theorem row_holds : Rows.ExprNamesSaid :=
  OpenClaim.holds_of_wide 6 Try.f6 rfl rfl rfl rfl rfl rfl rfl ⟨rfl, rfl, rfl, rfl, rfl⟩ rfl rfl rfl rfl rfl (by kernel_rfl) Try.func6 (by kernel_rfl)
    (of_decide_eq_true (by kernel_rfl)) (by unfold Func.isWrapper; first | (rw [if_pos (by decide +kernel)]; kernel_rfl) | (rw [if_neg (by decide +kernel)]; exact ⟨rfl, rfl⟩))
    (fun os started H enc _ => lifted os started H enc)
end Go.Proofs.Ytfkenbdfakjeoaa.exprNames
namespace Go.Proofs.Ytfkenbdfakjeoaa
theorem exprNames_proved : Rows.ExprNamesSaid := exprNames.row_holds
end Go.Proofs.Ytfkenbdfakjeoaa
