/-
  Distinct of package names returns what the reference returns, and accepts only lists in which each element is a valid name at its first place, for every list (the law looks at lists of at most 200 elements). Conditions: none on the arguments.
-/
import Derived.Test.YtgepgdndhnoanaaNmFrame
import Derived.Test.YtgepgdndhnoanaaNmLaw2
namespace Go.Proofs.Ytgepgdndhnoanaa.namesDistinct
open Go.ChangeShapes Go.WideShapes Go.ChangeAt Go.RowKit
set_option linter.unusedVariables false
set_option maxHeartbeats 4000000
set_option maxRecDepth 100000 in
theorem lifted (os : Os) (started : os.Started) (H : Type) (enc : TypeId × Value → H) :
    ReturnsInHanded {} Try.checked os 6 .any (Rows.namesDistinctSpec.pre6 enc Try.prog Try.f6 Rows.namesDistinctRow.domain false) (Rows.namesDistinctSpec.post enc Try.prog Try.f6 false true false false) := by
  refine returnsInHanded_of_change (C := Try.checked) Na.own started (by kernel_rfl) Try.func6
    (ChangeSpec.witness6 (enc := enc) (C := Try.checked) false ⟨#[], #[.slice none 0 0], []⟩ 8 (by kernel_rfl) (by kernel_rfl) (by kernel_rfl) (by kernel_rfl)) ?_
  intro W base args ds gs before hval0 hW hcnd _
  have hval : ∀ (j : Nat) t v, Try.f6.params[j]? = some t → args[j]? = some v → Value.okWide Try.prog W .any base t v := hval0
  have hW' := hW
  obtain ⟨p, q, hA0, hV, rfl, hfz, hnd⟩ := hW
  have hA : DataW.TrodAll enc Try.prog W 0 (fun _ => true) true Try.f6.params.toList args.toList ds p := hA0
  rw [Try.params6] at hA hval
  obtain ⟨v0, d0, rfl, rfl, h0⟩ := trodAll_one hA
  obtain ⟨rfl, rfl⟩ := trodVars_none hV
  clear hA0 hval0
  simp only [List.append_nil] at hW'
  have l0 : ∀ y ∈ p, y.block < W.heap.size := fun y hy => by simpa using hW'.lt y (by simp [hy])
  obtain ⟨s0, n0, c0, l'0, rfl, hw0, hb0, hf0⟩ := Na.open_strs (hval 0 28 v0 rfl rfl) h0
  refine (Na.namesDistinct_walk s0 n0 c0 l'0 W hw0 hb0 hf0).mono fun e W' ⟨he, hb⟩ => ?_
  subst he
  exact ⟨_, rfl, Na.law_post hW' (trodAll_mk1 (shut_bool Try.underlying4 _)) (trodAll_mk1 (Na.arg_back (by kernel_rfl) (of_decide_eq_true (by kernel_rfl)) h0 hb l0)) rfl hb⟩
theorem row_holds : Rows.NamesDistinctSaid :=
  OpenClaim.holds_of_wide 6 Try.f6 rfl rfl rfl rfl rfl rfl rfl ⟨rfl, rfl, rfl, rfl, rfl⟩ rfl rfl rfl rfl rfl (by kernel_rfl) Try.func6 (by kernel_rfl)
    (of_decide_eq_true (by kernel_rfl)) (by unfold Func.isWrapper; first | (rw [if_pos (by decide +kernel)]; kernel_rfl) | (rw [if_neg (by decide +kernel)]; exact ⟨rfl, rfl⟩))
    (fun os started H enc _ => lifted os started H enc)
end Go.Proofs.Ytgepgdndhnoanaa.namesDistinct
namespace Go.Proofs.Ytgepgdndhnoanaa
theorem namesDistinct_proved : Rows.NamesDistinctSaid := namesDistinct.row_holds
end Go.Proofs.Ytgepgdndhnoanaa
