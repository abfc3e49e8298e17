/-
  Find of package names returns the first place of a text, for every list (the law looks at lists of at most 200 elements). Conditions: none on the arguments.
-/
import Derived.Test.YtgepgdndhnoanaaNmFrame
import Derived.Test.YtgepgdndhnoanaaNmLaw1
namespace Go.Proofs.Ytgepgdndhnoanaa.namesFinds
open Go.ChangeShapes Go.WideShapes Go.ChangeAt Go.RowKit
open Go.ChangeMaps (open_string)
set_option linter.unusedVariables false
set_option maxHeartbeats 4000000
set_option maxRecDepth 100000 in
theorem lifted (os : Os) (started : os.Started) (H : Type) (enc : TypeId × Value → H) :
    ReturnsInHanded {} Try.checked os 5 .any (Rows.namesFindsSpec.pre6 enc Try.prog Try.f5 Rows.namesFindsRow.domain false) (Rows.namesFindsSpec.post enc Try.prog Try.f5 false true false false) := by
  refine returnsInHanded_of_change (C := Try.checked) Na.own started (by kernel_rfl) Try.func5
    (ChangeSpec.witness6 (enc := enc) (C := Try.checked) false ⟨#[], #[.slice none 0 0, .string ⟨#[]⟩], []⟩ 8 (by kernel_rfl) (by kernel_rfl) (by kernel_rfl) (by kernel_rfl)) ?_
  intro W base args ds gs before hval0 hW hcnd _
  have hval : ∀ (j : Nat) t v, Try.f5.params[j]? = some t → args[j]? = some v → Value.okWide Try.prog W .any base t v := hval0
  have hW' := hW
  obtain ⟨p, q, hA0, hV, rfl, hfz, hnd⟩ := hW
  have hA : DataW.TrodAll enc Try.prog W 0 (fun _ => true) true Try.f5.params.toList args.toList ds p := hA0
  rw [Try.params5] at hA hval
  obtain ⟨v0, v1, d0, d1, p0, p1, rfl, rfl, rfl, h0, h1⟩ := trodAll_two hA
  obtain ⟨rfl, rfl⟩ := trodVars_none hV
  clear hA0 hval0
  simp only [List.append_nil] at hW'
  have l0 : ∀ y ∈ p0, y.block < W.heap.size := fun y hy => by simpa using hW'.lt y (by simp [hy])
  have l1 : ∀ y ∈ p1, y.block < W.heap.size := fun y hy => by simpa using hW'.lt y (by simp [hy])
  obtain ⟨s0, n0, c0, l'0, rfl, hw0, hb0, hf0⟩ := Na.open_strs (hval 0 28 v0 rfl rfl) h0
  obtain ⟨s1, rfl, hd1, -, hs1⟩ := open_string Try.underlying9 (hval 1 9 v1 rfl rfl) h1
  have hs1' : s1.size ≤ 9223372036854775807 := by unfold maxLen at hs1; omega
  refine (Na.namesFinds_walk s0 n0 c0 l'0 s1 W hw0 hb0 hf0 hs1').mono fun e W' ⟨he, hb⟩ => ?_
  subst he
  exact ⟨_, rfl, Na.law_post hW' (trodAll_mk1 (shut_bool Try.underlying4 _)) (trodAll_mk2 (Na.arg_back (by kernel_rfl) (of_decide_eq_true (by kernel_rfl)) h0 hb l0) (Na.arg_back (by kernel_rfl) (of_decide_eq_true (by kernel_rfl)) h1 hb l1)) rfl hb⟩
theorem row_holds : Rows.NamesFindsSaid :=
  OpenClaim.holds_of_wide 5 Try.f5 rfl rfl rfl rfl rfl rfl rfl ⟨rfl, rfl, rfl, rfl, rfl⟩ rfl rfl rfl rfl rfl (by kernel_rfl) Try.func5 (by kernel_rfl)
    (of_decide_eq_true (by kernel_rfl)) (by unfold Func.isWrapper; first | (rw [if_pos (by decide +kernel)]; kernel_rfl) | (rw [if_neg (by decide +kernel)]; exact ⟨rfl, rfl⟩))
    (fun os started H enc _ => lifted os started H enc)
end Go.Proofs.Ytgepgdndhnoanaa.namesFinds
namespace Go.Proofs.Ytgepgdndhnoanaa
theorem namesFinds_proved : Rows.NamesFindsSaid := namesFinds.row_holds
end Go.Proofs.Ytgepgdndhnoanaa
