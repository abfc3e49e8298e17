/-
  What Check of package names accepts has at most MaxName letters, digits and _, begins with a letter and is no keyword, and is not accepted any more with a byte behind it that is not permitted, for every text and byte. Conditions: none on the arguments.
-/
import Derived.Test.YtgepgdndhnoanaaNmFrame
import Derived.Test.YtgepgdndhnoanaaNmLaw4
namespace Go.Proofs.Ytgepgdndhnoanaa.namesForm
open Go.ChangeShapes Go.WideShapes Go.ChangeAt Go.RowKit
open Go.ChangeMaps (open_string)
set_option linter.unusedVariables false
set_option maxHeartbeats 4000000
set_option maxRecDepth 100000 in
theorem lifted (os : Os) (started : os.Started) (H : Type) (enc : TypeId × Value → H) :
    ReturnsInHanded {} Try.checked os 4 .any (Rows.namesFormSpec.pre6 enc Try.prog Try.f4 Rows.namesFormRow.domain false) (Rows.namesFormSpec.post enc Try.prog Try.f4 false true false false) := by
  refine returnsInHanded_of_change (C := Try.checked) Na.own started (by kernel_rfl) Try.func4
    (ChangeSpec.witness6 (enc := enc) (C := Try.checked) false ⟨#[], #[.string ⟨#[]⟩, .int .u8 0], []⟩ 8 (by kernel_rfl) (by kernel_rfl) (by kernel_rfl) (by kernel_rfl)) ?_
  intro W base args ds gs before hval0 hW hcnd _
  have hval : ∀ (j : Nat) t v, Try.f4.params[j]? = some t → args[j]? = some v → Value.okWide Try.prog W .any base t v := hval0
  have hW' := hW
  obtain ⟨p, q, hA0, hV, rfl, hfz, hnd⟩ := hW
  have hA : DataW.TrodAll enc Try.prog W 0 (fun _ => true) true Try.f4.params.toList args.toList ds p := hA0
  rw [Try.params4] at hA hval
  obtain ⟨v0, v1, d0, d1, p0, p1, rfl, rfl, rfl, h0, h1⟩ := trodAll_two hA
  obtain ⟨rfl, rfl⟩ := trodVars_none hV
  clear hA0 hval0
  simp only [List.append_nil] at hW'
  have l0 : ∀ y ∈ p0, y.block < W.heap.size := fun y hy => by simpa using hW'.lt y (by simp [hy])
  have l1 : ∀ y ∈ p1, y.block < W.heap.size := fun y hy => by simpa using hW'.lt y (by simp [hy])
  obtain ⟨s0, rfl, hd0, -, hs0⟩ := open_string Try.underlying9 (hval 0 9 v0 rfl rfl) h0
  have hs0' : s0.size ≤ 9223372036854775807 := by unfold maxLen at hs0; omega
  obtain ⟨a1, rfl, -, -, w1⟩ := open_int Try.underlying5 (hval 1 5 v1 rfl rfl) h1
  have b1 := bounds_u8 w1
  obtain ⟨ch1, hc1⟩ : ∃ ch : UInt8, ((ch.toNat : Nat) : Int) = a1 := ⟨UInt8.ofNat a1.toNat, by rw [UInt8.toNat_ofNat']; omega⟩
  subst hc1
  refine (Na.namesForm_walk s0 ch1 W hs0').mono fun e W' ⟨he, hb⟩ => ?_
  subst he
  exact ⟨_, rfl, Na.law_post hW' (trodAll_mk1 (shut_bool Try.underlying4 _)) (trodAll_mk2 (Na.arg_back (by kernel_rfl) (of_decide_eq_true (by kernel_rfl)) h0 hb l0) (Na.arg_back (by kernel_rfl) (of_decide_eq_true (by kernel_rfl)) h1 hb l1)) rfl hb⟩
theorem row_holds : Rows.NamesFormSaid :=
  OpenClaim.holds_of_wide 4 Try.f4 rfl rfl rfl rfl rfl rfl rfl ⟨rfl, rfl, rfl, rfl, rfl⟩ rfl rfl rfl rfl rfl (by kernel_rfl) Try.func4 (by kernel_rfl)
    (of_decide_eq_true (by kernel_rfl)) (by unfold Func.isWrapper; first | (rw [if_pos (by decide +kernel)]; kernel_rfl) | (rw [if_neg (by decide +kernel)]; exact ⟨rfl, rfl⟩))
    (fun os started H enc _ => lifted os started H enc)
end Go.Proofs.Ytgepgdndhnoanaa.namesForm
namespace Go.Proofs.Ytgepgdndhnoanaa
theorem namesForm_proved : Rows.NamesFormSaid := namesForm.row_holds
end Go.Proofs.Ytgepgdndhnoanaa
