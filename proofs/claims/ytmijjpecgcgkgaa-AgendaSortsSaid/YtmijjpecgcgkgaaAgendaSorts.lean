/-
  Events that are put in any order come out one after the other, each before the next one, and none is lost or added (the law looks at lists of at most 60 events). Conditions: none on the arguments.
-/
import Derived.Test.YtmijjpecgcgkgaaGFrame
import Derived.Test.YtmijjpecgcgkgaaGLaw5
namespace Go.Proofs.Ytmijjpecgcgkgaa.agendaSorts
open Go.ChangeShapes Go.WideShapes Go.ChangeAt Go.RowKit
set_option linter.unusedVariables false
set_option maxHeartbeats 4000000
set_option maxRecDepth 100000 in
theorem lifted (os : Os) (started : os.Started) (H : Type) (enc : TypeId × Value → H) :
    ReturnsInHanded {} Try.checked os 7 .any (Rows.agendaSortsSpec.pre6 enc Try.prog Try.f7 Rows.agendaSortsRow.domain false) (Rows.agendaSortsSpec.post enc Try.prog Try.f7 false true false false) := by
  refine returnsInHanded_of_change (C := Try.checked) Ag.own started (by kernel_rfl) Try.func7
    (ChangeSpec.witness6 (enc := enc) (C := Try.checked) false ⟨#[], #[.slice none 0 0], []⟩ 8 (by kernel_rfl) (by kernel_rfl) (by kernel_rfl) (by kernel_rfl)) ?_
  intro W base args ds gs before hval0 hW hcnd _
  have hval : ∀ (j : Nat) t v, Try.f7.params[j]? = some t → args[j]? = some v → Value.okWide Try.prog W .any base t v := hval0
  have hW' := hW
  obtain ⟨p, q, hA0, hV, rfl, hfz, hnd⟩ := hW
  have hA : DataW.TrodAll enc Try.prog W 0 (fun _ => true) true Try.f7.params.toList args.toList ds p := hA0
  rw [Try.params7] at hA hval
  obtain ⟨v0, d0, rfl, rfl, h0⟩ := trodAll_one hA
  obtain ⟨rfl, rfl⟩ := trodVars_none hV
  clear hA0 hval0
  simp only [List.append_nil] at hW'
  have l0 : ∀ y ∈ p, y.block < W.heap.size := fun y hy => by simpa using hW'.lt y (by simp [hy])
  obtain ⟨s0, n0, c0, E0, rfl, hw0, he0⟩ := Ag.open_events (hval 0 29 v0 rfl rfl) h0
  refine (Ag.agendaSorts_walk s0 n0 c0 E0 W hw0 he0).mono fun e W' ⟨he, hb⟩ => ?_
  subst he
  exact ⟨_, rfl, Ag.law_post hW' (trodAll_mk1 (shut_bool Try.underlying4 _)) (trodAll_mk1 (Ag.arg_back (by kernel_rfl) (of_decide_eq_true (by kernel_rfl)) h0 hb l0)) rfl hb⟩
theorem row_holds : Rows.AgendaSortsSaid :=
  OpenClaim.holds_of_wide 7 Try.f7 rfl rfl rfl rfl rfl rfl rfl ⟨rfl, rfl, rfl, rfl, rfl⟩ rfl rfl rfl rfl rfl (by kernel_rfl) Try.func7 (by kernel_rfl)
    (of_decide_eq_true (by kernel_rfl)) (by unfold Func.isWrapper; first | (rw [if_pos (by decide +kernel)]; kernel_rfl) | (rw [if_neg (by decide +kernel)]; exact ⟨rfl, rfl⟩))
    (fun os started H enc _ => lifted os started H enc)
end Go.Proofs.Ytmijjpecgcgkgaa.agendaSorts
namespace Go.Proofs.Ytmijjpecgcgkgaa
theorem agendaSorts_proved : Rows.AgendaSortsSaid := agendaSorts.row_holds
end Go.Proofs.Ytmijjpecgcgkgaa
