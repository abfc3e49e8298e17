/-
  Substreams of a valid stream have different keys exactly if their numbers are different, and do not depend on the position. Conditions: none on the arguments.
-/
import Derived.Test.YtjjigcgbdnadcaaFrame
import Derived.Test.YtjjigcgbdnadcaaSplits
namespace Go.Proofs.Ytjjigcgbdnadcaa.streamSplits
open Go.ChangeShapes Go.WideShapes Go.ChangeAt Go.RowKit
set_option linter.unusedVariables false
set_option maxHeartbeats 4000000
set_option maxRecDepth 100000 in
theorem lifted (os : Os) (started : os.Started) (H : Type) (enc : TypeId × Value → H) :
    ReturnsInHanded {} Try.checked os 8 .any (Rows.streamSplitsSpec.pre6 enc Try.prog Try.f8 Rows.streamSplitsRow.domain false) (Rows.streamSplitsSpec.post enc Try.prog Try.f8 false true false false) := by
  refine returnsInHanded_of_change (C := Try.checked) own started (by kernel_rfl) Try.func8
    (ChangeSpec.witness6 (enc := enc) (C := Try.checked) false ⟨#[], #[.agg #[.int .u64 0, .int .i64 0, .bool false], .int .i64 0, .int .i64 0], []⟩ 8 (by kernel_rfl) (by kernel_rfl) (by kernel_rfl) (by kernel_rfl)) ?_
  intro W base args ds gs before hval0 hW hcnd _
  have hval : ∀ (j : Nat) t v, Try.f8.params[j]? = some t → args[j]? = some v → Value.okWide Try.prog W .any base t v := hval0
  have hW' := hW
  obtain ⟨p, q, hA0, hV, rfl, hfz, hnd⟩ := hW
  have hA : DataW.TrodAll enc Try.prog W 0 (fun _ => true) true Try.f8.params.toList args.toList ds p := hA0
  rw [Try.params8] at hA hval
  obtain ⟨v0, v1, v2, d0, d1, d2, p0, p1, p2, rfl, rfl, rfl, h0, h1, h2⟩ := trodAll_three hA
  obtain ⟨rfl, rfl⟩ := trodVars_none hV
  obtain ⟨k0, a0, c0, rfl, rfl, rfl, w0, x0⟩ := open_stream (hval 0 27 v0 rfl rfl) h0
  obtain ⟨a1, rfl, rfl, rfl, w1⟩ := open_int Try.underlying3 (hval 1 3 v1 rfl rfl) h1
  obtain ⟨a2, rfl, rfl, rfl, w2⟩ := open_int Try.underlying3 (hval 2 3 v2 rfl rfl) h2
  clear hA0 hval0
  simp only [List.append_nil] at hW'
  obtain ⟨n0, rfl, g0⟩ := nat_of w0
  have b0 := bounds_i64 x0
  have b1 := bounds_i64 w1
  have b2 := bounds_i64 w2
  refine (streamSplits_walk n0 g0 a0 b0.1 b0.2 c0 a1 b1.1 b1.2 a2 b2.1 b2.2 W).mono fun e W' ⟨he, hb⟩ => ?_
  subst he
  exact ⟨_, rfl, law_post hW' (trodAll_mk1 (shut_bool Try.underlying4 _)) (trodAll_mk3 (shut_stream w0 x0) (shut_int Try.underlying3 w1) (shut_int Try.underlying3 w2)) rfl hb⟩
theorem row_holds : Rows.StreamSplitsSaid :=
  OpenClaim.holds_of_wide 8 Try.f8 rfl rfl rfl rfl rfl rfl rfl ⟨rfl, rfl, rfl, rfl, rfl⟩ rfl rfl rfl rfl rfl (by kernel_rfl) Try.func8 (by kernel_rfl)
    (of_decide_eq_true (by kernel_rfl)) (by unfold Func.isWrapper; first | (rw [if_pos (by decide +kernel)]; kernel_rfl) | (rw [if_neg (by decide +kernel)]; exact ⟨rfl, rfl⟩))
    (fun os started H enc _ => lifted os started H enc)
end Go.Proofs.Ytjjigcgbdnadcaa.streamSplits
namespace Go.Proofs.Ytjjigcgbdnadcaa
theorem streamSplits_proved : Rows.StreamSplitsSaid := streamSplits.row_holds
end Go.Proofs.Ytjjigcgbdnadcaa
