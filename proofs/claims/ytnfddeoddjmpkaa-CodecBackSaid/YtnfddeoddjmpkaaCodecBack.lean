/-
  Int, Text and Ints of package codec read back what was written, whatever follows; texts and lists are too long exactly if they have more than most elements (the law looks at at most 300 elements each). Conditions: none on the arguments.
-/
import Derived.Test.YtnfddeoddjmpkaaCFrame
import Derived.Test.YtnfddeoddjmpkaaCLaw4
namespace Go.Proofs.Ytnfddeoddjmpkaa.codecBack
open Go.ChangeShapes Go.WideShapes Go.ChangeAt Go.RowKit
open Go.ChangeMaps (open_string)
set_option linter.unusedVariables false
set_option maxHeartbeats 4000000
set_option maxRecDepth 100000 in
theorem lifted (os : Os) (started : os.Started) (H : Type) (enc : TypeId × Value → H) :
    ReturnsInHanded {} Try.checked os 5 .any (Rows.codecBackSpec.pre6 enc Try.prog Try.f5 Rows.codecBackRow.domain false) (Rows.codecBackSpec.post enc Try.prog Try.f5 false true false false) := by
  refine returnsInHanded_of_change (C := Try.checked) Co.own started (by kernel_rfl) Try.func5
    (ChangeSpec.witness6 (enc := enc) (C := Try.checked) false ⟨#[], #[.int .i64 0, .string ⟨#[]⟩, .slice none 0 0, .slice none 0 0], []⟩ 8 (by kernel_rfl) (by kernel_rfl) (by kernel_rfl) (by kernel_rfl)) ?_
  intro W base args ds gs before hval0 hW hcnd _
  have hval : ∀ (j : Nat) t v, Try.f5.params[j]? = some t → args[j]? = some v → Value.okWide Try.prog W .any base t v := hval0
  have hW' := hW
  obtain ⟨p, q, hA0, hV, rfl, hfz, hnd⟩ := hW
  have hA : DataW.TrodAll enc Try.prog W 0 (fun _ => true) true Try.f5.params.toList args.toList ds p := hA0
  rw [Try.params5] at hA hval
  obtain ⟨v0, v1, v2, v3, d0, d1, d2, d3, p0, p1, p2, p3, rfl, rfl, rfl, h0, h1, h2, h3⟩ := trodAll_four hA
  obtain ⟨rfl, rfl⟩ := trodVars_none hV
  clear hA0 hval0
  simp only [List.append_nil] at hW'
  have l0 : ∀ y ∈ p0, y.block < W.heap.size := fun y hy => by simpa using hW'.lt y (by simp [hy])
  have l1 : ∀ y ∈ p1, y.block < W.heap.size := fun y hy => by simpa using hW'.lt y (by simp [hy])
  have l2 : ∀ y ∈ p2, y.block < W.heap.size := fun y hy => by simpa using hW'.lt y (by simp [hy])
  have l3 : ∀ y ∈ p3, y.block < W.heap.size := fun y hy => by simpa using hW'.lt y (by simp [hy])
  obtain ⟨a0, rfl, -, -, w0⟩ := open_int Try.underlying3 (hval 0 3 v0 rfl rfl) h0
  have b0 := bounds_i64 w0
  obtain ⟨s1, rfl, -, -, hs1⟩ := open_string Try.underlying9 (hval 1 9 v1 rfl rfl) h1
  obtain ⟨s2, n2, c2, l'2, rfl, hw2, hb2, hf2⟩ := Co.open_list (hval 2 23 v2 rfl rfl) h2
  obtain ⟨s3, n3, c3, l'3, rfl, hw3, hb3⟩ := Co.open_byts (hval 3 22 v3 rfl rfl) h3
  simp only [List.append_assoc] at hW'
  refine (Co.codecBack_walk a0 s1 s2 n2 c2 l'2 s3 n3 c3 l'3 W b0.1 b0.2 hs1 hw2 hb2 hf2 hw3 hb3).mono fun e W' ⟨he, hb⟩ => ?_
  subst he
  exact ⟨_, rfl, Co.law_post hW' (trodAll_mk1 (shut_bool Try.underlying4 _)) (trodAll_mk4 (Co.arg_back (by kernel_rfl) (of_decide_eq_true (by kernel_rfl)) h0 hb l0) (Co.arg_back (by kernel_rfl) (of_decide_eq_true (by kernel_rfl)) h1 hb l1) (Co.arg_back (by kernel_rfl) (of_decide_eq_true (by kernel_rfl)) h2 hb l2) (Co.arg_back (by kernel_rfl) (of_decide_eq_true (by kernel_rfl)) h3 hb l3)) rfl hb⟩
theorem row_holds : Rows.CodecBackSaid :=
  OpenClaim.holds_of_wide 5 Try.f5 rfl rfl rfl rfl rfl rfl rfl ⟨rfl, rfl, rfl, rfl, rfl⟩ rfl rfl rfl rfl rfl (by kernel_rfl) Try.func5 (by kernel_rfl)
    (of_decide_eq_true (by kernel_rfl)) (by unfold Func.isWrapper; first | (rw [if_pos (by decide +kernel)]; kernel_rfl) | (rw [if_neg (by decide +kernel)]; exact ⟨rfl, rfl⟩))
    (fun os started H enc _ => lifted os started H enc)
end Go.Proofs.Ytnfddeoddjmpkaa.codecBack
namespace Go.Proofs.Ytnfddeoddjmpkaa
theorem codecBack_proved : Rows.CodecBackSaid := codecBack.row_holds
end Go.Proofs.Ytnfddeoddjmpkaa
