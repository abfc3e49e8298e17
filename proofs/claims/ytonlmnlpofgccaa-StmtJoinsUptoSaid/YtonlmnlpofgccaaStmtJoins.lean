/-
  Count, Depth, Targets and Uses of two lists of statements, one behind the other, are those of both, for any two lists (the law looks at lists of at most 3000 statements and nodes). Conditions: the arguments hold together at most 1048576 values and letters, each counted each time it is reached.
-/
import Derived.Test.YtonlmnlpofgccaaPFrame
import Derived.Test.YtonlmnlpofgccaaPLaw4
namespace Go.Proofs.Ytonlmnlpofgccaa.stmtJoins
open Go.ChangeShapes Go.WideShapes Go.ChangeAt Go.RowKit
open Go.ChangeMaps (open_string)
set_option linter.unusedVariables false
set_option maxHeartbeats 4000000
set_option maxRecDepth 100000 in
theorem lifted (os : Os) (started : os.Started) (H : Type) (enc : TypeId × Value → H) (F : Stop.Interp) :
    ReturnsInHanded {} Try.checked os 5 .any ((Rows.OpenSpec.upto Rows.stmtJoinsSpec).pre6 enc Try.prog Try.f5 Rows.stmtJoinsUptoRow.domain false) (((Rows.OpenSpec.upto Rows.stmtJoinsSpec).at F).post enc Try.prog Try.f5 false true false false) := by
  refine returnsInHanded_of_cond (C := Try.checked) (s := Rows.OpenSpec.upto Rows.stmtJoinsSpec) (k := Rows.uptoSmall) rfl Ex.own started (by kernel_rfl) Try.func5
    (OpenSpec.witness (enc := enc) (C := Try.checked) (s := Rows.OpenSpec.upto Rows.stmtJoinsSpec) (k := Rows.uptoSmall) rfl false ⟨#[], #[.slice none 0 0, .slice none 0 0, .string ⟨#[]⟩], []⟩ 8 (by kernel_rfl) (by kernel_rfl) (by kernel_rfl)
      (x := ([.nil, .nil, .lit (.string [])], [], [])) (by kernel_rfl) rfl (by kernel_rfl)) ?_
  intro W base args ds gs before hval0 hW _ hk _
  have hval : ∀ (j : Nat) t v, Try.f5.params[j]? = some t → args[j]? = some v → Value.okWide Try.prog W .any base t v := hval0
  have hW' := hW
  obtain ⟨p, q, hA0, hV, rfl, hfz, hnd⟩ := hW
  have hA : DataW.TrodAll enc Try.prog W 0 (fun _ => true) true Try.f5.params.toList args.toList ds p := hA0
  rw [Try.params5] at hA hval
  obtain ⟨v0, v1, v2, d0, d1, d2, p0, p1, p2, rfl, rfl, rfl, h0, h1, h2⟩ := trodAll_three hA
  obtain ⟨rfl, rfl⟩ := trodVars_none hV
  clear hA0 hval0
  simp only [List.append_nil] at hW' hk
  have hbulk : Rows.uptoBulkAll [d0, d1, d2] ≤ 1048576 := of_decide_eq_true hk
  simp only [Rows.uptoBulkAll] at hbulk
  have l0 : ∀ y ∈ p0, y.block < W.heap.size := fun y hy => by simpa using hW'.lt y (by simp [hy])
  have l1 : ∀ y ∈ p1, y.block < W.heap.size := fun y hy => by simpa using hW'.lt y (by simp [hy])
  have l2 : ∀ y ∈ p2, y.block < W.heap.size := fun y hy => by simpa using hW'.lt y (by simp [hy])
  obtain ⟨x0, y0, z0, hv0⟩ := okWide_slice Try.underlying22 (hval 0 22 v0 rfl rfl)
  obtain ⟨e0, q0, m0, c0, rfl, I0, M0, Z0, S0⟩ := Sm.open_lst h0 (by show Rows.uptoBulk d0 ≤ _; omega) (by rw [hv0]; rfl)
  obtain ⟨x1, y1, z1, hv1⟩ := okWide_slice Try.underlying22 (hval 1 22 v1 rfl rfl)
  obtain ⟨e1, q1, m1, c1, rfl, I1, M1, Z1, S1⟩ := Sm.open_lst h1 (by show Rows.uptoBulk d1 ≤ _; omega) (by rw [hv1]; rfl)
  obtain ⟨s2, rfl, hd2, -, hs2⟩ := open_string Try.underlying9 (hval 2 9 v2 rfl rfl) h2
  simp only [List.append_assoc] at hW'
  refine (Sm.stmtJoins_walk e0 q0 m0 c0 e1 q1 m1 c1 s2 W I0 M0 Z0 S0 I1 M1 Z1 S1).mono fun e W' ⟨he, hb⟩ => ?_
  subst he
  exact ⟨_, rfl, Ex.law_post (s := Rows.stmtJoinsSpec) hW' (trodAll_mk1 (shut_bool Try.underlying4 _)) (trodAll_mk3 (Ex.arg_back (by kernel_rfl) (of_decide_eq_true (by kernel_rfl)) h0 hb l0) (Ex.arg_back (by kernel_rfl) (of_decide_eq_true (by kernel_rfl)) h1 hb l1) (Ex.arg_back (by kernel_rfl) (of_decide_eq_true (by kernel_rfl)) h2 hb l2)) rfl hb⟩
theorem row_holds : Rows.StmtJoinsUptoSaid :=
  OpenClaim.holds_of_cond 5 Try.f5 rfl rfl rfl rfl rfl rfl rfl ⟨rfl, rfl, rfl, rfl, rfl⟩ rfl rfl rfl rfl rfl (by kernel_rfl) Try.func5 (by kernel_rfl)
    (of_decide_eq_true (by kernel_rfl)) (by unfold Func.isWrapper; first | (rw [if_pos (by decide +kernel)]; kernel_rfl) | (rw [if_neg (by decide +kernel)]; exact ⟨rfl, rfl⟩))
    (fun os started H enc _ F => lifted os started H enc F)
end Go.Proofs.Ytonlmnlpofgccaa.stmtJoins
namespace Go.Proofs.Ytonlmnlpofgccaa
theorem stmtJoinsUpto_proved : Rows.StmtJoinsUptoSaid := stmtJoins.row_holds
end Go.Proofs.Ytonlmnlpofgccaa
