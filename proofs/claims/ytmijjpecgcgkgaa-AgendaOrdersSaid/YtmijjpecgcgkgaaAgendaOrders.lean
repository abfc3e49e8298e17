/-
  Less and Same of package agenda return what the reference returns for all events; Less is irreflexive, transitive and total. Conditions: none on the arguments.
-/
import Derived.Test.YtmijjpecgcgkgaaGFrame
import Derived.Test.YtmijjpecgcgkgaaGLaw2
namespace Go.Proofs.Ytmijjpecgcgkgaa.agendaOrders
open Go.ChangeShapes Go.WideShapes Go.ChangeAt Go.RowKit
set_option linter.unusedVariables false
set_option maxHeartbeats 4000000
set_option maxRecDepth 100000 in
theorem lifted (os : Os) (started : os.Started) (H : Type) (enc : TypeId × Value → H) :
    ReturnsInHanded {} Try.checked os 3 .any (Rows.agendaOrdersSpec.pre6 enc Try.prog Try.f3 Rows.agendaOrdersRow.domain false) (Rows.agendaOrdersSpec.post enc Try.prog Try.f3 false true false false) := by
  refine returnsInHanded_of_change (C := Try.checked) Ag.own started (by kernel_rfl) Try.func3
    (ChangeSpec.witness6 (enc := enc) (C := Try.checked) false ⟨#[], #[.agg #[.int .i64 0, .int .i64 0, .int .i64 0, .int .i64 0, .int .i64 0, .int .i64 0, .int .i64 0, .int .i64 0, .slice none 0 0], .agg #[.int .i64 0, .int .i64 0, .int .i64 0, .int .i64 0, .int .i64 0, .int .i64 0, .int .i64 0, .int .i64 0, .slice none 0 0], .agg #[.int .i64 0, .int .i64 0, .int .i64 0, .int .i64 0, .int .i64 0, .int .i64 0, .int .i64 0, .int .i64 0, .slice none 0 0]], []⟩ 8 (by kernel_rfl) (by kernel_rfl) (by kernel_rfl) (by kernel_rfl)) ?_
  intro W base args ds gs before hval0 hW hcnd _
  have hval : ∀ (j : Nat) t v, Try.f3.params[j]? = some t → args[j]? = some v → Value.okWide Try.prog W .any base t v := hval0
  have hW' := hW
  obtain ⟨p, q, hA0, hV, rfl, hfz, hnd⟩ := hW
  have hA : DataW.TrodAll enc Try.prog W 0 (fun _ => true) true Try.f3.params.toList args.toList ds p := hA0
  rw [Try.params3] at hA hval
  obtain ⟨v0, v1, v2, d0, d1, d2, p0, p1, p2, rfl, rfl, rfl, h0, h1, h2⟩ := trodAll_three hA
  obtain ⟨rfl, rfl⟩ := trodVars_none hV
  clear hA0 hval0
  simp only [List.append_nil] at hW'
  have l0 : ∀ y ∈ p0, y.block < W.heap.size := fun y hy => by simpa using hW'.lt y (by simp [hy])
  have l1 : ∀ y ∈ p1, y.block < W.heap.size := fun y hy => by simpa using hW'.lt y (by simp [hy])
  have l2 : ∀ y ∈ p2, y.block < W.heap.size := fun y hy => by simpa using hW'.lt y (by simp [hy])
  obtain ⟨x0, rfl, ho0⟩ := Ag.open_event (hval 0 25 v0 rfl rfl) h0
  obtain ⟨x1, rfl, ho1⟩ := Ag.open_event (hval 1 25 v1 rfl rfl) h1
  obtain ⟨x2, rfl, ho2⟩ := Ag.open_event (hval 2 25 v2 rfl rfl) h2
  simp only [List.append_assoc] at hW'
  refine (Ag.agendaOrders_walk x0 x1 x2 W ho0 ho1 ho2).mono fun e W' ⟨he, hb⟩ => ?_
  subst he
  exact ⟨_, rfl, Ag.law_post hW' (trodAll_mk1 (shut_bool Try.underlying4 _)) (trodAll_mk3 (Ag.arg_back (by kernel_rfl) (of_decide_eq_true (by kernel_rfl)) h0 hb l0) (Ag.arg_back (by kernel_rfl) (of_decide_eq_true (by kernel_rfl)) h1 hb l1) (Ag.arg_back (by kernel_rfl) (of_decide_eq_true (by kernel_rfl)) h2 hb l2)) rfl hb⟩
theorem row_holds : Rows.AgendaOrdersSaid :=
  OpenClaim.holds_of_wide 3 Try.f3 rfl rfl rfl rfl rfl rfl rfl ⟨rfl, rfl, rfl, rfl, rfl⟩ rfl rfl rfl rfl rfl (by kernel_rfl) Try.func3 (by kernel_rfl)
    (of_decide_eq_true (by kernel_rfl)) (by unfold Func.isWrapper; first | (rw [if_pos (by decide +kernel)]; kernel_rfl) | (rw [if_neg (by decide +kernel)]; exact ⟨rfl, rfl⟩))
    (fun os started H enc _ => lifted os started H enc)
end Go.Proofs.Ytmijjpecgcgkgaa.agendaOrders
namespace Go.Proofs.Ytmijjpecgcgkgaa
theorem agendaOrders_proved : Rows.AgendaOrdersSaid := agendaOrders.row_holds
end Go.Proofs.Ytmijjpecgcgkgaa
