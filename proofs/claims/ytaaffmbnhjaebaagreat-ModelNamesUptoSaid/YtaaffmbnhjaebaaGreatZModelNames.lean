/-
  Index and Name of package model give each other back for every name of an accepted model, and its routines and links are where its list of names says (the law looks at models of at most 20 sites and 120 declarations). Conditions: the arguments hold together at most 1048576 values and letters, each counted each time it is reached.
-/
import Derived.Test.YtaaffmbnhjaebaaGreatZQLw3xc
namespace Go.Proofs.YtaaffmbnhjaebaaGreat.modelNames
open Go.ChangeShapes Go.WideShapes Go.ChangeAt Go.RowKit
set_option linter.unusedVariables false
set_option maxHeartbeats 4000000
set_option maxRecDepth 100000 in
theorem lifted (os : Os) (started : os.Started) (H : Type) (enc : TypeId × Value → H) (F : Stop.Interp) :
 ReturnsInHanded {} Tryz.checked os 5 .any ((Rows.OpenSpec.upto Rows.modelNamesSpec).pre6 enc Tryz.prog Tryz.f5 Rows.modelNamesUptoRow.domain false) (((Rows.OpenSpec.upto Rows.modelNamesSpec).at F).post enc Tryz.prog Tryz.f5 false true false false) := by
 refine returnsInHanded_of_cond (C := Tryz.checked) (s := Rows.OpenSpec.upto Rows.modelNamesSpec) (k := Rows.uptoSmall) rfl Ex.own started (by kernel_rfl) Tryz.func5
  (OpenSpec.witness (enc := enc) (C := Tryz.checked) (s := Rows.OpenSpec.upto Rows.modelNamesSpec) (k := Rows.uptoSmall) rfl false ⟨#[], #[.agg #[.string ⟨#[]⟩, .slice none 0 0, .slice none 0 0, .slice none 0 0]], []⟩ 8 (by kernel_rfl) (by kernel_rfl) (by kernel_rfl)
    (x := ([.agg [.lit (.string []), .nil, .nil, .nil]], [], [])) (by kernel_rfl) rfl (by kernel_rfl)) ?_
 intro W base args ds gs before hval0 hW _ hk _
 have hval : ∀ (j : Nat) t v, Tryz.f5.params[j]? = some t → args[j]? = some v → Value.okWide Tryz.prog W .any base t v := hval0
 have hW' := hW
 obtain ⟨p, q, hA0, hV, rfl, hfz, hnd⟩ := hW
 have hA : DataW.TrodAll enc Tryz.prog W 0 (fun _ => true) true Tryz.f5.params.toList args.toList ds p := hA0
 rw [Tryz.params5] at hA hval
 obtain ⟨v0, d0, rfl, rfl, h0⟩ := trodAll_one hA
 obtain ⟨rfl, rfl⟩ := trodVars_none hV
 clear hA0 hval0
 simp only [List.append_nil] at hW' hk
 have hbulk : Rows.uptoBulkAll [d0] ≤ 1048576 := of_decide_eq_true hk
 simp only [Rows.uptoBulkAll] at hbulk
 have l0 : ∀ y ∈ p, y.block < W.heap.size := fun y hy => by simpa using hW'.lt y (by simp [hy])
 obtain ⟨x0, P0, rfl, I0, F0⟩ := Md.open_mdl h0 (by show Rows.uptoBulk d0 ≤ _; omega) (hval 0 26 v0 rfl rfl)
 refine (Md.modelNames_walk x0 P0 W I0 F0).mono fun e W' ⟨he, hb⟩ => ?_
 subst he
 exact ⟨_, rfl, Ex.law_post (s := Rows.modelNamesSpec) hW' (trodAll_mk1 (shut_bool Tryz.underlying4 _)) (trodAll_mk1 (Ex.arg_back (by kernel_rfl) (of_decide_eq_true (by kernel_rfl)) h0 hb l0)) rfl hb⟩
theorem row_holds : Rows.ModelNamesUptoSaid :=
 OpenClaim.holds_of_cond 5 Tryz.f5 rfl rfl rfl rfl rfl rfl rfl ⟨rfl, rfl, rfl, rfl, rfl⟩ rfl rfl rfl rfl rfl (by kernel_rfl) Tryz.func5 (by kernel_rfl)
  (of_decide_eq_true (by kernel_rfl)) (by unfold Func.isWrapper; first | (rw [if_pos (by decide +kernel)]; kernel_rfl) | (rw [if_neg (by decide +kernel)]; exact ⟨rfl, rfl⟩))
  (fun os started H enc _ F => lifted os started H enc F)
end Go.Proofs.YtaaffmbnhjaebaaGreat.modelNames
namespace Go.Proofs.YtaaffmbnhjaebaaGreat
theorem modelNamesUpto_proved : Rows.ModelNamesUptoSaid := modelNames.row_holds
end Go.Proofs.YtaaffmbnhjaebaaGreat
