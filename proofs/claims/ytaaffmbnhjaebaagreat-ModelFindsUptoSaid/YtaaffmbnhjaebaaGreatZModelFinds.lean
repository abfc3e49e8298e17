/-
  Link and Site of package model return what the reference returns, for every model and any two names (the law looks at models of at most 20 sites and 120 declarations). Conditions: the arguments hold together at most 1048576 values and letters, each counted each time it is reached.
-/
import Derived.Test.YtaaffmbnhjaebaaGreatZQLw2xb
namespace Go.Proofs.YtaaffmbnhjaebaaGreat.modelFinds
open Go.ChangeShapes Go.WideShapes Go.ChangeAt Go.RowKit
open Go.ChangeMaps (open_string)
set_option linter.unusedVariables false
set_option maxHeartbeats 4000000
set_option maxRecDepth 100000 in
theorem lifted (os : Os) (started : os.Started) (H : Type) (enc : TypeId × Value → H) (F : Stop.Interp) :
 ReturnsInHanded {} Tryz.checked os 4 .any ((Rows.OpenSpec.upto Rows.modelFindsSpec).pre6 enc Tryz.prog Tryz.f4 Rows.modelFindsUptoRow.domain false) (((Rows.OpenSpec.upto Rows.modelFindsSpec).at F).post enc Tryz.prog Tryz.f4 false true false false) := by
 refine returnsInHanded_of_cond (C := Tryz.checked) (s := Rows.OpenSpec.upto Rows.modelFindsSpec) (k := Rows.uptoSmall) rfl Ex.own started (by kernel_rfl) Tryz.func4
  (OpenSpec.witness (enc := enc) (C := Tryz.checked) (s := Rows.OpenSpec.upto Rows.modelFindsSpec) (k := Rows.uptoSmall) rfl false ⟨#[], #[.agg #[.string ⟨#[]⟩, .slice none 0 0, .slice none 0 0, .slice none 0 0], .string ⟨#[]⟩, .string ⟨#[]⟩], []⟩ 8 (by kernel_rfl) (by kernel_rfl) (by kernel_rfl)
    (x := ([.agg [.lit (.string []), .nil, .nil, .nil], .lit (.string []), .lit (.string [])], [], [])) (by kernel_rfl) rfl (by kernel_rfl)) ?_
 intro W base args ds gs before hval0 hW _ hk _
 have hval : ∀ (j : Nat) t v, Tryz.f4.params[j]? = some t → args[j]? = some v → Value.okWide Tryz.prog W .any base t v := hval0
 have hW' := hW
 obtain ⟨p, q, hA0, hV, rfl, hfz, hnd⟩ := hW
 have hA : DataW.TrodAll enc Tryz.prog W 0 (fun _ => true) true Tryz.f4.params.toList args.toList ds p := hA0
 rw [Tryz.params4] at hA hval
 obtain ⟨v0, v1, v2, d0, d1, d2, p0, p1, p2, rfl, rfl, rfl, h0, h1, h2⟩ := trodAll_three hA
 obtain ⟨rfl, rfl⟩ := trodVars_none hV
 clear hA0 hval0
 simp only [List.append_nil] at hW' hk
 have hbulk : Rows.uptoBulkAll [d0, d1, d2] ≤ 1048576 := of_decide_eq_true hk
 simp only [Rows.uptoBulkAll] at hbulk
 have l0 : ∀ y ∈ p0, y.block < W.heap.size := fun y hy => by simpa using hW'.lt y (by simp [hy])
 have l1 : ∀ y ∈ p1, y.block < W.heap.size := fun y hy => by simpa using hW'.lt y (by simp [hy])
 have l2 : ∀ y ∈ p2, y.block < W.heap.size := fun y hy => by simpa using hW'.lt y (by simp [hy])
 obtain ⟨x0, P0, rfl, I0, F0⟩ := Md.open_mdl h0 (by show Rows.uptoBulk d0 ≤ _; omega) (hval 0 26 v0 rfl rfl)
 obtain ⟨s1, rfl, hd1, -, hs1⟩ := open_string Tryz.underlying9 (hval 1 9 v1 rfl rfl) h1
 obtain ⟨s2, rfl, hd2, -, hs2⟩ := open_string Tryz.underlying9 (hval 2 9 v2 rfl rfl) h2
 simp only [List.append_assoc] at hW'
 refine (Md.modelFinds_walk x0 P0 s1 s2 W I0 F0).mono fun e W' ⟨he, hb⟩ => ?_
 subst he
 exact ⟨_, rfl, Ex.law_post (s := Rows.modelFindsSpec) hW' (trodAll_mk1 (shut_bool Tryz.underlying4 _)) (trodAll_mk3 (Ex.arg_back (by kernel_rfl) (of_decide_eq_true (by kernel_rfl)) h0 hb l0) (Ex.arg_back (by kernel_rfl) (of_decide_eq_true (by kernel_rfl)) h1 hb l1) (Ex.arg_back (by kernel_rfl) (of_decide_eq_true (by kernel_rfl)) h2 hb l2)) rfl hb⟩
theorem row_holds : Rows.ModelFindsUptoSaid :=
 OpenClaim.holds_of_cond 4 Tryz.f4 rfl rfl rfl rfl rfl rfl rfl ⟨rfl, rfl, rfl, rfl, rfl⟩ rfl rfl rfl rfl rfl (by kernel_rfl) Tryz.func4 (by kernel_rfl)
  (of_decide_eq_true (by kernel_rfl)) (by unfold Func.isWrapper; first | (rw [if_pos (by decide +kernel)]; kernel_rfl) | (rw [if_neg (by decide +kernel)]; exact ⟨rfl, rfl⟩))
  (fun os started H enc _ F => lifted os started H enc F)
end Go.Proofs.YtaaffmbnhjaebaaGreat.modelFinds
namespace Go.Proofs.YtaaffmbnhjaebaaGreat
theorem modelFindsUpto_proved : Rows.ModelFindsUptoSaid := modelFinds.row_holds
end Go.Proofs.YtaaffmbnhjaebaaGreat
