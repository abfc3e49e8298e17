/-
  Of as many random numbers at equal distances as all weights together say, each value gets its share (for tables and uniform distributions of at most 1000 numbers). Conditions: none on the arguments; the library variables of strconv and math/bits that the row lists hold what their initialisers lay, which the card ties to the program text.
-/
import Derived.Test.YtnfddeoddjmpkabDoorDFrame
import Derived.Test.YtnfddeoddjmpkabDoorDLaw7
import Derived.Test.YtnfddeoddjmpkabDoorCards
import Derived.Test.YtnfddeoddjmpkabDoorTie
import Derived.SevenTiedAt
namespace Go.Proofs.YtnfddeoddjmpkabDoor.distShares
open Go.ChangeShapes Go.WideShapes Go.ChangeAt Go.RowKit
set_option linter.unusedVariables false
set_option maxHeartbeats 4000000
set_option maxRecDepth 100000 in
theorem lifted (os : Os) (started : os.Started) (H : Type) (enc : TypeId × Value → H) :
    ReturnsInHanded {} Tryd.checked os 4 .any (fun w args => (Rows.distSharesSpec.pre enc Tryd.prog Tryd.f4 [] false w args ∧ laidMetH Tryd.prog laidAll w) ∧ sizedMet enc Tryd.prog Tryd.f4 (OpenSpec.ofChange Rows.distSharesSpec) false w args)
      (Rows.distSharesSpec.post enc Tryd.prog Tryd.f4 false true false false) := by
  refine returnsInHanded_of_change_and (C := Tryd.checked) (X := fun w _ => laidMetH Tryd.prog laidAll w) (fun _ _ _ hh h => h.of_heap hh) own started (by kernel_rfl) Tryd.func4
    (ChangeSpec.witness_shaped (enc := enc) (C := Tryd.checked) (os := os) (X := fun w _ => laidMetH Tryd.prog laidAll w) false (World.doorLaid Tryd.prog 62 os) #[.agg #[.int .i64 0, .int .i64 0, .int .i64 0, .int .i64 0, .slice none 0 0, .slice none 0 0], .int .u16 0] 8 rfl (World.shaped_of_RefB (by kernel_rfl) (by kernel_rfl)) (by kernel_rfl) (by kernel_rfl) (by kernel_rfl) (door_met os _)) ?_
  intro W base args ds gs before hval0 hW _ hsz0 hL _
  have hval : ∀ (j : Nat) t v, Tryd.f4.params[j]? = some t → args[j]? = some v → Value.okWide Tryd.prog W .any base t v := hval0
  have hW' := hW
  obtain ⟨p, q, hA0, hV, rfl, hfz, hnd⟩ := hW
  have hA : DataW.TrodAll enc Tryd.prog W 0 (fun _ => true) true Tryd.f4.params.toList args.toList ds p := hA0
  rw [Tryd.params4] at hA hval
  obtain ⟨v0, v1, d0, d1, p0, p1, rfl, rfl, rfl, h0, h1⟩ := trodAll_two hA
  obtain ⟨rfl, rfl⟩ := trodVars_none hV
  clear hA0 hval0
  simp only [List.append_nil] at hW'
  have l0 : ∀ y ∈ p0, y.block < W.heap.size := fun y hy => by simpa using hW'.lt y (by simp [hy])
  have l1 : ∀ y ∈ p1, y.block < W.heap.size := fun y hy => by simpa using hW'.lt y (by simp [hy])
  obtain ⟨op0, a0, b0, n0, s0, lv0, c0, t0, lw0, f0, V0, W0, rfl, hv0, hw0⟩ := Di.open_dist (hval 0 33 v0 rfl rfl) h0
  obtain ⟨x1, rfl, -, -, w1⟩ := open_int Tryd.underlying34 (hval 1 34 v1 rfl rfl) h1
  have g1 := bounds_u16 w1
  refine (Di.distShares_walk op0 a0 b0 n0 s0 lv0 c0 t0 lw0 f0 V0 W0 x1 g1.1 g1.2 W (env_of_laid hL) hv0 hw0).mono fun e W' ⟨he, hb⟩ => ?_
  subst he
  exact ⟨_, rfl, law_post hW' (trodAll_mk1 (shut_bool Tryd.underlying4 _)) (trodAll_mk2 (Di.arg_back (by kernel_rfl) (of_decide_eq_true (by kernel_rfl)) h0 hb l0) (Di.arg_back (by kernel_rfl) (of_decide_eq_true (by kernel_rfl)) h1 hb l1)) rfl hb⟩
theorem row_holds : Rows.DistSharesSaid :=
  OpenClaim.holds_of_wide 4 Tryd.f4 rfl rfl rfl rfl rfl rfl rfl ⟨rfl, rfl, rfl, rfl, rfl⟩ rfl rfl rfl rfl rfl (by kernel_rfl) Tryd.func4 (by kernel_rfl)
    (of_decide_eq_true (by kernel_rfl)) (by unfold Func.isWrapper; first | (rw [if_pos (by decide +kernel)]; kernel_rfl) | (rw [if_neg (by decide +kernel)]; exact ⟨rfl, rfl⟩))
    (fun os started H enc _ => lifted os started H enc)
end Go.Proofs.YtnfddeoddjmpkabDoor.distShares
namespace Go.Proofs.YtnfddeoddjmpkabDoor
open Go.ChangeShapes Go.WideShapes Go.ChangeAt Go.RowKit
theorem distShares_proved : Rows.DistSharesCardSaid :=
  Claim7.holds_tied_plain_at .later [] [.data, .data, .data] true Rows.distSharesCard.stood.harness false
    distShares.row_holds (fun _ h => by cases h) (by kernel_rfl) (fun _ h => by cases h) distShares_row_tie rfl ⟨rfl, rfl⟩ (by kernel_rfl) rfl
    (fun f fn hf hfn => by
      obtain rfl : f = 4 := Option.some.inj ((show Tryd.prog.funcNamed "simulator/simulatorlaw04.DistShares" = some 4 by kernel_rfl).symm.trans hf) |>.symm
      obtain rfl : fn = Tryd.f4 := (Option.some.inj (Tryd.func4.symm.trans hfn)).symm
      exact ⟨by kernel_rfl, fun j t ht => by
        rw [Tryd.params4] at ht
        have hm : t ∈ [33, 34] := by simpa using Array.mem_of_getElem? ht
        have hall : ([33, 34].all fun u => !Tryd.prog.wantsStandIn u) = true := by kernel_rfl
        exact (show Tryd.prog.wantsStandIn t = false by simpa using List.all_eq_true.1 hall t hm)⟩)
    (by kernel_rfl)
end Go.Proofs.YtnfddeoddjmpkabDoor
