/-
  The contract of the reference's check of the chapter's examples: it returns true in every memory in which the library's variables are as their initialisers lay them.
-/
import Derived.Test.YtcbjkdbclimbeaaDoorOps
import Derived.Test.YtcbjkdbclimbeaaDoorLoops
import Derived.Test.YtcbjkdbclimbeaaDoorText
namespace Go.Proofs.YtcbjkdbclimbeaaDoor
open Go.RowKit
set_option maxHeartbeats 400000
theorem num_40 : num (-40) = ⟨#[45, 52, 48]⟩ := by
  have h : Lib.itoa (-40) = [45, 52, 48] := by
    rw [itoa_neg _ (by omega), show -(-40 : Int) = 40 from rfl, itoa_big 40 (by omega), itoa_small (40 / 10) (by omega) (by omega), itoa_small (40 % 10) (by omega) (by omega)]
    decide
  unfold num
  rw [h]
theorem num_4 : Lib.itoa 4 = [52] := by rw [itoa_small 4 (by omega) (by omega)]; decide
theorem not_04 (v : Int) (h : inB v = true) : num v ≠ ⟨#[48, 52]⟩ := by
  intro e
  obtain ⟨h0, h1⟩ := inB_true h
  have e1 : Lib.itoa v = [48, 52] := by
    have := congrArg (fun b : ByteArray => b.data.toList) e
    simpa [num] using this
  have e2 := atoi_itoa v (by omega) (by omega)
  rw [e1, show Lib.atoiAll [48, 52] = .ok 4 by decide] at e2
  injection e2 with e2
  subst e2
  rw [num_4] at e1
  exact absurd e1 (by decide)
theorem parse_40 (w : World) (hE : Env w) : Calls Tryd.prog 28 #[.string ⟨#[45, 52, 48]⟩] w fun e w' => e = .returned (.tuple #[.int .i64 (-40), .bool true]) ∧ Below w.heap.size w w' := by
  rw [← num_40]
  exact parse_yes (-40) (by omega) (by omega) w hE
theorem parse_04 (w : World) (hE : Env w) : Calls Tryd.prog 28 #[.string ⟨#[48, 52]⟩] w fun e w' => e = .returned (.tuple #[.int .i64 0, .bool false]) ∧ Below w.heap.size w w' :=
  parse_no _ (by decide) not_04 w hE
theorem text_40 (w : World) (hE : Env w) : Calls Tryd.prog 27 #[.int .i64 (-40)] w fun e w' => e = .returned (.string ⟨#[45, 52, 48]⟩) ∧ Below w.heap.size w w' := by
  rw [← num_40]
  exact text_any (-40) (by omega) (by omega) w hE
theorem add_ex (w : World) : Calls Tryd.prog 16 #[.int .i64 7, .int .i64 (-10)] w fun e w' => e = .returned (.int .i64 (-3)) ∧ w = w' := add_any 7 (-10) w
theorem mul_ex (w : World) : Calls Tryd.prog 17 #[.int .i64 (-3), .int .i64 4] w fun e w' => e = .returned (.int .i64 (-12)) ∧ w = w' := mul_any (-3) 4 w
theorem div_ex (w : World) : Calls Tryd.prog 20 #[.int .i64 (-7), .int .i64 2] w fun e w' => e = .returned (.int .i64 (-4)) ∧ w = w' := div_any (-7) 2 w
theorem mod_ex (w : World) : Calls Tryd.prog 22 #[.int .i64 (-7), .int .i64 2] w fun e w' => e = .returned (.int .i64 1) ∧ w = w' := mod_any (-7) 2 w
theorem gcd_ex (w : World) : Calls Tryd.prog 24 #[.int .i64 12, .int .i64 (-18)] w fun e w' => e = .returned (.int .i64 6) ∧ Below w.heap.size w w' :=
  (gcd_any 12 (-18) w).mono fun _ _ ⟨he, hb⟩ => ⟨he.trans (ret_int (by decide)), hb⟩
theorem in_ex1 (w : World) : Calls Tryd.prog 12 #[.int .i64 1000000000000] w fun e w' => e = .returned (.bool true) ∧ w = w' := in_any 1000000000000 w
theorem in_ex2 (w : World) : Calls Tryd.prog 12 #[.int .i64 (-1000000000001)] w fun e w' => e = .returned (.bool false) ∧ w = w' := in_any (-1000000000001) w
theorem clip_ex (w : World) : Calls Tryd.prog 11 #[.int .i64 2000000000000] w fun e w' => e = .returned (.int .i64 1000000000000) ∧ w = w' := clip_any 2000000000000 w
theorem awake_any (w : World) (hE : Env w) : Calls Tryd.prog 15 #[] w fun e w' => e = .returned (.bool true) ∧ Below w.heap.size w w' := by
  go_enter Tryd.func15, Tryd.ntmps15
  go_wp2_with fail
  refine (parse_40 _ hE).mono ?_
  rintro e w1 ⟨rfl, hb1⟩
  have hE1 := hE.below hb1
  go_wp2_with fail
  refine (parse_04 _ hE1).mono ?_
  rintro e w2 ⟨rfl, hb2⟩
  have hE2 := hE1.below hb2
  go_wp2_with fail
  refine (add_ex _).mono ?_
  rintro e w' ⟨rfl, rfl⟩
  go_wp2_with fail
  refine (mul_ex _).mono ?_
  rintro e w' ⟨rfl, rfl⟩
  go_wp2_with fail
  refine (div_ex _).mono ?_
  rintro e w' ⟨rfl, rfl⟩
  go_wp2_with fail
  refine (mod_ex _).mono ?_
  rintro e w' ⟨rfl, rfl⟩
  go_wp2_with fail
  refine (gcd_ex _).mono ?_
  rintro e w3 ⟨rfl, hb3⟩
  have hE3 := hE2.below hb3
  go_wp2_with fail
  refine (root_99 _).mono ?_
  rintro e w' ⟨rfl, rfl⟩
  go_wp2_with fail
  refine (text_40 _ hE3).mono ?_
  rintro e w4 ⟨rfl, hb4⟩
  go_wp2_with fail
  refine (in_ex1 _).mono ?_
  rintro e w' ⟨rfl, rfl⟩
  go_wp2_with fail
  refine (in_ex2 _).mono ?_
  rintro e w' ⟨rfl, rfl⟩
  go_wp2_with fail
  refine (clip_ex _).mono ?_
  rintro e w' ⟨rfl, rfl⟩
  go_wp2_with fail
  go_ret
  exact ⟨rfl, ((hb1.trans (hb2.mono hb1.size)).trans (hb3.mono (Nat.le_trans hb1.size hb2.size))).trans (hb4.mono (Nat.le_trans hb1.size (Nat.le_trans hb2.size hb3.size)))⟩
end Go.Proofs.YtcbjkdbclimbeaaDoor
