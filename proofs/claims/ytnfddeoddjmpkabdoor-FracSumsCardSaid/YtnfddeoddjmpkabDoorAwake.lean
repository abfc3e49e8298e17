/-
  The contracts of the statements' own small functions: of, sign, awake.
-/
import Derived.Test.YtnfddeoddjmpkabDoorSum
import Derived.Test.YtnfddeoddjmpkabDoorText
import Derived.Test.YtnfddeoddjmpkabDoorMul
import Derived.Test.YtnfddeoddjmpkabDoorFloor
namespace Go.Proofs.YtnfddeoddjmpkabDoor
open Go.RowKit
set_option maxHeartbeats 8000000
theorem lof_any (n d : Int) (w : World) : Calls Tryd.prog 14 #[.int .i64 n, .int .i64 d] w (Gives (.agg #[.int .i64 n, .int .i64 d]) w) := by
  go_enter Tryd.func14, Tryd.ntmps14
  go_wp2
  exact bodyPost_ret (v := .agg #[.int .i64 n, .int .i64 d]) (by simp [results, Tryd.results14, go_sem, *]) rfl ⟨rfl, by repeat (first | exact Below.refl _ _ | assumption | apply bl_alloc | apply bl_drewN | apply bl_drew | (refine bl_set ?_ (by first | (simp; done) | (simp; omega)) _) | (refine bl_call ?_ (by assumption)))⟩
theorem awk_of (w : World) : Calls Tryd.prog 13 #[.int .i64 6, .int .i64 (-4)] w (Gives (.tuple #[.agg #[.int .i64 (-3), .int .i64 2], .bool true]) w) := by
  have h := of_any 6 (-4) (by decide) (by decide) (by decide) (by decide) w
  rw [show ofO 6 (-4) = some (-3, 2) from by kernel_rfl] at h; exact h
theorem awk_add (w : World) : Calls Tryd.prog 8 #[.agg #[.int .i64 1, .int .i64 2], .agg #[.int .i64 1, .int .i64 3]] w (Gives (.tuple #[.agg #[.int .i64 5, .int .i64 6], .bool true]) w) := by
  have h := add_any 1 2 1 3 (by decide) (by decide) (by decide) (by decide) (by decide) (by decide) (by decide) (by decide) w
  rw [show addO 1 2 1 3 = some (5, 6) from by kernel_rfl] at h; exact h
theorem awk_div (w : World) : Calls Tryd.prog 15 #[.agg #[.int .i64 1, .int .i64 2], .agg #[.int .i64 1, .int .i64 3]] w (Gives (.tuple #[.agg #[.int .i64 3, .int .i64 2], .bool true]) w) := by
  have h := div_any 1 2 1 3 (by decide) (by decide) (by decide) (by decide) (by decide) (by decide) (by decide) (by decide) w
  rw [show divO 1 2 1 3 = some (3, 2) from by kernel_rfl] at h; exact h
theorem awk_elems (w : World) (t : TypeId) : elems (w.alloc (.cells #[.int .i64 1, .int .i64 3, .int .i64 1, .int .i64 3, .int .i64 1, .int .i64 3] t)) w.heap.size 0 3 (fun _ => 1) (fun _ => 3) := by
  refine ⟨by simp, fun i hi => ?_⟩
  match i, hi with
  | 0, _ => exact ⟨by go_simp, by go_simp, by decide, by decide, by decide, by decide⟩
  | 1, _ => exact ⟨by go_simp, by go_simp, by decide, by decide, by decide, by decide⟩
  | 2, _ => exact ⟨by go_simp, by go_simp, by decide, by decide, by decide, by decide⟩
theorem awk_sum (w : World) (t : TypeId) :
    Calls Tryd.prog 6 #[.slice (some ⟨w.heap.size, 0, none⟩) 3 3] (w.alloc (.cells #[.int .i64 1, .int .i64 3, .int .i64 1, .int .i64 3, .int .i64 1, .int .i64 3] t))
      (Gives (.tuple #[.agg #[.int .i64 1, .int .i64 1], .bool true]) (w.alloc (.cells #[.int .i64 1, .int .i64 3, .int .i64 1, .int .i64 3, .int .i64 1, .int .i64 3] t))) := by
  have h := sum_some w.heap.size 0 3 3 (fun _ => 1) (fun _ => 3) (by decide) _ (awk_elems w t)
  rw [show sumR (fun _ => 1) (fun _ => 3) 3 0 0 1 = some (1, 1) from by kernel_rfl] at h; exact h
theorem awk_floor (w : World) : Calls Tryd.prog 16 #[.agg #[.int .i64 (-1), .int .i64 3], .int .i64 10] w (Gives (.tuple #[.int .i64 (-4), .bool true]) w) := by
  have h := floor_any (-1) 3 10 (by decide) (by decide) (by decide) (by decide) (by decide) (by decide) w
  rw [show floorR (-1) 3 10 = -4 from by kernel_rfl, show floorB (-1) 3 10 = true from by kernel_rfl] at h; exact h
theorem awk_num : txt (-3) 2 = ⟨#[45, 51, 47, 50]⟩ := by
  unfold txt num
  rw [if_pos (by kernel_rfl), if_neg (by decide), itoa_neg (-3) (by decide), itoa_small (- -3) (by decide) (by decide), itoa_small 2 (by decide) (by decide)]
  rfl
theorem awk_text (w : World) (hE : Env w) : Calls Tryd.prog 17 #[.agg #[.int .i64 (-3), .int .i64 2]] w (Gives (.string ⟨#[45, 51, 47, 50]⟩) w) := by
  have h := text_any (-3) 2 (by decide) (by decide) (by decide) (by decide) w hE
  rw [awk_num] at h; exact h
theorem awk_valid1 (w : World) : Calls Tryd.prog 18 #[.agg #[.int .i64 (-3), .int .i64 2]] w (Gives (.bool true) w) := by
  have h := valid_any (-3) 2 (by decide) (by decide) (by decide) (by decide) w
  rw [show okF (-3) 2 = true from by kernel_rfl] at h; exact h
theorem awk_valid2 (w : World) : Calls Tryd.prog 18 #[.agg #[.int .i64 2, .int .i64 4]] w (Gives (.bool false) w) := by
  have h := valid_any 2 4 (by decide) (by decide) (by decide) (by decide) w
  rw [show okF 2 4 = false from by kernel_rfl] at h; exact h
theorem awk_cmp (w : World) : Calls Tryd.prog 19 #[.agg #[.int .i64 1, .int .i64 3], .agg #[.int .i64 1, .int .i64 2]] w (Gives (.int .i64 (-1)) w) := by
  have h := cmp_any 1 3 1 2 (by decide) (by decide) (by decide) (by decide) (by decide) (by decide) (by decide) (by decide) w
  rw [show cmpF 1 3 1 2 = -1 from by kernel_rfl] at h; exact h
/-- What awake's four fractions hold. -/
structure Aw (a b c d : Nat) (w : World) : Prop where
  h : two w a (.int .i64 (-3)) (.int .i64 2) ∧ two w b (.int .i64 5) (.int .i64 6) ∧ two w c (.int .i64 3) (.int .i64 2) ∧ two w d (.int .i64 1) (.int .i64 1)
theorem Aw.on {a b c d : Nat} {w w2 : World} (hb : Below w.heap.size w w2) (k : Aw a b c d w) : Aw a b c d w2 := ⟨k.h.1.on hb, k.h.2.1.on hb, k.h.2.2.1.on hb, k.h.2.2.2.on hb⟩
theorem Aw.drew {a b c d : Nat} {w : World} (k : Aw a b c d w) : Aw a b c d w.drew := ⟨k.h.1.drew, k.h.2.1.drew, k.h.2.2.1.drew, k.h.2.2.2.drew⟩
theorem Aw.keep {a b c d : Nat} {w' : World} (k : Aw a b c d w') : w'.cell? ⟨a, 0, none⟩ = some (.int .i64 (-3)) ∧ w'.cell? ⟨a, 1, none⟩ = some (.int .i64 2) ∧ w'.cell? ⟨b, 0, none⟩ = some (.int .i64 5) ∧ w'.cell? ⟨b, 1, none⟩ = some (.int .i64 6) ∧
    w'.cell? ⟨c, 0, none⟩ = some (.int .i64 3) ∧ w'.cell? ⟨c, 1, none⟩ = some (.int .i64 2) ∧ w'.cell? ⟨d, 0, none⟩ = some (.int .i64 1) ∧ w'.cell? ⟨d, 1, none⟩ = some (.int .i64 1) :=
  ⟨k.h.1.1, k.h.1.2.1, k.h.2.1.1, k.h.2.1.2.1, k.h.2.2.1.1, k.h.2.2.1.2.1, k.h.2.2.2.1, k.h.2.2.2.2.1⟩
set_option maxRecDepth 100000 in
theorem awake_any (w : World) (hE : Env w) : Calls Tryd.prog 5 #[] w (Gives (.bool true) w) := by
  go_enter Tryd.func5, Tryd.ntmps5
  go_wp2_with fail
  refine (awk_of _).mono ?_
  rintro e w1 ⟨rfl, hb1⟩
  go_wp2_with fail
  refine (lof_any 1 2 _).mono ?_
  rintro e w2 ⟨rfl, hb2⟩
  go_wp2_with fail
  refine (lof_any 1 3 _).mono ?_
  rintro e w3 ⟨rfl, hb3⟩
  go_wp2_with fail
  refine (awk_add _).mono ?_
  rintro e w4 ⟨rfl, hb4⟩
  go_wp2_with fail
  refine (lof_any 1 2 _).mono ?_
  rintro e w5 ⟨rfl, hb5⟩
  go_wp2_with fail
  refine (lof_any 1 3 _).mono ?_
  rintro e w6 ⟨rfl, hb6⟩
  go_wp2_with fail
  refine (awk_div _).mono ?_
  rintro e w7 ⟨rfl, hb7⟩
  go_wp2_with fail
  refine (lof_any 1 3 _).mono ?_
  rintro e w8 ⟨rfl, hb8⟩
  go_wp2_with fail
  refine (lof_any 1 3 _).mono ?_
  rintro e w9 ⟨rfl, hb9⟩
  go_wp2_with fail
  refine (lof_any 1 3 _).mono ?_
  rintro e w10 ⟨rfl, hb10⟩
  go_wp2_with fail
  refine (awk_sum _ _).mono ?_
  rintro e w11 ⟨rfl, hb11⟩
  go_wp2_with fail
  refine (lof_any (-1) 3 _).mono ?_
  rintro e w12 ⟨rfl, hb12⟩
  go_wp2_with fail
  refine (awk_floor _).mono ?_
  rintro e w13 ⟨rfl, hb13⟩
  have t1 := two.on hb4 (two.on hb3 (two.on hb2 two.new))
  have t1 := two.on hb7 (two.on hb6 (two.on hb5 (two.alloc t1)))
  have t2 := two.on hb7 (two.on hb6 (two.on hb5 two.new))
  have t1 := two.on hb10 (two.on hb9 (two.on hb8 (two.alloc t1)))
  have t2 := two.on hb10 (two.on hb9 (two.on hb8 (two.alloc t2)))
  have t3 := two.on hb10 (two.on hb9 (two.on hb8 two.new))
  have t1 := two.on hb11 (two.alloc t1)
  have t2 := two.on hb11 (two.alloc t2)
  have t3 := two.on hb11 (two.alloc t3)
  have t1 := two.on hb13 (two.on hb12 (two.alloc t1))
  have t2 := two.on hb13 (two.on hb12 (two.alloc t2))
  have t3 := two.on hb13 (two.on hb12 (two.alloc t3))
  have t4 := two.on hb13 (two.on hb12 two.new)
  have A13 : Aw w1.heap.size w4.heap.size w7.heap.size w11.heap.size w13 := ⟨t1, t2, t3, t4⟩
  have v1 : okF (-3) 2 = true := by kernel_rfl
  have v2 : okF 2 4 = false := by kernel_rfl
  clear t1 t2 t3 t4
  have E13 : Env w13 := hE.below (by repeat (first | exact Below.refl _ _ | assumption | apply bl_alloc | apply bl_drewN | apply bl_drew | (refine bl_set ?_ (by first | (simp; done) | (simp; omega)) _) | (refine bl_call ?_ (by assumption))))
  go_upto_region 6 with fail
  obtain ⟨p0, p1, p2, p3, p4, p5, p6, p7⟩ := Aw.keep A13
  go_region_held3 (fun w' => w'.cell? ⟨w1.heap.size, 0, none⟩ = some (.int .i64 (-3)) ∧ w'.cell? ⟨w1.heap.size, 1, none⟩ = some (.int .i64 2) ∧ w'.cell? ⟨w4.heap.size, 0, none⟩ = some (.int .i64 5) ∧ w'.cell? ⟨w4.heap.size, 1, none⟩ = some (.int .i64 6) ∧
      w'.cell? ⟨w7.heap.size, 0, none⟩ = some (.int .i64 3) ∧ w'.cell? ⟨w7.heap.size, 1, none⟩ = some (.int .i64 2) ∧ w'.cell? ⟨w11.heap.size, 0, none⟩ = some (.int .i64 1) ∧ w'.cell? ⟨w11.heap.size, 1, none⟩ = some (.int .i64 1))
    (first | (go_keep; done) | exact Aw.keep A24 | exact Aw.keep A23 | exact Aw.keep A22 | exact Aw.keep A21 | exact Aw.keep A20 | exact Aw.keep A19 | exact Aw.keep A18 | exact Aw.keep A17 | exact Aw.keep A16 | exact Aw.keep A15 | exact Aw.keep A14 | exact Aw.keep A13)
    (first
      | (go_at_call 14; refine (lof_any _ _ _).mono ?_; rintro e w14 ⟨rfl, hb14⟩; have A14 := Aw.on hb14 A13.drew; have E14 := E13.drew.below hb14)
      | (go_at_call 14; refine (lof_any _ _ _).mono ?_; rintro e w15 ⟨rfl, hb15⟩; have A15 := Aw.on hb15 A14; have E15 := E14.below hb15)
      | (go_at_call 14; refine (lof_any _ _ _).mono ?_; rintro e w16 ⟨rfl, hb16⟩; have A16 := Aw.on hb16 A15; have E16 := E15.below hb16)
      | (go_at_call 14; refine (lof_any _ _ _).mono ?_; rintro e w17 ⟨rfl, hb17⟩; have A17 := Aw.on hb17 A16; have E17 := E16.below hb17)
      | (go_at_call 17; refine (awk_text _ E17).mono ?_; rintro e w18 ⟨rfl, hb18⟩; have A18 := Aw.on hb18 A17)
      | (go_at_call 18; refine (valid_any _ _ (by decide) (by decide) (by decide) (by decide) _).mono ?_; rintro e w19 ⟨rfl, hb19⟩; have A19 := Aw.on hb19 A18)
      | (go_at_call 14; refine (lof_any _ _ _).mono ?_; rintro e w20 ⟨rfl, hb20⟩; have A20 := Aw.on hb20 A19)
      | (go_at_call 18; refine (valid_any _ _ (by decide) (by decide) (by decide) (by decide) _).mono ?_; rintro e w21 ⟨rfl, hb21⟩; have A21 := Aw.on hb21 A20)
      | (go_at_call 14; refine (lof_any _ _ _).mono ?_; rintro e w22 ⟨rfl, hb22⟩; have A22 := Aw.on hb22 A21)
      | (go_at_call 14; refine (lof_any _ _ _).mono ?_; rintro e w23 ⟨rfl, hb23⟩; have A23 := Aw.on hb23 A22)
      | (go_at_call 19; refine (awk_cmp _).mono ?_; rintro e w24 ⟨rfl, hb24⟩; have A24 := Aw.on hb24 A23))
  all_goals (go_wp2_with fail; go_ret; exact ⟨rfl, by repeat (first | exact Below.refl _ _ | assumption | apply bl_alloc | apply bl_drewN | apply bl_drew | (refine bl_set ?_ (by first | (simp; done) | (simp; omega)) _) | (refine bl_call ?_ (by assumption)))⟩)
end Go.Proofs.YtnfddeoddjmpkabDoor
