/-
  The statement DistTexts, walked.
-/
import Derived.Test.YteapicfobammjaaDoorDShort
import Derived.Test.YteapicfobammjaaDoorDSame
import Derived.Test.YteapicfobammjaaDoorDTxt2
namespace Go.Proofs.YteapicfobammjaaDoor.Di
open Go.RowKit
set_option maxHeartbeats 8000000
theorem texts_no1 (op a b n : Int) (p : Option Addr) (lv c : Nat) (q : Option Addr) (lw f : Nat) (op2 a2 b2 n2 : Int) (p2 : Option Addr) (lv2 c2 : Nat) (q2 : Option Addr) (lw2 f2 : Nat) (w : World) (SH : Hid (∀ w2, Calls Tryd.prog 20 #[.agg #[.int .i64 op, .int .i64 a, .int .i64 b, .int .i64 n, .slice p lv c, .slice q lw f]] w2 (Gives (.bool false) w2))) (AW : Hid (∀ w2, Below w.heap.size w w2 → Calls Tryd.prog 21 #[] w2 (Gives (.bool true) w2))) : Calls Tryd.prog 11 #[.agg #[.int .i64 op, .int .i64 a, .int .i64 b, .int .i64 n, .slice p lv c, .slice q lw f], .agg #[.int .i64 op2, .int .i64 a2, .int .i64 b2, .int .i64 n2, .slice p2 lv2 c2, .slice q2 lw2 f2]] w (Gives (.bool true) w) := by
  go_enter Tryd.func11, Tryd.ntmps11
  go_wp2_with fail
  refine (SH.out _).mono ?_
  rintro e w1 ⟨rfl, hb1⟩
  go_wp2_with fail
  refine (AW.out _ (by (repeat (first | (with_reducible exact Below.refl _ _) | (with_reducible assumption) | (with_reducible apply bl_alloc) | (with_reducible apply bl_drewN) | (with_reducible apply bl_drew) | (with_reducible refine bl_set ?_ (by first | (simp; done) | (simp; omega)) _) | (with_reducible refine bl_call ?_ (by assumption)))))).mono ?_
  rintro e w2 ⟨rfl, hb2⟩
  go_wp2_with fail
  go_ret
  exact ⟨rfl, by (repeat (first | (with_reducible exact Below.refl _ _) | (with_reducible assumption) | (with_reducible apply bl_alloc) | (with_reducible apply bl_drewN) | (with_reducible apply bl_drew) | (with_reducible refine bl_set ?_ (by first | (simp; done) | (simp; omega)) _) | (with_reducible refine bl_call ?_ (by assumption))))⟩
theorem texts_no2 (op a b n : Int) (p : Option Addr) (lv c : Nat) (q : Option Addr) (lw f : Nat) (op2 a2 b2 n2 : Int) (p2 : Option Addr) (lv2 c2 : Nat) (q2 : Option Addr) (lw2 f2 : Nat) (w : World) (SH : Hid (∀ w2, Calls Tryd.prog 20 #[.agg #[.int .i64 op, .int .i64 a, .int .i64 b, .int .i64 n, .slice p lv c, .slice q lw f]] w2 (Gives (.bool true) w2))) (SH2 : Hid (∀ w2, Calls Tryd.prog 20 #[.agg #[.int .i64 op2, .int .i64 a2, .int .i64 b2, .int .i64 n2, .slice p2 lv2 c2, .slice q2 lw2 f2]] w2 (Gives (.bool false) w2))) (AW : Hid (∀ w2, Below w.heap.size w w2 → Calls Tryd.prog 21 #[] w2 (Gives (.bool true) w2))) : Calls Tryd.prog 11 #[.agg #[.int .i64 op, .int .i64 a, .int .i64 b, .int .i64 n, .slice p lv c, .slice q lw f], .agg #[.int .i64 op2, .int .i64 a2, .int .i64 b2, .int .i64 n2, .slice p2 lv2 c2, .slice q2 lw2 f2]] w (Gives (.bool true) w) := by
  go_enter Tryd.func11, Tryd.ntmps11
  go_wp2_with fail
  refine (SH.out _).mono ?_
  rintro e w1 ⟨rfl, hb1⟩
  have E1 : six w1 (w.heap.size + 1) (.int .i64 op2) (.int .i64 a2) (.int .i64 b2) (.int .i64 n2) (.slice p2 lv2 c2) (.slice q2 lw2 f2) := six.on hb1 (by refine ⟨?_, ?_, ?_, ?_, ?_, ?_, ?_⟩ <;> first | (go_simp; done) | (simp; done) | (simp; omega))
  obtain ⟨g0, g1, g2, g3, g4, g5, g6⟩ := E1
  have E1 : six _ _ _ _ _ _ _ _ := ⟨g0, g1, g2, g3, g4, g5, g6⟩
  go_wp2_with fail
  refine (SH2.out _).mono ?_
  rintro e w2 ⟨rfl, hb2⟩
  go_wp2_with fail
  refine (AW.out _ (by (repeat (first | (with_reducible exact Below.refl _ _) | (with_reducible assumption) | (with_reducible apply bl_alloc) | (with_reducible apply bl_drewN) | (with_reducible apply bl_drew) | (with_reducible refine bl_set ?_ (by first | (simp; done) | (simp; omega)) _) | (with_reducible refine bl_call ?_ (by assumption)))))).mono ?_
  rintro e w3 ⟨rfl, hb3⟩
  go_wp2_with fail
  go_ret
  exact ⟨rfl, by (repeat (first | (with_reducible exact Below.refl _ _) | (with_reducible assumption) | (with_reducible apply bl_alloc) | (with_reducible apply bl_drewN) | (with_reducible apply bl_drew) | (with_reducible refine bl_set ?_ (by first | (simp; done) | (simp; omega)) _) | (with_reducible refine bl_call ?_ (by assumption))))⟩
theorem keep12 {op a b n : Int} {p : Option Addr} {lv c : Nat} {q : Option Addr} {lw f : Nat} {op2 a2 b2 n2 : Int} {p2 : Option Addr} {lv2 c2 : Nat} {q2 : Option Addr} {lw2 f2 : Nat} {w' : World} {ga gb : Nat} (A : six w' ga (.int .i64 op) (.int .i64 a) (.int .i64 b) (.int .i64 n) (.slice p lv c) (.slice q lw f)) (B : six w' gb (.int .i64 op2) (.int .i64 a2) (.int .i64 b2) (.int .i64 n2) (.slice p2 lv2 c2) (.slice q2 lw2 f2)) :
    w'.cell? ⟨ga, 0, none⟩ = some (.int .i64 op) ∧ w'.cell? ⟨ga, 1, none⟩ = some (.int .i64 a) ∧ w'.cell? ⟨ga, 2, none⟩ = some (.int .i64 b) ∧ w'.cell? ⟨ga, 3, none⟩ = some (.int .i64 n) ∧ w'.cell? ⟨ga, 4, none⟩ = some (.slice p lv c) ∧ w'.cell? ⟨ga, 5, none⟩ = some (.slice q lw f) ∧ w'.cell? ⟨gb, 0, none⟩ = some (.int .i64 op2) ∧ w'.cell? ⟨gb, 1, none⟩ = some (.int .i64 a2) ∧ w'.cell? ⟨gb, 2, none⟩ = some (.int .i64 b2) ∧ w'.cell? ⟨gb, 3, none⟩ = some (.int .i64 n2) ∧ w'.cell? ⟨gb, 4, none⟩ = some (.slice p2 lv2 c2) ∧ w'.cell? ⟨gb, 5, none⟩ = some (.slice q2 lw2 f2) := by
  obtain ⟨a0, a1, a2, a3, a4, a5, a6⟩ := A
  obtain ⟨b0, b1, b2, b3, b4, b5, b6⟩ := B
  exact ⟨a0, a1, a2, a3, a4, a5, b0, b1, b2, b3, b4, b5⟩
set_option maxRecDepth 100000 in
theorem texts_e (op a b n : Int) (p : Option Addr) (lv c : Nat) (q : Option Addr) (lw f : Nat) (op2 a2 b2 n2 : Int) (p2 : Option Addr) (lv2 c2 : Nat) (q2 : Option Addr) (lw2 f2 : Nat) (E : Int) (hE : (E != 0) = true) (T : ByteArray) (w : World) (SH : Hid (∀ w2, Calls Tryd.prog 20 #[.agg #[.int .i64 op, .int .i64 a, .int .i64 b, .int .i64 n, .slice p lv c, .slice q lw f]] w2 (Gives (.bool true) w2))) (SH2 : Hid (∀ w2, Calls Tryd.prog 20 #[.agg #[.int .i64 op2, .int .i64 a2, .int .i64 b2, .int .i64 n2, .slice p2 lv2 c2, .slice q2 lw2 f2]] w2 (Gives (.bool true) w2))) (AW : Hid (∀ w2, Below w.heap.size w w2 → Calls Tryd.prog 21 #[] w2 (Gives (.bool true) w2)))
    (CH : Hid (∀ w2, Below w.heap.size w w2 → Calls Tryd.prog 24 #[.agg #[.int .i64 op, .int .i64 a, .int .i64 b, .int .i64 n, .slice p lv c, .slice q lw f]] w2 (Gives (.int .i64 E) w2)))
    (TA : Hid (∀ w2, Below w.heap.size w w2 → Calls Tryd.prog 28 #[.agg #[.int .i64 op, .int .i64 a, .int .i64 b, .int .i64 n, .slice p lv c, .slice q lw f]] w2 (Gives (.string ⟨#[]⟩) w2))) (TB : Hid (∀ w2, Below w.heap.size w w2 → Calls Tryd.prog 28 #[.agg #[.int .i64 op2, .int .i64 a2, .int .i64 b2, .int .i64 n2, .slice p2 lv2 c2, .slice q2 lw2 f2]] w2 (Gives (.string T) w2))) :
    Calls Tryd.prog 11 #[.agg #[.int .i64 op, .int .i64 a, .int .i64 b, .int .i64 n, .slice p lv c, .slice q lw f], .agg #[.int .i64 op2, .int .i64 a2, .int .i64 b2, .int .i64 n2, .slice p2 lv2 c2, .slice q2 lw2 f2]] w (Gives (.bool true) w) := by
  go_enter Tryd.func11, Tryd.ntmps11
  go_wp2_with fail
  refine (SH.out _).mono ?_
  rintro e w1 ⟨rfl, hb1⟩
  have D1 := six.on hb1 (six.alloc (o := .cells #[.int .i64 op2, .int .i64 a2, .int .i64 b2, .int .i64 n2, .slice p2 lv2 c2, .slice q2 lw2 f2] 36) (six.new (w := w) (t := 36)))
  have E1 : six w1 (w.heap.size + 1) (.int .i64 op2) (.int .i64 a2) (.int .i64 b2) (.int .i64 n2) (.slice p2 lv2 c2) (.slice q2 lw2 f2) := six.on hb1 (by refine ⟨?_, ?_, ?_, ?_, ?_, ?_, ?_⟩ <;> first | (go_simp; done) | (simp; done) | (simp; omega))
  obtain ⟨d0, d1, d2, d3, d4, d5, d6⟩ := D1
  have D1 : six _ _ _ _ _ _ _ _ := ⟨d0, d1, d2, d3, d4, d5, d6⟩
  obtain ⟨g0, g1, g2, g3, g4, g5, g6⟩ := E1
  have E1 : six _ _ _ _ _ _ _ _ := ⟨g0, g1, g2, g3, g4, g5, g6⟩
  go_wp2_with fail
  refine (SH2.out _).mono ?_
  rintro e w2 ⟨rfl, hb2⟩
  have D2 := six.on hb2 D1
  have E2 := six.on hb2 E1
  clear d0 d1 d2 d3 d4 d5 d6 g0 g1 g2 g3 g4 g5 g6
  obtain ⟨d0, d1, d2, d3, d4, d5, d6⟩ := D2
  have D2 : six _ _ _ _ _ _ _ _ := ⟨d0, d1, d2, d3, d4, d5, d6⟩
  obtain ⟨g0, g1, g2, g3, g4, g5, g6⟩ := E2
  have E2 : six _ _ _ _ _ _ _ _ := ⟨g0, g1, g2, g3, g4, g5, g6⟩
  go_wp2_with fail
  go_region_held3 (fun w' => w'.cell? ⟨w.heap.size, 0, none⟩ = some (.int .i64 op) ∧ w'.cell? ⟨w.heap.size, 1, none⟩ = some (.int .i64 a) ∧ w'.cell? ⟨w.heap.size, 2, none⟩ = some (.int .i64 b) ∧ w'.cell? ⟨w.heap.size, 3, none⟩ = some (.int .i64 n) ∧ w'.cell? ⟨w.heap.size, 4, none⟩ = some (.slice p lv c) ∧ w'.cell? ⟨w.heap.size, 5, none⟩ = some (.slice q lw f) ∧ w'.cell? ⟨(w.heap.size + 1), 0, none⟩ = some (.int .i64 op2) ∧ w'.cell? ⟨(w.heap.size + 1), 1, none⟩ = some (.int .i64 a2) ∧ w'.cell? ⟨(w.heap.size + 1), 2, none⟩ = some (.int .i64 b2) ∧ w'.cell? ⟨(w.heap.size + 1), 3, none⟩ = some (.int .i64 n2) ∧ w'.cell? ⟨(w.heap.size + 1), 4, none⟩ = some (.slice p2 lv2 c2) ∧ w'.cell? ⟨(w.heap.size + 1), 5, none⟩ = some (.slice q2 lw2 f2)) (first | (with_reducible exact keep12 A4 B4) | (with_reducible exact keep12 A3 B3) | (with_reducible exact keep12 D2.drew E2.drew) | (with_reducible exact keep12 D2 E2) | (go_keep; done))
    (first
      | (go_at_call_of 28 (Value.agg #[.int .i64 op, .int .i64 a, .int .i64 b, .int .i64 n, .slice p lv c, .slice q lw f]); refine (TA.out _ (by (repeat (first | (with_reducible exact Below.refl _ _) | (with_reducible assumption) | (with_reducible apply bl_alloc) | (with_reducible apply bl_drewN) | (with_reducible apply bl_drew) | (with_reducible refine bl_set ?_ (by first | (simp; done) | (simp; omega)) _) | (with_reducible refine bl_call ?_ (by assumption)))))).mono ?_; rintro e w3 ⟨rfl, hb3⟩; have A3 := six.on hb3 D2.drew; have B3 := six.on hb3 E2.drew)
      | (go_at_call_of 28 (Value.agg #[.int .i64 op2, .int .i64 a2, .int .i64 b2, .int .i64 n2, .slice p2 lv2 c2, .slice q2 lw2 f2]); refine (TB.out _ (by (repeat (first | (with_reducible exact Below.refl _ _) | (with_reducible assumption) | (with_reducible apply bl_alloc) | (with_reducible apply bl_drewN) | (with_reducible apply bl_drew) | (with_reducible refine bl_set ?_ (by first | (simp; done) | (simp; omega)) _) | (with_reducible refine bl_call ?_ (by assumption)))))).mono ?_; rintro e w4 ⟨rfl, hb4⟩; have A4 := six.on hb4 A3; have B4 := six.on hb4 B3))
  all_goals
    clear d0 d1 d2 d3 d4 d5 d6 g0 g1 g2 g3 g4 g5 g6
    obtain ⟨d0, d1, d2, d3, d4, d5, d6⟩ := A4
    have A4 : six _ _ _ _ _ _ _ _ := ⟨d0, d1, d2, d3, d4, d5, d6⟩
    obtain ⟨g0, g1, g2, g3, g4, g5, g6⟩ := B4
    have B4 : six _ _ _ _ _ _ _ _ := ⟨g0, g1, g2, g3, g4, g5, g6⟩
    go_wp2_with fail
    refine (CH.out _ (by (repeat (first | (with_reducible exact Below.refl _ _) | (with_reducible assumption) | (with_reducible apply bl_alloc) | (with_reducible apply bl_drewN) | (with_reducible apply bl_drew) | (with_reducible refine bl_set ?_ (by first | (simp; done) | (simp; omega)) _) | (with_reducible refine bl_call ?_ (by assumption)))))).mono ?_
    rintro e w5 ⟨rfl, hb5⟩
    go_wp2_with fail
    refine (AW.out _ (by (repeat (first | (with_reducible exact Below.refl _ _) | (with_reducible assumption) | (with_reducible apply bl_alloc) | (with_reducible apply bl_drewN) | (with_reducible apply bl_drew) | (with_reducible refine bl_set ?_ (by first | (simp; done) | (simp; omega)) _) | (with_reducible refine bl_call ?_ (by assumption)))))).mono ?_
    rintro e w6 ⟨rfl, hb6⟩
    go_wp2_with fail
    go_ret
    exact ⟨rfl, by (repeat (first | (with_reducible exact Below.refl _ _) | (with_reducible assumption) | (with_reducible apply bl_alloc) | (with_reducible apply bl_drewN) | (with_reducible apply bl_drew) | (with_reducible refine bl_set ?_ (by first | (simp; done) | (simp; omega)) _) | (with_reducible refine bl_call ?_ (by assumption))))⟩
set_option maxRecDepth 100000 in
theorem texts_f (op a b n : Int) (p : Option Addr) (lv c : Nat) (q : Option Addr) (lw f : Nat) (op2 a2 b2 n2 : Int) (p2 : Option Addr) (lv2 c2 : Nat) (q2 : Option Addr) (lw2 f2 : Nat) (S : ByteArray) (hS2 : (S.toList == []) = false) (w : World) (SH : Hid (∀ w2, Calls Tryd.prog 20 #[.agg #[.int .i64 op, .int .i64 a, .int .i64 b, .int .i64 n, .slice p lv c, .slice q lw f]] w2 (Gives (.bool true) w2))) (SH2 : Hid (∀ w2, Calls Tryd.prog 20 #[.agg #[.int .i64 op2, .int .i64 a2, .int .i64 b2, .int .i64 n2, .slice p2 lv2 c2, .slice q2 lw2 f2]] w2 (Gives (.bool true) w2))) (AW : Hid (∀ w2, Below w.heap.size w w2 → Calls Tryd.prog 21 #[] w2 (Gives (.bool true) w2)))
    (CH : Hid (∀ w2, Below w.heap.size w w2 → Calls Tryd.prog 24 #[.agg #[.int .i64 op, .int .i64 a, .int .i64 b, .int .i64 n, .slice p lv c, .slice q lw f]] w2 (Gives (.int .i64 0) w2)))
    (TA : Hid (∀ w2, Below w.heap.size w w2 → Calls Tryd.prog 28 #[.agg #[.int .i64 op, .int .i64 a, .int .i64 b, .int .i64 n, .slice p lv c, .slice q lw f]] w2 (Gives (.string S) w2))) (TB : Hid (∀ w2, Below w.heap.size w w2 → Calls Tryd.prog 28 #[.agg #[.int .i64 op2, .int .i64 a2, .int .i64 b2, .int .i64 n2, .slice p2 lv2 c2, .slice q2 lw2 f2]] w2 (Gives (.string ⟨#[]⟩) w2))) :
    Calls Tryd.prog 11 #[.agg #[.int .i64 op, .int .i64 a, .int .i64 b, .int .i64 n, .slice p lv c, .slice q lw f], .agg #[.int .i64 op2, .int .i64 a2, .int .i64 b2, .int .i64 n2, .slice p2 lv2 c2, .slice q2 lw2 f2]] w (Gives (.bool true) w) := by
  go_enter Tryd.func11, Tryd.ntmps11
  go_wp2_with fail
  refine (SH.out _).mono ?_
  rintro e w1 ⟨rfl, hb1⟩
  have D1 := six.on hb1 (six.alloc (o := .cells #[.int .i64 op2, .int .i64 a2, .int .i64 b2, .int .i64 n2, .slice p2 lv2 c2, .slice q2 lw2 f2] 36) (six.new (w := w) (t := 36)))
  have E1 : six w1 (w.heap.size + 1) (.int .i64 op2) (.int .i64 a2) (.int .i64 b2) (.int .i64 n2) (.slice p2 lv2 c2) (.slice q2 lw2 f2) := six.on hb1 (by refine ⟨?_, ?_, ?_, ?_, ?_, ?_, ?_⟩ <;> first | (go_simp; done) | (simp; done) | (simp; omega))
  obtain ⟨d0, d1, d2, d3, d4, d5, d6⟩ := D1
  have D1 : six _ _ _ _ _ _ _ _ := ⟨d0, d1, d2, d3, d4, d5, d6⟩
  obtain ⟨g0, g1, g2, g3, g4, g5, g6⟩ := E1
  have E1 : six _ _ _ _ _ _ _ _ := ⟨g0, g1, g2, g3, g4, g5, g6⟩
  go_wp2_with fail
  refine (SH2.out _).mono ?_
  rintro e w2 ⟨rfl, hb2⟩
  have D2 := six.on hb2 D1
  have E2 := six.on hb2 E1
  clear d0 d1 d2 d3 d4 d5 d6 g0 g1 g2 g3 g4 g5 g6
  obtain ⟨d0, d1, d2, d3, d4, d5, d6⟩ := D2
  have D2 : six _ _ _ _ _ _ _ _ := ⟨d0, d1, d2, d3, d4, d5, d6⟩
  obtain ⟨g0, g1, g2, g3, g4, g5, g6⟩ := E2
  have E2 : six _ _ _ _ _ _ _ _ := ⟨g0, g1, g2, g3, g4, g5, g6⟩
  go_wp2_with fail
  go_region_held3 (fun w' => w'.cell? ⟨w.heap.size, 0, none⟩ = some (.int .i64 op) ∧ w'.cell? ⟨w.heap.size, 1, none⟩ = some (.int .i64 a) ∧ w'.cell? ⟨w.heap.size, 2, none⟩ = some (.int .i64 b) ∧ w'.cell? ⟨w.heap.size, 3, none⟩ = some (.int .i64 n) ∧ w'.cell? ⟨w.heap.size, 4, none⟩ = some (.slice p lv c) ∧ w'.cell? ⟨w.heap.size, 5, none⟩ = some (.slice q lw f) ∧ w'.cell? ⟨(w.heap.size + 1), 0, none⟩ = some (.int .i64 op2) ∧ w'.cell? ⟨(w.heap.size + 1), 1, none⟩ = some (.int .i64 a2) ∧ w'.cell? ⟨(w.heap.size + 1), 2, none⟩ = some (.int .i64 b2) ∧ w'.cell? ⟨(w.heap.size + 1), 3, none⟩ = some (.int .i64 n2) ∧ w'.cell? ⟨(w.heap.size + 1), 4, none⟩ = some (.slice p2 lv2 c2) ∧ w'.cell? ⟨(w.heap.size + 1), 5, none⟩ = some (.slice q2 lw2 f2)) (first | (with_reducible exact keep12 A4 B4) | (with_reducible exact keep12 A3 B3) | (with_reducible exact keep12 D2.drew E2.drew) | (with_reducible exact keep12 D2 E2) | (go_keep; done))
    (first
      | (go_at_call_of 28 (Value.agg #[.int .i64 op, .int .i64 a, .int .i64 b, .int .i64 n, .slice p lv c, .slice q lw f]); refine (TA.out _ (by (repeat (first | (with_reducible exact Below.refl _ _) | (with_reducible assumption) | (with_reducible apply bl_alloc) | (with_reducible apply bl_drewN) | (with_reducible apply bl_drew) | (with_reducible refine bl_set ?_ (by first | (simp; done) | (simp; omega)) _) | (with_reducible refine bl_call ?_ (by assumption)))))).mono ?_; rintro e w3 ⟨rfl, hb3⟩; have A3 := six.on hb3 D2.drew; have B3 := six.on hb3 E2.drew)
      | (go_at_call_of 28 (Value.agg #[.int .i64 op2, .int .i64 a2, .int .i64 b2, .int .i64 n2, .slice p2 lv2 c2, .slice q2 lw2 f2]); refine (TB.out _ (by (repeat (first | (with_reducible exact Below.refl _ _) | (with_reducible assumption) | (with_reducible apply bl_alloc) | (with_reducible apply bl_drewN) | (with_reducible apply bl_drew) | (with_reducible refine bl_set ?_ (by first | (simp; done) | (simp; omega)) _) | (with_reducible refine bl_call ?_ (by assumption)))))).mono ?_; rintro e w4 ⟨rfl, hb4⟩; have A4 := six.on hb4 A3; have B4 := six.on hb4 B3))
  all_goals
    clear d0 d1 d2 d3 d4 d5 d6 g0 g1 g2 g3 g4 g5 g6
    obtain ⟨d0, d1, d2, d3, d4, d5, d6⟩ := A4
    have A4 : six _ _ _ _ _ _ _ _ := ⟨d0, d1, d2, d3, d4, d5, d6⟩
    obtain ⟨g0, g1, g2, g3, g4, g5, g6⟩ := B4
    have B4 : six _ _ _ _ _ _ _ _ := ⟨g0, g1, g2, g3, g4, g5, g6⟩
    go_wp2_with fail
    refine (CH.out _ (by (repeat (first | (with_reducible exact Below.refl _ _) | (with_reducible assumption) | (with_reducible apply bl_alloc) | (with_reducible apply bl_drewN) | (with_reducible apply bl_drew) | (with_reducible refine bl_set ?_ (by first | (simp; done) | (simp; omega)) _) | (with_reducible refine bl_call ?_ (by assumption)))))).mono ?_
    rintro e w5 ⟨rfl, hb5⟩
    go_wp2_with fail
    refine (AW.out _ (by (repeat (first | (with_reducible exact Below.refl _ _) | (with_reducible assumption) | (with_reducible apply bl_alloc) | (with_reducible apply bl_drewN) | (with_reducible apply bl_drew) | (with_reducible refine bl_set ?_ (by first | (simp; done) | (simp; omega)) _) | (with_reducible refine bl_call ?_ (by assumption)))))).mono ?_
    rintro e w6 ⟨rfl, hb6⟩
    go_wp2_with fail
    go_ret
    exact ⟨rfl, by (repeat (first | (with_reducible exact Below.refl _ _) | (with_reducible assumption) | (with_reducible apply bl_alloc) | (with_reducible apply bl_drewN) | (with_reducible apply bl_drew) | (with_reducible refine bl_set ?_ (by first | (simp; done) | (simp; omega)) _) | (with_reducible refine bl_call ?_ (by assumption))))⟩
set_option maxRecDepth 100000 in
theorem texts_g (op a b n : Int) (p : Option Addr) (lv c : Nat) (q : Option Addr) (lw f : Nat) (op2 a2 b2 n2 : Int) (p2 : Option Addr) (lv2 c2 : Nat) (q2 : Option Addr) (lw2 f2 : Nat) (S T : ByteArray) (s : Bool) (hS2 : (S.toList == []) = false) (hT2 : (T.toList == []) = false) (hST : (S.toList == T.toList) = s) (w : World) (SH : Hid (∀ w2, Calls Tryd.prog 20 #[.agg #[.int .i64 op, .int .i64 a, .int .i64 b, .int .i64 n, .slice p lv c, .slice q lw f]] w2 (Gives (.bool true) w2))) (SH2 : Hid (∀ w2, Calls Tryd.prog 20 #[.agg #[.int .i64 op2, .int .i64 a2, .int .i64 b2, .int .i64 n2, .slice p2 lv2 c2, .slice q2 lw2 f2]] w2 (Gives (.bool true) w2))) (AW : Hid (∀ w2, Below w.heap.size w w2 → Calls Tryd.prog 21 #[] w2 (Gives (.bool true) w2)))
    (CH : Hid (∀ w2, Below w.heap.size w w2 → Calls Tryd.prog 24 #[.agg #[.int .i64 op, .int .i64 a, .int .i64 b, .int .i64 n, .slice p lv c, .slice q lw f]] w2 (Gives (.int .i64 0) w2)))
    (TA : Hid (∀ w2, Below w.heap.size w w2 → Calls Tryd.prog 28 #[.agg #[.int .i64 op, .int .i64 a, .int .i64 b, .int .i64 n, .slice p lv c, .slice q lw f]] w2 (Gives (.string S) w2))) (TB : Hid (∀ w2, Below w.heap.size w w2 → Calls Tryd.prog 28 #[.agg #[.int .i64 op2, .int .i64 a2, .int .i64 b2, .int .i64 n2, .slice p2 lv2 c2, .slice q2 lw2 f2]] w2 (Gives (.string T) w2)))
    (SA : Hid (∀ w2, Below w.heap.size w w2 → Calls Tryd.prog 26 #[.agg #[.int .i64 op, .int .i64 a, .int .i64 b, .int .i64 n, .slice p lv c, .slice q lw f], .agg #[.int .i64 op2, .int .i64 a2, .int .i64 b2, .int .i64 n2, .slice p2 lv2 c2, .slice q2 lw2 f2]] w2 (Gives (.bool s) w2))) :
    Calls Tryd.prog 11 #[.agg #[.int .i64 op, .int .i64 a, .int .i64 b, .int .i64 n, .slice p lv c, .slice q lw f], .agg #[.int .i64 op2, .int .i64 a2, .int .i64 b2, .int .i64 n2, .slice p2 lv2 c2, .slice q2 lw2 f2]] w (Gives (.bool true) w) := by
  go_enter Tryd.func11, Tryd.ntmps11
  go_wp2_with fail
  refine (SH.out _).mono ?_
  rintro e w1 ⟨rfl, hb1⟩
  have D1 := six.on hb1 (six.alloc (o := .cells #[.int .i64 op2, .int .i64 a2, .int .i64 b2, .int .i64 n2, .slice p2 lv2 c2, .slice q2 lw2 f2] 36) (six.new (w := w) (t := 36)))
  have E1 : six w1 (w.heap.size + 1) (.int .i64 op2) (.int .i64 a2) (.int .i64 b2) (.int .i64 n2) (.slice p2 lv2 c2) (.slice q2 lw2 f2) := six.on hb1 (by refine ⟨?_, ?_, ?_, ?_, ?_, ?_, ?_⟩ <;> first | (go_simp; done) | (simp; done) | (simp; omega))
  obtain ⟨d0, d1, d2, d3, d4, d5, d6⟩ := D1
  have D1 : six _ _ _ _ _ _ _ _ := ⟨d0, d1, d2, d3, d4, d5, d6⟩
  obtain ⟨g0, g1, g2, g3, g4, g5, g6⟩ := E1
  have E1 : six _ _ _ _ _ _ _ _ := ⟨g0, g1, g2, g3, g4, g5, g6⟩
  go_wp2_with fail
  refine (SH2.out _).mono ?_
  rintro e w2 ⟨rfl, hb2⟩
  have D2 := six.on hb2 D1
  have E2 := six.on hb2 E1
  clear d0 d1 d2 d3 d4 d5 d6 g0 g1 g2 g3 g4 g5 g6
  obtain ⟨d0, d1, d2, d3, d4, d5, d6⟩ := D2
  have D2 : six _ _ _ _ _ _ _ _ := ⟨d0, d1, d2, d3, d4, d5, d6⟩
  obtain ⟨g0, g1, g2, g3, g4, g5, g6⟩ := E2
  have E2 : six _ _ _ _ _ _ _ _ := ⟨g0, g1, g2, g3, g4, g5, g6⟩
  go_wp2_with fail
  go_region_held3 (fun w' => w'.cell? ⟨w.heap.size, 0, none⟩ = some (.int .i64 op) ∧ w'.cell? ⟨w.heap.size, 1, none⟩ = some (.int .i64 a) ∧ w'.cell? ⟨w.heap.size, 2, none⟩ = some (.int .i64 b) ∧ w'.cell? ⟨w.heap.size, 3, none⟩ = some (.int .i64 n) ∧ w'.cell? ⟨w.heap.size, 4, none⟩ = some (.slice p lv c) ∧ w'.cell? ⟨w.heap.size, 5, none⟩ = some (.slice q lw f) ∧ w'.cell? ⟨(w.heap.size + 1), 0, none⟩ = some (.int .i64 op2) ∧ w'.cell? ⟨(w.heap.size + 1), 1, none⟩ = some (.int .i64 a2) ∧ w'.cell? ⟨(w.heap.size + 1), 2, none⟩ = some (.int .i64 b2) ∧ w'.cell? ⟨(w.heap.size + 1), 3, none⟩ = some (.int .i64 n2) ∧ w'.cell? ⟨(w.heap.size + 1), 4, none⟩ = some (.slice p2 lv2 c2) ∧ w'.cell? ⟨(w.heap.size + 1), 5, none⟩ = some (.slice q2 lw2 f2)) (first | (with_reducible exact keep12 A4 B4) | (with_reducible exact keep12 A3 B3) | (with_reducible exact keep12 D2.drew E2.drew) | (with_reducible exact keep12 D2 E2) | (go_keep; done))
    (first
      | (go_at_call_of 28 (Value.agg #[.int .i64 op, .int .i64 a, .int .i64 b, .int .i64 n, .slice p lv c, .slice q lw f]); refine (TA.out _ (by (repeat (first | (with_reducible exact Below.refl _ _) | (with_reducible assumption) | (with_reducible apply bl_alloc) | (with_reducible apply bl_drewN) | (with_reducible apply bl_drew) | (with_reducible refine bl_set ?_ (by first | (simp; done) | (simp; omega)) _) | (with_reducible refine bl_call ?_ (by assumption)))))).mono ?_; rintro e w3 ⟨rfl, hb3⟩; have A3 := six.on hb3 D2.drew; have B3 := six.on hb3 E2.drew)
      | (go_at_call_of 28 (Value.agg #[.int .i64 op2, .int .i64 a2, .int .i64 b2, .int .i64 n2, .slice p2 lv2 c2, .slice q2 lw2 f2]); refine (TB.out _ (by (repeat (first | (with_reducible exact Below.refl _ _) | (with_reducible assumption) | (with_reducible apply bl_alloc) | (with_reducible apply bl_drewN) | (with_reducible apply bl_drew) | (with_reducible refine bl_set ?_ (by first | (simp; done) | (simp; omega)) _) | (with_reducible refine bl_call ?_ (by assumption)))))).mono ?_; rintro e w4 ⟨rfl, hb4⟩; have A4 := six.on hb4 A3; have B4 := six.on hb4 B3))
  all_goals
    clear d0 d1 d2 d3 d4 d5 d6 g0 g1 g2 g3 g4 g5 g6
    obtain ⟨d0, d1, d2, d3, d4, d5, d6⟩ := A4
    have A4 : six _ _ _ _ _ _ _ _ := ⟨d0, d1, d2, d3, d4, d5, d6⟩
    obtain ⟨g0, g1, g2, g3, g4, g5, g6⟩ := B4
    have B4 : six _ _ _ _ _ _ _ _ := ⟨g0, g1, g2, g3, g4, g5, g6⟩
    go_wp2_with fail
    refine (CH.out _ (by (repeat (first | (with_reducible exact Below.refl _ _) | (with_reducible assumption) | (with_reducible apply bl_alloc) | (with_reducible apply bl_drewN) | (with_reducible apply bl_drew) | (with_reducible refine bl_set ?_ (by first | (simp; done) | (simp; omega)) _) | (with_reducible refine bl_call ?_ (by assumption)))))).mono ?_
    rintro e w5 ⟨rfl, hb5⟩
    have A5 := six.on hb5 A4
    have B5 := six.on hb5 B4
    clear d0 d1 d2 d3 d4 d5 d6 g0 g1 g2 g3 g4 g5 g6
    obtain ⟨d0, d1, d2, d3, d4, d5, d6⟩ := A5
    obtain ⟨g0, g1, g2, g3, g4, g5, g6⟩ := B5
    go_wp2_with fail
    refine (SA.out _ (by (repeat (first | (with_reducible exact Below.refl _ _) | (with_reducible assumption) | (with_reducible apply bl_alloc) | (with_reducible apply bl_drewN) | (with_reducible apply bl_drew) | (with_reducible refine bl_set ?_ (by first | (simp; done) | (simp; omega)) _) | (with_reducible refine bl_call ?_ (by assumption)))))).mono ?_
    rintro e w6 ⟨rfl, hb6⟩
    go_wp2_with fail
    refine (AW.out _ (by (repeat (first | (with_reducible exact Below.refl _ _) | (with_reducible assumption) | (with_reducible apply bl_alloc) | (with_reducible apply bl_drewN) | (with_reducible apply bl_drew) | (with_reducible refine bl_set ?_ (by first | (simp; done) | (simp; omega)) _) | (with_reducible refine bl_call ?_ (by assumption)))))).mono ?_
    rintro e w7 ⟨rfl, hb7⟩
    go_wp2_with fail
    go_ret
    exact ⟨rfl, by (repeat (first | (with_reducible exact Below.refl _ _) | (with_reducible assumption) | (with_reducible apply bl_alloc) | (with_reducible apply bl_drewN) | (with_reducible apply bl_drew) | (with_reducible refine bl_set ?_ (by first | (simp; done) | (simp; omega)) _) | (with_reducible refine bl_call ?_ (by assumption))))⟩
theorem nonemp {op a b n : Int} {lv lw : Nat} {V W : Nat → Int} (A : Acc op a b n lv lw V W) : ((txtA op a b n lv V W).toList == []) = false := by
  obtain ⟨r, e⟩ := txt_head A
  rw [Lib.toList_data, e]; rfl
theorem st_eq {op a b n : Int} {lv lw : Nat} {V W : Nat → Int} {op2 a2 b2 n2 : Int} {lv2 lw2 : Nat} {V2 W2 : Nat → Int} (hA : errD op a b n lv lw V W = 0) (hB : errD op2 a2 b2 n2 lv2 lw2 V2 W2 = 0) : ((txtA op a b n lv V W).toList == (txtA op2 a2 b2 n2 lv2 V2 W2).toList) = sameD op a b n lv lw V W op2 a2 b2 n2 lv2 lw2 V2 W2 := by
  cases h : sameD op a b n lv lw V W op2 a2 b2 n2 lv2 lw2 V2 W2
  · rw [beq_eq_false_iff_ne, Lib.toList_data, Lib.toList_data]
    intro e
    rw [txt_inj hA hB (WideShapes.bytes_inj e)] at h
    cases h
  · rw [txt_cong (acc_of hA) h, beq_self_eq_true]
theorem distTexts_walk (op a b n : Int) (p : Option Addr) (lv c : Nat) (q : Option Addr) (lw f : Nat) (V W : Nat → Int) (op2 a2 b2 n2 : Int) (p2 : Option Addr) (lv2 c2 : Nat) (q2 : Option Addr) (lw2 f2 : Nat) (V2 W2 : Nat → Int) (w : World) (hE : Env w) (hV : Row w p lv V) (hW : Row w q lw W) (hV2 : Row w p2 lv2 V2) (hW2 : Row w q2 lw2 W2) : Calls Tryd.prog 11 #[.agg #[.int .i64 op, .int .i64 a, .int .i64 b, .int .i64 n, .slice p lv c, .slice q lw f], .agg #[.int .i64 op2, .int .i64 a2, .int .i64 b2, .int .i64 n2, .slice p2 lv2 c2, .slice q2 lw2 f2]] w (Gives (.bool true) w) := by
  have AW := Lib.hid fun (w2 : World) (hb : Below w.heap.size w w2) => awake_any w2 (hE.below hb)
  have SH := Lib.hid (short_all op a b n p lv c q lw f)
  have SH2 := Lib.hid (short_all op2 a2 b2 n2 p2 lv2 c2 q2 lw2 f2)
  have CH := Lib.hid fun (w2 : World) (hb : Below w.heap.size w w2) => check_any op a b n p lv c q lw f V W w2 (hV.on hb) (hW.on hb)
  have TA := Lib.hid fun (w2 : World) (hb : Below w.heap.size w w2) => text_any op a b n p lv c q lw f V W w2 (hE.below hb) (hV.on hb) (hW.on hb)
  have TB := Lib.hid fun (w2 : World) (hb : Below w.heap.size w w2) => text_any op2 a2 b2 n2 p2 lv2 c2 q2 lw2 f2 V2 W2 w2 (hE.below hb) (hV2.on hb) (hW2.on hb)
  have SA := Lib.hid fun (w2 : World) (hb : Below w.heap.size w w2) => same_any op a b n p lv c q lw f V W op2 a2 b2 n2 p2 lv2 c2 q2 lw2 f2 V2 W2 w2 (hV.on hb) (hW.on hb) (hV2.on hb) (hW2.on hb)
  cases h : shC lv lw
  · rw [h] at SH
    exact texts_no1 op a b n p lv c q lw f op2 a2 b2 n2 p2 lv2 c2 q2 lw2 f2 w SH AW
  · rw [h] at SH
    cases h2 : shC lv2 lw2
    · rw [h2] at SH2
      exact texts_no2 op a b n p lv c q lw f op2 a2 b2 n2 p2 lv2 c2 q2 lw2 f2 w SH SH2 AW
    · rw [h2] at SH2
      by_cases h0 : errD op a b n lv lw V W = 0
      · have eS : txtD (errD op a b n lv lw V W) op a b n lv V W = txtA op a b n lv V W := by unfold txtD; rw [if_pos h0]
        rw [eS] at TA
        rw [h0] at CH
        by_cases h1 : errD op2 a2 b2 n2 lv2 lw2 V2 W2 = 0
        · have eT : txtD (errD op2 a2 b2 n2 lv2 lw2 V2 W2) op2 a2 b2 n2 lv2 V2 W2 = txtA op2 a2 b2 n2 lv2 V2 W2 := by unfold txtD; rw [if_pos h1]
          rw [eT] at TB
          exact texts_g op a b n p lv c q lw f op2 a2 b2 n2 p2 lv2 c2 q2 lw2 f2 _ _ _ (nonemp (acc_of h0)) (nonemp (acc_of h1)) (st_eq h0 h1) w SH SH2 AW CH TA TB SA
        · have eT : txtD (errD op2 a2 b2 n2 lv2 lw2 V2 W2) op2 a2 b2 n2 lv2 V2 W2 = ⟨#[]⟩ := by unfold txtD; rw [if_neg h1]
          rw [eT] at TB
          exact texts_f op a b n p lv c q lw f op2 a2 b2 n2 p2 lv2 c2 q2 lw2 f2 _ (nonemp (acc_of h0)) w SH SH2 AW CH TA TB
      · have eS : txtD (errD op a b n lv lw V W) op a b n lv V W = ⟨#[]⟩ := by unfold txtD; rw [if_neg h0]
        rw [eS] at TA
        exact texts_e op a b n p lv c q lw f op2 a2 b2 n2 p2 lv2 c2 q2 lw2 f2 _ (by rw [bne_iff_ne]; exact h0) _ w SH SH2 AW CH TA TB
end Go.Proofs.YteapicfobammjaaDoor.Di
