/-
  The statement DistChecks, walked.
-/
import Derived.Test.YteapicfobammjaaDoorDShort
import Derived.Test.YteapicfobammjaaDoorDSame
import Derived.Test.YteapicfobammjaaDoorDMean
import Derived.Test.YteapicfobammjaaDoorDRefMean2
import Derived.Test.YteapicfobammjaaDoorDRefText2
namespace Go.Proofs.YteapicfobammjaaDoor.Di
open Go.RowKit
set_option maxHeartbeats 8000000
theorem checks_no1 (op a b n : Int) (p : Option Addr) (lv c : Nat) (q : Option Addr) (lw f : Nat) (op2 a2 b2 n2 : Int) (p2 : Option Addr) (lv2 c2 : Nat) (q2 : Option Addr) (lw2 f2 : Nat) (w : World) (SH : Hid (∀ w2, Calls Tryd.prog 20 #[.agg #[.int .i64 op, .int .i64 a, .int .i64 b, .int .i64 n, .slice p lv c, .slice q lw f]] w2 (Gives (.bool false) w2))) (AW : Hid (∀ w2, Below w.heap.size w w2 → Calls Tryd.prog 21 #[] w2 (Gives (.bool true) w2))) : Calls Tryd.prog 5 #[.agg #[.int .i64 op, .int .i64 a, .int .i64 b, .int .i64 n, .slice p lv c, .slice q lw f], .agg #[.int .i64 op2, .int .i64 a2, .int .i64 b2, .int .i64 n2, .slice p2 lv2 c2, .slice q2 lw2 f2]] w (Gives (.bool true) w) := by
  go_enter Tryd.func5, Tryd.ntmps5
  go_wp2_with fail
  refine (SH.out _).mono ?_
  rintro e w1 ⟨rfl, hb1⟩
  go_wp2_with fail
  refine (AW.out _ (by (repeat (first | (with_reducible exact Below.refl _ _) | (with_reducible assumption) | (with_reducible apply bl_alloc) | (with_reducible apply bl_drewN) | (with_reducible apply bl_drew) | (with_reducible refine bl_set ?_ (by first | (simp; done) | (simp; omega)) _) | (with_reducible refine bl_call ?_ (by assumption)))))).mono ?_
  rintro e w2 ⟨rfl, hb2⟩
  go_wp2_with fail
  go_ret
  exact ⟨rfl, by (repeat (first | (with_reducible exact Below.refl _ _) | (with_reducible assumption) | (with_reducible apply bl_alloc) | (with_reducible apply bl_drewN) | (with_reducible apply bl_drew) | (with_reducible refine bl_set ?_ (by first | (simp; done) | (simp; omega)) _) | (with_reducible refine bl_call ?_ (by assumption))))⟩
theorem keep16 {op a b n : Int} {p : Option Addr} {lv c : Nat} {q : Option Addr} {lw f : Nat} {op2 a2 b2 n2 : Int} {p2 : Option Addr} {lv2 c2 : Nat} {q2 : Option Addr} {lw2 f2 : Nat} {x y : Int} {w' : World} {ga gb gm gn : Nat} (A : six w' ga (.int .i64 op) (.int .i64 a) (.int .i64 b) (.int .i64 n) (.slice p lv c) (.slice q lw f)) (B : six w' gb (.int .i64 op2) (.int .i64 a2) (.int .i64 b2) (.int .i64 n2) (.slice p2 lv2 c2) (.slice q2 lw2 f2)) (M : two w' gm (.int .i64 x) (.int .i64 y)) (N : two w' gn (.int .i64 x) (.int .i64 y)) :
    w'.cell? ⟨ga, 0, none⟩ = some (.int .i64 op) ∧ w'.cell? ⟨ga, 1, none⟩ = some (.int .i64 a) ∧ w'.cell? ⟨ga, 2, none⟩ = some (.int .i64 b) ∧ w'.cell? ⟨ga, 3, none⟩ = some (.int .i64 n) ∧ w'.cell? ⟨ga, 4, none⟩ = some (.slice p lv c) ∧ w'.cell? ⟨ga, 5, none⟩ = some (.slice q lw f) ∧ w'.cell? ⟨gb, 0, none⟩ = some (.int .i64 op2) ∧ w'.cell? ⟨gb, 1, none⟩ = some (.int .i64 a2) ∧ w'.cell? ⟨gb, 2, none⟩ = some (.int .i64 b2) ∧ w'.cell? ⟨gb, 3, none⟩ = some (.int .i64 n2) ∧ w'.cell? ⟨gb, 4, none⟩ = some (.slice p2 lv2 c2) ∧ w'.cell? ⟨gb, 5, none⟩ = some (.slice q2 lw2 f2) ∧ w'.cell? ⟨gm, 0, none⟩ = some (.int .i64 x) ∧ w'.cell? ⟨gm, 1, none⟩ = some (.int .i64 y) ∧ w'.cell? ⟨gn, 0, none⟩ = some (.int .i64 x) ∧ w'.cell? ⟨gn, 1, none⟩ = some (.int .i64 y) := by
  obtain ⟨a0, a1, a2, a3, a4, a5, a6⟩ := A
  obtain ⟨b0, b1, b2, b3, b4, b5, b6⟩ := B
  obtain ⟨m0, m1, m2, m3, m4⟩ := M
  obtain ⟨n0, n1, n2, n3, n4⟩ := N
  exact ⟨a0, a1, a2, a3, a4, a5, b0, b1, b2, b3, b4, b5, m0, m1, n0, n1⟩
theorem checks_no2 (op a b n : Int) (p : Option Addr) (lv c : Nat) (q : Option Addr) (lw f : Nat) (op2 a2 b2 n2 : Int) (p2 : Option Addr) (lv2 c2 : Nat) (q2 : Option Addr) (lw2 f2 : Nat) (w : World) (SH : Hid (∀ w2, Calls Tryd.prog 20 #[.agg #[.int .i64 op, .int .i64 a, .int .i64 b, .int .i64 n, .slice p lv c, .slice q lw f]] w2 (Gives (.bool true) w2))) (SH2 : Hid (∀ w2, Calls Tryd.prog 20 #[.agg #[.int .i64 op2, .int .i64 a2, .int .i64 b2, .int .i64 n2, .slice p2 lv2 c2, .slice q2 lw2 f2]] w2 (Gives (.bool false) w2))) (AW : Hid (∀ w2, Below w.heap.size w w2 → Calls Tryd.prog 21 #[] w2 (Gives (.bool true) w2))) : Calls Tryd.prog 5 #[.agg #[.int .i64 op, .int .i64 a, .int .i64 b, .int .i64 n, .slice p lv c, .slice q lw f], .agg #[.int .i64 op2, .int .i64 a2, .int .i64 b2, .int .i64 n2, .slice p2 lv2 c2, .slice q2 lw2 f2]] w (Gives (.bool true) w) := by
  go_enter Tryd.func5, Tryd.ntmps5
  go_wp2_with fail
  refine (SH.out _).mono ?_
  rintro e w1 ⟨rfl, hb1⟩
  have E1 : six w1 (w.heap.size + 1) (.int .i64 op2) (.int .i64 a2) (.int .i64 b2) (.int .i64 n2) (.slice p2 lv2 c2) (.slice q2 lw2 f2) := six.on hb1 (by refine ⟨?_, ?_, ?_, ?_, ?_, ?_, ?_⟩ <;> first | (go_simp; done) | (simp; done) | (simp; omega))
  obtain ⟨g0, g1, g2, g3, g4, g5, g6⟩ := E1
  have E1 : six _ _ _ _ _ _ _ _ := ⟨g0, g1, g2, g3, g4, g5, g6⟩
  go_wp2_with fail
  refine (SH2.out _).mono ?_
  rintro e w2 ⟨rfl, hb2⟩
  go_wp2_with fail
  refine (AW.out _ (by (repeat (first | (with_reducible exact Below.refl _ _) | (with_reducible assumption) | (with_reducible apply bl_alloc) | (with_reducible apply bl_drewN) | (with_reducible apply bl_drew) | (with_reducible refine bl_set ?_ (by first | (simp; done) | (simp; omega)) _) | (with_reducible refine bl_call ?_ (by assumption)))))).mono ?_
  rintro e w3 ⟨rfl, hb3⟩
  go_wp2_with fail
  go_ret
  exact ⟨rfl, by (repeat (first | (with_reducible exact Below.refl _ _) | (with_reducible assumption) | (with_reducible apply bl_alloc) | (with_reducible apply bl_drewN) | (with_reducible apply bl_drew) | (with_reducible refine bl_set ?_ (by first | (simp; done) | (simp; omega)) _) | (with_reducible refine bl_call ?_ (by assumption))))⟩
theorem checks_yes (op a b n : Int) (p : Option Addr) (lv c : Nat) (q : Option Addr) (lw f : Nat) (op2 a2 b2 n2 : Int) (p2 : Option Addr) (lv2 c2 : Nat) (q2 : Option Addr) (lw2 f2 : Nat) (x y E : Int) (z s : Bool) (T : ByteArray) (w : World) (SH : Hid (∀ w2, Calls Tryd.prog 20 #[.agg #[.int .i64 op, .int .i64 a, .int .i64 b, .int .i64 n, .slice p lv c, .slice q lw f]] w2 (Gives (.bool true) w2))) (SH2 : Hid (∀ w2, Calls Tryd.prog 20 #[.agg #[.int .i64 op2, .int .i64 a2, .int .i64 b2, .int .i64 n2, .slice p2 lv2 c2, .slice q2 lw2 f2]] w2 (Gives (.bool true) w2))) (AW : Hid (∀ w2, Below w.heap.size w w2 → Calls Tryd.prog 21 #[] w2 (Gives (.bool true) w2)))
    (ME : Hid (∀ w2, Below w.heap.size w w2 → Calls Tryd.prog 22 #[.agg #[.int .i64 op, .int .i64 a, .int .i64 b, .int .i64 n, .slice p lv c, .slice q lw f]] w2 (Gives (.tuple #[.agg #[.int .i64 x, .int .i64 y], .bool z]) w2))) (RM : Hid (∀ w2, Below w.heap.size w w2 → Calls Tryd.prog 23 #[.agg #[.int .i64 op, .int .i64 a, .int .i64 b, .int .i64 n, .slice p lv c, .slice q lw f]] w2 (Gives (.tuple #[.agg #[.int .i64 x, .int .i64 y], .bool z]) w2)))
    (CH : Hid (∀ w2, Below w.heap.size w w2 → Calls Tryd.prog 24 #[.agg #[.int .i64 op, .int .i64 a, .int .i64 b, .int .i64 n, .slice p lv c, .slice q lw f]] w2 (Gives (.int .i64 E) w2))) (RC : Hid (∀ w2, Below w.heap.size w w2 → Calls Tryd.prog 25 #[.agg #[.int .i64 op, .int .i64 a, .int .i64 b, .int .i64 n, .slice p lv c, .slice q lw f]] w2 (Gives (.int .i64 E) w2)))
    (SA : Hid (∀ w2, Below w.heap.size w w2 → Calls Tryd.prog 26 #[.agg #[.int .i64 op, .int .i64 a, .int .i64 b, .int .i64 n, .slice p lv c, .slice q lw f], .agg #[.int .i64 op2, .int .i64 a2, .int .i64 b2, .int .i64 n2, .slice p2 lv2 c2, .slice q2 lw2 f2]] w2 (Gives (.bool s) w2))) (RS : Hid (∀ w2, Below w.heap.size w w2 → Calls Tryd.prog 27 #[.agg #[.int .i64 op, .int .i64 a, .int .i64 b, .int .i64 n, .slice p lv c, .slice q lw f], .agg #[.int .i64 op2, .int .i64 a2, .int .i64 b2, .int .i64 n2, .slice p2 lv2 c2, .slice q2 lw2 f2]] w2 (Gives (.bool s) w2)))
    (TE : Hid (∀ w2, Below w.heap.size w w2 → Calls Tryd.prog 28 #[.agg #[.int .i64 op, .int .i64 a, .int .i64 b, .int .i64 n, .slice p lv c, .slice q lw f]] w2 (Gives (.string T) w2))) (RT : Hid (∀ w2, Below w.heap.size w w2 → Calls Tryd.prog 29 #[.agg #[.int .i64 op, .int .i64 a, .int .i64 b, .int .i64 n, .slice p lv c, .slice q lw f]] w2 (Gives (.string T) w2))) :
    Calls Tryd.prog 5 #[.agg #[.int .i64 op, .int .i64 a, .int .i64 b, .int .i64 n, .slice p lv c, .slice q lw f], .agg #[.int .i64 op2, .int .i64 a2, .int .i64 b2, .int .i64 n2, .slice p2 lv2 c2, .slice q2 lw2 f2]] w (Gives (.bool true) w) := by
  go_enter Tryd.func5, Tryd.ntmps5
  go_wp2_with fail
  refine (SH.out _).mono ?_
  rintro e w1 ⟨rfl, hb1⟩
  have D1 := six.on hb1 (six.alloc (o := .cells #[.int .i64 op2, .int .i64 a2, .int .i64 b2, .int .i64 n2, .slice p2 lv2 c2, .slice q2 lw2 f2] 36) (six.new (w := w) (t := 36)))
  have E1 : six w1 (w.heap.size + 1) (.int .i64 op2) (.int .i64 a2) (.int .i64 b2) (.int .i64 n2) (.slice p2 lv2 c2) (.slice q2 lw2 f2) := six.on hb1 (by refine ⟨?_, ?_, ?_, ?_, ?_, ?_, ?_⟩ <;> first | (go_simp; done) | (simp; done) | (simp; omega))
  obtain ⟨d0, d1, d2, d3, d4, d5, d6⟩ := D1
  have D1 : six _ _ _ _ _ _ _ _ := ⟨d0, d1, d2, d3, d4, d5, d6⟩
  obtain ⟨g0, g1, g2, g3, g4, g5, g6⟩ := E1
  have E1 : six _ _ _ _ _ _ _ _ := ⟨g0, g1, g2, g3, g4, g5, g6⟩
  go_wp2_with fail
  refine (SH2.out _).mono ?_
  rintro e w2 ⟨rfl, hb2⟩
  have D2 := six.on hb2 D1
  have E2 := six.on hb2 E1
  clear d0 d1 d2 d3 d4 d5 d6 g0 g1 g2 g3 g4 g5 g6
  obtain ⟨d0, d1, d2, d3, d4, d5, d6⟩ := D2
  have D2 : six _ _ _ _ _ _ _ _ := ⟨d0, d1, d2, d3, d4, d5, d6⟩
  obtain ⟨g0, g1, g2, g3, g4, g5, g6⟩ := E2
  have E2 : six _ _ _ _ _ _ _ _ := ⟨g0, g1, g2, g3, g4, g5, g6⟩
  go_wp2_with fail
  refine (ME.out _ (by (repeat (first | (with_reducible exact Below.refl _ _) | (with_reducible assumption) | (with_reducible apply bl_alloc) | (with_reducible apply bl_drewN) | (with_reducible apply bl_drew) | (with_reducible refine bl_set ?_ (by first | (simp; done) | (simp; omega)) _) | (with_reducible refine bl_call ?_ (by assumption)))))).mono ?_
  rintro e w3 ⟨rfl, hb3⟩
  have D3 := six.alloc (o := .cells #[.int .i64 x, .int .i64 y] 23) (six.on hb3 D2)
  have E3 := six.alloc (o := .cells #[.int .i64 x, .int .i64 y] 23) (six.on hb3 E2)
  have M3 : two (w3.alloc (.cells #[.int .i64 x, .int .i64 y] 23)) w3.heap.size (.int .i64 x) (.int .i64 y) := two.new
  have B3 : Below w.heap.size w w3 := by (repeat (first | (with_reducible exact Below.refl _ _) | (with_reducible assumption) | (with_reducible apply bl_alloc) | (with_reducible apply bl_drewN) | (with_reducible apply bl_drew) | (with_reducible refine bl_set ?_ (by first | (simp; done) | (simp; omega)) _) | (with_reducible refine bl_call ?_ (by assumption))))
  clear d0 d1 d2 d3 d4 d5 d6 g0 g1 g2 g3 g4 g5 g6
  have D3' := six.on hb3 D2
  have E3' := six.on hb3 E2
  obtain ⟨d0, d1, d2, d3, d4, d5, d6⟩ := D3'
  have D3' : six _ _ _ _ _ _ _ _ := ⟨d0, d1, d2, d3, d4, d5, d6⟩
  obtain ⟨g0, g1, g2, g3, g4, g5, g6⟩ := E3'
  have E3' : six _ _ _ _ _ _ _ _ := ⟨g0, g1, g2, g3, g4, g5, g6⟩
  go_wp2_with fail
  refine (RM.out _ (by (repeat (first | (with_reducible exact Below.refl _ _) | (with_reducible assumption) | (with_reducible apply bl_alloc) | (with_reducible apply bl_drewN) | (with_reducible apply bl_drew) | (with_reducible refine bl_set ?_ (by first | (simp; done) | (simp; omega)) _) | (with_reducible refine bl_call ?_ (by assumption)))))).mono ?_
  rintro e w4 ⟨rfl, hb4⟩
  clear d0 d1 d2 d3 d4 d5 d6 g0 g1 g2 g3 g4 g5 g6 D3' E3'
  have D4 := six.on hb4 D3
  have E4 := six.on hb4 E3
  have M4 := two.on hb4 M3
  have A5 := six.alloc (o := .cells #[.int .i64 x, .int .i64 y] 23) D4
  have B5 := six.alloc (o := .cells #[.int .i64 x, .int .i64 y] 23) E4
  have M5 := two.alloc (o := .cells #[.int .i64 x, .int .i64 y] 23) M4
  have N5 : two (w4.alloc (.cells #[.int .i64 x, .int .i64 y] 23)) w4.heap.size (.int .i64 x) (.int .i64 y) := two.new
  obtain ⟨d0, d1, d2, d3, d4, d5, d6⟩ := D4
  have D4 : six _ _ _ _ _ _ _ _ := ⟨d0, d1, d2, d3, d4, d5, d6⟩
  obtain ⟨g0, g1, g2, g3, g4, g5, g6⟩ := E4
  have E4 : six _ _ _ _ _ _ _ _ := ⟨g0, g1, g2, g3, g4, g5, g6⟩
  go_wp2_with fail
  clear d0 d1 d2 d3 d4 d5 d6 g0 g1 g2 g3 g4 g5 g6
  go_region_held3 (fun w' => w'.cell? ⟨w.heap.size, 0, none⟩ = some (.int .i64 op) ∧ w'.cell? ⟨w.heap.size, 1, none⟩ = some (.int .i64 a) ∧ w'.cell? ⟨w.heap.size, 2, none⟩ = some (.int .i64 b) ∧ w'.cell? ⟨w.heap.size, 3, none⟩ = some (.int .i64 n) ∧ w'.cell? ⟨w.heap.size, 4, none⟩ = some (.slice p lv c) ∧ w'.cell? ⟨w.heap.size, 5, none⟩ = some (.slice q lw f) ∧ w'.cell? ⟨(w.heap.size + 1), 0, none⟩ = some (.int .i64 op2) ∧ w'.cell? ⟨(w.heap.size + 1), 1, none⟩ = some (.int .i64 a2) ∧ w'.cell? ⟨(w.heap.size + 1), 2, none⟩ = some (.int .i64 b2) ∧ w'.cell? ⟨(w.heap.size + 1), 3, none⟩ = some (.int .i64 n2) ∧ w'.cell? ⟨(w.heap.size + 1), 4, none⟩ = some (.slice p2 lv2 c2) ∧ w'.cell? ⟨(w.heap.size + 1), 5, none⟩ = some (.slice q2 lw2 f2) ∧ w'.cell? ⟨w3.heap.size, 0, none⟩ = some (.int .i64 x) ∧ w'.cell? ⟨w3.heap.size, 1, none⟩ = some (.int .i64 y) ∧ w'.cell? ⟨w4.heap.size, 0, none⟩ = some (.int .i64 x) ∧ w'.cell? ⟨w4.heap.size, 1, none⟩ = some (.int .i64 y)) (first | (with_reducible exact keep16 A12 B12 M12 N12) | (with_reducible exact keep16 A11 B11 M11 N11) | (with_reducible exact keep16 A10 B10 M10 N10) | (with_reducible exact keep16 A9 B9 M9 N9) | (with_reducible exact keep16 A8 B8 M8 N8) | (with_reducible exact keep16 A7 B7 M7 N7) | (with_reducible exact keep16 A6 B6 M6 N6) | (with_reducible exact keep16 A5.drew B5.drew M5.drew N5.drew) | (with_reducible exact keep16 A5 B5 M5 N5) | (go_keep; done))
    (first
      | (go_at_call 24; refine (CH.out _ (by (repeat (first | (with_reducible exact Below.refl _ _) | (with_reducible assumption) | (with_reducible apply bl_alloc) | (with_reducible apply bl_drewN) | (with_reducible apply bl_drew) | (with_reducible refine bl_set ?_ (by first | (simp; done) | (simp; omega)) _) | (with_reducible refine bl_call ?_ (by assumption)))))).mono ?_; rintro e w6 ⟨rfl, hb6⟩; have A6 := six.on hb6 A5.drew; have B6 := six.on hb6 B5.drew; have M6 := two.on hb6 M5.drew; have N6 := two.on hb6 N5.drew)
      | (go_at_call 25; refine (RC.out _ (by (repeat (first | (with_reducible exact Below.refl _ _) | (with_reducible assumption) | (with_reducible apply bl_alloc) | (with_reducible apply bl_drewN) | (with_reducible apply bl_drew) | (with_reducible refine bl_set ?_ (by first | (simp; done) | (simp; omega)) _) | (with_reducible refine bl_call ?_ (by assumption)))))).mono ?_; rintro e w7 ⟨rfl, hb7⟩; have A7 := six.on hb7 A6; have B7 := six.on hb7 B6; have M7 := two.on hb7 M6; have N7 := two.on hb7 N6)
      | (go_at_call 26; refine (SA.out _ (by (repeat (first | (with_reducible exact Below.refl _ _) | (with_reducible assumption) | (with_reducible apply bl_alloc) | (with_reducible apply bl_drewN) | (with_reducible apply bl_drew) | (with_reducible refine bl_set ?_ (by first | (simp; done) | (simp; omega)) _) | (with_reducible refine bl_call ?_ (by assumption)))))).mono ?_; rintro e w8 ⟨rfl, hb8⟩; have A8 := six.on hb8 A7; have B8 := six.on hb8 B7; have M8 := two.on hb8 M7; have N8 := two.on hb8 N7)
      | (go_at_call 27; refine (RS.out _ (by (repeat (first | (with_reducible exact Below.refl _ _) | (with_reducible assumption) | (with_reducible apply bl_alloc) | (with_reducible apply bl_drewN) | (with_reducible apply bl_drew) | (with_reducible refine bl_set ?_ (by first | (simp; done) | (simp; omega)) _) | (with_reducible refine bl_call ?_ (by assumption)))))).mono ?_; rintro e w9 ⟨rfl, hb9⟩; have A9 := six.on hb9 A8; have B9 := six.on hb9 B8; have M9 := two.on hb9 M8; have N9 := two.on hb9 N8)
      | (go_at_call 28; refine (TE.out _ (by (repeat (first | (with_reducible exact Below.refl _ _) | (with_reducible assumption) | (with_reducible apply bl_alloc) | (with_reducible apply bl_drewN) | (with_reducible apply bl_drew) | (with_reducible refine bl_set ?_ (by first | (simp; done) | (simp; omega)) _) | (with_reducible refine bl_call ?_ (by assumption)))))).mono ?_; rintro e w10 ⟨rfl, hb10⟩; have A10 := six.on hb10 A9; have B10 := six.on hb10 B9; have M10 := two.on hb10 M9; have N10 := two.on hb10 N9)
      | (go_at_call 29; refine (RT.out _ (by (repeat (first | (with_reducible exact Below.refl _ _) | (with_reducible assumption) | (with_reducible apply bl_alloc) | (with_reducible apply bl_drewN) | (with_reducible apply bl_drew) | (with_reducible refine bl_set ?_ (by first | (simp; done) | (simp; omega)) _) | (with_reducible refine bl_call ?_ (by assumption)))))).mono ?_; rintro e w11 ⟨rfl, hb11⟩; have A11 := six.on hb11 A10; have B11 := six.on hb11 B10; have M11 := two.on hb11 M10; have N11 := two.on hb11 N10)
      | (go_at_call 21; refine (AW.out _ (by (repeat (first | (with_reducible exact Below.refl _ _) | (with_reducible assumption) | (with_reducible apply bl_alloc) | (with_reducible apply bl_drewN) | (with_reducible apply bl_drew) | (with_reducible refine bl_set ?_ (by first | (simp; done) | (simp; omega)) _) | (with_reducible refine bl_call ?_ (by assumption)))))).mono ?_; rintro e w12 ⟨rfl, hb12⟩; have A12 := six.on hb12 A11; have B12 := six.on hb12 B11; have M12 := two.on hb12 M11; have N12 := two.on hb12 N11))
  all_goals
    go_wp2_with fail
    go_ret
    exact ⟨rfl, by (repeat (first | (with_reducible exact Below.refl _ _) | (with_reducible assumption) | (with_reducible apply bl_alloc) | (with_reducible apply bl_drewN) | (with_reducible apply bl_drew) | (with_reducible refine bl_set ?_ (by first | (simp; done) | (simp; omega)) _) | (with_reducible refine bl_call ?_ (by assumption))))⟩
theorem distChecks_walk (op a b n : Int) (p : Option Addr) (lv c : Nat) (q : Option Addr) (lw f : Nat) (V W : Nat → Int) (op2 a2 b2 n2 : Int) (p2 : Option Addr) (lv2 c2 : Nat) (q2 : Option Addr) (lw2 f2 : Nat) (V2 W2 : Nat → Int) (w : World) (hE : Env w) (hV : Row w p lv V) (hW : Row w q lw W) (hV2 : Row w p2 lv2 V2) (hW2 : Row w q2 lw2 W2) : Calls Tryd.prog 5 #[.agg #[.int .i64 op, .int .i64 a, .int .i64 b, .int .i64 n, .slice p lv c, .slice q lw f], .agg #[.int .i64 op2, .int .i64 a2, .int .i64 b2, .int .i64 n2, .slice p2 lv2 c2, .slice q2 lw2 f2]] w (Gives (.bool true) w) := by
  have AW := Lib.hid fun (w2 : World) (hb : Below w.heap.size w w2) => awake_any w2 (hE.below hb)
  have SH := Lib.hid (short_all op a b n p lv c q lw f)
  have SH2 := Lib.hid (short_all op2 a2 b2 n2 p2 lv2 c2 q2 lw2 f2)
  cases h : shC lv lw
  · rw [h] at SH
    exact checks_no1 op a b n p lv c q lw f op2 a2 b2 n2 p2 lv2 c2 q2 lw2 f2 w SH AW
  · rw [h] at SH
    cases h2 : shC lv2 lw2
    · rw [h2] at SH2
      exact checks_no2 op a b n p lv c q lw f op2 a2 b2 n2 p2 lv2 c2 q2 lw2 f2 w SH SH2 AW
    · rw [h2] at SH2
      exact checks_yes op a b n p lv c q lw f op2 a2 b2 n2 p2 lv2 c2 q2 lw2 f2 _ _ _ _ _ _ w SH SH2 AW
        (Lib.hid fun w2 hb => mean_any op a b n p lv c q lw f V W w2 (hV.on hb) (hW.on hb)) (Lib.hid fun w2 hb => rmean_any op a b n p lv c q lw f V W w2 (hV.on hb) (hW.on hb))
        (Lib.hid fun w2 hb => check_any op a b n p lv c q lw f V W w2 (hV.on hb) (hW.on hb)) (Lib.hid fun w2 hb => rcheck_any op a b n p lv c q lw f V W w2 (hV.on hb) (hW.on hb))
        (Lib.hid fun w2 hb => same_any op a b n p lv c q lw f V W op2 a2 b2 n2 p2 lv2 c2 q2 lw2 f2 V2 W2 w2 (hV.on hb) (hW.on hb) (hV2.on hb) (hW2.on hb)) (Lib.hid fun w2 hb => rsame_any op a b n p lv c q lw f V W op2 a2 b2 n2 p2 lv2 c2 q2 lw2 f2 V2 W2 w2 (hV.on hb) (hW.on hb) (hV2.on hb) (hW2.on hb))
        (Lib.hid fun w2 hb => text_any op a b n p lv c q lw f V W w2 (hE.below hb) (hV.on hb) (hW.on hb)) (Lib.hid fun w2 hb => rtext_any op a b n p lv c q lw f V W w2 (hV.on hb) (hW.on hb))
end Go.Proofs.YteapicfobammjaaDoor.Di
