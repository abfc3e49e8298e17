/-
  The statement FracExact, walked.
-/
import Derived.Test.YtdjchdcpbinlnaaDoorRefDiv2
import Derived.Test.YtdjchdcpbinlnaaDoorField
namespace Go.Proofs.YtdjchdcpbinlnaaDoor
open Go.RowKit
set_option maxHeartbeats 4000000
theorem keep2 {w : World} {b : Nat} {x y : Value} (h : two w b x y) : w.cell? ⟨b, 0, none⟩ = some x ∧ w.cell? ⟨b, 1, none⟩ = some y := ⟨h.1, h.2.1⟩
set_option maxRecDepth 100000 in
theorem exact_walk (a b c d x1 x2 y1 y2 z1 z2 v1 v2 cm : Int) (p q r s : Bool)
    (V1 : Hid (∀ w, Calls Tryd.prog 17 #[.agg #[.int .i64 a, .int .i64 b], .agg #[.int .i64 c, .int .i64 d]] w (Gives (.tuple #[.agg #[.int .i64 x1, .int .i64 x2], .bool p]) w)))
    (V2 : Hid (∀ w, Calls Tryd.prog 18 #[.agg #[.int .i64 a, .int .i64 b], .agg #[.int .i64 c, .int .i64 d]] w (Gives (.tuple #[.agg #[.int .i64 x1, .int .i64 x2], .bool p]) w)))
    (V3 : Hid (∀ w, Calls Tryd.prog 19 #[.agg #[.int .i64 a, .int .i64 b], .agg #[.int .i64 c, .int .i64 d]] w (Gives (.tuple #[.agg #[.int .i64 y1, .int .i64 y2], .bool q]) w)))
    (V4 : Hid (∀ w, Calls Tryd.prog 20 #[.agg #[.int .i64 a, .int .i64 b], .agg #[.int .i64 c, .int .i64 d]] w (Gives (.tuple #[.agg #[.int .i64 y1, .int .i64 y2], .bool q]) w)))
    (V5 : Hid (∀ w, Calls Tryd.prog 21 #[.agg #[.int .i64 a, .int .i64 b], .agg #[.int .i64 c, .int .i64 d]] w (Gives (.tuple #[.agg #[.int .i64 z1, .int .i64 z2], .bool r]) w)))
    (V6 : Hid (∀ w, Calls Tryd.prog 22 #[.agg #[.int .i64 a, .int .i64 b], .agg #[.int .i64 c, .int .i64 d]] w (Gives (.tuple #[.agg #[.int .i64 z1, .int .i64 z2], .bool r]) w)))
    (V7 : Hid (∀ w, Calls Tryd.prog 23 #[.agg #[.int .i64 a, .int .i64 b], .agg #[.int .i64 c, .int .i64 d]] w (Gives (.tuple #[.agg #[.int .i64 v1, .int .i64 v2], .bool s]) w)))
    (V8 : Hid (∀ w, Calls Tryd.prog 24 #[.agg #[.int .i64 a, .int .i64 b], .agg #[.int .i64 c, .int .i64 d]] w (Gives (.tuple #[.agg #[.int .i64 v1, .int .i64 v2], .bool s]) w)))
    (C1 : Hid (∀ w, Calls Tryd.prog 25 #[.agg #[.int .i64 a, .int .i64 b], .agg #[.int .i64 c, .int .i64 d]] w (Gives (.int .i64 cm) w)))
    (C2 : Hid (∀ w, Calls Tryd.prog 26 #[.agg #[.int .i64 a, .int .i64 b], .agg #[.int .i64 c, .int .i64 d]] w (Gives (.int .i64 cm) w)))
    (w : World) (hE : Env w) : Calls Tryd.prog 5 #[.agg #[.int .i64 a, .int .i64 b], .agg #[.int .i64 c, .int .i64 d]] w (Gives (.bool true) w) := by
  go_enter Tryd.func5, Tryd.ntmps5
  go_wp2_with fail
  refine (V1.out _).mono ?_
  rintro e w1 ⟨rfl, hb1⟩
  have A1 := two.on hb1 (two.alloc two.new)
  have B1 := two.on hb1 new2
  obtain ⟨fA0, fA1, fA2, fA3, fA4⟩ := A1
  have A1 : two _ _ _ _ := ⟨fA0, fA1, fA2, fA3, fA4⟩
  obtain ⟨fB0, fB1, fB2, fB3, fB4⟩ := B1
  have B1 : two _ _ _ _ := ⟨fB0, fB1, fB2, fB3, fB4⟩
  have s0 : w.heap.size + 1 < w1.heap.size := fB4
  go_wp2_with fail
  refine (V2.out _).mono ?_
  rintro e w2 ⟨rfl, hb2⟩
  have A2 := two.on hb2 (two.alloc A1)
  have B2 := two.on hb2 (two.alloc B1)
  have X2 := two.on hb2 two.new
  clear fA0 fA1 fA2 fA3 fA4 fB0 fB1 fB2 fB3 fB4
  obtain ⟨fA0, fA1, fA2, fA3, fA4⟩ := A2
  have A2 : two _ _ _ _ := ⟨fA0, fA1, fA2, fA3, fA4⟩
  obtain ⟨fB0, fB1, fB2, fB3, fB4⟩ := B2
  have B2 : two _ _ _ _ := ⟨fB0, fB1, fB2, fB3, fB4⟩
  obtain ⟨fX0, fX1, fX2, fX3, fX4⟩ := X2
  have X2 : two _ _ _ _ := ⟨fX0, fX1, fX2, fX3, fX4⟩
  have s1 : w1.heap.size < w2.heap.size := fX4
  go_wp2_with fail
  refine (V3.out _).mono ?_
  rintro e w3 ⟨rfl, hb3⟩
  have A3 := two.on hb3 (two.alloc A2)
  have B3 := two.on hb3 (two.alloc B2)
  have X3 := two.on hb3 (two.alloc X2)
  have U3 := two.on hb3 two.new
  clear fA0 fA1 fA2 fA3 fA4 fB0 fB1 fB2 fB3 fB4 fX0 fX1 fX2 fX3 fX4
  obtain ⟨fA0, fA1, fA2, fA3, fA4⟩ := A3
  have A3 : two _ _ _ _ := ⟨fA0, fA1, fA2, fA3, fA4⟩
  obtain ⟨fB0, fB1, fB2, fB3, fB4⟩ := B3
  have B3 : two _ _ _ _ := ⟨fB0, fB1, fB2, fB3, fB4⟩
  obtain ⟨fX0, fX1, fX2, fX3, fX4⟩ := X3
  have X3 : two _ _ _ _ := ⟨fX0, fX1, fX2, fX3, fX4⟩
  obtain ⟨fU0, fU1, fU2, fU3, fU4⟩ := U3
  have U3 : two _ _ _ _ := ⟨fU0, fU1, fU2, fU3, fU4⟩
  have s2 : w2.heap.size < w3.heap.size := fU4
  go_wp2_with fail
  refine (V4.out _).mono ?_
  rintro e w4 ⟨rfl, hb4⟩
  have A4 := two.on hb4 (two.alloc A3)
  have B4 := two.on hb4 (two.alloc B3)
  have X4 := two.on hb4 (two.alloc X3)
  have U4 := two.on hb4 (two.alloc U3)
  have Y4 := two.on hb4 two.new
  clear fA0 fA1 fA2 fA3 fA4 fB0 fB1 fB2 fB3 fB4 fX0 fX1 fX2 fX3 fX4 fU0 fU1 fU2 fU3 fU4
  obtain ⟨fA0, fA1, fA2, fA3, fA4⟩ := A4
  have A4 : two _ _ _ _ := ⟨fA0, fA1, fA2, fA3, fA4⟩
  obtain ⟨fB0, fB1, fB2, fB3, fB4⟩ := B4
  have B4 : two _ _ _ _ := ⟨fB0, fB1, fB2, fB3, fB4⟩
  obtain ⟨fX0, fX1, fX2, fX3, fX4⟩ := X4
  have X4 : two _ _ _ _ := ⟨fX0, fX1, fX2, fX3, fX4⟩
  obtain ⟨fU0, fU1, fU2, fU3, fU4⟩ := U4
  have U4 : two _ _ _ _ := ⟨fU0, fU1, fU2, fU3, fU4⟩
  obtain ⟨fY0, fY1, fY2, fY3, fY4⟩ := Y4
  have Y4 : two _ _ _ _ := ⟨fY0, fY1, fY2, fY3, fY4⟩
  have s3 : w3.heap.size < w4.heap.size := fY4
  go_wp2_with fail
  refine (V5.out _).mono ?_
  rintro e w5 ⟨rfl, hb5⟩
  have A5 := two.on hb5 (two.alloc A4)
  have B5 := two.on hb5 (two.alloc B4)
  have X5 := two.on hb5 (two.alloc X4)
  have U5 := two.on hb5 (two.alloc U4)
  have Y5 := two.on hb5 (two.alloc Y4)
  have V5 := two.on hb5 two.new
  clear fA0 fA1 fA2 fA3 fA4 fB0 fB1 fB2 fB3 fB4 fX0 fX1 fX2 fX3 fX4 fU0 fU1 fU2 fU3 fU4 fY0 fY1 fY2 fY3 fY4
  obtain ⟨fA0, fA1, fA2, fA3, fA4⟩ := A5
  have A5 : two _ _ _ _ := ⟨fA0, fA1, fA2, fA3, fA4⟩
  obtain ⟨fB0, fB1, fB2, fB3, fB4⟩ := B5
  have B5 : two _ _ _ _ := ⟨fB0, fB1, fB2, fB3, fB4⟩
  obtain ⟨fX0, fX1, fX2, fX3, fX4⟩ := X5
  have X5 : two _ _ _ _ := ⟨fX0, fX1, fX2, fX3, fX4⟩
  obtain ⟨fU0, fU1, fU2, fU3, fU4⟩ := U5
  have U5 : two _ _ _ _ := ⟨fU0, fU1, fU2, fU3, fU4⟩
  obtain ⟨fY0, fY1, fY2, fY3, fY4⟩ := Y5
  have Y5 : two _ _ _ _ := ⟨fY0, fY1, fY2, fY3, fY4⟩
  obtain ⟨fV0, fV1, fV2, fV3, fV4⟩ := V5
  have V5 : two _ _ _ _ := ⟨fV0, fV1, fV2, fV3, fV4⟩
  have s4 : w4.heap.size < w5.heap.size := fV4
  have neAX : ¬ w.heap.size = w1.heap.size := by omega
  have neAU : ¬ w.heap.size = w2.heap.size := by omega
  have neAY : ¬ w.heap.size = w3.heap.size := by omega
  have neAV : ¬ w.heap.size = w4.heap.size := by omega
  have neBX : ¬ w.heap.size + 1 = w1.heap.size := by omega
  have neBU : ¬ w.heap.size + 1 = w2.heap.size := by omega
  have neBY : ¬ w.heap.size + 1 = w3.heap.size := by omega
  have neBV : ¬ w.heap.size + 1 = w4.heap.size := by omega
  have neXA : ¬ w1.heap.size = w.heap.size := by omega
  have neXB : ¬ w1.heap.size = w.heap.size + 1 := by omega
  have neXU : ¬ w1.heap.size = w2.heap.size := by omega
  have neXY : ¬ w1.heap.size = w3.heap.size := by omega
  have neXV : ¬ w1.heap.size = w4.heap.size := by omega
  have neUA : ¬ w2.heap.size = w.heap.size := by omega
  have neUB : ¬ w2.heap.size = w.heap.size + 1 := by omega
  have neUX : ¬ w2.heap.size = w1.heap.size := by omega
  have neUY : ¬ w2.heap.size = w3.heap.size := by omega
  have neUV : ¬ w2.heap.size = w4.heap.size := by omega
  have neYA : ¬ w3.heap.size = w.heap.size := by omega
  have neYB : ¬ w3.heap.size = w.heap.size + 1 := by omega
  have neYX : ¬ w3.heap.size = w1.heap.size := by omega
  have neYU : ¬ w3.heap.size = w2.heap.size := by omega
  have neYV : ¬ w3.heap.size = w4.heap.size := by omega
  have neVA : ¬ w4.heap.size = w.heap.size := by omega
  have neVB : ¬ w4.heap.size = w.heap.size + 1 := by omega
  have neVX : ¬ w4.heap.size = w1.heap.size := by omega
  have neVU : ¬ w4.heap.size = w2.heap.size := by omega
  have neVY : ¬ w4.heap.size = w3.heap.size := by omega
  go_wp2_with fail
  refine (V6.out _).mono ?_
  rintro e w6 ⟨rfl, hb6⟩
  have A6 := two.on hb6 (two.far A5 neAX)
  have B6 := two.on hb6 (two.far B5 neBX)
  have X6 := two.on hb6 (two.set2 X5)
  have U6 := two.on hb6 (two.far U5 neUX)
  have Y6 := two.on hb6 (two.far Y5 neYX)
  have V6 := two.on hb6 (two.far V5 neVX)
  clear fA0 fA1 fA2 fA3 fA4 fB0 fB1 fB2 fB3 fB4 fX0 fX1 fX2 fX3 fX4 fU0 fU1 fU2 fU3 fU4 fY0 fY1 fY2 fY3 fY4 fV0 fV1 fV2 fV3 fV4
  obtain ⟨fA0, fA1, fA2, fA3, fA4⟩ := A6
  have A6 : two _ _ _ _ := ⟨fA0, fA1, fA2, fA3, fA4⟩
  obtain ⟨fB0, fB1, fB2, fB3, fB4⟩ := B6
  have B6 : two _ _ _ _ := ⟨fB0, fB1, fB2, fB3, fB4⟩
  obtain ⟨fX0, fX1, fX2, fX3, fX4⟩ := X6
  have X6 : two _ _ _ _ := ⟨fX0, fX1, fX2, fX3, fX4⟩
  obtain ⟨fU0, fU1, fU2, fU3, fU4⟩ := U6
  have U6 : two _ _ _ _ := ⟨fU0, fU1, fU2, fU3, fU4⟩
  obtain ⟨fY0, fY1, fY2, fY3, fY4⟩ := Y6
  have Y6 : two _ _ _ _ := ⟨fY0, fY1, fY2, fY3, fY4⟩
  obtain ⟨fV0, fV1, fV2, fV3, fV4⟩ := V6
  have V6 : two _ _ _ _ := ⟨fV0, fV1, fV2, fV3, fV4⟩
  go_wp2_with fail
  refine (V7.out _).mono ?_
  rintro e w7 ⟨rfl, hb7⟩
  have A7 := two.on hb7 (two.far A6 neAU)
  have B7 := two.on hb7 (two.far B6 neBU)
  have X7 := two.on hb7 (two.far X6 neXU)
  have U7 := two.on hb7 (two.set2 U6)
  have Y7 := two.on hb7 (two.far Y6 neYU)
  have V7 := two.on hb7 (two.far V6 neVU)
  clear fA0 fA1 fA2 fA3 fA4 fB0 fB1 fB2 fB3 fB4 fX0 fX1 fX2 fX3 fX4 fU0 fU1 fU2 fU3 fU4 fY0 fY1 fY2 fY3 fY4 fV0 fV1 fV2 fV3 fV4
  obtain ⟨fA0, fA1, fA2, fA3, fA4⟩ := A7
  have A7 : two _ _ _ _ := ⟨fA0, fA1, fA2, fA3, fA4⟩
  obtain ⟨fB0, fB1, fB2, fB3, fB4⟩ := B7
  have B7 : two _ _ _ _ := ⟨fB0, fB1, fB2, fB3, fB4⟩
  obtain ⟨fX0, fX1, fX2, fX3, fX4⟩ := X7
  have X7 : two _ _ _ _ := ⟨fX0, fX1, fX2, fX3, fX4⟩
  obtain ⟨fU0, fU1, fU2, fU3, fU4⟩ := U7
  have U7 : two _ _ _ _ := ⟨fU0, fU1, fU2, fU3, fU4⟩
  obtain ⟨fY0, fY1, fY2, fY3, fY4⟩ := Y7
  have Y7 : two _ _ _ _ := ⟨fY0, fY1, fY2, fY3, fY4⟩
  obtain ⟨fV0, fV1, fV2, fV3, fV4⟩ := V7
  have V7 : two _ _ _ _ := ⟨fV0, fV1, fV2, fV3, fV4⟩
  go_wp2_with fail
  refine (V8.out _).mono ?_
  rintro e w8 ⟨rfl, hb8⟩
  have A8 := two.on hb8 (two.far A7 neAY)
  have B8 := two.on hb8 (two.far B7 neBY)
  have X8 := two.on hb8 (two.far X7 neXY)
  have U8 := two.on hb8 (two.far U7 neUY)
  have Y8 := two.on hb8 (two.set2 Y7)
  have V8 := two.on hb8 (two.far V7 neVY)
  clear fA0 fA1 fA2 fA3 fA4 fB0 fB1 fB2 fB3 fB4 fX0 fX1 fX2 fX3 fX4 fU0 fU1 fU2 fU3 fU4 fY0 fY1 fY2 fY3 fY4 fV0 fV1 fV2 fV3 fV4
  obtain ⟨fA0, fA1, fA2, fA3, fA4⟩ := A8
  have A8 : two _ _ _ _ := ⟨fA0, fA1, fA2, fA3, fA4⟩
  obtain ⟨fB0, fB1, fB2, fB3, fB4⟩ := B8
  have B8 : two _ _ _ _ := ⟨fB0, fB1, fB2, fB3, fB4⟩
  obtain ⟨fX0, fX1, fX2, fX3, fX4⟩ := X8
  have X8 : two _ _ _ _ := ⟨fX0, fX1, fX2, fX3, fX4⟩
  obtain ⟨fU0, fU1, fU2, fU3, fU4⟩ := U8
  have U8 : two _ _ _ _ := ⟨fU0, fU1, fU2, fU3, fU4⟩
  obtain ⟨fY0, fY1, fY2, fY3, fY4⟩ := Y8
  have Y8 : two _ _ _ _ := ⟨fY0, fY1, fY2, fY3, fY4⟩
  obtain ⟨fV0, fV1, fV2, fV3, fV4⟩ := V8
  have V8 : two _ _ _ _ := ⟨fV0, fV1, fV2, fV3, fV4⟩
  go_wp2_with fail
  have A9 := two.far (x := .int .i64 v1) (y := .int .i64 v2) A8 neAV
  have B9 := two.far (x := .int .i64 v1) (y := .int .i64 v2) B8 neBV
  have X9 := two.far (x := .int .i64 v1) (y := .int .i64 v2) X8 neXV
  have U9 := two.far (x := .int .i64 v1) (y := .int .i64 v2) U8 neUV
  have Y9 := two.far (x := .int .i64 v1) (y := .int .i64 v2) Y8 neYV
  have V9 := two.set2 (x := .int .i64 v1) (y := .int .i64 v2) V8
  clear fA0 fA1 fA2 fA3 fA4 fB0 fB1 fB2 fB3 fB4 fX0 fX1 fX2 fX3 fX4 fU0 fU1 fU2 fU3 fU4 fY0 fY1 fY2 fY3 fY4 fV0 fV1 fV2 fV3 fV4
  go_region_held3 (fun w' => (w'.cell? ⟨w.heap.size, 0, none⟩ = some (.int .i64 a) ∧ w'.cell? ⟨w.heap.size, 1, none⟩ = some (.int .i64 b)) ∧ (w'.cell? ⟨w.heap.size + 1, 0, none⟩ = some (.int .i64 c) ∧ w'.cell? ⟨w.heap.size + 1, 1, none⟩ = some (.int .i64 d)) ∧ (w'.cell? ⟨w1.heap.size, 0, none⟩ = some (.int .i64 z1) ∧ w'.cell? ⟨w1.heap.size, 1, none⟩ = some (.int .i64 z2)) ∧ (w'.cell? ⟨w2.heap.size, 0, none⟩ = some (.int .i64 z1) ∧ w'.cell? ⟨w2.heap.size, 1, none⟩ = some (.int .i64 z2)) ∧ (w'.cell? ⟨w3.heap.size, 0, none⟩ = some (.int .i64 v1) ∧ w'.cell? ⟨w3.heap.size, 1, none⟩ = some (.int .i64 v2)) ∧ (w'.cell? ⟨w4.heap.size, 0, none⟩ = some (.int .i64 v1) ∧ w'.cell? ⟨w4.heap.size, 1, none⟩ = some (.int .i64 v2))) (first | (with_reducible exact ⟨keep2 A12, keep2 B12, keep2 X12, keep2 U12, keep2 Y12, keep2 V12⟩) | (with_reducible exact ⟨keep2 A11, keep2 B11, keep2 X11, keep2 U11, keep2 Y11, keep2 V11⟩) | (with_reducible exact ⟨keep2 A10, keep2 B10, keep2 X10, keep2 U10, keep2 Y10, keep2 V10⟩) | (with_reducible exact ⟨keep2 A9.drew, keep2 B9.drew, keep2 X9.drew, keep2 U9.drew, keep2 Y9.drew, keep2 V9.drew⟩) | (with_reducible exact ⟨keep2 A9, keep2 B9, keep2 X9, keep2 U9, keep2 Y9, keep2 V9⟩) | (go_keep; done))
      (first
        | (go_at_call 25; refine (C1.out _).mono ?_; rintro e w10 ⟨rfl, hb10⟩; have A10 := two.on hb10 A9.drew; have B10 := two.on hb10 B9.drew; have X10 := two.on hb10 X9.drew; have U10 := two.on hb10 U9.drew; have Y10 := two.on hb10 Y9.drew; have V10 := two.on hb10 V9.drew)
        | (go_at_call 26; refine (C2.out _).mono ?_; rintro e w11 ⟨rfl, hb11⟩; have A11 := two.on hb11 A10; have B11 := two.on hb11 B10; have X11 := two.on hb11 X10; have U11 := two.on hb11 U10; have Y11 := two.on hb11 Y10; have V11 := two.on hb11 V10)
        | (go_at_call 13; refine (awake_any _ (hE.below (by (repeat (first | (with_reducible exact Below.refl _ _) | (with_reducible assumption) | (with_reducible apply bl_alloc) | (with_reducible apply bl_drewN) | (with_reducible apply bl_drew) | (with_reducible refine bl_set ?_ (by first | (simp; done) | (simp; omega)) _) | (with_reducible refine bl_call ?_ (by assumption))))))).mono ?_; rintro e w12 ⟨rfl, hb12⟩; have A12 := two.on hb12 A11; have B12 := two.on hb12 B11; have X12 := two.on hb12 X11; have U12 := two.on hb12 U11; have Y12 := two.on hb12 Y11; have V12 := two.on hb12 V11))
  all_goals
    go_wp2_with fail
    go_ret
    exact ⟨rfl, by (repeat (first | (with_reducible exact Below.refl _ _) | (with_reducible assumption) | (with_reducible apply bl_alloc) | (with_reducible apply bl_drewN) | (with_reducible apply bl_drew) | (with_reducible refine bl_set ?_ (by first | (simp; done) | (simp; omega)) _) | (with_reducible refine bl_call ?_ (by assumption))))⟩
theorem fracExact_walk (a b : Int) (n0 : -9223372036854775808 ≤ a) (n1 : a ≤ 9223372036854775807) (d0 : -9223372036854775808 ≤ b) (d1 : b ≤ 9223372036854775807) (c d : Int) (m0 : -9223372036854775808 ≤ c) (m1 : c ≤ 9223372036854775807) (f0 : -9223372036854775808 ≤ d) (f1 : d ≤ 9223372036854775807) (w : World) (hE : Env w) :
    Calls Tryd.prog 5 #[.agg #[.int .i64 a, .int .i64 b], .agg #[.int .i64 c, .int .i64 d]] w (Gives (.bool true) w) :=
  exact_walk a b c d _ _ _ _ _ _ _ _ _ _ _ _ _ (Lib.hid (add_any a b c d n0 n1 d0 d1 m0 m1 f0 f1)) (Lib.hid (radd_any a b c d n0 n1 d0 d1 m0 m1 f0 f1)) (Lib.hid (sub_any a b c d n0 n1 d0 d1 m0 m1 f0 f1)) (Lib.hid (rsub_any a b c d n0 n1 d0 d1 m0 m1 f0 f1)) (Lib.hid (mul_any a b c d n0 n1 d0 d1 m0 m1 f0 f1)) (Lib.hid (rmul_any a b c d n0 n1 d0 d1 m0 m1 f0 f1))
    (Lib.hid (div_any a b c d n0 n1 d0 d1 m0 m1 f0 f1)) (Lib.hid (rdiv_any a b c d n0 n1 d0 d1 m0 m1 f0 f1)) (Lib.hid (cmp_any a b c d n0 n1 d0 d1 m0 m1 f0 f1)) (Lib.hid (rcmp_any a b c d n0 n1 d0 d1 m0 m1 f0 f1)) w hE
end Go.Proofs.YtdjchdcpbinlnaaDoor
