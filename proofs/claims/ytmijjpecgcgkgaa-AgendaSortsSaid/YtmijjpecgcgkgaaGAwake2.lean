/-
  The chapter's examples: awake answers yes.
-/
import Derived.Test.YtmijjpecgcgkgaaGAwake
namespace Go.Proofs.Ytmijjpecgcgkgaa.Ag
open Go.RowKit
set_option maxHeartbeats 8000000
set_option maxRecDepth 100000 in
theorem awake_any (w : World) : Calls Try.prog 13 #[] w (Gives (.bool true) w) := by
  go_enter Try.func13, Try.ntmps13
  go_wp2_with fail
  refine (at_any 5 9 0 _).mono ?_
  rintro e w1 ⟨rfl, hb1⟩
  go_wp2_with fail
  refine (at_any 5 2 0 _).mono ?_
  rintro e w2 ⟨rfl, hb2⟩
  have A2 : nine ((w2.alloc (.cells #[.int .i64 evA.t, .int .i64 evA.p, .int .i64 evA.f, .int .i64 evA.s, .int .i64 evA.st, .int .i64 evA.k, .int .i64 evA.a, .int .i64 evA.b, .slice evA.ap evA.al evA.ac] 25)).alloc (.cells #[.int .i64 evB.t, .int .i64 evB.p, .int .i64 evB.f, .int .i64 evB.s, .int .i64 evB.st, .int .i64 evB.k, .int .i64 evB.a, .int .i64 evB.b, .slice evB.ap evB.al evB.ac] 25)) w2.heap.size evA := nine.new.alloc
  have B2 : nine ((w2.alloc (.cells #[.int .i64 evA.t, .int .i64 evA.p, .int .i64 evA.f, .int .i64 evA.s, .int .i64 evA.st, .int .i64 evA.k, .int .i64 evA.a, .int .i64 evA.b, .slice evA.ap evA.al evA.ac] 25)).alloc (.cells #[.int .i64 evB.t, .int .i64 evB.p, .int .i64 evB.f, .int .i64 evB.s, .int .i64 evB.st, .int .i64 evB.k, .int .i64 evB.a, .int .i64 evB.b, .slice evB.ap evB.al evB.ac] 25)) (w2.heap.size + 1) evB := by
    have h := nine.new (w := w2.alloc (.cells #[.int .i64 evA.t, .int .i64 evA.p, .int .i64 evA.f, .int .i64 evA.s, .int .i64 evA.st, .int .i64 evA.k, .int .i64 evA.a, .int .i64 evA.b, .slice evA.ap evA.al evA.ac] 25)) (x := evB)
    rwa [show (w2.alloc (.cells #[.int .i64 evA.t, .int .i64 evA.p, .int .i64 evA.f, .int .i64 evA.s, .int .i64 evA.st, .int .i64 evA.k, .int .i64 evA.a, .int .i64 evA.b, .slice evA.ap evA.al evA.ac] 25)).heap.size = w2.heap.size + 1 from by simp] at h
  go_wp2_with fail
  refine (at_any 1 0 7 _).mono ?_
  rintro e w3 ⟨rfl, hb3⟩
  have A3 := nine.on hb3 A2
  have B3 := nine.on hb3 B2
  clear A2 B2
  go_wp2_with fail
  refine (at_any 9 1 7 _).mono ?_
  rintro e w4 ⟨rfl, hb4⟩
  have A4 := (nine.on hb4 A3)
  have B4 := (nine.on hb4 B3)
  clear A3 B3
  have E4 := two_evs (w := w4) (x := atEv 1 0 7) (y := atEv 9 1 7) (ty := 25) rfl rfl
  go_wp2_with fail
  refine (at_any 4 2 8 _).mono ?_
  rintro e w5 ⟨rfl, hb5⟩
  have A5 := (nine.on hb5 A4.alloc)
  have B5 := (nine.on hb5 B4.alloc)
  have E5 := Evs.on hb5 E4
  clear A4 B4 E4
  go_wp2_with fail
  refine (aw_put _ w4.heap.size E5).mono ?_
  rintro e w6 ⟨p, c, F, rfl, hW, hF, hG, ⟨t0, t1, t2⟩, hb6⟩
  have A6 := nine.on hb6 A5
  have B6 := nine.on hb6 B5
  have HW := Lib.hid hW
  have HG := Lib.hid hG
  have T0 := Lib.hid t0
  have T1 := Lib.hid t1
  have T2 := Lib.hid t2
  clear A5 B5 E5 hW hG t0 t1 t2
  go_wp2_with fail
  refine (aw_next _ p c F HW.out hF HG.out T0.out T1.out).mono ?_
  rintro e w7 ⟨y, q, d, F2, rfl, ty, hF2, tz, hb7⟩
  have Y7 : nine (w7.alloc (.cells #[.int .i64 y.t, .int .i64 y.p, .int .i64 y.f, .int .i64 y.s, .int .i64 y.st, .int .i64 y.k, .int .i64 y.a, .int .i64 y.b, .slice y.ap y.al y.ac] 25)) w7.heap.size y := nine.new
  have A7 := (nine.on hb7 A6).alloc (o := .cells #[.int .i64 y.t, .int .i64 y.p, .int .i64 y.f, .int .i64 y.s, .int .i64 y.st, .int .i64 y.k, .int .i64 y.a, .int .i64 y.b, .slice y.ap y.al y.ac] 25)
  have B7 := (nine.on hb7 B6).alloc (o := .cells #[.int .i64 y.t, .int .i64 y.p, .int .i64 y.f, .int .i64 y.s, .int .i64 y.st, .int .i64 y.k, .int .i64 y.a, .int .i64 y.b, .slice y.ap y.al y.ac] 25)
  have F7 := (Evs.on hb7 hF).alloc (o := .cells #[.int .i64 y.t, .int .i64 y.p, .int .i64 y.f, .int .i64 y.s, .int .i64 y.st, .int .i64 y.k, .int .i64 y.a, .int .i64 y.b, .slice y.ap y.al y.ac] 25)
  have G7 := hF2.alloc (o := .cells #[.int .i64 y.t, .int .i64 y.p, .int .i64 y.f, .int .i64 y.s, .int .i64 y.st, .int .i64 y.k, .int .i64 y.a, .int .i64 y.b, .slice y.ap y.al y.ac] 25)
  have TY := Lib.hid ty
  have TZ := Lib.hid tz
  clear A6 B6 hF hF2 ty tz
  go_wp2_with fail
  refine (at_any 3 0 7 _).mono ?_
  rintro e w8 ⟨rfl, hb8⟩
  have Y8 := nine.on hb8 Y7
  have A8 := nine.on hb8 A7
  have B8 := nine.on hb8 B7
  have F8 := Evs.on hb8 F7
  have G8 := Evs.on hb8 G7
  clear Y7 A7 B7 F7 G7
  go_wp2_with fail
  refine (at_any 8 1 7 _).mono ?_
  rintro e w9 ⟨rfl, hb9⟩
  have Y9 := nine.on hb9 Y8
  have A9 := nine.on hb9 A8
  have B9 := nine.on hb9 B8
  have F9 := Evs.on hb9 F8
  have G9 := Evs.on hb9 G8
  clear Y8 A8 B8 F8 G8
  have E9 := two_evs (w := w9) (x := atEv 3 0 7) (y := atEv 8 1 7) (ty := 25) rfl rfl
  go_wp2_with fail
  refine (aw_drop _ w9.heap.size E9).mono ?_
  rintro e w10 ⟨z, r, g, rfl, tz, hb10⟩
  have Z10 : nine (w10.alloc (.cells #[.int .i64 z.t, .int .i64 z.p, .int .i64 z.f, .int .i64 z.s, .int .i64 z.st, .int .i64 z.k, .int .i64 z.a, .int .i64 z.b, .slice z.ap z.al z.ac] 25)) w10.heap.size z := nine.new
  have Y10 := (nine.on hb10 Y9.alloc).alloc (o := .cells #[.int .i64 z.t, .int .i64 z.p, .int .i64 z.f, .int .i64 z.s, .int .i64 z.st, .int .i64 z.k, .int .i64 z.a, .int .i64 z.b, .slice z.ap z.al z.ac] 25)
  have A10 := (nine.on hb10 A9.alloc).alloc (o := .cells #[.int .i64 z.t, .int .i64 z.p, .int .i64 z.f, .int .i64 z.s, .int .i64 z.st, .int .i64 z.k, .int .i64 z.a, .int .i64 z.b, .slice z.ap z.al z.ac] 25)
  have B10 := (nine.on hb10 B9.alloc).alloc (o := .cells #[.int .i64 z.t, .int .i64 z.p, .int .i64 z.f, .int .i64 z.s, .int .i64 z.st, .int .i64 z.k, .int .i64 z.a, .int .i64 z.b, .slice z.ap z.al z.ac] 25)
  have F10 := (Evs.on hb10 F9.alloc).alloc (o := .cells #[.int .i64 z.t, .int .i64 z.p, .int .i64 z.f, .int .i64 z.s, .int .i64 z.st, .int .i64 z.k, .int .i64 z.a, .int .i64 z.b, .slice z.ap z.al z.ac] 25)
  have G10 := (Evs.on hb10 G9.alloc).alloc (o := .cells #[.int .i64 z.t, .int .i64 z.p, .int .i64 z.f, .int .i64 z.s, .int .i64 z.st, .int .i64 z.k, .int .i64 z.a, .int .i64 z.b, .slice z.ap z.al z.ac] 25)
  have TD := Lib.hid tz
  clear Y9 A9 B9 F9 G9 E9 tz
  obtain ⟨a0, a1, a2, a3, a4, a5, a6, a7, a8, a9⟩ := A10
  have A10 : nine _ _ _ := ⟨a0, a1, a2, a3, a4, a5, a6, a7, a8, a9⟩
  obtain ⟨b0, b1, b2, b3, b4, b5, b6, b7, b8, b9⟩ := B10
  have B10 : nine _ _ _ := ⟨b0, b1, b2, b3, b4, b5, b6, b7, b8, b9⟩
  go_wp2_with fail
  refine (aw_less1 _).mono ?_
  rintro e w11 ⟨rfl, hb11⟩
  have Z11 := nine.on hb11 Z10
  have Y11 := nine.on hb11 Y10
  have A11 := nine.on hb11 A10
  have B11 := nine.on hb11 B10
  have F11 := Evs.on hb11 F10
  have G11 := Evs.on hb11 G10
  clear a0 a1 a2 a3 a4 a5 a6 a7 a8 a9 b0 b1 b2 b3 b4 b5 b6 b7 b8 b9 A10 B10 Y10 Z10 F10 G10
  obtain ⟨a0, a1, a2, a3, a4, a5, a6, a7, a8, a9⟩ := A11
  have A11 : nine _ _ _ := ⟨a0, a1, a2, a3, a4, a5, a6, a7, a8, a9⟩
  obtain ⟨b0, b1, b2, b3, b4, b5, b6, b7, b8, b9⟩ := B11
  have B11 : nine _ _ _ := ⟨b0, b1, b2, b3, b4, b5, b6, b7, b8, b9⟩
  go_wp2_with fail
  refine (aw_less2 _).mono ?_
  rintro e w12 ⟨rfl, hb12⟩
  have Z12 := nine.on hb12 Z11
  have Y12 := nine.on hb12 Y11
  have A12 := nine.on hb12 A11
  have F12 := Evs.on hb12 F11
  have G12 := Evs.on hb12 G11
  clear a0 a1 a2 a3 a4 a5 a6 a7 a8 a9 b0 b1 b2 b3 b4 b5 b6 b7 b8 b9 A11 B11 Y11 Z11 F11 G11
  obtain ⟨a0, a1, a2, a3, a4, a5, a6, a7, a8, a9⟩ := A12
  have A12 : nine _ _ _ := ⟨a0, a1, a2, a3, a4, a5, a6, a7, a8, a9⟩
  go_wp2_with fail
  refine (aw_same _).mono ?_
  rintro e w13 ⟨rfl, hb13⟩
  have Z13 := nine.on hb13 Z12
  have Y13 := nine.on hb13 Y12
  have F13 := Evs.on hb13 F12
  have G13 := Evs.on hb13 G12
  clear a0 a1 a2 a3 a4 a5 a6 a7 a8 a9 A12 Y12 Z12 F12 G12
  have ty1 : (y.t == 1) = true := by rw [TY.out]; rfl
  have tz1 : (z.t == 3) = true := by rw [TD.out]; rfl
  have tf1 : ((F2 0).t == 4) = true := by rw [TZ.out]; rfl
  obtain ⟨y0, -⟩ := Y13
  obtain ⟨z0, -⟩ := Z13
  obtain ⟨-, hg | ⟨gb, go, rfl, hgb, hgc⟩⟩ := G13
  · cases hg
  obtain ⟨⟨g0, -⟩, -⟩ := hgc.out 0 (by omega)
  rw [Nat.zero_mul, Nat.add_zero] at g0
  go_wp2_with fail
  refine (aw_upto _ p c F HW.out F13 HG.out T0.out T1.out T2.out).mono ?_
  rintro e w14 ⟨u, v, rfl, hb14⟩
  go_wp2_with fail
  refine (at_any 2 0 0 _).mono ?_
  rintro e w15 ⟨rfl, hb15⟩
  go_wp2_with fail
  refine (at_any 1 1 0 _).mono ?_
  rintro e w16 ⟨rfl, hb16⟩
  have E16 := two_evs (w := w16) (x := atEv 2 0 0) (y := atEv 1 1 0) (ty := 25) rfl rfl
  go_wp2_with fail
  refine (aw_check _ w16.heap.size E16).mono ?_
  rintro e w17 ⟨rfl, hb17⟩
  go_wp2_with fail
  refine (aw_event _).mono ?_
  rintro e w18 ⟨rfl, hb18⟩
  go_wp2_with fail
  go_ret
  exact ⟨rfl, by (repeat (first | (with_reducible exact Below.refl _ _) | (with_reducible assumption) | (with_reducible apply bl_alloc) | (with_reducible apply bl_drewN) | (with_reducible apply bl_drew) | (with_reducible refine bl_set ?_ (by first | (simp; done) | (simp; omega)) _) | (with_reducible refine bl_call ?_ (by assumption))))⟩
end Go.Proofs.Ytmijjpecgcgkgaa.Ag
