/-
  The statement AgendaOrders, walked.
-/
import Derived.Test.YtmijjpecgcgkgaaGAwake2
import Derived.Test.YtmijjpecgcgkgaaGSame2
namespace Go.Proofs.Ytmijjpecgcgkgaa.Ag
open Go.RowKit
set_option maxHeartbeats 8000000
def box3 (w : World) (x y z : Ev) (wr : World) : Prop := nine wr w.heap.size x ∧ nine wr (w.heap.size + 1) y ∧ nine wr (w.heap.size + 1 + 1) z
theorem box3.on {w wr w2 : World} {x y z : Ev} (hb : Below wr.heap.size wr w2) (h : box3 w x y z wr) : box3 w x y z w2 := ⟨nine.on hb h.1, nine.on hb h.2.1, nine.on hb h.2.2⟩
theorem box3.drew {w wr : World} {x y z : Ev} (h : box3 w x y z wr) : box3 w x y z wr.drew := h
theorem box3.new {w : World} {x y z : Ev} : box3 w x y z (((w.alloc (.cells #[.int .i64 x.t, .int .i64 x.p, .int .i64 x.f, .int .i64 x.s, .int .i64 x.st, .int .i64 x.k, .int .i64 x.a, .int .i64 x.b, .slice x.ap x.al x.ac] 25)).alloc (.cells #[.int .i64 y.t, .int .i64 y.p, .int .i64 y.f, .int .i64 y.s, .int .i64 y.st, .int .i64 y.k, .int .i64 y.a, .int .i64 y.b, .slice y.ap y.al y.ac] 25)).alloc (.cells #[.int .i64 z.t, .int .i64 z.p, .int .i64 z.f, .int .i64 z.s, .int .i64 z.st, .int .i64 z.k, .int .i64 z.a, .int .i64 z.b, .slice z.ap z.al z.ac] 25)) := by
  refine ⟨nine.new.alloc.alloc, ?_, ?_⟩
  · have h := (nine.new (w := w.alloc (.cells #[.int .i64 x.t, .int .i64 x.p, .int .i64 x.f, .int .i64 x.s, .int .i64 x.st, .int .i64 x.k, .int .i64 x.a, .int .i64 x.b, .slice x.ap x.al x.ac] 25)) (x := y)).alloc (o := .cells #[.int .i64 z.t, .int .i64 z.p, .int .i64 z.f, .int .i64 z.s, .int .i64 z.st, .int .i64 z.k, .int .i64 z.a, .int .i64 z.b, .slice z.ap z.al z.ac] 25)
    rwa [show (w.alloc (.cells #[.int .i64 x.t, .int .i64 x.p, .int .i64 x.f, .int .i64 x.s, .int .i64 x.st, .int .i64 x.k, .int .i64 x.a, .int .i64 x.b, .slice x.ap x.al x.ac] 25)).heap.size = w.heap.size + 1 from by simp] at h
  · have h := nine.new (w := (w.alloc (.cells #[.int .i64 x.t, .int .i64 x.p, .int .i64 x.f, .int .i64 x.s, .int .i64 x.st, .int .i64 x.k, .int .i64 x.a, .int .i64 x.b, .slice x.ap x.al x.ac] 25)).alloc (.cells #[.int .i64 y.t, .int .i64 y.p, .int .i64 y.f, .int .i64 y.s, .int .i64 y.st, .int .i64 y.k, .int .i64 y.a, .int .i64 y.b, .slice y.ap y.al y.ac] 25)) (x := z)
    rwa [show ((w.alloc (.cells #[.int .i64 x.t, .int .i64 x.p, .int .i64 x.f, .int .i64 x.s, .int .i64 x.st, .int .i64 x.k, .int .i64 x.a, .int .i64 x.b, .slice x.ap x.al x.ac] 25)).alloc (.cells #[.int .i64 y.t, .int .i64 y.p, .int .i64 y.f, .int .i64 y.s, .int .i64 y.st, .int .i64 y.k, .int .i64 y.a, .int .i64 y.b, .slice y.ap y.al y.ac] 25)).heap.size = w.heap.size + 1 + 1 from by simp] at h
theorem keep27 {w w' : World} {x y z : Ev} (h : box3 w x y z w') : w'.cell? ⟨w.heap.size, 0, none⟩ = some (.int .i64 x.t) ∧ w'.cell? ⟨w.heap.size, 1, none⟩ = some (.int .i64 x.p) ∧ w'.cell? ⟨w.heap.size, 2, none⟩ = some (.int .i64 x.f) ∧ w'.cell? ⟨w.heap.size, 3, none⟩ = some (.int .i64 x.s) ∧ w'.cell? ⟨w.heap.size, 4, none⟩ = some (.int .i64 x.st) ∧ w'.cell? ⟨w.heap.size, 5, none⟩ = some (.int .i64 x.k) ∧ w'.cell? ⟨w.heap.size, 6, none⟩ = some (.int .i64 x.a) ∧ w'.cell? ⟨w.heap.size, 7, none⟩ = some (.int .i64 x.b) ∧ w'.cell? ⟨w.heap.size, 8, none⟩ = some (.slice x.ap x.al x.ac) ∧ w'.cell? ⟨(w.heap.size + 1), 0, none⟩ = some (.int .i64 y.t) ∧ w'.cell? ⟨(w.heap.size + 1), 1, none⟩ = some (.int .i64 y.p) ∧ w'.cell? ⟨(w.heap.size + 1), 2, none⟩ = some (.int .i64 y.f) ∧ w'.cell? ⟨(w.heap.size + 1), 3, none⟩ = some (.int .i64 y.s) ∧ w'.cell? ⟨(w.heap.size + 1), 4, none⟩ = some (.int .i64 y.st) ∧ w'.cell? ⟨(w.heap.size + 1), 5, none⟩ = some (.int .i64 y.k) ∧ w'.cell? ⟨(w.heap.size + 1), 6, none⟩ = some (.int .i64 y.a) ∧ w'.cell? ⟨(w.heap.size + 1), 7, none⟩ = some (.int .i64 y.b) ∧ w'.cell? ⟨(w.heap.size + 1), 8, none⟩ = some (.slice y.ap y.al y.ac) ∧ w'.cell? ⟨(w.heap.size + 1 + 1), 0, none⟩ = some (.int .i64 z.t) ∧ w'.cell? ⟨(w.heap.size + 1 + 1), 1, none⟩ = some (.int .i64 z.p) ∧ w'.cell? ⟨(w.heap.size + 1 + 1), 2, none⟩ = some (.int .i64 z.f) ∧ w'.cell? ⟨(w.heap.size + 1 + 1), 3, none⟩ = some (.int .i64 z.s) ∧ w'.cell? ⟨(w.heap.size + 1 + 1), 4, none⟩ = some (.int .i64 z.st) ∧ w'.cell? ⟨(w.heap.size + 1 + 1), 5, none⟩ = some (.int .i64 z.k) ∧ w'.cell? ⟨(w.heap.size + 1 + 1), 6, none⟩ = some (.int .i64 z.a) ∧ w'.cell? ⟨(w.heap.size + 1 + 1), 7, none⟩ = some (.int .i64 z.b) ∧ w'.cell? ⟨(w.heap.size + 1 + 1), 8, none⟩ = some (.slice z.ap z.al z.ac) := by
  obtain ⟨⟨a0, a1, a2, a3, a4, a5, a6, a7, a8, -⟩, ⟨b0, b1, b2, b3, b4, b5, b6, b7, b8, -⟩, ⟨c0, c1, c2, c3, c4, c5, c6, c7, c8, -⟩⟩ := h
  exact ⟨a0, a1, a2, a3, a4, a5, a6, a7, a8, b0, b1, b2, b3, b4, b5, b6, b7, b8, c0, c1, c2, c3, c4, c5, c6, c7, c8⟩
def TieRel (w : World) (x y z : Ev) (v : Value) (wr : World) : Prop := v = .bool (cmpI x y == 0) ∧ box3 w x y z wr ∧ Below w.heap.size w wr
set_option maxRecDepth 100000 in
theorem orders_walk (x y z : Ev) (lxy lyx lyz lxz s : Bool) (w : World)
    (L1 : Hid (∀ w2, Calls Try.prog 9 #[.agg #[.int .i64 x.t, .int .i64 x.p, .int .i64 x.f, .int .i64 x.s, .int .i64 x.st, .int .i64 x.k, .int .i64 x.a, .int .i64 x.b, .slice x.ap x.al x.ac], .agg #[.int .i64 y.t, .int .i64 y.p, .int .i64 y.f, .int .i64 y.s, .int .i64 y.st, .int .i64 y.k, .int .i64 y.a, .int .i64 y.b, .slice y.ap y.al y.ac]] w2 (Gives (.bool lxy) w2))) (L2 : Hid (∀ w2, Calls Try.prog 10 #[.agg #[.int .i64 x.t, .int .i64 x.p, .int .i64 x.f, .int .i64 x.s, .int .i64 x.st, .int .i64 x.k, .int .i64 x.a, .int .i64 x.b, .slice x.ap x.al x.ac], .agg #[.int .i64 y.t, .int .i64 y.p, .int .i64 y.f, .int .i64 y.s, .int .i64 y.st, .int .i64 y.k, .int .i64 y.a, .int .i64 y.b, .slice y.ap y.al y.ac]] w2 (Gives (.bool lxy) w2))) (L3 : Hid (∀ w2, Calls Try.prog 9 #[.agg #[.int .i64 x.t, .int .i64 x.p, .int .i64 x.f, .int .i64 x.s, .int .i64 x.st, .int .i64 x.k, .int .i64 x.a, .int .i64 x.b, .slice x.ap x.al x.ac], .agg #[.int .i64 x.t, .int .i64 x.p, .int .i64 x.f, .int .i64 x.s, .int .i64 x.st, .int .i64 x.k, .int .i64 x.a, .int .i64 x.b, .slice x.ap x.al x.ac]] w2 (Gives (.bool false) w2)))
    (L4 : Hid (∀ w2, Calls Try.prog 9 #[.agg #[.int .i64 y.t, .int .i64 y.p, .int .i64 y.f, .int .i64 y.s, .int .i64 y.st, .int .i64 y.k, .int .i64 y.a, .int .i64 y.b, .slice y.ap y.al y.ac], .agg #[.int .i64 x.t, .int .i64 x.p, .int .i64 x.f, .int .i64 x.s, .int .i64 x.st, .int .i64 x.k, .int .i64 x.a, .int .i64 x.b, .slice x.ap x.al x.ac]] w2 (Gives (.bool lyx) w2))) (L5 : Hid (∀ w2, Calls Try.prog 9 #[.agg #[.int .i64 y.t, .int .i64 y.p, .int .i64 y.f, .int .i64 y.s, .int .i64 y.st, .int .i64 y.k, .int .i64 y.a, .int .i64 y.b, .slice y.ap y.al y.ac], .agg #[.int .i64 z.t, .int .i64 z.p, .int .i64 z.f, .int .i64 z.s, .int .i64 z.st, .int .i64 z.k, .int .i64 z.a, .int .i64 z.b, .slice z.ap z.al z.ac]] w2 (Gives (.bool lyz) w2))) (L6 : Hid (∀ w2, Calls Try.prog 9 #[.agg #[.int .i64 x.t, .int .i64 x.p, .int .i64 x.f, .int .i64 x.s, .int .i64 x.st, .int .i64 x.k, .int .i64 x.a, .int .i64 x.b, .slice x.ap x.al x.ac], .agg #[.int .i64 z.t, .int .i64 z.p, .int .i64 z.f, .int .i64 z.s, .int .i64 z.st, .int .i64 z.k, .int .i64 z.a, .int .i64 z.b, .slice z.ap z.al z.ac]] w2 (Gives (.bool lxz) w2)))
    (S1 : Hid (∀ w2, Below w.heap.size w w2 → Calls Try.prog 11 #[.agg #[.int .i64 x.t, .int .i64 x.p, .int .i64 x.f, .int .i64 x.s, .int .i64 x.st, .int .i64 x.k, .int .i64 x.a, .int .i64 x.b, .slice x.ap x.al x.ac], .agg #[.int .i64 y.t, .int .i64 y.p, .int .i64 y.f, .int .i64 y.s, .int .i64 y.st, .int .i64 y.k, .int .i64 y.a, .int .i64 y.b, .slice y.ap y.al y.ac]] w2 (Gives (.bool s) w2))) (S2 : Hid (∀ w2, Below w.heap.size w w2 → Calls Try.prog 12 #[.agg #[.int .i64 x.t, .int .i64 x.p, .int .i64 x.f, .int .i64 x.s, .int .i64 x.st, .int .i64 x.k, .int .i64 x.a, .int .i64 x.b, .slice x.ap x.al x.ac], .agg #[.int .i64 y.t, .int .i64 y.p, .int .i64 y.f, .int .i64 y.s, .int .i64 y.st, .int .i64 y.k, .int .i64 y.a, .int .i64 y.b, .slice y.ap y.al y.ac]] w2 (Gives (.bool s) w2))) (S3 : Hid (∀ w2, Below w.heap.size w w2 → Calls Try.prog 11 #[.agg #[.int .i64 z.t, .int .i64 z.p, .int .i64 z.f, .int .i64 z.s, .int .i64 z.st, .int .i64 z.k, .int .i64 z.a, .int .i64 z.b, .slice z.ap z.al z.ac], .agg #[.int .i64 z.t, .int .i64 z.p, .int .i64 z.f, .int .i64 z.s, .int .i64 z.st, .int .i64 z.k, .int .i64 z.a, .int .i64 z.b, .slice z.ap z.al z.ac]] w2 (Gives (.bool true) w2)))
    (hc : Hid (lxy = true ∧ lyx = false ∧ lyz = true ∧ lxz = true ∧ (cmpI x y == 0) = false ∨ lxy = true ∧ lyx = false ∧ lyz = false ∧ (cmpI x y == 0) = false ∨ lxy = false ∧ lyx = true ∧ (cmpI x y == 0) = false ∨ lxy = false ∧ lyx = false ∧ (cmpI x y == 0) = true)) :
    Calls Try.prog 3 #[.agg #[.int .i64 x.t, .int .i64 x.p, .int .i64 x.f, .int .i64 x.s, .int .i64 x.st, .int .i64 x.k, .int .i64 x.a, .int .i64 x.b, .slice x.ap x.al x.ac], .agg #[.int .i64 y.t, .int .i64 y.p, .int .i64 y.f, .int .i64 y.s, .int .i64 y.st, .int .i64 y.k, .int .i64 y.a, .int .i64 y.b, .slice y.ap y.al y.ac], .agg #[.int .i64 z.t, .int .i64 z.p, .int .i64 z.f, .int .i64 z.s, .int .i64 z.st, .int .i64 z.k, .int .i64 z.a, .int .i64 z.b, .slice z.ap z.al z.ac]] w (Gives (.bool true) w) := by
  have X0 : box3 w x y z _ := box3.new
  have X0d := box3.drew X0
  go_enter Try.func3, Try.ntmps3
  go_wp2_with fail
  go_region_held3 (fun w' => w'.cell? ⟨w.heap.size, 0, none⟩ = some (.int .i64 x.t) ∧ w'.cell? ⟨w.heap.size, 1, none⟩ = some (.int .i64 x.p) ∧ w'.cell? ⟨w.heap.size, 2, none⟩ = some (.int .i64 x.f) ∧ w'.cell? ⟨w.heap.size, 3, none⟩ = some (.int .i64 x.s) ∧ w'.cell? ⟨w.heap.size, 4, none⟩ = some (.int .i64 x.st) ∧ w'.cell? ⟨w.heap.size, 5, none⟩ = some (.int .i64 x.k) ∧ w'.cell? ⟨w.heap.size, 6, none⟩ = some (.int .i64 x.a) ∧ w'.cell? ⟨w.heap.size, 7, none⟩ = some (.int .i64 x.b) ∧ w'.cell? ⟨w.heap.size, 8, none⟩ = some (.slice x.ap x.al x.ac) ∧ w'.cell? ⟨(w.heap.size + 1), 0, none⟩ = some (.int .i64 y.t) ∧ w'.cell? ⟨(w.heap.size + 1), 1, none⟩ = some (.int .i64 y.p) ∧ w'.cell? ⟨(w.heap.size + 1), 2, none⟩ = some (.int .i64 y.f) ∧ w'.cell? ⟨(w.heap.size + 1), 3, none⟩ = some (.int .i64 y.s) ∧ w'.cell? ⟨(w.heap.size + 1), 4, none⟩ = some (.int .i64 y.st) ∧ w'.cell? ⟨(w.heap.size + 1), 5, none⟩ = some (.int .i64 y.k) ∧ w'.cell? ⟨(w.heap.size + 1), 6, none⟩ = some (.int .i64 y.a) ∧ w'.cell? ⟨(w.heap.size + 1), 7, none⟩ = some (.int .i64 y.b) ∧ w'.cell? ⟨(w.heap.size + 1), 8, none⟩ = some (.slice y.ap y.al y.ac) ∧ w'.cell? ⟨(w.heap.size + 1 + 1), 0, none⟩ = some (.int .i64 z.t) ∧ w'.cell? ⟨(w.heap.size + 1 + 1), 1, none⟩ = some (.int .i64 z.p) ∧ w'.cell? ⟨(w.heap.size + 1 + 1), 2, none⟩ = some (.int .i64 z.f) ∧ w'.cell? ⟨(w.heap.size + 1 + 1), 3, none⟩ = some (.int .i64 z.s) ∧ w'.cell? ⟨(w.heap.size + 1 + 1), 4, none⟩ = some (.int .i64 z.st) ∧ w'.cell? ⟨(w.heap.size + 1 + 1), 5, none⟩ = some (.int .i64 z.k) ∧ w'.cell? ⟨(w.heap.size + 1 + 1), 6, none⟩ = some (.int .i64 z.a) ∧ w'.cell? ⟨(w.heap.size + 1 + 1), 7, none⟩ = some (.int .i64 z.b) ∧ w'.cell? ⟨(w.heap.size + 1 + 1), 8, none⟩ = some (.slice z.ap z.al z.ac)) (first | (with_reducible exact keep27 X6) | (with_reducible exact keep27 X5) | (with_reducible exact keep27 X4) | (with_reducible exact keep27 X3) | (with_reducible exact keep27 X2) | (with_reducible exact keep27 X1) | (with_reducible exact keep27 X0d) | (go_keep; done))
    (first
      | (go_at_call 10; refine (L2.out _).mono ?_; rintro e w2 ⟨rfl, hb2⟩; have X2 := box3.on hb2 X1)
      | (go_at_call 12; refine (S2.out _ (by (repeat (first | (with_reducible exact Below.refl _ _) | (with_reducible assumption) | (with_reducible apply bl_alloc) | (with_reducible apply bl_drewN) | (with_reducible apply bl_drew) | (with_reducible refine bl_set ?_ (by first | (simp; done) | (simp; omega)) _) | (with_reducible refine bl_call ?_ (by assumption)))))).mono ?_; rintro e w4 ⟨rfl, hb4⟩; have X4 := box3.on hb4 X3)
      | (go_at_call_of 11 (Value.agg #[.int .i64 z.t, .int .i64 z.p, .int .i64 z.f, .int .i64 z.s, .int .i64 z.st, .int .i64 z.k, .int .i64 z.a, .int .i64 z.b, .slice z.ap z.al z.ac]); refine (S3.out _ (by (repeat (first | (with_reducible exact Below.refl _ _) | (with_reducible assumption) | (with_reducible apply bl_alloc) | (with_reducible apply bl_drewN) | (with_reducible apply bl_drew) | (with_reducible refine bl_set ?_ (by first | (simp; done) | (simp; omega)) _) | (with_reducible refine bl_call ?_ (by assumption)))))).mono ?_; rintro e w5 ⟨rfl, hb5⟩; have X5 := box3.on hb5 X4)
      | (go_at_call 11; refine (S1.out _ (by (repeat (first | (with_reducible exact Below.refl _ _) | (with_reducible assumption) | (with_reducible apply bl_alloc) | (with_reducible apply bl_drewN) | (with_reducible apply bl_drew) | (with_reducible refine bl_set ?_ (by first | (simp; done) | (simp; omega)) _) | (with_reducible refine bl_call ?_ (by assumption)))))).mono ?_; rintro e w3 ⟨rfl, hb3⟩; have X3 := box3.on hb3 X2)
      | (go_at_call_of 9 (Value.agg #[.int .i64 y.t, .int .i64 y.p, .int .i64 y.f, .int .i64 y.s, .int .i64 y.st, .int .i64 y.k, .int .i64 y.a, .int .i64 y.b, .slice y.ap y.al y.ac]); refine (L1.out _).mono ?_; rintro e w1 ⟨rfl, hb1⟩; have X1 := box3.on hb1 X0d)
      | (go_at_call 9; refine (L3.out _).mono ?_; rintro e w6 ⟨rfl, hb6⟩; have X6 := box3.on hb6 X5))
  all_goals
    have OBX := X6
    obtain ⟨⟨a0, a1, a2, a3, a4, a5, a6, a7, a8, a9⟩, ⟨b0, b1, b2, b3, b4, b5, b6, b7, b8, b9⟩, ⟨c0, c1, c2, c3, c4, c5, c6, c7, c8, c9⟩⟩ := OBX
    clear X0 X0d
    rcases hc.out with ⟨rfl, rfl, rfl, rfl, ht⟩ | ⟨rfl, rfl, rfl, ht⟩ | ⟨rfl, rfl, ht⟩ | ⟨rfl, rfl, ht⟩
    · have HT := Lib.hid ht
      clear ht
      go_wp2_with fail
      refine (L1.out _).mono ?_
      rintro e w7 ⟨rfl, hb7⟩
      have X7 := box3.on hb7 X6
      clear a0 a1 a2 a3 a4 a5 a6 a7 a8 a9 b0 b1 b2 b3 b4 b5 b6 b7 b8 b9 c0 c1 c2 c3 c4 c5 c6 c7 c8 c9
      have OBX := X7
      obtain ⟨⟨a0, a1, a2, a3, a4, a5, a6, a7, a8, a9⟩, ⟨b0, b1, b2, b3, b4, b5, b6, b7, b8, b9⟩, ⟨c0, c1, c2, c3, c4, c5, c6, c7, c8, c9⟩⟩ := OBX
      go_wp2_with fail
      refine (L4.out _).mono ?_
      rintro e w8 ⟨rfl, hb8⟩
      have X8 := box3.on hb8 X7
      clear a0 a1 a2 a3 a4 a5 a6 a7 a8 a9 b0 b1 b2 b3 b4 b5 b6 b7 b8 b9 c0 c1 c2 c3 c4 c5 c6 c7 c8 c9
      have OBX := X8
      obtain ⟨⟨a0, a1, a2, a3, a4, a5, a6, a7, a8, a9⟩, ⟨b0, b1, b2, b3, b4, b5, b6, b7, b8, b9⟩, ⟨c0, c1, c2, c3, c4, c5, c6, c7, c8, c9⟩⟩ := OBX
      go_wp2_with fail
      refine (L5.out _).mono ?_
      rintro e w9 ⟨rfl, hb9⟩
      have X9 := box3.on hb9 X8
      clear a0 a1 a2 a3 a4 a5 a6 a7 a8 a9 b0 b1 b2 b3 b4 b5 b6 b7 b8 b9 c0 c1 c2 c3 c4 c5 c6 c7 c8 c9
      have OBX := X9
      obtain ⟨⟨a0, a1, a2, a3, a4, a5, a6, a7, a8, a9⟩, ⟨b0, b1, b2, b3, b4, b5, b6, b7, b8, b9⟩, ⟨c0, c1, c2, c3, c4, c5, c6, c7, c8, c9⟩⟩ := OBX
      go_wp2_with fail
      refine (L6.out _).mono ?_
      rintro e w10 ⟨rfl, hb10⟩
      have X10 := box3.on hb10 X9
      clear a0 a1 a2 a3 a4 a5 a6 a7 a8 a9 b0 b1 b2 b3 b4 b5 b6 b7 b8 b9 c0 c1 c2 c3 c4 c5 c6 c7 c8 c9
      have OBX := X10
      obtain ⟨⟨a0, a1, a2, a3, a4, a5, a6, a7, a8, a9⟩, ⟨b0, b1, b2, b3, b4, b5, b6, b7, b8, b9⟩, ⟨c0, c1, c2, c3, c4, c5, c6, c7, c8, c9⟩⟩ := OBX
      go_upto_region 5 with fail
      go_cut [7] (TieRel w x y z)
      case first =>
        have BB : Below w.heap.size w w10 := by (repeat (first | (with_reducible exact Below.refl _ _) | (with_reducible assumption) | (with_reducible apply bl_alloc) | (with_reducible apply bl_drewN) | (with_reducible apply bl_drew) | (with_reducible refine bl_set ?_ (by first | (simp; done) | (simp; omega)) _) | (with_reducible refine bl_call ?_ (by assumption))))
        cases h0 : (x.t == y.t)
        · go_wp2_with fail
          go_meet
          exact ⟨by rw [tieB, h0]; rfl, X10, BB⟩
        cases h1 : (x.p == y.p)
        · go_wp2_with fail
          go_meet
          exact ⟨by rw [tieB, h0, h1]; rfl, X10, BB⟩
        cases h2 : (x.f == y.f)
        · go_wp2_with fail
          go_meet
          exact ⟨by rw [tieB, h0, h1, h2]; rfl, X10, BB⟩
        cases h3 : (x.s == y.s)
        · go_wp2_with fail
          go_meet
          exact ⟨by rw [tieB, h0, h1, h2, h3]; rfl, X10, BB⟩
        · go_wp2_with fail
          go_meet
          exact ⟨by rw [tieB, h0, h1, h2, h3]; rfl, X10, BB⟩
      case rest =>
        obtain ⟨rfl, X20, BB⟩ := hcut
        rw [HT.out]
        clear a0 a1 a2 a3 a4 a5 a6 a7 a8 a9 b0 b1 b2 b3 b4 b5 b6 b7 b8 b9 c0 c1 c2 c3 c4 c5 c6 c7 c8 c9
        have OBX := X20
        obtain ⟨⟨a0, a1, a2, a3, a4, a5, a6, a7, a8, a9⟩, ⟨b0, b1, b2, b3, b4, b5, b6, b7, b8, b9⟩, ⟨c0, c1, c2, c3, c4, c5, c6, c7, c8, c9⟩⟩ := OBX
        go_wp2_with fail
        refine (L1.out _).mono ?_
        rintro e w21 ⟨rfl, hb21⟩
        have X21 := box3.on hb21 X20
        clear a0 a1 a2 a3 a4 a5 a6 a7 a8 a9 b0 b1 b2 b3 b4 b5 b6 b7 b8 b9 c0 c1 c2 c3 c4 c5 c6 c7 c8 c9
        have OBX := X21
        obtain ⟨⟨a0, a1, a2, a3, a4, a5, a6, a7, a8, a9⟩, ⟨b0, b1, b2, b3, b4, b5, b6, b7, b8, b9⟩, ⟨c0, c1, c2, c3, c4, c5, c6, c7, c8, c9⟩⟩ := OBX
        go_wp2_with fail
        refine (awake_any _).mono ?_
        rintro e w23 ⟨rfl, hb23⟩
        go_wp2_with fail
        go_ret
        exact ⟨rfl, by (repeat (first | (with_reducible exact Below.refl _ _) | (with_reducible assumption) | (with_reducible apply bl_alloc) | (with_reducible apply bl_drewN) | (with_reducible apply bl_drew) | (with_reducible refine bl_set ?_ (by first | (simp; done) | (simp; omega)) _) | (with_reducible refine bl_call ?_ (by assumption))))⟩
    · have HT := Lib.hid ht
      clear ht
      go_wp2_with fail
      refine (L1.out _).mono ?_
      rintro e w7 ⟨rfl, hb7⟩
      have X7 := box3.on hb7 X6
      clear a0 a1 a2 a3 a4 a5 a6 a7 a8 a9 b0 b1 b2 b3 b4 b5 b6 b7 b8 b9 c0 c1 c2 c3 c4 c5 c6 c7 c8 c9
      have OBX := X7
      obtain ⟨⟨a0, a1, a2, a3, a4, a5, a6, a7, a8, a9⟩, ⟨b0, b1, b2, b3, b4, b5, b6, b7, b8, b9⟩, ⟨c0, c1, c2, c3, c4, c5, c6, c7, c8, c9⟩⟩ := OBX
      go_wp2_with fail
      refine (L4.out _).mono ?_
      rintro e w8 ⟨rfl, hb8⟩
      have X8 := box3.on hb8 X7
      clear a0 a1 a2 a3 a4 a5 a6 a7 a8 a9 b0 b1 b2 b3 b4 b5 b6 b7 b8 b9 c0 c1 c2 c3 c4 c5 c6 c7 c8 c9
      have OBX := X8
      obtain ⟨⟨a0, a1, a2, a3, a4, a5, a6, a7, a8, a9⟩, ⟨b0, b1, b2, b3, b4, b5, b6, b7, b8, b9⟩, ⟨c0, c1, c2, c3, c4, c5, c6, c7, c8, c9⟩⟩ := OBX
      go_wp2_with fail
      refine (L5.out _).mono ?_
      rintro e w9 ⟨rfl, hb9⟩
      have X9 := box3.on hb9 X8
      clear a0 a1 a2 a3 a4 a5 a6 a7 a8 a9 b0 b1 b2 b3 b4 b5 b6 b7 b8 b9 c0 c1 c2 c3 c4 c5 c6 c7 c8 c9
      have OBX := X9
      obtain ⟨⟨a0, a1, a2, a3, a4, a5, a6, a7, a8, a9⟩, ⟨b0, b1, b2, b3, b4, b5, b6, b7, b8, b9⟩, ⟨c0, c1, c2, c3, c4, c5, c6, c7, c8, c9⟩⟩ := OBX
      go_upto_region 5 with fail
      go_cut [7] (TieRel w x y z)
      case first =>
        have BB : Below w.heap.size w w9 := by (repeat (first | (with_reducible exact Below.refl _ _) | (with_reducible assumption) | (with_reducible apply bl_alloc) | (with_reducible apply bl_drewN) | (with_reducible apply bl_drew) | (with_reducible refine bl_set ?_ (by first | (simp; done) | (simp; omega)) _) | (with_reducible refine bl_call ?_ (by assumption))))
        cases h0 : (x.t == y.t)
        · go_wp2_with fail
          go_meet
          exact ⟨by rw [tieB, h0]; rfl, X9, BB⟩
        cases h1 : (x.p == y.p)
        · go_wp2_with fail
          go_meet
          exact ⟨by rw [tieB, h0, h1]; rfl, X9, BB⟩
        cases h2 : (x.f == y.f)
        · go_wp2_with fail
          go_meet
          exact ⟨by rw [tieB, h0, h1, h2]; rfl, X9, BB⟩
        cases h3 : (x.s == y.s)
        · go_wp2_with fail
          go_meet
          exact ⟨by rw [tieB, h0, h1, h2, h3]; rfl, X9, BB⟩
        · go_wp2_with fail
          go_meet
          exact ⟨by rw [tieB, h0, h1, h2, h3]; rfl, X9, BB⟩
      case rest =>
        obtain ⟨rfl, X20, BB⟩ := hcut
        rw [HT.out]
        clear a0 a1 a2 a3 a4 a5 a6 a7 a8 a9 b0 b1 b2 b3 b4 b5 b6 b7 b8 b9 c0 c1 c2 c3 c4 c5 c6 c7 c8 c9
        have OBX := X20
        obtain ⟨⟨a0, a1, a2, a3, a4, a5, a6, a7, a8, a9⟩, ⟨b0, b1, b2, b3, b4, b5, b6, b7, b8, b9⟩, ⟨c0, c1, c2, c3, c4, c5, c6, c7, c8, c9⟩⟩ := OBX
        go_wp2_with fail
        refine (L1.out _).mono ?_
        rintro e w21 ⟨rfl, hb21⟩
        have X21 := box3.on hb21 X20
        clear a0 a1 a2 a3 a4 a5 a6 a7 a8 a9 b0 b1 b2 b3 b4 b5 b6 b7 b8 b9 c0 c1 c2 c3 c4 c5 c6 c7 c8 c9
        have OBX := X21
        obtain ⟨⟨a0, a1, a2, a3, a4, a5, a6, a7, a8, a9⟩, ⟨b0, b1, b2, b3, b4, b5, b6, b7, b8, b9⟩, ⟨c0, c1, c2, c3, c4, c5, c6, c7, c8, c9⟩⟩ := OBX
        go_wp2_with fail
        refine (awake_any _).mono ?_
        rintro e w23 ⟨rfl, hb23⟩
        go_wp2_with fail
        go_ret
        exact ⟨rfl, by (repeat (first | (with_reducible exact Below.refl _ _) | (with_reducible assumption) | (with_reducible apply bl_alloc) | (with_reducible apply bl_drewN) | (with_reducible apply bl_drew) | (with_reducible refine bl_set ?_ (by first | (simp; done) | (simp; omega)) _) | (with_reducible refine bl_call ?_ (by assumption))))⟩
    · have HT := Lib.hid ht
      clear ht
      go_wp2_with fail
      refine (L1.out _).mono ?_
      rintro e w7 ⟨rfl, hb7⟩
      have X7 := box3.on hb7 X6
      clear a0 a1 a2 a3 a4 a5 a6 a7 a8 a9 b0 b1 b2 b3 b4 b5 b6 b7 b8 b9 c0 c1 c2 c3 c4 c5 c6 c7 c8 c9
      have OBX := X7
      obtain ⟨⟨a0, a1, a2, a3, a4, a5, a6, a7, a8, a9⟩, ⟨b0, b1, b2, b3, b4, b5, b6, b7, b8, b9⟩, ⟨c0, c1, c2, c3, c4, c5, c6, c7, c8, c9⟩⟩ := OBX
      go_upto_region 5 with fail
      go_cut [7] (TieRel w x y z)
      case first =>
        have BB : Below w.heap.size w w7 := by (repeat (first | (with_reducible exact Below.refl _ _) | (with_reducible assumption) | (with_reducible apply bl_alloc) | (with_reducible apply bl_drewN) | (with_reducible apply bl_drew) | (with_reducible refine bl_set ?_ (by first | (simp; done) | (simp; omega)) _) | (with_reducible refine bl_call ?_ (by assumption))))
        cases h0 : (x.t == y.t)
        · go_wp2_with fail
          go_meet
          exact ⟨by rw [tieB, h0]; rfl, X7, BB⟩
        cases h1 : (x.p == y.p)
        · go_wp2_with fail
          go_meet
          exact ⟨by rw [tieB, h0, h1]; rfl, X7, BB⟩
        cases h2 : (x.f == y.f)
        · go_wp2_with fail
          go_meet
          exact ⟨by rw [tieB, h0, h1, h2]; rfl, X7, BB⟩
        cases h3 : (x.s == y.s)
        · go_wp2_with fail
          go_meet
          exact ⟨by rw [tieB, h0, h1, h2, h3]; rfl, X7, BB⟩
        · go_wp2_with fail
          go_meet
          exact ⟨by rw [tieB, h0, h1, h2, h3]; rfl, X7, BB⟩
      case rest =>
        obtain ⟨rfl, X20, BB⟩ := hcut
        rw [HT.out]
        clear a0 a1 a2 a3 a4 a5 a6 a7 a8 a9 b0 b1 b2 b3 b4 b5 b6 b7 b8 b9 c0 c1 c2 c3 c4 c5 c6 c7 c8 c9
        have OBX := X20
        obtain ⟨⟨a0, a1, a2, a3, a4, a5, a6, a7, a8, a9⟩, ⟨b0, b1, b2, b3, b4, b5, b6, b7, b8, b9⟩, ⟨c0, c1, c2, c3, c4, c5, c6, c7, c8, c9⟩⟩ := OBX
        go_wp2_with fail
        refine (L1.out _).mono ?_
        rintro e w21 ⟨rfl, hb21⟩
        have X21 := box3.on hb21 X20
        clear a0 a1 a2 a3 a4 a5 a6 a7 a8 a9 b0 b1 b2 b3 b4 b5 b6 b7 b8 b9 c0 c1 c2 c3 c4 c5 c6 c7 c8 c9
        have OBX := X21
        obtain ⟨⟨a0, a1, a2, a3, a4, a5, a6, a7, a8, a9⟩, ⟨b0, b1, b2, b3, b4, b5, b6, b7, b8, b9⟩, ⟨c0, c1, c2, c3, c4, c5, c6, c7, c8, c9⟩⟩ := OBX
        go_wp2_with fail
        refine (L4.out _).mono ?_
        rintro e w22 ⟨rfl, hb22⟩
        go_wp2_with fail
        refine (awake_any _).mono ?_
        rintro e w23 ⟨rfl, hb23⟩
        go_wp2_with fail
        go_ret
        exact ⟨rfl, by (repeat (first | (with_reducible exact Below.refl _ _) | (with_reducible assumption) | (with_reducible apply bl_alloc) | (with_reducible apply bl_drewN) | (with_reducible apply bl_drew) | (with_reducible refine bl_set ?_ (by first | (simp; done) | (simp; omega)) _) | (with_reducible refine bl_call ?_ (by assumption))))⟩
    · have HT := Lib.hid ht
      clear ht
      go_wp2_with fail
      refine (L1.out _).mono ?_
      rintro e w7 ⟨rfl, hb7⟩
      have X7 := box3.on hb7 X6
      clear a0 a1 a2 a3 a4 a5 a6 a7 a8 a9 b0 b1 b2 b3 b4 b5 b6 b7 b8 b9 c0 c1 c2 c3 c4 c5 c6 c7 c8 c9
      have OBX := X7
      obtain ⟨⟨a0, a1, a2, a3, a4, a5, a6, a7, a8, a9⟩, ⟨b0, b1, b2, b3, b4, b5, b6, b7, b8, b9⟩, ⟨c0, c1, c2, c3, c4, c5, c6, c7, c8, c9⟩⟩ := OBX
      go_upto_region 5 with fail
      go_cut [7] (TieRel w x y z)
      case first =>
        have BB : Below w.heap.size w w7 := by (repeat (first | (with_reducible exact Below.refl _ _) | (with_reducible assumption) | (with_reducible apply bl_alloc) | (with_reducible apply bl_drewN) | (with_reducible apply bl_drew) | (with_reducible refine bl_set ?_ (by first | (simp; done) | (simp; omega)) _) | (with_reducible refine bl_call ?_ (by assumption))))
        cases h0 : (x.t == y.t)
        · go_wp2_with fail
          go_meet
          exact ⟨by rw [tieB, h0]; rfl, X7, BB⟩
        cases h1 : (x.p == y.p)
        · go_wp2_with fail
          go_meet
          exact ⟨by rw [tieB, h0, h1]; rfl, X7, BB⟩
        cases h2 : (x.f == y.f)
        · go_wp2_with fail
          go_meet
          exact ⟨by rw [tieB, h0, h1, h2]; rfl, X7, BB⟩
        cases h3 : (x.s == y.s)
        · go_wp2_with fail
          go_meet
          exact ⟨by rw [tieB, h0, h1, h2, h3]; rfl, X7, BB⟩
        · go_wp2_with fail
          go_meet
          exact ⟨by rw [tieB, h0, h1, h2, h3]; rfl, X7, BB⟩
      case rest =>
        obtain ⟨rfl, X20, BB⟩ := hcut
        rw [HT.out]
        clear a0 a1 a2 a3 a4 a5 a6 a7 a8 a9 b0 b1 b2 b3 b4 b5 b6 b7 b8 b9 c0 c1 c2 c3 c4 c5 c6 c7 c8 c9
        have OBX := X20
        obtain ⟨⟨a0, a1, a2, a3, a4, a5, a6, a7, a8, a9⟩, ⟨b0, b1, b2, b3, b4, b5, b6, b7, b8, b9⟩, ⟨c0, c1, c2, c3, c4, c5, c6, c7, c8, c9⟩⟩ := OBX
        go_wp2_with fail
        refine (L1.out _).mono ?_
        rintro e w21 ⟨rfl, hb21⟩
        have X21 := box3.on hb21 X20
        clear a0 a1 a2 a3 a4 a5 a6 a7 a8 a9 b0 b1 b2 b3 b4 b5 b6 b7 b8 b9 c0 c1 c2 c3 c4 c5 c6 c7 c8 c9
        have OBX := X21
        obtain ⟨⟨a0, a1, a2, a3, a4, a5, a6, a7, a8, a9⟩, ⟨b0, b1, b2, b3, b4, b5, b6, b7, b8, b9⟩, ⟨c0, c1, c2, c3, c4, c5, c6, c7, c8, c9⟩⟩ := OBX
        go_wp2_with fail
        refine (L4.out _).mono ?_
        rintro e w22 ⟨rfl, hb22⟩
        go_wp2_with fail
        refine (awake_any _).mono ?_
        rintro e w23 ⟨rfl, hb23⟩
        go_wp2_with fail
        go_ret
        exact ⟨rfl, by (repeat (first | (with_reducible exact Below.refl _ _) | (with_reducible assumption) | (with_reducible apply bl_alloc) | (with_reducible apply bl_drewN) | (with_reducible apply bl_drew) | (with_reducible refine bl_set ?_ (by first | (simp; done) | (simp; omega)) _) | (with_reducible refine bl_call ?_ (by assumption))))⟩
theorem agendaOrders_walk (x y z : Ev) (w : World) (hx : ok w x) (hy : ok w y) (hz : ok w z) : Calls Try.prog 3 #[.agg #[.int .i64 x.t, .int .i64 x.p, .int .i64 x.f, .int .i64 x.s, .int .i64 x.st, .int .i64 x.k, .int .i64 x.a, .int .i64 x.b, .slice x.ap x.al x.ac], .agg #[.int .i64 y.t, .int .i64 y.p, .int .i64 y.f, .int .i64 y.s, .int .i64 y.st, .int .i64 y.k, .int .i64 y.a, .int .i64 y.b, .slice y.ap y.al y.ac], .agg #[.int .i64 z.t, .int .i64 z.p, .int .i64 z.f, .int .i64 z.s, .int .i64 z.st, .int .i64 z.k, .int .i64 z.a, .int .i64 z.b, .slice z.ap z.al z.ac]] w (Gives (.bool true) w) := by
  refine orders_walk x y z (ltB x y) (ltB y x) (ltB y z) (ltB x z) (sameB x y) w (Lib.hid fun w2 => less_any x y w2) (Lib.hid fun w2 => rless_any x y w2) (Lib.hid fun w2 => ?_) (Lib.hid fun w2 => less_any y x w2) (Lib.hid fun w2 => less_any y z w2) (Lib.hid fun w2 => less_any x z w2)
    (Lib.hid fun w2 hb => same_any x y w2 (Row.on hb hx) (Row.on hb hy)) (Lib.hid fun w2 hb => rsame_any x y w2 (Row.on hb hx) (Row.on hb hy)) (Lib.hid fun w2 hb => ?_) (Lib.hid ?_)
  · have h := less_any x x w2
    rwa [ltB_false.2 Lt.irrefl] at h
  · have h := same_any z z w2 (Row.on hb hz) (Row.on hb hz)
    rwa [sameB_iff.2 (Eqv.refl z)] at h
  · have ht : (cmpI x y == 0) = true ↔ Tie x y := by rw [beq_iff_eq]; exact cmpI_zero
    by_cases h1 : Lt x y
    · have h2 : ¬ Lt y x := by unfold Lt at *; omega
      have h3 : (cmpI x y == 0) = false := by rw [Bool.eq_false_iff]; intro h; have := ht.1 h; unfold Lt Tie at *; omega
      cases h4 : ltB y z
      · exact .inr (.inl ⟨ltB_iff.2 h1, ltB_false.2 h2, rfl, h3⟩)
      · exact .inl ⟨ltB_iff.2 h1, ltB_false.2 h2, rfl, ltB_iff.2 (h1.trans (ltB_iff.1 h4)), h3⟩
    · by_cases h2 : Lt y x
      · have h3 : (cmpI x y == 0) = false := by rw [Bool.eq_false_iff]; intro h; have := ht.1 h; unfold Lt Tie at *; omega
        exact .inr (.inr (.inl ⟨ltB_false.2 h1, ltB_iff.2 h2, h3⟩))
      · exact .inr (.inr (.inr ⟨ltB_false.2 h1, ltB_false.2 h2, ht.2 (by unfold Lt Tie at *; omega)⟩))
end Go.Proofs.Ytmijjpecgcgkgaa.Ag
