/-
  The statement AgendaChecks, walked.
-/
import Derived.Test.YtmijjpecgcgkgaaGAwake2
import Derived.Test.YtmijjpecgcgkgaaGCheck2
namespace Go.Proofs.Ytmijjpecgcgkgaa.Ag
open Go.RowKit
set_option maxHeartbeats 8000000
theorem checks_long (p : Option Addr) (n c : Nat) (x : Ev) (w : World) (h : 60 < n) : Calls Try.prog 4 #[.slice p n c, .agg #[.int .i64 x.t, .int .i64 x.p, .int .i64 x.f, .int .i64 x.s, .int .i64 x.st, .int .i64 x.k, .int .i64 x.a, .int .i64 x.b, .slice x.ap x.al x.ac]] w (Gives (.bool true) w) := by
  have h1 : (60 : Int) < (n : Int) := by omega
  clear h
  go_enter Try.func4, Try.ntmps4
  go_wp2_with fail
  refine (awake_any _).mono ?_
  rintro e w1 ⟨rfl, hb1⟩
  go_wp2_with fail
  go_ret
  exact ⟨rfl, by (repeat (first | (with_reducible exact Below.refl _ _) | (with_reducible assumption) | (with_reducible apply bl_alloc) | (with_reducible apply bl_drewN) | (with_reducible apply bl_drew) | (with_reducible refine bl_set ?_ (by first | (simp; done) | (simp; omega)) _) | (with_reducible refine bl_call ?_ (by assumption))))⟩
theorem checks_short (p : Option Addr) (n c : Nat) (x : Ev) (u v : Int) (w : World) (h : (n : Int) ≤ 60)
    (G1 : Hid (∀ w2, Below w.heap.size w w2 → Calls Try.prog 14 #[.agg #[.int .i64 x.t, .int .i64 x.p, .int .i64 x.f, .int .i64 x.s, .int .i64 x.st, .int .i64 x.k, .int .i64 x.a, .int .i64 x.b, .slice x.ap x.al x.ac]] w2 (Gives (.int .i64 u) w2))) (G2 : Hid (∀ w2, Below w.heap.size w w2 → Calls Try.prog 15 #[.agg #[.int .i64 x.t, .int .i64 x.p, .int .i64 x.f, .int .i64 x.s, .int .i64 x.st, .int .i64 x.k, .int .i64 x.a, .int .i64 x.b, .slice x.ap x.al x.ac]] w2 (Gives (.int .i64 u) w2)))
    (G3 : Hid (∀ w2, Below w.heap.size w w2 → Calls Try.prog 16 #[.slice p n c] w2 (Gives (.int .i64 v) w2))) (G4 : Hid (∀ w2, Below w.heap.size w w2 → Calls Try.prog 17 #[.slice p n c] w2 (Gives (.int .i64 v) w2))) :
    Calls Try.prog 4 #[.slice p n c, .agg #[.int .i64 x.t, .int .i64 x.p, .int .i64 x.f, .int .i64 x.s, .int .i64 x.st, .int .i64 x.k, .int .i64 x.a, .int .i64 x.b, .slice x.ap x.al x.ac]] w (Gives (.bool true) w) := by
  have X0 : nine (w.alloc (.cells #[.int .i64 x.t, .int .i64 x.p, .int .i64 x.f, .int .i64 x.s, .int .i64 x.st, .int .i64 x.k, .int .i64 x.a, .int .i64 x.b, .slice x.ap x.al x.ac] 25)).drew w.heap.size x := nine.new
  go_enter Try.func4, Try.ntmps4
  go_wp2_with fail
  go_region_held3 (fun w' => w'.cell? ⟨w.heap.size, 0, none⟩ = some (.int .i64 x.t) ∧ w'.cell? ⟨w.heap.size, 1, none⟩ = some (.int .i64 x.p) ∧ w'.cell? ⟨w.heap.size, 2, none⟩ = some (.int .i64 x.f) ∧ w'.cell? ⟨w.heap.size, 3, none⟩ = some (.int .i64 x.s) ∧ w'.cell? ⟨w.heap.size, 4, none⟩ = some (.int .i64 x.st) ∧ w'.cell? ⟨w.heap.size, 5, none⟩ = some (.int .i64 x.k) ∧ w'.cell? ⟨w.heap.size, 6, none⟩ = some (.int .i64 x.a) ∧ w'.cell? ⟨w.heap.size, 7, none⟩ = some (.int .i64 x.b) ∧ w'.cell? ⟨w.heap.size, 8, none⟩ = some (.slice x.ap x.al x.ac)) (first | (with_reducible exact keep9 X5) | (with_reducible exact keep9 X4) | (with_reducible exact keep9 X3) | (with_reducible exact keep9 X2) | (with_reducible exact keep9 X1) | (with_reducible exact keep9 X0) | (go_keep; done))
    (first
      | (go_at_call 14; refine (G1.out _ (by (repeat (first | (with_reducible exact Below.refl _ _) | (with_reducible assumption) | (with_reducible apply bl_alloc) | (with_reducible apply bl_drewN) | (with_reducible apply bl_drew) | (with_reducible refine bl_set ?_ (by first | (simp; done) | (simp; omega)) _) | (with_reducible refine bl_call ?_ (by assumption)))))).mono ?_; rintro e w1 ⟨rfl, hb1⟩; have X1 := nine.on hb1 X0)
      | (go_at_call 15; refine (G2.out _ (by (repeat (first | (with_reducible exact Below.refl _ _) | (with_reducible assumption) | (with_reducible apply bl_alloc) | (with_reducible apply bl_drewN) | (with_reducible apply bl_drew) | (with_reducible refine bl_set ?_ (by first | (simp; done) | (simp; omega)) _) | (with_reducible refine bl_call ?_ (by assumption)))))).mono ?_; rintro e w2 ⟨rfl, hb2⟩; have X2 := nine.on hb2 X1)
      | (go_at_call 16; refine (G3.out _ (by (repeat (first | (with_reducible exact Below.refl _ _) | (with_reducible assumption) | (with_reducible apply bl_alloc) | (with_reducible apply bl_drewN) | (with_reducible apply bl_drew) | (with_reducible refine bl_set ?_ (by first | (simp; done) | (simp; omega)) _) | (with_reducible refine bl_call ?_ (by assumption)))))).mono ?_; rintro e w3 ⟨rfl, hb3⟩; have X3 := nine.on hb3 X2)
      | (go_at_call 17; refine (G4.out _ (by (repeat (first | (with_reducible exact Below.refl _ _) | (with_reducible assumption) | (with_reducible apply bl_alloc) | (with_reducible apply bl_drewN) | (with_reducible apply bl_drew) | (with_reducible refine bl_set ?_ (by first | (simp; done) | (simp; omega)) _) | (with_reducible refine bl_call ?_ (by assumption)))))).mono ?_; rintro e w4 ⟨rfl, hb4⟩; have X4 := nine.on hb4 X3)
      | (go_at_call 13; refine (awake_any _).mono ?_; rintro e w5 ⟨rfl, hb5⟩; have X5 := nine.on hb5 X4))
  all_goals
    go_wp2_with fail
    go_ret
    exact ⟨rfl, by (repeat (first | (with_reducible exact Below.refl _ _) | (with_reducible assumption) | (with_reducible apply bl_alloc) | (with_reducible apply bl_drewN) | (with_reducible apply bl_drew) | (with_reducible refine bl_set ?_ (by first | (simp; done) | (simp; omega)) _) | (with_reducible refine bl_call ?_ (by assumption))))⟩
theorem agendaChecks_walk (p : Option Addr) (n c : Nat) (E : Nat → Ev) (x : Ev) (w : World) (_hW : WL p n c) (hE : Evs w p n E) (hx : ok w x) : Calls Try.prog 4 #[.slice p n c, .agg #[.int .i64 x.t, .int .i64 x.p, .int .i64 x.f, .int .i64 x.s, .int .i64 x.st, .int .i64 x.k, .int .i64 x.a, .int .i64 x.b, .slice x.ap x.al x.ac]] w (Gives (.bool true) w) := by
  by_cases h : 60 < n
  · exact checks_long p n c x w h
  · exact checks_short p n c x _ _ w (by omega) (Lib.hid fun w2 hb => event_any x w2 (Row.on hb hx)) (Lib.hid fun w2 hb => revent_any x w2 (Row.on hb hx)) (Lib.hid fun w2 hb => check_any p n c E w2 (hE.on hb)) (Lib.hid fun w2 hb => rcheck_any p n c E w2 (hE.on hb))
end Go.Proofs.Ytmijjpecgcgkgaa.Ag
