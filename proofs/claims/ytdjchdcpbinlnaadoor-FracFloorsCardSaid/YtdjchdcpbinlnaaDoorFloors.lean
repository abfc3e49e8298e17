/-
  The statement FracFloors, walked.
-/
import Derived.Test.YtdjchdcpbinlnaaDoorRefFloor3
import Derived.Test.YtdjchdcpbinlnaaDoorField
namespace Go.Proofs.YtdjchdcpbinlnaaDoor
open Go.RowKit
set_option maxHeartbeats 2000000
theorem keep2 {w : World} {b : Nat} {x y : Value} (h : two w b x y) : w.cell? ⟨b, 0, none⟩ = some x ∧ w.cell? ⟨b, 1, none⟩ = some y := ⟨h.1, h.2.1⟩
def MulAt (w : World) (a b x1 x2 : Int) (p : Bool) (u v : Value) (wx : World) : Prop :=
  ∃ f : Nat, u = .pointer (some ⟨f, 0, none⟩) ∧ v = .bool p ∧ two wx f (.int .i64 x1) (.int .i64 x2) ∧ two wx w.heap.size (.int .i64 a) (.int .i64 b) ∧ Below w.heap.size w wx
def AddAt (w : World) (f g : Nat) (x1 x2 y1 y2 z1 z2 : Int) (p : Bool) (u v : Value) (wx : World) : Prop :=
  ∃ h : Nat, u = .pointer (some ⟨h, 0, none⟩) ∧ v = .bool p ∧ two wx h (.int .i64 z1) (.int .i64 z2) ∧ two wx f (.int .i64 x1) (.int .i64 x2) ∧ two wx g (.int .i64 y1) (.int .i64 y2) ∧ Below w.heap.size w wx
set_option maxRecDepth 100000 in
theorem floors_walk (a b k r x1 x2 y1 y2 z1 z2 c1 c2 : Int) (ok p q u : Bool)
    (V1 : Hid (∀ w, Calls Tryd.prog 30 #[.agg #[.int .i64 (a), .int .i64 (b)], .int .i64 k] w (Gives (.tuple #[.int .i64 r, .bool ok]) w))) (V2 : Hid (∀ w, Calls Tryd.prog 31 #[.agg #[.int .i64 (a), .int .i64 (b)], .int .i64 k] w (Gives (.tuple #[.int .i64 r, .bool ok]) w)))
    (V3 : Hid (∀ w, Calls Tryd.prog 21 #[.agg #[.int .i64 (a), .int .i64 (b)], .agg #[.int .i64 (k), .int .i64 (1)]] w (Gives (.tuple #[.agg #[.int .i64 (x1), .int .i64 (x2)], .bool (p)]) w))) (V4 : Hid (∀ w, Calls Tryd.prog 10 #[.int .i64 r, .int .i64 1] w (Gives (.tuple #[.agg #[.int .i64 (y1), .int .i64 (y2)], .bool (q)]) w)))
    (V5 : Hid (∀ w, Calls Tryd.prog 17 #[.agg #[.int .i64 (y1), .int .i64 (y2)], .agg #[.int .i64 (1), .int .i64 (1)]] w (Gives (.tuple #[.agg #[.int .i64 (z1), .int .i64 (z2)], .bool (u)]) w)))
    (C1 : Hid (∀ w, Calls Tryd.prog 25 #[.agg #[.int .i64 (y1), .int .i64 (y2)], .agg #[.int .i64 (x1), .int .i64 (x2)]] w (Gives (.int .i64 c1) w))) (C2 : Hid (∀ w, Calls Tryd.prog 25 #[.agg #[.int .i64 (x1), .int .i64 (x2)], .agg #[.int .i64 (z1), .int .i64 (z2)]] w (Gives (.int .i64 c2) w)))
    (hc : Hid (ok = false ∨ (ok = true ∧ p = false) ∨ (ok = true ∧ p = true ∧ q = false) ∨ (ok = true ∧ p = true ∧ q = true ∧ u = false) ∨ (ok = true ∧ p = true ∧ q = true ∧ u = true ∧ decide (c1 ≤ 0) = true ∧ decide (c2 < 0) = true)))
    (w : World) (hE : Env w) : Calls Tryd.prog 9 #[.agg #[.int .i64 (a), .int .i64 (b)], .int .i64 k] w (Gives (.bool true) w) := by
  go_enter Tryd.func9, Tryd.ntmps9
  go_wp2_with fail
  refine (V1.out _).mono ?_
  rintro e w1 ⟨rfl, hb1⟩
  have A1 := two.on hb1 two.new
  obtain ⟨a0, a1, a2, a3, a4⟩ := A1
  have A1 : two _ _ _ _ := ⟨a0, a1, a2, a3, a4⟩
  go_wp2_with fail
  refine (V2.out _).mono ?_
  rintro e w2 ⟨rfl, hb2⟩
  have A2 := two.on hb2 A1
  clear a0 a1 a2 a3 a4
  obtain ⟨a0, a1, a2, a3, a4⟩ := A2
  have A2 : two _ _ _ _ := ⟨a0, a1, a2, a3, a4⟩
  go_upto_region 5 with fail
  go_cut [9, 10] (MulAt w a b x1 x2 p)
  case first =>
    go_region_held3 (fun w' => w'.cell? ⟨w.heap.size, 0, none⟩ = some (.int .i64 a) ∧ w'.cell? ⟨w.heap.size, 1, none⟩ = some (.int .i64 b)) (first | (with_reducible exact keep2 (by (repeat (first | (with_reducible assumption) | (with_reducible exact two.new) | (with_reducible exact new2) | (with_reducible exact two.newSet) | (with_reducible refine two.drew ?_) | (with_reducible refine two.drewN ?_ _) | (with_reducible refine two.set2o ?_) | (with_reducible refine blk2.far ?_ (by omega)) | (exact blk2.back (by with_reducible assumption)) | (with_reducible refine two.far ?_ (by omega)) | (with_reducible refine two.alloc ?_) | (with_reducible refine two.call ?_ (by assumption)))))) | (go_keep; done))
      (first
        | (go_at_call 32; refine (lof_any k 1 _).mono ?_; rintro e w3 ⟨rfl, hb3⟩; have z3 := hb3.size; (try simp at z3); (first | (have D3 := two.on hb3 (two.drew two.new)) | skip); (first | (have t0 := D3.1; have t1 := D3.2.1; have t2 := D3.2.2.1; have t3 := D3.2.2.2.1; have t4 := D3.2.2.2.2) | skip))
        | (go_at_call 21; refine (V3.out _).mono ?_; rintro e w4 ⟨rfl, hb4⟩; have z4 := hb4.size; (try simp at z4); (first | (have D4 := two.on hb4 two.new) | (have D4 := two.on hb4 D3) | skip); (first | (have t0 := D4.1; have t1 := D4.2.1; have t2 := D4.2.2.1; have t3 := D4.2.2.2.1; have t4 := D4.2.2.2.2) | skip)))
    all_goals
      go_wp2_with fail
      go_meet
      exact ⟨_, rfl, rfl, by (repeat (first | (with_reducible assumption) | (with_reducible exact two.new) | (with_reducible exact new2) | (with_reducible exact two.newSet) | (with_reducible refine two.drew ?_) | (with_reducible refine two.drewN ?_ _) | (with_reducible refine two.set2o ?_) | (with_reducible refine blk2.far ?_ (by omega)) | (exact blk2.back (by with_reducible assumption)) | (with_reducible refine two.far ?_ (by omega)) | (with_reducible refine two.alloc ?_) | (with_reducible refine two.call ?_ (by assumption)))), by (repeat (first | (with_reducible assumption) | (with_reducible exact two.new) | (with_reducible exact new2) | (with_reducible exact two.newSet) | (with_reducible refine two.drew ?_) | (with_reducible refine two.drewN ?_ _) | (with_reducible refine two.set2o ?_) | (with_reducible refine blk2.far ?_ (by omega)) | (exact blk2.back (by with_reducible assumption)) | (with_reducible refine two.far ?_ (by omega)) | (with_reducible refine two.alloc ?_) | (with_reducible refine two.call ?_ (by assumption)))), by (repeat (first | (with_reducible exact Below.refl _ _) | (with_reducible assumption) | (with_reducible apply bl_alloc) | (with_reducible apply bl_drewN) | (with_reducible apply bl_drew) | (with_reducible refine bl_set ?_ (by first | (simp; done) | (simp; omega)) _) | (with_reducible refine bl_call ?_ (by assumption))))⟩
  case rest =>
    obtain ⟨f, rfl, rfl, X4, A4, hB4⟩ := hcut
    clear hb1 hb2 A1 A2 a0 a1 a2 a3 a4 V1 V2 V3
    go_wp2_with fail
    refine (V4.out _).mono ?_
    rintro e w5 ⟨rfl, hb5⟩
    have X5 := two.on hb5 X4
    have z9 := X5.2.2.2.2
    have zw : w.heap.size ≤ w5.heap.size := Nat.le_trans hB4.size hb5.size
    go_upto_region 7 with fail
    have X6 := two.alloc (o := .cells #[.int .i64 y1, .int .i64 y2] 23) X5
    have Y6 : two (w5.alloc (.cells #[.int .i64 y1, .int .i64 y2] 23)) w5.heap.size (.int .i64 y1) (.int .i64 y2) := two.new
    go_cut [13, 14] (AddAt w f w5.heap.size x1 x2 y1 y2 z1 z2 u)
    case first =>
      go_region_held3 (fun w' => w'.cell? ⟨w5.heap.size, 0, none⟩ = some (.int .i64 y1) ∧ w'.cell? ⟨w5.heap.size, 1, none⟩ = some (.int .i64 y2)) (first | (with_reducible exact keep2 (by (repeat (first | (with_reducible assumption) | (with_reducible exact two.new) | (with_reducible exact new2) | (with_reducible exact two.newSet) | (with_reducible refine two.drew ?_) | (with_reducible refine two.drewN ?_ _) | (with_reducible refine two.set2o ?_) | (with_reducible refine blk2.far ?_ (by omega)) | (exact blk2.back (by with_reducible assumption)) | (with_reducible refine two.far ?_ (by omega)) | (with_reducible refine two.alloc ?_) | (with_reducible refine two.call ?_ (by assumption)))))) | (go_keep; done))
        (first
          | (go_at_call 32; refine (lof_any 1 1 _).mono ?_; rintro e w6 ⟨rfl, hb6⟩; have z6 := hb6.size; (try simp at z6); (first | (have D3 := two.on hb6 (two.drew new2)) | skip); (first | (have t0 := D3.1; have t1 := D3.2.1; have t2 := D3.2.2.1; have t3 := D3.2.2.2.1; have t4 := D3.2.2.2.2) | skip))
          | (go_at_call 17; refine (V5.out _).mono ?_; rintro e w7 ⟨rfl, hb7⟩; have z7 := hb7.size; (try simp at z7); (first | (have D4 := two.on hb7 two.new) | (have D4 := two.on hb7 D3) | skip); (first | (have t0 := D4.1; have t1 := D4.2.1; have t2 := D4.2.2.1; have t3 := D4.2.2.2.1; have t4 := D4.2.2.2.2) | skip)))
      all_goals
        go_wp2_with fail
        go_meet
        exact ⟨_, rfl, rfl, by (repeat (first | (with_reducible assumption) | (with_reducible exact two.new) | (with_reducible exact new2) | (with_reducible exact two.newSet) | (with_reducible refine two.drew ?_) | (with_reducible refine two.drewN ?_ _) | (with_reducible refine two.set2o ?_) | (with_reducible refine blk2.far ?_ (by omega)) | (exact blk2.back (by with_reducible assumption)) | (with_reducible refine two.far ?_ (by omega)) | (with_reducible refine two.alloc ?_) | (with_reducible refine two.call ?_ (by assumption)))), by (repeat (first | (with_reducible assumption) | (with_reducible exact two.new) | (with_reducible exact new2) | (with_reducible exact two.newSet) | (with_reducible refine two.drew ?_) | (with_reducible refine two.drewN ?_ _) | (with_reducible refine two.set2o ?_) | (with_reducible refine blk2.far ?_ (by omega)) | (exact blk2.back (by with_reducible assumption)) | (with_reducible refine two.far ?_ (by omega)) | (with_reducible refine two.alloc ?_) | (with_reducible refine two.call ?_ (by assumption)))), by (repeat (first | (with_reducible assumption) | (with_reducible exact two.new) | (with_reducible exact new2) | (with_reducible exact two.newSet) | (with_reducible refine two.drew ?_) | (with_reducible refine two.drewN ?_ _) | (with_reducible refine two.set2o ?_) | (with_reducible refine blk2.far ?_ (by omega)) | (exact blk2.back (by with_reducible assumption)) | (with_reducible refine two.far ?_ (by omega)) | (with_reducible refine two.alloc ?_) | (with_reducible refine two.call ?_ (by assumption)))), by (repeat (first | (with_reducible exact Below.refl _ _) | (with_reducible assumption) | (with_reducible apply bl_alloc) | (with_reducible apply bl_drewN) | (with_reducible apply bl_drew) | (with_reducible refine bl_set ?_ (by first | (simp; done) | (simp; omega)) _) | (with_reducible refine bl_call ?_ (by assumption))))⟩
    case rest =>
      obtain ⟨h, rfl, rfl, Z9, X9, Y9, hB9⟩ := hcut
      clear hb5 hB4 X4 A4 X5 X6 Y6 V4 V5
      rcases hc.out with rfl | ⟨rfl, rfl⟩ | ⟨rfl, rfl, rfl⟩ | ⟨rfl, rfl, rfl, rfl⟩ | ⟨rfl, rfl, rfl, rfl, h1, h2⟩
      case inr.inr.inr.inr =>
        clear hc
        obtain ⟨fx0, fx1, fx2, fx3, fx4⟩ := X9
        have X9 : two _ _ _ _ := ⟨fx0, fx1, fx2, fx3, fx4⟩
        obtain ⟨fy0, fy1, fy2, fy3, fy4⟩ := Y9
        have Y9 : two _ _ _ _ := ⟨fy0, fy1, fy2, fy3, fy4⟩
        go_wp2_with fail
        refine (C1.out _).mono ?_
        rintro e w10 ⟨rfl, hb10⟩
        have X10 := two.on hb10 X9
        have Z10 := two.on hb10 Z9
        clear fx0 fx1 fx2 fx3 fx4 fy0 fy1 fy2 fy3 fy4
        obtain ⟨fx0, fx1, fx2, fx3, fx4⟩ := X10
        have X10 : two _ _ _ _ := ⟨fx0, fx1, fx2, fx3, fx4⟩
        obtain ⟨fz0, fz1, fz2, fz3, fz4⟩ := Z10
        have Z10 : two _ _ _ _ := ⟨fz0, fz1, fz2, fz3, fz4⟩
        go_wp2_with fail
        refine (C2.out _).mono ?_
        rintro e w11 ⟨rfl, hb11⟩
        go_wp2_with fail
        refine (awake_any _ (hE.below (by (repeat (first | (with_reducible exact Below.refl _ _) | (with_reducible assumption) | (with_reducible apply bl_alloc) | (with_reducible apply bl_drewN) | (with_reducible apply bl_drew) | (with_reducible refine bl_set ?_ (by first | (simp; done) | (simp; omega)) _) | (with_reducible refine bl_call ?_ (by assumption))))))).mono ?_
        rintro e w12 ⟨rfl, hb12⟩
        go_wp2_with fail
        go_ret
        exact ⟨rfl, by (repeat (first | (with_reducible exact Below.refl _ _) | (with_reducible assumption) | (with_reducible apply bl_alloc) | (with_reducible apply bl_drewN) | (with_reducible apply bl_drew) | (with_reducible refine bl_set ?_ (by first | (simp; done) | (simp; omega)) _) | (with_reducible refine bl_call ?_ (by assumption))))⟩
      all_goals
        clear hc
        go_wp2_with fail
        refine (awake_any _ (hE.below (by (repeat (first | (with_reducible exact Below.refl _ _) | (with_reducible assumption) | (with_reducible apply bl_alloc) | (with_reducible apply bl_drewN) | (with_reducible apply bl_drew) | (with_reducible refine bl_set ?_ (by first | (simp; done) | (simp; omega)) _) | (with_reducible refine bl_call ?_ (by assumption))))))).mono ?_
        rintro e w10 ⟨rfl, hb10⟩
        go_wp2_with fail
        go_ret
        exact ⟨rfl, by (repeat (first | (with_reducible exact Below.refl _ _) | (with_reducible assumption) | (with_reducible apply bl_alloc) | (with_reducible apply bl_drewN) | (with_reducible apply bl_drew) | (with_reducible refine bl_set ?_ (by first | (simp; done) | (simp; omega)) _) | (with_reducible refine bl_call ?_ (by assumption))))⟩
theorem fracFloors_walk (a b : Int) (n0 : -9223372036854775808 ≤ a) (n1 : a ≤ 9223372036854775807) (d0 : -9223372036854775808 ≤ b) (d1 : b ≤ 9223372036854775807) (k : Int) (k0 : -9223372036854775808 ≤ k) (k1 : k ≤ 9223372036854775807) (w : World) (hE : Env w) :
    Calls Tryd.prog 9 #[.agg #[.int .i64 a, .int .i64 b], .int .i64 k] w (Gives (.bool true) w) := by
  have rr : -4611686018427387904 ≤ floorR a b k ∧ floorR a b k ≤ 4611686018427387904 := by
    unfold floorR
    split
    · rename_i h
      obtain ⟨-, -, -, h4, h5⟩ := floorB_true h
      exact ⟨h4, h5⟩
    · omega
  have eo := ofO_whole rr.1 rr.2
  have O := of_any (floorR a b k) 1 (by omega) (by omega) (by decide) (by decide)
  rw [eo] at O
  have xr := both_in a b k 1 (qv a b * qv k 1)
  refine floors_walk a b k (floorR a b k) _ _ _ _ _ _ _ _ (floorB a b k) _ _ _ (Lib.hid (floor_any a b k n0 n1 d0 d1 k0 k1)) (Lib.hid (rfloor_any a b k n0 n1 d0 d1 k0 k1)) (Lib.hid (mul_any a b k 1 n0 n1 d0 d1 k0 k1 (by decide) (by decide))) (Lib.hid O)
    (Lib.hid (add_any (floorR a b k) 1 1 1 (by omega) (by omega) (by decide) (by decide) (by decide) (by decide) (by decide) (by decide)))
    (Lib.hid (cmp_any (floorR a b k) 1 (oN (mulO a b k 1)) (oD (mulO a b k 1)) (by omega) (by omega) (by decide) (by decide) xr.1 xr.2.1 xr.2.2.1 xr.2.2.2)) (Lib.hid (cmp_any (oN (mulO a b k 1)) (oD (mulO a b k 1)) (oN (addO (floorR a b k) 1 1 1)) (oD (addO (floorR a b k) 1 1 1)) xr.1 xr.2.1 xr.2.2.1 xr.2.2.2 ?_ ?_ ?_ ?_)) (Lib.hid ?_) w hE
  · exact (both_in (floorR a b k) 1 1 1 (qv (floorR a b k) 1 + qv 1 1)).1
  · exact (both_in (floorR a b k) 1 1 1 (qv (floorR a b k) 1 + qv 1 1)).2.1
  · exact (both_in (floorR a b k) 1 1 1 (qv (floorR a b k) 1 + qv 1 1)).2.2.1
  · exact (both_in (floorR a b k) 1 1 1 (qv (floorR a b k) 1 + qv 1 1)).2.2.2
  · cases hf : floorB a b k
    · exact Or.inl rfl
    · right
      cases hx : oB (mulO a b k 1)
      · exact Or.inl ⟨rfl, rfl⟩
      · right; right
        cases hz : oB (addO (floorR a b k) 1 1 1)
        · exact Or.inl ⟨rfl, rfl, rfl, rfl⟩
        · right
          have er : floorR a b k = floorZ a b k := by unfold floorR; rw [hf]; rfl
          have hz2 := oB_some hz
          rw [er] at hz2
          obtain ⟨g1, g2⟩ := floor_fits hf (oB_some hx) hz2
          rw [er]
          exact ⟨rfl, rfl, rfl, rfl, decide_eq_true g1, decide_eq_true (by rw [g2]; decide)⟩
end Go.Proofs.YtdjchdcpbinlnaaDoor
