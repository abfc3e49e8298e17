/-
  The contract of the reference's Floor, its main way.
-/
import Derived.Test.YtdjchdcpbinlnaaDoorRefCmp2
import Derived.Test.YtdjchdcpbinlnaaDoorRefFloor
namespace Go.Proofs.YtdjchdcpbinlnaaDoor
open Go.RowKit
set_option maxHeartbeats 4000000
theorem two.newSet {w : World} {g : Nat} {a b x y : Value} {t : TypeId} : two (((w.setCell ⟨g, 0, none⟩ a).setCell ⟨g, 1, none⟩ b).alloc (.cells #[x, y] t)) w.heap.size x y := by
  have h := two.new (w := (w.setCell ⟨g, 0, none⟩ a).setCell ⟨g, 1, none⟩ b) (x := x) (y := y) (t := t)
  rwa [show ((w.setCell ⟨g, 0, none⟩ a).setCell ⟨g, 1, none⟩ b).heap.size = w.heap.size from by simp [World.setCell]] at h
def blk2 (w : World) (b : Nat) : Prop := ∃ x y, two w b x y
theorem blk2.back {w : World} {b : Nat} {x y : Value} (h : two w b x y) : blk2 w b := ⟨x, y, h⟩
theorem blk2.far {w : World} {b g : Nat} {x2 y2 : Value} (h : blk2 w b) (hne : b ≠ g) : blk2 ((w.setCell ⟨g, 0, none⟩ x2).setCell ⟨g, 1, none⟩ y2) b := by
  obtain ⟨x, y, h⟩ := h
  exact ⟨x, y, h.far hne⟩
theorem two.set2o {w : World} {b : Nat} {x2 y2 : Value} (h : blk2 w b) : two ((w.setCell ⟨b, 0, none⟩ x2).setCell ⟨b, 1, none⟩ y2) b x2 y2 := by
  obtain ⟨x, y, h⟩ := h
  exact h.set2
theorem keep2' {w : World} {b : Nat} {x y : Value} (h : two w b x y) : w.cell? ⟨b, 0, none⟩ = some x ∧ w.cell? ⟨b, 1, none⟩ = some y := ⟨h.1, h.2.1⟩
def FloAt (w : World) (a b : Int) (qh ql rl : Nat) (u v : Value) (wx : World) : Prop :=
  ∃ f g : Nat, u = .pointer (some ⟨f, 0, none⟩) ∧ v = .pointer (some ⟨g, 0, none⟩) ∧ two wx f (.int .u64 (qh : Nat)) (.int .u64 (ql : Nat)) ∧ two wx g (.int .u64 0) (.int .u64 (rl : Nat)) ∧ two wx w.heap.size (.int .i64 a) (.int .i64 b) ∧ w.heap.size < f ∧ f ≠ g ∧ Below w.heap.size w wx
set_option maxRecDepth 100000 in
theorem rfloor_walk (a b k : Int) (n0 : -9223372036854775808 ≤ a) (n1 : a ≤ 9223372036854775807) (d0 : -9223372036854775808 ≤ b) (d1 : b ≤ 9223372036854775807) (k0 : -9223372036854775808 ≤ k) (k1 : k ≤ 9223372036854775807) (H1 : Hid (okF a b = true)) (t1 : decide (k < 0) = false) (t2 : decide ((1000000000000 : Int) < k) = false) (th tl qh ql rl sh sl : Nat)
    (T : Hid (∀ w, Calls Tryd.prog 50 #[.int .u64 (absN a : Nat), .int .u64 (absN k : Nat)] w (Gives (.agg #[.int .u64 (th : Nat), .int .u64 (tl : Nat)]) w)))
    (D : Hid (∀ w, Calls Tryd.prog 56 #[.agg #[.int .u64 (th : Nat), .int .u64 (tl : Nat)], .agg #[.int .u64 0, .int .u64 (absN b : Nat)]] w (Gives (.tuple #[.agg #[.int .u64 (qh : Nat), .int .u64 (ql : Nat)], .agg #[.int .u64 (0 : Nat), .int .u64 (rl : Nat)]]) w)))
    (res : Int) (ok : Bool)
    (hq : Hid ((decide (a < 0) = true ∧ ¬ (rl : Int) = 0 ∧ ∀ w, Calls Tryd.prog 57 #[.agg #[.int .u64 (qh : Nat), .int .u64 (ql : Nat)], .agg #[.int .u64 0, .int .u64 1]] w (Gives (.agg #[.int .u64 (sh : Nat), .int .u64 (sl : Nat)]) w)) ∨ (decide (a < 0) = true ∧ rl = 0 ∧ sh = qh ∧ sl = ql) ∨ (decide (a < 0) = false ∧ sh = qh ∧ sl = ql)))
    (hr : Hid ((((sh : Int) != 0) = true ∧ res = 0 ∧ ok = false) ∨ (sh = 0 ∧ decide ((4611686018427387904 : Int) < (sl : Int)) = true ∧ res = 0 ∧ ok = false) ∨ (sh = 0 ∧ decide ((4611686018427387904 : Int) < (sl : Int)) = false ∧ ok = true ∧ IntKind.i64.wrap (sl : Int) = (sl : Int) ∧ IntKind.i64.wrap (-(sl : Int)) = -(sl : Int) ∧ ((decide (a < 0) = true ∧ res = -(sl : Int)) ∨ (decide (a < 0) = false ∧ res = (sl : Int))))))
    (w : World) : Calls Tryd.prog 31 #[.agg #[.int .i64 a, .int .i64 b], .int .i64 k] w (Gives (.tuple #[.int .i64 res, .bool ok]) w) := by
  go_enter Tryd.func31, Tryd.ntmps31
  go_wp2_with fail
  refine (rvalid_any a b n0 n1 d0 d1 _).mono ?_
  rintro e w1 ⟨rfl, hb1⟩
  rw [H1.out]
  have A1 := two.on hb1 two.new
  obtain ⟨a0, a1, a2, a3, a4⟩ := A1
  have A1 : two _ _ _ _ := ⟨a0, a1, a2, a3, a4⟩
  go_upto_region 3 with fail
  go_cut [6, 7] (FloAt w a b qh ql rl)
  case first =>
    go_region_held3 (fun w' => w'.cell? ⟨w.heap.size, 0, none⟩ = some (.int .i64 a) ∧ w'.cell? ⟨w.heap.size, 1, none⟩ = some (.int .i64 b)) (first | (with_reducible exact keep2' (by (repeat (first | (with_reducible assumption) | (with_reducible exact two.new) | (with_reducible exact new2) | (with_reducible exact two.newSet) | (with_reducible refine two.drew ?_) | (with_reducible refine two.drewN ?_ _) | (with_reducible refine two.set2o ?_) | (with_reducible refine blk2.far ?_ (by omega)) | (exact blk2.back (by with_reducible assumption)) | (with_reducible refine two.far ?_ (by omega)) | (with_reducible refine two.alloc ?_) | (with_reducible refine two.call ?_ (by assumption)))))) | (go_keep; done))
      (first
        | (go_at_call_of 38 (Value.int .i64 a); refine (size_any a n0 n1 _).mono ?_; rintro e wx ⟨rfl, rfl⟩)
        | (go_at_call_of 38 (Value.int .i64 k); refine (size_any k k0 k1 _).mono ?_; rintro e wx ⟨rfl, rfl⟩)
        | (go_at_call_of 38 (Value.int .i64 b); refine (size_any b d0 d1 _).mono ?_; rintro e wx ⟨rfl, rfl⟩)
        | (go_at_call 50; refine (T.out _).mono ?_; rintro e w2 ⟨rfl, hb2⟩; have z2 := hb2.size; (try simp at z2); (first | (have D2 := two.on hb2 (two.drew new2); have E2 := two.on hb2 (two.drew (two.alloc two.new))) | (have D2 := two.on hb2 (two.drew two.new)) | skip); (first | (have t0 := D2.1; have t1 := D2.2.1; have t2 := D2.2.2.1; have t3 := D2.2.2.2.1; have t4 := D2.2.2.2.2) | skip); (first | (have t0 := E2.1; have t1 := E2.2.1; have t2 := E2.2.2.1; have t3 := E2.2.2.2.1; have t4 := E2.2.2.2.2) | skip))
        | (go_at_call 56; refine (D.out _).mono ?_; rintro e w3 ⟨rfl, hb3⟩; have z3 := hb3.size; (try simp at z3); (first | (have F3 := two.on hb3 new2; have G3 := two.on hb3 (two.alloc two.new)) | (have F3 := two.on hb3 two.new; (first | (have D3 := two.on hb3 (two.alloc D2)) | skip)) | (have D3 := two.on hb3 D2; (first | (have E3 := two.on hb3 E2) | skip)) | skip); (first | (have t0 := D3.1; have t1 := D3.2.1; have t2 := D3.2.2.1; have t3 := D3.2.2.2.1; have t4 := D3.2.2.2.2) | skip); (first | (have t0 := E3.1; have t1 := E3.2.1; have t2 := E3.2.2.1; have t3 := E3.2.2.2.1; have t4 := E3.2.2.2.2) | skip); (first | (have t0 := F3.1; have t1 := F3.2.1; have t2 := F3.2.2.1; have t3 := F3.2.2.2.1; have t4 := F3.2.2.2.2) | skip); (first | (have t0 := G3.1; have t1 := G3.2.1; have t2 := G3.2.2.1; have t3 := G3.2.2.2.1; have t4 := G3.2.2.2.2) | skip)))
    all_goals
      go_wp2_with fail
      go_meet
      exact ⟨_, _, rfl, rfl, by (repeat (first | (with_reducible assumption) | (with_reducible exact two.new) | (with_reducible exact new2) | (with_reducible exact two.newSet) | (with_reducible refine two.drew ?_) | (with_reducible refine two.drewN ?_ _) | (with_reducible refine two.set2o ?_) | (with_reducible refine blk2.far ?_ (by omega)) | (exact blk2.back (by with_reducible assumption)) | (with_reducible refine two.far ?_ (by omega)) | (with_reducible refine two.alloc ?_) | (with_reducible refine two.call ?_ (by assumption)))), by (repeat (first | (with_reducible assumption) | (with_reducible exact two.new) | (with_reducible exact new2) | (with_reducible exact two.newSet) | (with_reducible refine two.drew ?_) | (with_reducible refine two.drewN ?_ _) | (with_reducible refine two.set2o ?_) | (with_reducible refine blk2.far ?_ (by omega)) | (exact blk2.back (by with_reducible assumption)) | (with_reducible refine two.far ?_ (by omega)) | (with_reducible refine two.alloc ?_) | (with_reducible refine two.call ?_ (by assumption)))), by (repeat (first | (with_reducible assumption) | (with_reducible exact two.new) | (with_reducible exact new2) | (with_reducible exact two.newSet) | (with_reducible refine two.drew ?_) | (with_reducible refine two.drewN ?_ _) | (with_reducible refine two.set2o ?_) | (with_reducible refine blk2.far ?_ (by omega)) | (exact blk2.back (by with_reducible assumption)) | (with_reducible refine two.far ?_ (by omega)) | (with_reducible refine two.alloc ?_) | (with_reducible refine two.call ?_ (by assumption)))), by omega, by omega, by (repeat (first | (with_reducible exact Below.refl _ _) | (with_reducible assumption) | (with_reducible apply bl_alloc) | (with_reducible apply bl_drewN) | (with_reducible apply bl_drew) | (with_reducible refine bl_set ?_ (by first | (simp; done) | (simp; omega)) _) | (with_reducible refine bl_call ?_ (by assumption))))⟩
  case rest =>
    obtain ⟨f, g, rfl, rfl, F, G, A, hfw, hfg, hB⟩ := hcut
    clear hb1 A1 a0 a1 a2 a3 a4 T D H1
    obtain ⟨f0, f1, f2, f3, f4⟩ := F
    have F : two _ _ _ _ := ⟨f0, f1, f2, f3, f4⟩
    obtain ⟨g0, g1, g2, g3, g4⟩ := G
    have G : two _ _ _ _ := ⟨g0, g1, g2, g3, g4⟩
    obtain ⟨a0, a1, a2, a3, a4⟩ := A
    have A : two _ _ _ _ := ⟨a0, a1, a2, a3, a4⟩
    have hwf : ¬ w.heap.size = f := by omega
    have hfl : w.heap.size ≤ f := by omega
    rcases hq.out with ⟨h1, h2, h3⟩ | ⟨h1, rfl, rfl, rfl⟩ | ⟨h1, rfl, rfl⟩
    · have P := Lib.hid h3
      clear h3 hq
      rcases hr.out with ⟨e1, rfl, rfl⟩ | ⟨rfl, e1, rfl, rfl⟩ | ⟨rfl, e1, rfl, hws, hwn, ⟨-, rfl⟩ | ⟨e2, -⟩⟩
      all_goals try (rw [h1] at e2; cases e2; done)
      all_goals
        clear hr
        go_wp2_with fail
        refine (P.out _).mono ?_
        rintro e w4 ⟨rfl, hb4⟩
        have F4 := two.on hb4 F
        have A4 := two.on hb4 A
        clear f0 f1 f2 f3 f4 g0 g1 g2 g3 g4 a0 a1 a2 a3 a4
        obtain ⟨f0, f1, f2, f3, f4⟩ := F4
        have F4 : two _ _ _ _ := ⟨f0, f1, f2, f3, f4⟩
        obtain ⟨a0, a1, a2, a3, a4⟩ := A4
        have A4 : two _ _ _ _ := ⟨a0, a1, a2, a3, a4⟩
        go_wp2_with fail
        go_ret2
        exact ⟨rfl, by (repeat (first | (with_reducible exact Below.refl _ _) | (with_reducible assumption) | (with_reducible apply bl_alloc) | (with_reducible apply bl_drewN) | (with_reducible apply bl_drew) | (with_reducible refine bl_set ?_ (by first | (simp; done) | (simp; omega)) _) | (with_reducible refine bl_call ?_ (by assumption))))⟩
    · clear hq
      rcases hr.out with ⟨e1, rfl, rfl⟩ | ⟨rfl, e1, rfl, rfl⟩ | ⟨rfl, e1, rfl, hws, hwn, ⟨-, rfl⟩ | ⟨e2, -⟩⟩
      all_goals try (rw [h1] at e2; cases e2; done)
      all_goals
        clear hr
        go_wp2_with fail
        go_ret2
        exact ⟨rfl, by (repeat (first | (with_reducible exact Below.refl _ _) | (with_reducible assumption) | (with_reducible apply bl_alloc) | (with_reducible apply bl_drewN) | (with_reducible apply bl_drew) | (with_reducible refine bl_set ?_ (by first | (simp; done) | (simp; omega)) _) | (with_reducible refine bl_call ?_ (by assumption))))⟩
    · clear hq
      rcases hr.out with ⟨e1, rfl, rfl⟩ | ⟨rfl, e1, rfl, rfl⟩ | ⟨rfl, e1, rfl, hws, hwn, ⟨e2, -⟩ | ⟨-, rfl⟩⟩
      all_goals try (rw [h1] at e2; cases e2; done)
      all_goals
        clear hr
        go_wp2_with fail
        go_ret2
        exact ⟨rfl, by (repeat (first | (with_reducible exact Below.refl _ _) | (with_reducible assumption) | (with_reducible apply bl_alloc) | (with_reducible apply bl_drewN) | (with_reducible apply bl_drew) | (with_reducible refine bl_set ?_ (by first | (simp; done) | (simp; omega)) _) | (with_reducible refine bl_call ?_ (by assumption))))⟩
end Go.Proofs.YtdjchdcpbinlnaaDoor
