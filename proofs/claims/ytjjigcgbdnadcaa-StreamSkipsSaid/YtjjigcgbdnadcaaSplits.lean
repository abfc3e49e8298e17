/-
  The statement StreamSplits, walked.
-/
import Derived.Test.YtjjigcgbdnadcaaNews
namespace Go.Proofs.Ytjjigcgbdnadcaa
open Go.RowKit
set_option maxHeartbeats 1000000
theorem tri.new2 {w : World} {x y z : Value} {t : TypeId} {o : Obj} : tri ((w.alloc o).alloc (.cells #[x, y, z] t)) (w.heap.size + 1) x y z := by
  have h := tri.new (w := w.alloc o) (x := x) (y := y) (z := z) (t := t)
  rwa [show (w.alloc o).heap.size = w.heap.size + 1 from by simp] at h
theorem tri.newSet {w : World} {g : Nat} {a b c x y z : Value} {t : TypeId} : tri ((((w.setCell ⟨g, 0, none⟩ a).setCell ⟨g, 1, none⟩ b).setCell ⟨g, 2, none⟩ c).alloc (.cells #[x, y, z] t)) w.heap.size x y z := by
  have h := tri.new (w := ((w.setCell ⟨g, 0, none⟩ a).setCell ⟨g, 1, none⟩ b).setCell ⟨g, 2, none⟩ c) (x := x) (y := y) (z := z) (t := t)
  rwa [show (((w.setCell ⟨g, 0, none⟩ a).setCell ⟨g, 1, none⟩ b).setCell ⟨g, 2, none⟩ c).heap.size = w.heap.size from by simp [World.setCell]] at h
/-- A block of three cells, whatever it holds. -/
def blk (w : World) (b : Nat) : Prop := ∃ x y z, tri w b x y z
theorem blk.back {w : World} {b : Nat} {x y z : Value} (h : tri w b x y z) : blk w b := ⟨x, y, z, h⟩
theorem blk.far {w : World} {b g : Nat} {x2 y2 z2 : Value} (h : blk w b) (hne : b ≠ g) : blk (((w.setCell ⟨g, 0, none⟩ x2).setCell ⟨g, 1, none⟩ y2).setCell ⟨g, 2, none⟩ z2) b := by
  obtain ⟨x, y, z, h⟩ := h
  exact ⟨x, y, z, h.far hne⟩
theorem tri.set3o {w : World} {b : Nat} {x2 y2 z2 : Value} (h : blk w b) : tri (((w.setCell ⟨b, 0, none⟩ x2).setCell ⟨b, 1, none⟩ y2).setCell ⟨b, 2, none⟩ z2) b x2 y2 z2 := by
  obtain ⟨x, y, z, h⟩ := h
  exact h.set3
theorem tri_then {P Q : Prop} (h : P) (k : P → Q) : Q := k h
theorem splits_no (k : Nat) (p : Int) (b : Bool) (i j : Int) (C1 : Hid (∀ w, Calls Try.prog 15 #[.agg #[.int .u64 (k : Nat), .int .i64 p, .bool b]] w (Gives (.int .i64 2) w))) (w : World) :
    Calls Try.prog 8 #[.agg #[.int .u64 (k : Nat), .int .i64 p, .bool b], .int .i64 i, .int .i64 j] w (Gives (.bool true) w) := by
  go_enter Try.func8, Try.ntmps8
  go_wp2_with fail
  refine (C1.out _).mono ?_
  rintro e w1 ⟨rfl, hb1⟩
  go_wp2_with fail
  refine (awake_any _).mono ?_
  rintro e w2 ⟨rfl, hb2⟩
  go_wp2_with fail
  go_ret
  exact ⟨rfl, by repeat (first | exact Below.refl _ _ | assumption | apply bl_alloc | apply bl_drewN | apply bl_drew | (refine bl_set ?_ (by first | (simp; done) | (simp; omega)) _) | (refine bl_call ?_ (by assumption)))⟩
def PairAt (w : World) (H : Nat) (k x y : Nat) (p : Int) (b : Bool) (u v : Value) (wx : World) : Prop :=
  ∃ f g : Nat, u = .pointer (some ⟨f, 0, none⟩) ∧ v = .pointer (some ⟨g, 0, none⟩) ∧ tri wx f (.int .u64 (x : Nat)) (.int .i64 0) (.bool b) ∧ tri wx g (.int .u64 (y : Nat)) (.int .i64 0) (.bool b) ∧ tri wx H (.int .u64 (k : Nat)) (.int .i64 p) (.bool b) ∧ Below w.heap.size w wx
theorem splits_yes (k : Nat) (p : Int) (b : Bool) (i j : Int) (x y : Nat) (p2 : Int) (C1 : Hid (∀ w, Calls Try.prog 15 #[.agg #[.int .u64 (k : Nat), .int .i64 p, .bool b]] w (Gives (.int .i64 0) w)))
    (hc : Hid ((((x : Int) == (y : Int)) = true ∧ (i == j) = true) ∨ (((x : Int) == (y : Int)) = false ∧ (i == j) = false)))
    (P1 : Hid (∀ w, Calls Try.prog 23 #[.agg #[.int .u64 (k : Nat), .int .i64 p, .bool b], .int .i64 i] w (Gives (.agg #[.int .u64 (x : Nat), .int .i64 0, .bool b]) w)))
    (P2 : Hid (∀ w, Calls Try.prog 23 #[.agg #[.int .u64 (k : Nat), .int .i64 p, .bool b], .int .i64 j] w (Gives (.agg #[.int .u64 (y : Nat), .int .i64 0, .bool b]) w)))
    (K1 : Hid (∀ w, Calls Try.prog 21 #[.agg #[.int .u64 (k : Nat), .int .i64 p, .bool b], .int .i64 i] w (Gives (.agg #[.int .u64 (k : Nat), .int .i64 p2, .bool b]) w)))
    (P3 : Hid (∀ w, Calls Try.prog 23 #[.agg #[.int .u64 (k : Nat), .int .i64 p2, .bool b], .int .i64 j] w (Gives (.agg #[.int .u64 (y : Nat), .int .i64 0, .bool b]) w))) (w : World) :
    Calls Try.prog 8 #[.agg #[.int .u64 (k : Nat), .int .i64 p, .bool b], .int .i64 i, .int .i64 j] w (Gives (.bool true) w) := by
  go_enter Try.func8, Try.ntmps8
  go_wp2_with fail
  refine (C1.out _).mono ?_
  rintro e w1 ⟨rfl, hb1⟩
  have A1 := tri.on hb1 tri.new
  obtain ⟨a0, a1, a2, a3, a4, a5, a6⟩ := A1
  have A1 : tri _ _ _ _ _ := ⟨a0, a1, a2, a3, a4, a5, a6⟩
  go_upto_region 3 with (fail)
  go_cut [7, 8] (PairAt w w.heap.size k x y p b)
  case first =>
    go_region_held3 (fun w' => w'.cell? ⟨w.heap.size, 0, none⟩ = some (.int .u64 (k : Nat)) ∧ w'.cell? ⟨w.heap.size, 1, none⟩ = some (.int .i64 p) ∧ w'.cell? ⟨w.heap.size, 2, none⟩ = some (.bool b)) (first | exact tri.keep (by (repeat (first | (with_reducible assumption) | (with_reducible exact tri.new) | (with_reducible exact tri.new2) | (with_reducible exact tri.newSet) | (with_reducible refine tri.drew ?_) | (with_reducible refine tri.drewN ?_ _) | (with_reducible refine tri.set3o ?_) | (with_reducible refine blk.far ?_ (by omega)) | (exact blk.back (by with_reducible assumption)) | (with_reducible refine tri.far ?_ (by omega)) | (with_reducible refine tri.alloc ?_) | (with_reducible refine tri.call ?_ (by assumption))))) | (go_keep; done))
      (first
        | (go_at_call_of 23 (Value.int .i64 i); refine (P1.out _).mono ?_; rintro e w2 ⟨rfl, hb2⟩; have z2 := hb2.size; (try simp at z2); (first | (have D2 := tri.on hb2 (tri.drew tri.new2); have E2 := tri.on hb2 (tri.drew (tri.alloc tri.new))) | (have D2 := tri.on hb2 (tri.drew tri.new)) | skip); (first | (have t0 := D2.1; have t1 := D2.2.1; have t2 := D2.2.2.1; have t3 := D2.2.2.2.1; have t4 := D2.2.2.2.2.1; have t5 := D2.2.2.2.2.2.1; have t6 := D2.2.2.2.2.2.2) | skip); (first | (have t0 := E2.1; have t1 := E2.2.1; have t2 := E2.2.2.1; have t3 := E2.2.2.2.1; have t4 := E2.2.2.2.2.1; have t5 := E2.2.2.2.2.2.1; have t6 := E2.2.2.2.2.2.2) | skip))
        | (go_at_call_of 23 (Value.int .i64 j); refine (P2.out _).mono ?_; rintro e w3 ⟨rfl, hb3⟩; have z3 := hb3.size; (try simp at z3); (first | (have F3 := tri.on hb3 tri.new2; have G3 := tri.on hb3 (tri.alloc tri.new)) | (have F3 := tri.on hb3 tri.new; (first | (have D3 := tri.on hb3 (tri.alloc D2)) | skip)) | (have D3 := tri.on hb3 D2; (first | (have E3 := tri.on hb3 E2) | skip)) | skip); (first | (have t0 := D3.1; have t1 := D3.2.1; have t2 := D3.2.2.1; have t3 := D3.2.2.2.1; have t4 := D3.2.2.2.2.1; have t5 := D3.2.2.2.2.2.1; have t6 := D3.2.2.2.2.2.2) | skip); (first | (have t0 := E3.1; have t1 := E3.2.1; have t2 := E3.2.2.1; have t3 := E3.2.2.2.1; have t4 := E3.2.2.2.2.1; have t5 := E3.2.2.2.2.2.1; have t6 := E3.2.2.2.2.2.2) | skip); (first | (have t0 := F3.1; have t1 := F3.2.1; have t2 := F3.2.2.1; have t3 := F3.2.2.2.1; have t4 := F3.2.2.2.2.1; have t5 := F3.2.2.2.2.2.1; have t6 := F3.2.2.2.2.2.2) | skip); (first | (have t0 := G3.1; have t1 := G3.2.1; have t2 := G3.2.2.1; have t3 := G3.2.2.2.1; have t4 := G3.2.2.2.2.1; have t5 := G3.2.2.2.2.2.1; have t6 := G3.2.2.2.2.2.2) | skip)))
    all_goals
      go_wp2_with fail
      go_meet
      exact ⟨_, _, rfl, rfl, by (repeat (first | (with_reducible assumption) | (with_reducible exact tri.new) | (with_reducible exact tri.new2) | (with_reducible exact tri.newSet) | (with_reducible refine tri.drew ?_) | (with_reducible refine tri.drewN ?_ _) | (with_reducible refine tri.set3o ?_) | (with_reducible refine blk.far ?_ (by omega)) | (exact blk.back (by with_reducible assumption)) | (with_reducible refine tri.far ?_ (by omega)) | (with_reducible refine tri.alloc ?_) | (with_reducible refine tri.call ?_ (by assumption)))), by (repeat (first | (with_reducible assumption) | (with_reducible exact tri.new) | (with_reducible exact tri.new2) | (with_reducible exact tri.newSet) | (with_reducible refine tri.drew ?_) | (with_reducible refine tri.drewN ?_ _) | (with_reducible refine tri.set3o ?_) | (with_reducible refine blk.far ?_ (by omega)) | (exact blk.back (by with_reducible assumption)) | (with_reducible refine tri.far ?_ (by omega)) | (with_reducible refine tri.alloc ?_) | (with_reducible refine tri.call ?_ (by assumption)))), by (repeat (first | (with_reducible assumption) | (with_reducible exact tri.new) | (with_reducible exact tri.new2) | (with_reducible exact tri.newSet) | (with_reducible refine tri.drew ?_) | (with_reducible refine tri.drewN ?_ _) | (with_reducible refine tri.set3o ?_) | (with_reducible refine blk.far ?_ (by omega)) | (exact blk.back (by with_reducible assumption)) | (with_reducible refine tri.far ?_ (by omega)) | (with_reducible refine tri.alloc ?_) | (with_reducible refine tri.call ?_ (by assumption)))), by (repeat (first | (with_reducible exact Below.refl _ _) | (with_reducible assumption) | (with_reducible apply bl_alloc) | (with_reducible apply bl_drewN) | (with_reducible apply bl_drew) | (with_reducible refine bl_set ?_ (by first | (simp; done) | (simp; omega)) _) | (with_reducible refine bl_call ?_ (by assumption))))⟩
  case rest =>
    obtain ⟨f, g, rfl, rfl, F4, G4, A4, hB⟩ := hcut
    rcases hc.out with ⟨h1, h2⟩ | ⟨h1, h2⟩
    all_goals
      clear hc hb1 A1 a0 a1 a2 a3 a4 a5 a6 C1 P1 P2
      go_upto_region 4 with (fail)
      go_region_held3 (fun w' => (w'.cell? ⟨f, 0, none⟩ = some (.int .u64 (x : Nat)) ∧ w'.cell? ⟨f, 1, none⟩ = some (.int .i64 0) ∧ w'.cell? ⟨f, 2, none⟩ = some (.bool b)) ∧ (w'.cell? ⟨g, 0, none⟩ = some (.int .u64 (y : Nat)) ∧ w'.cell? ⟨g, 1, none⟩ = some (.int .i64 0) ∧ w'.cell? ⟨g, 2, none⟩ = some (.bool b)) ∧ (w'.cell? ⟨w.heap.size, 0, none⟩ = some (.int .u64 (k : Nat)) ∧ w'.cell? ⟨w.heap.size, 1, none⟩ = some (.int .i64 p) ∧ w'.cell? ⟨w.heap.size, 2, none⟩ = some (.bool b))) (first | exact ⟨tri.keep F7, tri.keep G7, tri.keep A7⟩ | exact ⟨tri.keep F6, tri.keep G6, tri.keep A6⟩ | exact ⟨tri.keep F5, tri.keep G5, tri.keep A5⟩ | exact ⟨tri.keep F4, tri.keep G4, tri.keep A4⟩ | (go_keep; done))
        (first
          | (go_at_call 21; refine (K1.out _).mono ?_; rintro e w5 ⟨rfl, hb5⟩; have F5 := tri.on hb5 F4.drew; have G5 := tri.on hb5 G4.drew; have A5 := tri.on hb5 A4.drew)
          | (go_at_call 23; refine (P3.out _).mono ?_; rintro e w6 ⟨rfl, hb6⟩; have F6 := tri.on hb6 F5; have G6 := tri.on hb6 G5; have A6 := tri.on hb6 A5)
          | (go_at_call 12; refine (awake_any _).mono ?_; rintro e w7 ⟨rfl, hb7⟩; have F7 := tri.on hb7 F6; have G7 := tri.on hb7 G6; have A7 := tri.on hb7 A6))
      all_goals
        go_wp2_with fail
        go_ret
        exact ⟨rfl, by (repeat (first | (with_reducible exact Below.refl _ _) | (with_reducible assumption) | (with_reducible apply bl_alloc) | (with_reducible apply bl_drewN) | (with_reducible apply bl_drew) | (with_reducible refine bl_set ?_ (by first | (simp; done) | (simp; omega)) _) | (with_reducible refine bl_call ?_ (by assumption))))⟩
theorem streamSplits_walk (k : Nat) (hk : k < 18446744073709551616) (p : Int) (_ : -9223372036854775808 ≤ p) (_ : p ≤ 9223372036854775807) (b : Bool) (i : Int) (i0 : -9223372036854775808 ≤ i) (i1 : i ≤ 9223372036854775807)
    (j : Int) (j0 : -9223372036854775808 ≤ j) (j1 : j ≤ 9223372036854775807) (w : World) : Calls Try.prog 8 #[.agg #[.int .u64 (k : Nat), .int .i64 p, .bool b], .int .i64 i, .int .i64 j] w (Gives (.bool true) w) := by
  cases h : okS p
  · have C1 := check_any k p b
    rw [errS_no h] at C1
    exact splits_no k p b i j (Lib.hid C1) w
  · have C1 := check_any k p b
    rw [errS_yes h] at C1
    have P1 := split_any k hk p b i
    have P2 := split_any k hk p b j
    rw [splK_yes h, splP_yes h] at P1 P2
    have h2 : okS (skipP p i) = true := by
      unfold skipP
      obtain ⟨q0, q1⟩ := okS_true h
      split
      · rename_i hh
        rw [Bool.and_eq_true] at hh
        have := of_decide_eq_true hh.2
        exact okS_yes (by omega) (by omega)
      · exact h
    have P3 := split_any k hk (skipP p i) b j
    rw [splK_yes h2, splP_yes h2] at P3
    refine splits_yes k p b i j _ _ _ (Lib.hid C1) (Lib.hid ?_) (Lib.hid P1) (Lib.hid P2) (Lib.hid (skip_any k p b i)) (Lib.hid P3) w
    by_cases e : i = j
    · subst e
      exact Or.inl ⟨beq_self_eq_true _, beq_self_eq_true _⟩
    · exact Or.inr ⟨by rw [beq_eq_false_iff_ne]; intro h3; exact e (splitK_inj hk i0 i1 j0 j1 (by omega)), beq_eq_false_iff_ne.2 e⟩
end Go.Proofs.Ytjjigcgbdnadcaa
