/-
  The statement StreamBelows, walked.
-/
import Derived.Test.YtjjigcgbdnadcaaNews
namespace Go.Proofs.Ytjjigcgbdnadcaa
open Go.RowKit
set_option maxHeartbeats 1000000
theorem belows_no (k : Nat) (p : Int) (b : Bool) (n m : Int) (u v2 : Nat) (p1 p2 : Int) (o2 : Bool)
    (B1 : Hid (∀ w, Calls Try.prog 18 #[.agg #[.int .u64 (k : Nat), .int .i64 p, .bool b], .int .i64 n] w (Gives (.tuple #[.int .i64 0, .agg #[.int .u64 (k : Nat), .int .i64 p, .bool b], .bool false]) w)))
    (B2 : Hid (∀ w, Calls Try.prog 18 #[.agg #[.int .u64 (k : Nat), .int .i64 p, .bool b], .int .i64 m] w (Gives (.tuple #[.int .i64 (v2 : Nat), .agg #[.int .u64 (k : Nat), .int .i64 p2, .bool b], .bool o2]) w)))
    (N1 : Hid (∀ w, Calls Try.prog 16 #[.agg #[.int .u64 (k : Nat), .int .i64 p, .bool b]] w (Gives (.tuple #[.int .u64 (u : Nat), .agg #[.int .u64 (k : Nat), .int .i64 p1, .bool b]]) w)))
    (w : World) : Calls Try.prog 9 #[.agg #[.int .u64 (k : Nat), .int .i64 p, .bool b], .int .i64 n, .int .i64 m] w (Gives (.bool true) w) := by
  go_enter Try.func9, Try.ntmps9
  go_wp2_with fail
  refine (B1.out _).mono ?_
  rintro e w1 ⟨rfl, hb1⟩
  have A1 := tri.on hb1 tri.new
  obtain ⟨a0, a1, a2, a3, a4, a5, a6⟩ := A1
  have A1 : tri _ _ _ _ _ := ⟨a0, a1, a2, a3, a4, a5, a6⟩
  go_wp2_with fail
  refine (B2.out _).mono ?_
  rintro e w2 ⟨rfl, hb2⟩
  have A2 := tri.on hb2 (tri.alloc A1)
  have D2 := tri.on hb2 tri.new
  clear a0 a1 a2 a3 a4 a5 a6
  obtain ⟨a0, a1, a2, a3, a4, a5, a6⟩ := A2
  have A2 : tri _ _ _ _ _ := ⟨a0, a1, a2, a3, a4, a5, a6⟩
  go_wp2_with fail
  refine (N1.out _).mono ?_
  rintro e w3 ⟨rfl, hb3⟩
  have A3 := tri.on hb3 (tri.alloc A2)
  have D3 := tri.on hb3 (tri.alloc D2)
  have F3 := tri.on hb3 tri.new
  clear a0 a1 a2 a3 a4 a5 a6
  obtain ⟨a0, a1, a2, a3, a4, a5, a6⟩ := A3
  have A3 : tri _ _ _ _ _ := ⟨a0, a1, a2, a3, a4, a5, a6⟩
  obtain ⟨d0, d1, d2, d3, d4, d5, d6⟩ := D3
  have D3 : tri _ _ _ _ _ := ⟨d0, d1, d2, d3, d4, d5, d6⟩
  obtain ⟨f0, f1, f2, f3, f4, f5, f6⟩ := F3
  have F3 : tri _ _ _ _ _ := ⟨f0, f1, f2, f3, f4, f5, f6⟩
  go_wp2_with fail
  refine (awake_any _).mono ?_
  rintro e w4 ⟨rfl, hb4⟩
  go_wp2_with fail
  go_ret
  exact ⟨rfl, by repeat (first | exact Below.refl _ _ | assumption | apply bl_alloc | apply bl_drewN | apply bl_drew | (refine bl_set ?_ (by first | (simp; done) | (simp; omega)) _) | (refine bl_call ?_ (by assumption)))⟩
theorem belows_yes (k : Nat) (p : Int) (b : Bool) (n m : Int) (u : Nat) (v v2 : Int) (p1 p2 : Int) (o2 : Bool) (d1 : decide (v < 0) = false) (d2 : decide (n ≤ v) = false)
    (hc : Hid (o2 = false ∨ (o2 = true ∧ p2 = p1 ∧ decide (m < n) = true) ∨ (o2 = true ∧ p2 = p1 ∧ decide (m < n) = false ∧ decide (v ≤ v2) = true)))
    (B1 : Hid (∀ w, Calls Try.prog 18 #[.agg #[.int .u64 (k : Nat), .int .i64 p, .bool b], .int .i64 n] w (Gives (.tuple #[.int .i64 v, .agg #[.int .u64 (k : Nat), .int .i64 p1, .bool b], .bool true]) w)))
    (B2 : Hid (∀ w, Calls Try.prog 18 #[.agg #[.int .u64 (k : Nat), .int .i64 p, .bool b], .int .i64 m] w (Gives (.tuple #[.int .i64 v2, .agg #[.int .u64 (k : Nat), .int .i64 p2, .bool b], .bool o2]) w)))
    (N1 : Hid (∀ w, Calls Try.prog 16 #[.agg #[.int .u64 (k : Nat), .int .i64 p, .bool b]] w (Gives (.tuple #[.int .u64 (u : Nat), .agg #[.int .u64 (k : Nat), .int .i64 p1, .bool b]]) w)))
    (w : World) : Calls Try.prog 9 #[.agg #[.int .u64 (k : Nat), .int .i64 p, .bool b], .int .i64 n, .int .i64 m] w (Gives (.bool true) w) := by
  rcases hc.out with rfl | ⟨rfl, rfl, h1⟩ | ⟨rfl, rfl, h1, h2⟩
  all_goals
    clear hc
    go_enter Try.func9, Try.ntmps9
    go_wp2_with fail
    refine (B1.out _).mono ?_
    rintro e w1 ⟨rfl, hb1⟩
    have A1 := tri.on hb1 tri.new
    obtain ⟨a0, a1, a2, a3, a4, a5, a6⟩ := A1
    have A1 : tri _ _ _ _ _ := ⟨a0, a1, a2, a3, a4, a5, a6⟩
    go_wp2_with fail
    refine (B2.out _).mono ?_
    rintro e w2 ⟨rfl, hb2⟩
    have A2 := tri.on hb2 (tri.alloc A1)
    have D2 := tri.on hb2 tri.new
    clear a0 a1 a2 a3 a4 a5 a6
    obtain ⟨a0, a1, a2, a3, a4, a5, a6⟩ := A2
    have A2 : tri _ _ _ _ _ := ⟨a0, a1, a2, a3, a4, a5, a6⟩
    go_wp2_with fail
    refine (N1.out _).mono ?_
    rintro e w3 ⟨rfl, hb3⟩
    have A3 := tri.on hb3 (tri.alloc A2)
    have D3 := tri.on hb3 (tri.alloc D2)
    have F3 := tri.on hb3 tri.new
    clear a0 a1 a2 a3 a4 a5 a6
    obtain ⟨a0, a1, a2, a3, a4, a5, a6⟩ := A3
    have A3 : tri _ _ _ _ _ := ⟨a0, a1, a2, a3, a4, a5, a6⟩
    obtain ⟨d0, d1, d2, d3, d4, d5, d6⟩ := D3
    have D3 : tri _ _ _ _ _ := ⟨d0, d1, d2, d3, d4, d5, d6⟩
    obtain ⟨f0, f1, f2, f3, f4, f5, f6⟩ := F3
    have F3 : tri _ _ _ _ _ := ⟨f0, f1, f2, f3, f4, f5, f6⟩
    go_wp2_with fail
    refine (awake_any _).mono ?_
    rintro e w4 ⟨rfl, hb4⟩
    go_wp2_with fail
    go_ret
    exact ⟨rfl, by repeat (first | exact Below.refl _ _ | assumption | apply bl_alloc | apply bl_drewN | apply bl_drew | (refine bl_set ?_ (by first | (simp; done) | (simp; omega)) _) | (refine bl_call ?_ (by assumption)))⟩
theorem streamBelows_walk (k : Nat) (_ : k < 18446744073709551616) (p : Int) (_ : -9223372036854775808 ≤ p) (_ : p ≤ 9223372036854775807) (b : Bool) (n : Int) (_ : -9223372036854775808 ≤ n) (_ : n ≤ 9223372036854775807)
    (m : Int) (_ : -9223372036854775808 ≤ m) (_ : m ≤ 9223372036854775807) (w : World) : Calls Try.prog 9 #[.agg #[.int .u64 (k : Nat), .int .i64 p, .bool b], .int .i64 n, .int .i64 m] w (Gives (.bool true) w) := by
  have B1 := below_any k p b n
  have B2 := below_any k p b m
  have N1 := next_any k p b
  cases h : belB p n
  · obtain ⟨e1, e2⟩ := bel_no (k := k) (b := b) h
    rw [e1, e2, h] at B1
    exact belows_no k p b n m _ _ _ _ _ (Lib.hid B1) (Lib.hid B2) (Lib.hid N1) w
  · obtain ⟨hh, P, N, rfl, rfl, hP, n1, n2⟩ := belB_true h
    obtain ⟨e1, e2⟩ := bel_yes (k := k) (b := b) h
    obtain ⟨e3, e4⟩ := nxt_yes (k := k) (b := b) hh
    rw [e1, e2, h] at B1
    rw [e3, e4] at N1
    have hv := hiN_lt (nextU_lt k P b) (n := N) (by omega)
    refine belows_yes k P b N m _ _ _ _ _ _ (decide_eq_false (by omega)) (decide_eq_false (by omega)) (Lib.hid ?_) (Lib.hid B1) (Lib.hid B2) (Lib.hid N1) w
    cases g : belB (P : Int) m
    · exact Or.inl rfl
    · obtain ⟨_, P', M, e, rfl, _, m1, m2⟩ := belB_true g
      obtain rfl : P = P' := by omega
      obtain ⟨f1, f2⟩ := bel_yes (k := k) (b := b) g
      right
      rcases Nat.lt_or_ge M N with hl | hl
      · exact Or.inl ⟨rfl, f2, decide_eq_true (by omega)⟩
      · refine Or.inr ⟨rfl, f2, decide_eq_false (by omega), ?_⟩
        rw [f1]
        have := hiN_mono (u := nextU k P b) hl
        exact decide_eq_true (by omega)
end Go.Proofs.Ytjjigcgbdnadcaa
