/-
  The statement StreamExact, walked.
-/
import Derived.Test.YtjjigcgbdnadcaaNews
namespace Go.Proofs.Ytjjigcgbdnadcaa
open Go.RowKit
set_option maxHeartbeats 1000000
theorem exact_walk (k : Nat) (p : Int) (b : Bool) (n : Int) (u v : Nat) (p1 p2 p3 : Int) (o : Bool) (er : Int) (k4 : Nat) (p4 : Int) (b5 : Bool)
    (N1 : Hid (∀ w, Calls Try.prog 16 #[.agg #[.int .u64 (k : Nat), .int .i64 p, .bool b]] w (Gives (.tuple #[.int .u64 (u : Nat), .agg #[.int .u64 (k : Nat), .int .i64 p1, .bool b]]) w)))
    (N2 : Hid (∀ w, Calls Try.prog 17 #[.agg #[.int .u64 (k : Nat), .int .i64 p, .bool b]] w (Gives (.tuple #[.int .u64 (u : Nat), .agg #[.int .u64 (k : Nat), .int .i64 p1, .bool b]]) w)))
    (B1 : Hid (∀ w, Calls Try.prog 18 #[.agg #[.int .u64 (k : Nat), .int .i64 p, .bool b], .int .i64 n] w (Gives (.tuple #[.int .i64 (v : Nat), .agg #[.int .u64 (k : Nat), .int .i64 p2, .bool b], .bool o]) w)))
    (B2 : Hid (∀ w, Calls Try.prog 19 #[.agg #[.int .u64 (k : Nat), .int .i64 p, .bool b], .int .i64 n] w (Gives (.tuple #[.int .i64 (v : Nat), .agg #[.int .u64 (k : Nat), .int .i64 p2, .bool b], .bool o]) w)))
    (C1 : Hid (∀ w, Calls Try.prog 15 #[.agg #[.int .u64 (k : Nat), .int .i64 p, .bool b]] w (Gives (.int .i64 er) w))) (C2 : Hid (∀ w, Calls Try.prog 20 #[.agg #[.int .u64 (k : Nat), .int .i64 p, .bool b]] w (Gives (.int .i64 er) w)))
    (K1 : Hid (∀ w, Calls Try.prog 21 #[.agg #[.int .u64 (k : Nat), .int .i64 p, .bool b], .int .i64 n] w (Gives (.agg #[.int .u64 (k : Nat), .int .i64 p3, .bool b]) w))) (K2 : Hid (∀ w, Calls Try.prog 22 #[.agg #[.int .u64 (k : Nat), .int .i64 p, .bool b], .int .i64 n] w (Gives (.agg #[.int .u64 (k : Nat), .int .i64 p3, .bool b]) w)))
    (P1 : Hid (∀ w, Calls Try.prog 23 #[.agg #[.int .u64 (k : Nat), .int .i64 p, .bool b], .int .i64 n] w (Gives (.agg #[.int .u64 (k4 : Nat), .int .i64 p4, .bool b]) w))) (P2 : Hid (∀ w, Calls Try.prog 24 #[.agg #[.int .u64 (k : Nat), .int .i64 p, .bool b], .int .i64 n] w (Gives (.agg #[.int .u64 (k4 : Nat), .int .i64 p4, .bool b]) w)))
    (M1 : Hid (∀ w, Calls Try.prog 25 #[.agg #[.int .u64 (k : Nat), .int .i64 p, .bool b]] w (Gives (.agg #[.int .u64 (k : Nat), .int .i64 p, .bool b5]) w))) (M2 : Hid (∀ w, Calls Try.prog 26 #[.agg #[.int .u64 (k : Nat), .int .i64 p, .bool b]] w (Gives (.agg #[.int .u64 (k : Nat), .int .i64 p, .bool b5]) w)))
    (w : World) : Calls Try.prog 5 #[.agg #[.int .u64 (k : Nat), .int .i64 p, .bool b], .int .i64 n] w (Gives (.bool true) w) := by
  go_enter Try.func5, Try.ntmps5
  go_wp2_with fail
  refine (N1.out _).mono ?_
  rintro e w1 ⟨rfl, hb1⟩
  have A1 := tri.on hb1 tri.new
  obtain ⟨a0, a1, a2, a3, a4, a5, a6⟩ := A1
  have A1 : tri _ _ _ _ _ := ⟨a0, a1, a2, a3, a4, a5, a6⟩
  go_wp2_with fail
  refine (N2.out _).mono ?_
  rintro e w2 ⟨rfl, hb2⟩
  have A2 := tri.on hb2 (tri.alloc A1)
  have D2 := tri.on hb2 tri.new
  clear a0 a1 a2 a3 a4 a5 a6
  obtain ⟨a0, a1, a2, a3, a4, a5, a6⟩ := A2
  have A2 : tri _ _ _ _ _ := ⟨a0, a1, a2, a3, a4, a5, a6⟩
  go_wp2_with fail
  refine (B1.out _).mono ?_
  rintro e w3 ⟨rfl, hb3⟩
  have A3 := tri.on hb3 (tri.alloc A2)
  have D3 := tri.on hb3 (tri.alloc D2)
  have F3 := tri.on hb3 tri.new
  clear a0 a1 a2 a3 a4 a5 a6
  obtain ⟨a0, a1, a2, a3, a4, a5, a6⟩ := A3
  have A3 : tri _ _ _ _ _ := ⟨a0, a1, a2, a3, a4, a5, a6⟩
  go_wp2_with fail
  refine (B2.out _).mono ?_
  rintro e w4 ⟨rfl, hb4⟩
  have A4 := tri.on hb4 (tri.alloc A3)
  have D4 := tri.on hb4 (tri.alloc D3)
  have F4 := tri.on hb4 (tri.alloc F3)
  have G4 := tri.on hb4 tri.new
  clear a0 a1 a2 a3 a4 a5 a6
  obtain ⟨a0, a1, a2, a3, a4, a5, a6⟩ := A4
  have A4 : tri _ _ _ _ _ := ⟨a0, a1, a2, a3, a4, a5, a6⟩
  obtain ⟨d0, d1, d2, d3, d4, d5, d6⟩ := D4
  have D4 : tri _ _ _ _ _ := ⟨d0, d1, d2, d3, d4, d5, d6⟩
  obtain ⟨f0, f1, f2, f3, f4, f5, f6⟩ := F4
  have F4 : tri _ _ _ _ _ := ⟨f0, f1, f2, f3, f4, f5, f6⟩
  obtain ⟨g0, g1, g2, g3, g4, g5, g6⟩ := G4
  have G4 : tri _ _ _ _ _ := ⟨g0, g1, g2, g3, g4, g5, g6⟩
  go_wp2_with fail
  have A5 := tri.alloc (o := .cells #[.int .u64 (k : Nat), .int .i64 p2, .bool b] 27) A4
  clear d0 d1 d2 d3 d4 d5 d6 f0 f1 f2 f3 f4 f5 f6 g0 g1 g2 g3 g4 g5 g6
  go_region_held3 (fun w' => w'.cell? ⟨w.heap.size, 0, none⟩ = some (.int .u64 (k : Nat)) ∧ w'.cell? ⟨w.heap.size, 1, none⟩ = some (.int .i64 p) ∧ w'.cell? ⟨w.heap.size, 2, none⟩ = some (.bool b)) (first | exact tri.keep A14 | exact tri.keep A13 | exact tri.keep A12 | exact tri.keep A11 | exact tri.keep A10 | exact tri.keep A9 | exact tri.keep A8 | exact tri.keep A7 | exact tri.keep A6 | exact tri.keep A5 | (go_keep; done))
      (first
        | (go_at_call 15; refine (C1.out _).mono ?_; rintro e w6 ⟨rfl, hb6⟩; have A6 := tri.on hb6 A5.drew)
        | (go_at_call 20; refine (C2.out _).mono ?_; rintro e w7 ⟨rfl, hb7⟩; have A7 := tri.on hb7 A6)
        | (go_at_call 21; refine (K1.out _).mono ?_; rintro e w8 ⟨rfl, hb8⟩; have A8 := tri.on hb8 A7)
        | (go_at_call 22; refine (K2.out _).mono ?_; rintro e w9 ⟨rfl, hb9⟩; have A9 := tri.on hb9 A8)
        | (go_at_call 23; refine (P1.out _).mono ?_; rintro e w10 ⟨rfl, hb10⟩; have A10 := tri.on hb10 A9)
        | (go_at_call 24; refine (P2.out _).mono ?_; rintro e w11 ⟨rfl, hb11⟩; have A11 := tri.on hb11 A10)
        | (go_at_call 25; refine (M1.out _).mono ?_; rintro e w12 ⟨rfl, hb12⟩; have A12 := tri.on hb12 A11)
        | (go_at_call 26; refine (M2.out _).mono ?_; rintro e w13 ⟨rfl, hb13⟩; have A13 := tri.on hb13 A12)
        | (go_at_call 12; refine (awake_any _).mono ?_; rintro e w14 ⟨rfl, hb14⟩; have A14 := tri.on hb14 A13))
  all_goals
    go_wp2_with fail
    go_ret
    exact ⟨rfl, by repeat (first | exact Below.refl _ _ | assumption | apply bl_alloc | apply bl_drewN | apply bl_drew | (refine bl_set ?_ (by first | (simp; done) | (simp; omega)) _) | (refine bl_call ?_ (by assumption)))⟩
theorem streamExact_walk (k : Nat) (hk : k < 18446744073709551616) (p : Int) (_ : -9223372036854775808 ≤ p) (_ : p ≤ 9223372036854775807) (b : Bool) (n : Int) (_ : -9223372036854775808 ≤ n) (_ : n ≤ 9223372036854775807) (w : World) :
    Calls Try.prog 5 #[.agg #[.int .u64 (k : Nat), .int .i64 p, .bool b], .int .i64 n] w (Gives (.bool true) w) :=
  exact_walk k p b n _ _ _ _ _ _ _ _ _ _ (Lib.hid (next_any k p b)) (Lib.hid (rnext_any k p b)) (Lib.hid (below_any k p b n)) (Lib.hid (rbelow_any k p b n)) (Lib.hid (check_any k p b)) (Lib.hid (rcheck_any k p b)) (Lib.hid (skip_any k p b n)) (Lib.hid (rskip_any k p b n))
    (Lib.hid (split_any k hk p b n)) (Lib.hid (rsplit_any k hk p b n)) (Lib.hid (mirror_any k p b)) (Lib.hid (rmirror_any k p b)) w
end Go.Proofs.Ytjjigcgbdnadcaa
