/-
  The statement StreamMirrors, walked.
-/
import Derived.Test.YtjjigcgbdnadcaaSplits
namespace Go.Proofs.Ytjjigcgbdnadcaa
open Go.RowKit
set_option maxHeartbeats 2000000
theorem not_run (u : Nat) (h : below64 u) : Op.unary .xor (.int .u64 (u : Int)) = pure (.int .u64 ((notN u : Nat) : Int)) := by
  show pure (Value.int .u64 (bits .xor .u64 (if IntKind.u64.signed = true then -1 else IntKind.u64.max) (u : Int))) = _
  rw [not_bits u h]
theorem mirrors_no (k : Nat) (p : Int) (b : Bool) (n : Int) (C1 : Hid (∀ w, Calls Try.prog 15 #[.agg #[.int .u64 (k : Nat), .int .i64 (p), .bool (b)]] w (Gives (.int .i64 2) w))) (M1 : Hid (∀ w, Calls Try.prog 25 #[.agg #[.int .u64 (k : Nat), .int .i64 (p), .bool (b)]] w (Gives (.agg #[.int .u64 (k : Nat), .int .i64 (p), .bool (b)]) w))) (w : World) :
    Calls Try.prog 7 #[.agg #[.int .u64 (k : Nat), .int .i64 (p), .bool (b)], .int .i64 n] w (Gives (.bool true) w) := by
  go_enter Try.func7, Try.ntmps7
  go_wp2_with fail
  refine (C1.out _).mono ?_
  rintro e w1 ⟨rfl, hb1⟩
  have A1 := tri.on hb1 tri.new
  go_wp2_with fail
  go_region_held3 (fun w' => w'.cell? ⟨w.heap.size, 0, none⟩ = some (.int .u64 (k : Nat)) ∧ w'.cell? ⟨w.heap.size, 1, none⟩ = some (.int .i64 p) ∧ w'.cell? ⟨w.heap.size, 2, none⟩ = some (.bool b)) (first | exact tri.keep A3 | exact tri.keep A2 | exact tri.keep A1 | (go_keep; done))
    (first
      | (go_at_call 25; refine (M1.out _).mono ?_; rintro e w2 ⟨rfl, hb2⟩; have A2 := tri.on hb2 A1.drew)
      | (go_at_call 12; refine (awake_any _).mono ?_; rintro e w3 ⟨rfl, hb3⟩; have A3 := tri.on hb3 A2))
  all_goals
    go_wp2_with fail
    go_ret
    exact ⟨rfl, by (repeat (first | (with_reducible exact Below.refl _ _) | (with_reducible assumption) | (with_reducible apply bl_alloc) | (with_reducible apply bl_drewN) | (with_reducible apply bl_drew) | (with_reducible refine bl_set ?_ (by first | (simp; done) | (simp; omega)) _) | (with_reducible refine bl_call ?_ (by assumption))))⟩
set_option maxRecDepth 100000 in
theorem mirrors_yes (k x : Nat) (p p1 p2 q n : Int) (b c : Bool) (u v : Nat) (i j s n1 n2 : Int) (o : Bool) (hcb : ¬ c = b)
    (hw : Hid ((decide (p < 1000000000000) = true ∧ Op.unary .xor (.int .u64 (u : Int)) = pure (.int .u64 (v : Int))) ∨ decide (p < 1000000000000) = false))
    (hs : Hid (o = false ∨ (o = true ∧ (s != n1) = false) ∨ (o = true ∧ (s != n1) = true ∧ (s != n2) = false)))
    (es : IntKind.i64.wrap (i + j) = s) (e1 : IntKind.i64.wrap (n - 1) = n1) (e2 : IntKind.i64.wrap (n - 2) = n2)
    (C1 : Hid (∀ w, Calls Try.prog 15 #[.agg #[.int .u64 (k : Nat), .int .i64 (p), .bool (b)]] w (Gives (.int .i64 0) w)))
    (M1 : Hid (∀ w, Calls Try.prog 25 #[.agg #[.int .u64 (k : Nat), .int .i64 (p), .bool (b)]] w (Gives (.agg #[.int .u64 (k : Nat), .int .i64 (p), .bool (c)]) w)))
    (N1 : Hid (∀ w, Calls Try.prog 16 #[.agg #[.int .u64 (k : Nat), .int .i64 (p), .bool (b)]] w (Gives (.tuple #[.int .u64 (u : Nat), .agg #[.int .u64 (k : Nat), .int .i64 (p1), .bool (b)]]) w)))
    (N2 : Hid (∀ w, Calls Try.prog 16 #[.agg #[.int .u64 (k : Nat), .int .i64 (p), .bool (c)]] w (Gives (.tuple #[.int .u64 (v : Nat), .agg #[.int .u64 (k : Nat), .int .i64 (p1), .bool (c)]]) w)))
    (M2 : Hid (∀ w, Calls Try.prog 25 #[.agg #[.int .u64 (k : Nat), .int .i64 (p1), .bool (b)]] w (Gives (.agg #[.int .u64 (k : Nat), .int .i64 (p1), .bool (c)]) w)))
    (B1 : Hid (∀ w, Calls Try.prog 18 #[.agg #[.int .u64 (k : Nat), .int .i64 (p), .bool (b)], .int .i64 n] w (Gives (.tuple #[.int .i64 i, .agg #[.int .u64 (k : Nat), .int .i64 (p2), .bool (b)], .bool o]) w)))
    (B2 : Hid (∀ w, Calls Try.prog 18 #[.agg #[.int .u64 (k : Nat), .int .i64 (p), .bool (c)], .int .i64 n] w (Gives (.tuple #[.int .i64 j, .agg #[.int .u64 (k : Nat), .int .i64 (p2), .bool (c)], .bool o]) w)))
    (M3 : Hid (∀ w, Calls Try.prog 25 #[.agg #[.int .u64 (k : Nat), .int .i64 (p), .bool (c)]] w (Gives (.agg #[.int .u64 (k : Nat), .int .i64 (p), .bool (b)]) w)))
    (P1 : Hid (∀ w, Calls Try.prog 23 #[.agg #[.int .u64 (k : Nat), .int .i64 (p), .bool (c)], .int .i64 n] w (Gives (.agg #[.int .u64 (x : Nat), .int .i64 (0), .bool (c)]) w)))
    (P2 : Hid (∀ w, Calls Try.prog 23 #[.agg #[.int .u64 (k : Nat), .int .i64 (p), .bool (b)], .int .i64 n] w (Gives (.agg #[.int .u64 (x : Nat), .int .i64 (0), .bool (b)]) w)))
    (M4 : Hid (∀ w, Calls Try.prog 25 #[.agg #[.int .u64 (x : Nat), .int .i64 (0), .bool (b)]] w (Gives (.agg #[.int .u64 (x : Nat), .int .i64 (0), .bool (c)]) w)))
    (K1 : Hid (∀ w, Calls Try.prog 21 #[.agg #[.int .u64 (k : Nat), .int .i64 (p), .bool (c)], .int .i64 n] w (Gives (.agg #[.int .u64 (k : Nat), .int .i64 (q), .bool (c)]) w)))
    (K2 : Hid (∀ w, Calls Try.prog 21 #[.agg #[.int .u64 (k : Nat), .int .i64 (p), .bool (b)], .int .i64 n] w (Gives (.agg #[.int .u64 (k : Nat), .int .i64 (q), .bool (b)]) w)))
    (M5 : Hid (∀ w, Calls Try.prog 25 #[.agg #[.int .u64 (k : Nat), .int .i64 (q), .bool (b)]] w (Gives (.agg #[.int .u64 (k : Nat), .int .i64 (q), .bool (c)]) w)))
    (w : World) : Calls Try.prog 7 #[.agg #[.int .u64 (k : Nat), .int .i64 (p), .bool (b)], .int .i64 n] w (Gives (.bool true) w) := by
  go_enter Try.func7, Try.ntmps7
  go_wp2_with fail
  refine (C1.out _).mono ?_
  rintro e w1 ⟨rfl, hb1⟩
  have A1 := tri.on hb1 tri.new
  obtain ⟨a0, a1, a2, a3, a4, a5, a6⟩ := A1
  have A1 : tri _ _ _ _ _ := ⟨a0, a1, a2, a3, a4, a5, a6⟩
  go_wp2_with fail
  refine (M1.out _).mono ?_
  rintro e w2 ⟨rfl, hb2⟩
  have A2 := tri.on hb2 A1
  clear a0 a1 a2 a3 a4 a5 a6
  obtain ⟨a0, a1, a2, a3, a4, a5, a6⟩ := A2
  have A2 : tri _ _ _ _ _ := ⟨a0, a1, a2, a3, a4, a5, a6⟩
  go_wp2_with fail
  refine (N1.out _).mono ?_
  rintro e w3 ⟨rfl, hb3⟩
  have A3 := tri.on hb3 (tri.alloc A2)
  have D3 := tri.on hb3 tri.new
  clear a0 a1 a2 a3 a4 a5 a6
  obtain ⟨a0, a1, a2, a3, a4, a5, a6⟩ := A3
  have A3 : tri _ _ _ _ _ := ⟨a0, a1, a2, a3, a4, a5, a6⟩
  obtain ⟨d0, d1, d2, d3, d4, d5, d6⟩ := D3
  have D3 : tri _ _ _ _ _ := ⟨d0, d1, d2, d3, d4, d5, d6⟩
  go_wp2_with fail
  refine (N2.out _).mono ?_
  rintro e w4 ⟨rfl, hb4⟩
  have A4 := tri.on hb4 (tri.alloc A3)
  have D4 := tri.on hb4 (tri.alloc D3)
  have F4 := tri.on hb4 tri.new
  clear a0 a1 a2 a3 a4 a5 a6 d0 d1 d2 d3 d4 d5 d6
  obtain ⟨a0, a1, a2, a3, a4, a5, a6⟩ := A4
  have A4 : tri _ _ _ _ _ := ⟨a0, a1, a2, a3, a4, a5, a6⟩
  obtain ⟨d0, d1, d2, d3, d4, d5, d6⟩ := D4
  have D4 : tri _ _ _ _ _ := ⟨d0, d1, d2, d3, d4, d5, d6⟩
  obtain ⟨f0, f1, f2, f3, f4, f5, f6⟩ := F4
  have F4 : tri _ _ _ _ _ := ⟨f0, f1, f2, f3, f4, f5, f6⟩
  go_upto_region 6 with fail
  have A5 := tri.alloc (o := .cells #[.int .u64 (k : Nat), .int .i64 p1, .bool c] 27) A4
  have D5 := tri.alloc (o := .cells #[.int .u64 (k : Nat), .int .i64 p1, .bool c] 27) D4
  have F5 := tri.alloc (o := .cells #[.int .u64 (k : Nat), .int .i64 p1, .bool c] 27) F4
  have G5 : tri (w4.alloc (.cells #[.int .u64 (k : Nat), .int .i64 p1, .bool c] 27)) w4.heap.size (.int .u64 (k : Nat)) (.int .i64 p1) (.bool c) := tri.new
  go_cut [52] (fun v wr => v = .bool false ∧ tri wr w.heap.size (.int .u64 (k : Nat)) (.int .i64 p) (.bool b) ∧ tri wr w2.heap.size (.int .u64 (k : Nat)) (.int .i64 p) (.bool c) ∧ Below w.heap.size w wr)
  case first =>
    rcases hw.out with ⟨h1, h2⟩ | h1
    · clear hw hs es e1 e2 A1 A2 A3 D3 A4 D4 F4 N1 N2 B1 B2 M3 P1 P2 M4 K1 K2 M5 C1 M1
      go_region_held3 (fun w' => (w'.cell? ⟨w.heap.size, 0, none⟩ = some (.int .u64 (k : Nat)) ∧ w'.cell? ⟨w.heap.size, 1, none⟩ = some (.int .i64 p) ∧ w'.cell? ⟨w.heap.size, 2, none⟩ = some (.bool b)) ∧ (w'.cell? ⟨w3.heap.size, 0, none⟩ = some (.int .u64 (k : Nat)) ∧ w'.cell? ⟨w3.heap.size, 1, none⟩ = some (.int .i64 p1) ∧ w'.cell? ⟨w3.heap.size, 2, none⟩ = some (.bool b)) ∧ (w'.cell? ⟨w4.heap.size, 0, none⟩ = some (.int .u64 (k : Nat)) ∧ w'.cell? ⟨w4.heap.size, 1, none⟩ = some (.int .i64 p1) ∧ w'.cell? ⟨w4.heap.size, 2, none⟩ = some (.bool c))) (first | exact ⟨tri.keep A6, tri.keep F6, tri.keep G6⟩ | exact ⟨tri.keep A5, tri.keep F5, tri.keep G5⟩ | (go_keep; done))
        (first
          | (go_at_call 25; refine (M2.out _).mono ?_; rintro e w6 ⟨rfl, hb6⟩; have A6 := tri.on hb6 A5.drew; have D6 := tri.on hb6 D5.drew; have F6 := tri.on hb6 F5.drew; have G6 := tri.on hb6 G5.drew))
      all_goals
        go_wp2_with fail
        go_meet
        exact ⟨rfl, by (repeat (first | (with_reducible assumption) | (with_reducible exact tri.new) | (with_reducible exact tri.new2) | (with_reducible exact tri.newSet) | (with_reducible refine tri.drew ?_) | (with_reducible refine tri.drewN ?_ _) | (with_reducible refine tri.set3o ?_) | (with_reducible refine blk.far ?_ (by omega)) | (exact blk.back (by with_reducible assumption)) | (with_reducible refine tri.far ?_ (by omega)) | (with_reducible refine tri.alloc ?_) | (with_reducible refine tri.call ?_ (by assumption)))), by (repeat (first | (with_reducible assumption) | (with_reducible exact tri.new) | (with_reducible exact tri.new2) | (with_reducible exact tri.newSet) | (with_reducible refine tri.drew ?_) | (with_reducible refine tri.drewN ?_ _) | (with_reducible refine tri.set3o ?_) | (with_reducible refine blk.far ?_ (by omega)) | (exact blk.back (by with_reducible assumption)) | (with_reducible refine tri.far ?_ (by omega)) | (with_reducible refine tri.alloc ?_) | (with_reducible refine tri.call ?_ (by assumption)))), by (repeat (first | (with_reducible exact Below.refl _ _) | (with_reducible assumption) | (with_reducible apply bl_alloc) | (with_reducible apply bl_drewN) | (with_reducible apply bl_drew) | (with_reducible refine bl_set ?_ (by first | (simp; done) | (simp; omega)) _) | (with_reducible refine bl_call ?_ (by assumption))))⟩
    · clear hw hs es e1 e2 A1 A2 A3 D3 A4 D4 F4 N1 N2 B1 B2 M3 P1 P2 M4 K1 K2 M5 C1 M1
      obtain ⟨a0, a1, a2⟩ := tri.keep A5
      go_quiet (fail)
      go_wp2_with fail
      go_meet
      exact ⟨rfl, by (repeat (first | (with_reducible assumption) | (with_reducible exact tri.new) | (with_reducible exact tri.new2) | (with_reducible exact tri.newSet) | (with_reducible refine tri.drew ?_) | (with_reducible refine tri.drewN ?_ _) | (with_reducible refine tri.set3o ?_) | (with_reducible refine blk.far ?_ (by omega)) | (exact blk.back (by with_reducible assumption)) | (with_reducible refine tri.far ?_ (by omega)) | (with_reducible refine tri.alloc ?_) | (with_reducible refine tri.call ?_ (by assumption)))), by (repeat (first | (with_reducible assumption) | (with_reducible exact tri.new) | (with_reducible exact tri.new2) | (with_reducible exact tri.newSet) | (with_reducible refine tri.drew ?_) | (with_reducible refine tri.drewN ?_ _) | (with_reducible refine tri.set3o ?_) | (with_reducible refine blk.far ?_ (by omega)) | (exact blk.back (by with_reducible assumption)) | (with_reducible refine tri.far ?_ (by omega)) | (with_reducible refine tri.alloc ?_) | (with_reducible refine tri.call ?_ (by assumption)))), by (repeat (first | (with_reducible exact Below.refl _ _) | (with_reducible assumption) | (with_reducible apply bl_alloc) | (with_reducible apply bl_drewN) | (with_reducible apply bl_drew) | (with_reducible refine bl_set ?_ (by first | (simp; done) | (simp; omega)) _) | (with_reducible refine bl_call ?_ (by assumption))))⟩
  case rest =>
    obtain ⟨rfl, A6, D6, hB⟩ := hcut
    clear hb1 hb2 hb3 hb4 A1 A2 A3 A4 A5 D3 D4 D5 F4 F5 G5 a0 a1 a2 a3 a4 a5 a6 d0 d1 d2 d3 d4 d5 d6 f0 f1 f2 f3 f4 f5 f6 hw N1 N2 C1 M1
    obtain ⟨a0, a1, a2, a3, a4, a5, a6⟩ := A6
    have A6 : tri _ _ _ _ _ := ⟨a0, a1, a2, a3, a4, a5, a6⟩
    obtain ⟨d0, d1, d2, d3, d4, d5, d6⟩ := D6
    have D6 : tri _ _ _ _ _ := ⟨d0, d1, d2, d3, d4, d5, d6⟩
    go_wp2_with fail
    refine (B1.out _).mono ?_
    rintro e w7 ⟨rfl, hb7⟩
    have A7 := tri.on hb7 A6
    have D7 := tri.on hb7 D6
    clear a0 a1 a2 a3 a4 a5 a6 d0 d1 d2 d3 d4 d5 d6
    obtain ⟨a0, a1, a2, a3, a4, a5, a6⟩ := A7
    have A7 : tri _ _ _ _ _ := ⟨a0, a1, a2, a3, a4, a5, a6⟩
    obtain ⟨d0, d1, d2, d3, d4, d5, d6⟩ := D7
    have D7 : tri _ _ _ _ _ := ⟨d0, d1, d2, d3, d4, d5, d6⟩
    go_wp2_with fail
    refine (B2.out _).mono ?_
    rintro e w8 ⟨rfl, hb8⟩
    have A8 := tri.on hb8 (tri.alloc A7)
    have D8 := tri.on hb8 (tri.alloc D7)
    clear a0 a1 a2 a3 a4 a5 a6 d0 d1 d2 d3 d4 d5 d6
    obtain ⟨a0, a1, a2, a3, a4, a5, a6⟩ := A8
    have A8 : tri _ _ _ _ _ := ⟨a0, a1, a2, a3, a4, a5, a6⟩
    obtain ⟨d0, d1, d2, d3, d4, d5, d6⟩ := D8
    have D8 : tri _ _ _ _ _ := ⟨d0, d1, d2, d3, d4, d5, d6⟩
    go_upto_region 10 with fail
    go_cut [88] (fun v wr => v = .bool false ∧ tri wr w.heap.size (.int .u64 (k : Nat)) (.int .i64 p) (.bool b) ∧ tri wr w2.heap.size (.int .u64 (k : Nat)) (.int .i64 p) (.bool c) ∧ Below w.heap.size w wr)
    case first =>
      rcases hs.out with rfl | ⟨rfl, h1⟩ | ⟨rfl, h1, h2⟩
      all_goals
        clear hs M3 P1 P2 M4 K1 K2 M5 B1 B2
        go_wp2_with fail
        go_meet
        exact ⟨rfl, by (repeat (first | (with_reducible assumption) | (with_reducible exact tri.new) | (with_reducible exact tri.new2) | (with_reducible exact tri.newSet) | (with_reducible refine tri.drew ?_) | (with_reducible refine tri.drewN ?_ _) | (with_reducible refine tri.set3o ?_) | (with_reducible refine blk.far ?_ (by omega)) | (exact blk.back (by with_reducible assumption)) | (with_reducible refine tri.far ?_ (by omega)) | (with_reducible refine tri.alloc ?_) | (with_reducible refine tri.call ?_ (by assumption)))), by (repeat (first | (with_reducible assumption) | (with_reducible exact tri.new) | (with_reducible exact tri.new2) | (with_reducible exact tri.newSet) | (with_reducible refine tri.drew ?_) | (with_reducible refine tri.drewN ?_ _) | (with_reducible refine tri.set3o ?_) | (with_reducible refine blk.far ?_ (by omega)) | (exact blk.back (by with_reducible assumption)) | (with_reducible refine tri.far ?_ (by omega)) | (with_reducible refine tri.alloc ?_) | (with_reducible refine tri.call ?_ (by assumption)))), by (repeat (first | (with_reducible exact Below.refl _ _) | (with_reducible assumption) | (with_reducible apply bl_alloc) | (with_reducible apply bl_drewN) | (with_reducible apply bl_drew) | (with_reducible refine bl_set ?_ (by first | (simp; done) | (simp; omega)) _) | (with_reducible refine bl_call ?_ (by assumption))))⟩
    case rest =>
      obtain ⟨rfl, A9, D9, hB9⟩ := hcut
      clear hs es e1 e2 B1 B2 hb7 hb8 A7 A8 D7 D8 a0 a1 a2 a3 a4 a5 a6 d0 d1 d2 d3 d4 d5 d6
      go_wp2_with fail
      go_region_held3 (fun w' => (w'.cell? ⟨w.heap.size, 0, none⟩ = some (.int .u64 (k : Nat)) ∧ w'.cell? ⟨w.heap.size, 1, none⟩ = some (.int .i64 p) ∧ w'.cell? ⟨w.heap.size, 2, none⟩ = some (.bool b)) ∧ (w'.cell? ⟨w2.heap.size, 0, none⟩ = some (.int .u64 (k : Nat)) ∧ w'.cell? ⟨w2.heap.size, 1, none⟩ = some (.int .i64 p) ∧ w'.cell? ⟨w2.heap.size, 2, none⟩ = some (.bool c))) (first | exact ⟨tri.keep A17, tri.keep D17⟩ | exact ⟨tri.keep A16, tri.keep D16⟩ | exact ⟨tri.keep A15, tri.keep D15⟩ | exact ⟨tri.keep A14, tri.keep D14⟩ | exact ⟨tri.keep A13, tri.keep D13⟩ | exact ⟨tri.keep A12, tri.keep D12⟩ | exact ⟨tri.keep A11, tri.keep D11⟩ | exact ⟨tri.keep A10, tri.keep D10⟩ | exact ⟨tri.keep A9, tri.keep D9⟩ | (go_keep; done))
        (first
        | (go_at_call_of 25 (Value.agg #[.int .u64 (k : Int), .int .i64 p, .bool c]); refine (M3.out _).mono ?_; rintro e w10 ⟨rfl, hb10⟩; have A10 := tri.on hb10 A9.drew; have D10 := tri.on hb10 D9.drew)
        | (go_at_call_of 23 (Value.agg #[.int .u64 (k : Int), .int .i64 p, .bool c]); refine (P1.out _).mono ?_; rintro e w11 ⟨rfl, hb11⟩; have A11 := tri.on hb11 A10; have D11 := tri.on hb11 D10)
        | (go_at_call_of 23 (Value.agg #[.int .u64 (k : Int), .int .i64 p, .bool b]); refine (P2.out _).mono ?_; rintro e w12 ⟨rfl, hb12⟩; have A12 := tri.on hb12 A11; have D12 := tri.on hb12 D11)
        | (go_at_call_of 25 (Value.agg #[.int .u64 (x : Int), .int .i64 0, .bool b]); refine (M4.out _).mono ?_; rintro e w13 ⟨rfl, hb13⟩; have A13 := tri.on hb13 A12; have D13 := tri.on hb13 D12)
        | (go_at_call_of 21 (Value.agg #[.int .u64 (k : Int), .int .i64 p, .bool c]); refine (K1.out _).mono ?_; rintro e w14 ⟨rfl, hb14⟩; have A14 := tri.on hb14 A13; have D14 := tri.on hb14 D13)
        | (go_at_call_of 21 (Value.agg #[.int .u64 (k : Int), .int .i64 p, .bool b]); refine (K2.out _).mono ?_; rintro e w15 ⟨rfl, hb15⟩; have A15 := tri.on hb15 A14; have D15 := tri.on hb15 D14)
        | (go_at_call_of 25 (Value.agg #[.int .u64 (k : Int), .int .i64 q, .bool b]); refine (M5.out _).mono ?_; rintro e w16 ⟨rfl, hb16⟩; have A16 := tri.on hb16 A15; have D16 := tri.on hb16 D15)
        | (go_at_call 12; refine (awake_any _).mono ?_; rintro e w17 ⟨rfl, hb17⟩; have A17 := tri.on hb17 A16; have D17 := tri.on hb17 D16))
      all_goals
        go_wp2_with fail
        go_ret
        exact ⟨rfl, by (repeat (first | (with_reducible exact Below.refl _ _) | (with_reducible assumption) | (with_reducible apply bl_alloc) | (with_reducible apply bl_drewN) | (with_reducible apply bl_drew) | (with_reducible refine bl_set ?_ (by first | (simp; done) | (simp; omega)) _) | (with_reducible refine bl_call ?_ (by assumption))))⟩
end Go.Proofs.Ytjjigcgbdnadcaa
