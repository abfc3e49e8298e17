/-
  awake answers yes in every world.
-/
import Derived.Test.YtfkenbdfakjeoaaEAwB
import Derived.Test.YtfkenbdfakjeoaaELaw1
namespace Go.Proofs.Ytfkenbdfakjeoaa.Ex
open Go.RowKit
open Go.Proofs.Ytfkenbdfakjeoaa.Na (bs bs_inj chk)
set_option maxHeartbeats 2500000
set_option linter.unusedVariables false
set_option linter.unusedSimpArgs false
set_option maxRecDepth 100000 in
theorem awake_any (w : World) : Calls Try.prog 11 #[] w (Gives (.bool true) w) := by
  go_enter Try.func11, Try.ntmps11
  go_wp2_with fail
  refine (word_at ⟨#[97]⟩ _).mono ?_
  rintro e w1 ⟨p1, m1, c1, rfl, hi1, hb1⟩
  go_wp2_with fail
  refine (two_at (x := wdE ⟨#[97]⟩) (y := .mk 1 mE 2 []) (z := exSum) rfl hi1 In.leaf).mono ?_
  rintro e w2 ⟨p2, m2, c2, rfl, hi2, hb2⟩
  have B2 : Below w.heap.size w w2 := by (repeat (first | (with_reducible exact Below.refl _ _) | (with_reducible assumption) | (with_reducible apply bl_alloc) | (with_reducible apply bl_drewN) | (with_reducible apply bl_drew) | (with_reducible refine bl_set ?_ (by first | (simp; done) | (simp; omega)) _) | (with_reducible refine bl_call ?_ (by assumption))))
  have F1 := (var_new (c := c2) hi2).far
  clear hi1 hb1 hb2 hi2
  go_wp2_with fail
  refine (word_at ⟨#[98]⟩ _).mono ?_
  rintro e w3 ⟨p3, m3, c3, rfl, hi3, hb3⟩
  replace F1 := (F1.out _ hb3).far
  have B3 : Below w.heap.size w w3 := by (repeat (first | (with_reducible exact Below.refl _ _) | (with_reducible assumption) | (with_reducible apply bl_alloc) | (with_reducible apply bl_drewN) | (with_reducible apply bl_drew) | (with_reducible refine bl_set ?_ (by first | (simp; done) | (simp; omega)) _) | (with_reducible refine bl_call ?_ (by assumption))))
  clear hb3 B2
  go_wp2_with fail
  refine (two_at (x := wdE ⟨#[98]⟩) (y := .mk 22 ⟨#[97]⟩ 0 []) (z := .mk 9 mE 0 [wdE ⟨#[98]⟩, .mk 22 ⟨#[97]⟩ 0 []]) rfl hi3 In.leaf).mono ?_
  rintro e w4 ⟨p4, m4, c4, rfl, hi4, hb4⟩
  replace F1 := (F1.out _ hb4).far
  have B4 : Below w.heap.size w w4 := by (repeat (first | (with_reducible exact Below.refl _ _) | (with_reducible assumption) | (with_reducible apply bl_alloc) | (with_reducible apply bl_drewN) | (with_reducible apply bl_drew) | (with_reducible refine bl_set ?_ (by first | (simp; done) | (simp; omega)) _) | (with_reducible refine bl_call ?_ (by assumption))))
  clear hb4 B3 hi3
  go_wp2_with fail
  refine (word_at ⟨#[98]⟩ _).mono ?_
  rintro e w5 ⟨p5, m5, c5, rfl, hi5, hb5⟩
  replace F1 := (F1.out _ hb5).far
  have hi4 := hi4.on hb5
  have B5 : Below w.heap.size w w5 := by (repeat (first | (with_reducible exact Below.refl _ _) | (with_reducible assumption) | (with_reducible apply bl_alloc) | (with_reducible apply bl_drewN) | (with_reducible apply bl_drew) | (with_reducible refine bl_set ?_ (by first | (simp; done) | (simp; omega)) _) | (with_reducible refine bl_call ?_ (by assumption))))
  clear hb5 B4
  go_wp2_with fail
  refine (two_at (y := wdE ⟨#[98]⟩) (z := exFree) rfl hi4 hi5).mono ?_
  rintro e w6 ⟨p6, m6, c6, rfl, hi6, hb6⟩
  replace F1 := (F1.out _ hb6).far
  have B6 : Below w.heap.size w w6 := by (repeat (first | (with_reducible exact Below.refl _ _) | (with_reducible assumption) | (with_reducible apply bl_alloc) | (with_reducible apply bl_drewN) | (with_reducible apply bl_drew) | (with_reducible refine bl_set ?_ (by first | (simp; done) | (simp; omega)) _) | (with_reducible refine bl_call ?_ (by assumption))))
  clear hb6 B5 hi4 hi5
  have F2 := (var_new (c := c6) hi6).far
  clear hi6
  go_wp2_with fail
  refine (word_at ⟨#[121]⟩ _).mono ?_
  rintro e w7 ⟨p7, m7, c7, rfl, hi7, hb7⟩
  replace F1 := (F1.out _ (show Below w6.heap.size w6 w7 by (repeat (first | (with_reducible exact Below.refl _ _) | (with_reducible assumption) | (with_reducible apply bl_alloc) | (with_reducible apply bl_drewN) | (with_reducible apply bl_drew) | (with_reducible refine bl_set ?_ (by first | (simp; done) | (simp; omega)) _) | (with_reducible refine bl_call ?_ (by assumption)))))).far
  replace F2 := (F2.out _ hb7).far
  have B7 : Below w.heap.size w w7 := by (repeat (first | (with_reducible exact Below.refl _ _) | (with_reducible assumption) | (with_reducible apply bl_alloc) | (with_reducible apply bl_drewN) | (with_reducible apply bl_drew) | (with_reducible refine bl_set ?_ (by first | (simp; done) | (simp; omega)) _) | (with_reducible refine bl_call ?_ (by assumption))))
  clear hb7 B6
  go_wp2_with fail
  refine (two_at (x := .mk 1 mE 1 []) (y := wdE ⟨#[121]⟩) (z := exBy) rfl In.leaf hi7).mono ?_
  rintro e w8 ⟨p8, m8, c8, rfl, hi8, hb8⟩
  have B8 : Below w.heap.size w w8 := by (repeat (first | (with_reducible exact Below.refl _ _) | (with_reducible assumption) | (with_reducible apply bl_alloc) | (with_reducible apply bl_drewN) | (with_reducible apply bl_drew) | (with_reducible refine bl_set ?_ (by first | (simp; done) | (simp; omega)) _) | (with_reducible refine bl_call ?_ (by assumption))))
  replace F1 := (F1.out (w8.alloc (.cells #[.int .i64 exBy.o, .string exBy.s, .int .i64 exBy.n, .slice p8 m8 c8] 25)) (by (repeat (first | (with_reducible exact Below.refl _ _) | (with_reducible assumption) | (with_reducible apply bl_alloc) | (with_reducible apply bl_drewN) | (with_reducible apply bl_drew) | (with_reducible refine bl_set ?_ (by first | (simp; done) | (simp; omega)) _) | (with_reducible refine bl_call ?_ (by assumption)))))).far
  replace F2 := (F2.out (w8.alloc (.cells #[.int .i64 exBy.o, .string exBy.s, .int .i64 exBy.n, .slice p8 m8 c8] 25)) (by (repeat (first | (with_reducible exact Below.refl _ _) | (with_reducible assumption) | (with_reducible apply bl_alloc) | (with_reducible apply bl_drewN) | (with_reducible apply bl_drew) | (with_reducible refine bl_set ?_ (by first | (simp; done) | (simp; omega)) _) | (with_reducible refine bl_call ?_ (by assumption)))))).far
  have F3 := (var_new (c := c8) hi8).far
  have B9 : Below w.heap.size w (w8.alloc (.cells #[.int .i64 exBy.o, .string exBy.s, .int .i64 exBy.n, .slice p8 m8 c8] 25)) := by (repeat (first | (with_reducible exact Below.refl _ _) | (with_reducible assumption) | (with_reducible apply bl_alloc) | (with_reducible apply bl_drewN) | (with_reducible apply bl_drew) | (with_reducible refine bl_set ?_ (by first | (simp; done) | (simp; omega)) _) | (with_reducible refine bl_call ?_ (by assumption))))
  obtain ⟨x0, x1, x2, x3⟩ := (F3.out _ (Below.refl _ _)).1
  clear hb8 B7 hi7 hi8 B8
  go_upto_region 4 with (fail)
  generalize w8.alloc (.cells #[.int .i64 exBy.o, .string exBy.s, .int .i64 exBy.n, .slice p8 m8 c8] 25) = U at *
  generalize w2.heap.size = g1 at *
  generalize w6.heap.size = g2 at *
  generalize w8.heap.size = g3 at *
  go_cut [4] (fun v wx => ∃ B p m c, v = .pointer (some ⟨B, 0, none⟩) ∧ Var wx B exSq p m c ∧ Below U.heap.size U wx)
  case first =>
    go_region_held3 (fun w' => w'.cell? ⟨g3, 0, none⟩ = some (.int .i64 exBy.o) ∧ w'.cell? ⟨g3, 1, none⟩ = some (.string exBy.s) ∧ w'.cell? ⟨g3, 2, none⟩ = some (.int .i64 exBy.n) ∧ w'.cell? ⟨g3, 3, none⟩ = some (.slice p8 m8 c8)) (first | (refine box4.seen (F3.out _ ?_).1; (repeat (first | (with_reducible exact Below.refl _ _) | (with_reducible assumption) | (with_reducible apply bl_alloc) | (with_reducible apply bl_drewN) | (with_reducible apply bl_drew) | (with_reducible refine bl_set ?_ (by first | (simp; done) | (simp; omega)) _) | (with_reducible refine bl_call ?_ (by assumption)))); done) | (go_keep; done)) (first
      | (go_at_call 34; refine (two_at (x := wdE ⟨#[120]⟩) (y := wdE ⟨#[120]⟩) (z := exMul) rfl (hi10.on (by (repeat (first | (with_reducible exact Below.refl _ _) | (with_reducible assumption) | (with_reducible apply bl_alloc) | (with_reducible apply bl_drewN) | (with_reducible apply bl_drew) | (with_reducible refine bl_set ?_ (by first | (simp; done) | (simp; omega)) _) | (with_reducible refine bl_call ?_ (by assumption)))))) (hi11.on (by (repeat (first | (with_reducible exact Below.refl _ _) | (with_reducible assumption) | (with_reducible apply bl_alloc) | (with_reducible apply bl_drewN) | (with_reducible apply bl_drew) | (with_reducible refine bl_set ?_ (by first | (simp; done) | (simp; omega)) _) | (with_reducible refine bl_call ?_ (by assumption))))))).mono ?_; rintro e w12 ⟨p12, m12, c12, rfl, hi12, hb12⟩; have s12 := (show Below U.heap.size U w12 by (repeat (first | (with_reducible exact Below.refl _ _) | (with_reducible assumption) | (with_reducible apply bl_alloc) | (with_reducible apply bl_drewN) | (with_reducible apply bl_drew) | (with_reducible refine bl_set ?_ (by first | (simp; done) | (simp; omega)) _) | (with_reducible refine bl_call ?_ (by assumption))))).size; (first | (have Z := (Z.out w12 (by (repeat (first | (with_reducible exact Below.refl _ _) | (with_reducible assumption) | (with_reducible apply bl_alloc) | (with_reducible apply bl_drewN) | (with_reducible apply bl_drew) | (with_reducible refine bl_set ?_ (by first | (simp; done) | (simp; omega)) _) | (with_reducible refine bl_call ?_ (by assumption)))))).far) | (have Z := (Zb.on hb12 Zb.new).far) | skip))
      | (go_at_call 27; refine (repl_at v_sq (by decide) (by decide) (hi12.on (by (repeat (first | (with_reducible exact Below.refl _ _) | (with_reducible assumption) | (with_reducible apply bl_alloc) | (with_reducible apply bl_drewN) | (with_reducible apply bl_drew) | (with_reducible refine bl_set ?_ (by first | (simp; done) | (simp; omega)) _) | (with_reducible refine bl_call ?_ (by assumption)))))) (F3.out _ (by (repeat (first | (with_reducible exact Below.refl _ _) | (with_reducible assumption) | (with_reducible apply bl_alloc) | (with_reducible apply bl_drewN) | (with_reducible apply bl_drew) | (with_reducible refine bl_set ?_ (by first | (simp; done) | (simp; omega)) _) | (with_reducible refine bl_call ?_ (by assumption)))))).2).mono ?_; rintro e w13 ⟨p13, m13, c13, rfl, hi13, hb13⟩; have s13 := (show Below U.heap.size U w13 by (repeat (first | (with_reducible exact Below.refl _ _) | (with_reducible assumption) | (with_reducible apply bl_alloc) | (with_reducible apply bl_drewN) | (with_reducible apply bl_drew) | (with_reducible refine bl_set ?_ (by first | (simp; done) | (simp; omega)) _) | (with_reducible refine bl_call ?_ (by assumption))))).size; (first | (have Z := (Z.out w13 (by (repeat (first | (with_reducible exact Below.refl _ _) | (with_reducible assumption) | (with_reducible apply bl_alloc) | (with_reducible apply bl_drewN) | (with_reducible apply bl_drew) | (with_reducible refine bl_set ?_ (by first | (simp; done) | (simp; omega)) _) | (with_reducible refine bl_call ?_ (by assumption)))))).far) | (have Z := (Zb.on hb13 Zb.new).far) | skip); (try (obtain ⟨⟨z0, z1, z2, z3⟩, zf⟩ := (Z.out w13 (Below.refl _ _)).open; have zf0 := zf 0; have zf1 := zf 1; have zf2 := zf 2; have zf3 := zf 3)))
      | (have t := hi10; go_at_call 24; refine (word_at ⟨#[120]⟩ _).mono ?_; rintro e w11 ⟨p11, m11, c11, rfl, hi11, hb11⟩; have s11 := (show Below U.heap.size U w11 by (repeat (first | (with_reducible exact Below.refl _ _) | (with_reducible assumption) | (with_reducible apply bl_alloc) | (with_reducible apply bl_drewN) | (with_reducible apply bl_drew) | (with_reducible refine bl_set ?_ (by first | (simp; done) | (simp; omega)) _) | (with_reducible refine bl_call ?_ (by assumption))))).size; (first | (have Z := (Z.out w11 (by (repeat (first | (with_reducible exact Below.refl _ _) | (with_reducible assumption) | (with_reducible apply bl_alloc) | (with_reducible apply bl_drewN) | (with_reducible apply bl_drew) | (with_reducible refine bl_set ?_ (by first | (simp; done) | (simp; omega)) _) | (with_reducible refine bl_call ?_ (by assumption)))))).far) | (have Z := (Zb.on hb11 Zb.new).far) | skip))
      | (go_at_call 24; refine (word_at ⟨#[120]⟩ _).mono ?_; rintro e w10 ⟨p10, m10, c10, rfl, hi10, hb10⟩; have s10 := (show Below U.heap.size U w10 by (repeat (first | (with_reducible exact Below.refl _ _) | (with_reducible assumption) | (with_reducible apply bl_alloc) | (with_reducible apply bl_drewN) | (with_reducible apply bl_drew) | (with_reducible refine bl_set ?_ (by first | (simp; done) | (simp; omega)) _) | (with_reducible refine bl_call ?_ (by assumption))))).size; (first | (have Z := (Z.out w10 (by (repeat (first | (with_reducible exact Below.refl _ _) | (with_reducible assumption) | (with_reducible apply bl_alloc) | (with_reducible apply bl_drewN) | (with_reducible apply bl_drew) | (with_reducible refine bl_set ?_ (by first | (simp; done) | (simp; omega)) _) | (with_reducible refine bl_call ?_ (by assumption)))))).far) | (have Z := (Zb.on hb10 Zb.new).far) | skip)))
    all_goals
      go_wp2_with fail
      go_meet
      first
        | with_reducible exact ⟨_, _, _, _, rfl, var_new hi13, by (repeat (first | (with_reducible exact Below.refl _ _) | (with_reducible assumption) | (with_reducible apply bl_alloc) | (with_reducible apply bl_drewN) | (with_reducible apply bl_drew) | (with_reducible refine bl_set ?_ (by first | (simp; done) | (simp; omega)) _) | (with_reducible refine bl_call ?_ (by assumption))))⟩
        | with_reducible exact ⟨_, _, _, _, rfl, Zb.var (Z.out w13 (Below.refl _ _)) (Zb.sep (Z.out w13 (Below.refl _ _)) exSq sq_two hi13), by (repeat (first | (with_reducible exact Below.refl _ _) | (with_reducible assumption) | (with_reducible apply bl_alloc) | (with_reducible apply bl_drewN) | (with_reducible apply bl_drew) | (with_reducible refine bl_set ?_ (by first | (simp; done) | (simp; omega)) _) | (with_reducible refine bl_call ?_ (by assumption))))⟩
  case rest =>
    obtain ⟨g4, p4, m4, c4, rfl, V4, hb4⟩ := hcut
    replace F1 := (F1.out _ hb4).far
    replace F2 := (F2.out _ hb4).far
    replace F3 := (F3.out _ hb4).far
    have F4 := V4.far
    have HB := Lib.hid (show Below w.heap.size w wc by (repeat (first | (with_reducible exact Below.refl _ _) | (with_reducible assumption) | (with_reducible apply bl_alloc) | (with_reducible apply bl_drewN) | (with_reducible apply bl_drew) | (with_reducible refine bl_set ?_ (by first | (simp; done) | (simp; omega)) _) | (with_reducible refine bl_call ?_ (by assumption)))))
    clear x0 x1 x2 x3 V4 hb4 B9
    go_wp2_with fail
    go_loopw [6] (fun i wr => ∃ (k : Nat) (p : Option Addr) (m c : Nat), k ≤ 11 ∧ i = .int .i64 (k : Nat) ∧ Hid (Nx wc wr (nst k) p m c)) (fun i _ => 11 - (intOf i).toNat)
    case atStart => exact ⟨0, _, _, _, Nat.zero_le _, rfl, Lib.hid Nx.new⟩
    case round =>
      obtain ⟨k, p, m, c, hk, rfl, HN⟩ := hrel
      have k0 : (0 : Int) ≤ (k : Int) := by omega
      obtain ⟨b0, b1, b2, b3⟩ := HN.out.b
      have f0 := HN.out.f 0
      have f1 := HN.out.f 1
      have f2 := HN.out.f 2
      have f3 := HN.out.f 3
      have hz := HN.out.z
      rcases Nat.lt_or_ge k 11 with h | h
      · have k1 : (k : Int) < 11 := by omega
        have k2 : decide ((k : Int) < 11) = true := decide_eq_true k1
        go_wp2_with fail
        go_roundw
        case rel => exact ⟨k + 1, _, _, _, by omega, by go_num, Lib.hid HN.out.step⟩
        case measure => simp [intOf]; omega
      · obtain rfl : k = 11 := by omega
        have hbw := HN.out.h
        have hbq : Below wc.heap.size wc ((wr.alloc (.cells #[.int .i64 (nst 11).o, .string (nst 11).s, .int .i64 (nst 11).n, .slice p m c] 25)).alloc (.cells #[.int .i64 6, .string ⟨#[]⟩, .int .i64 0, .slice (some ⟨wr.heap.size, 0, none⟩) 1 1] 25)) := by (repeat (first | (with_reducible exact Below.refl _ _) | (with_reducible assumption) | (with_reducible apply bl_alloc) | (with_reducible apply bl_drewN) | (with_reducible apply bl_drew) | (with_reducible refine bl_set ?_ (by first | (simp; done) | (simp; omega)) _) | (with_reducible refine bl_call ?_ (by assumption))))
        replace F1 := (F1.out _ hbq).far
        replace F2 := (F2.out _ hbq).far
        replace F3 := (F3.out _ hbq).far
        replace F4 := (F4.out _ hbq).far
        have F5 := (HN.out.var.on (show Below wr.heap.size wr ((wr.alloc (.cells #[.int .i64 (nst 11).o, .string (nst 11).s, .int .i64 (nst 11).n, .slice p m c] 25)).alloc (.cells #[.int .i64 6, .string ⟨#[]⟩, .int .i64 0, .slice (some ⟨wr.heap.size, 0, none⟩) 1 1] 25)) by (repeat (first | (with_reducible exact Below.refl _ _) | (with_reducible assumption) | (with_reducible apply bl_alloc) | (with_reducible apply bl_drewN) | (with_reducible apply bl_drew) | (with_reducible refine bl_set ?_ (by first | (simp; done) | (simp; omega)) _) | (with_reducible refine bl_call ?_ (by assumption)))))).far
        have F6 : Var ((wr.alloc (.cells #[.int .i64 (nst 11).o, .string (nst 11).s, .int .i64 (nst 11).n, .slice p m c] 25)).alloc (.cells #[.int .i64 6, .string ⟨#[]⟩, .int .i64 0, .slice (some ⟨wr.heap.size, 0, none⟩) 1 1] 25)) (wr.heap.size + 1) (nst 12) (some ⟨wr.heap.size, 0, none⟩) 1 1 := deep_var HN.out.var.2
        replace F6 := F6.far
        replace HB : Hid (Below w.heap.size w ((wr.alloc (.cells #[.int .i64 (nst 11).o, .string (nst 11).s, .int .i64 (nst 11).n, .slice p m c] 25)).alloc (.cells #[.int .i64 6, .string ⟨#[]⟩, .int .i64 0, .slice (some ⟨wr.heap.size, 0, none⟩) 1 1] 25))) := Lib.hid (by have HBB := HB.out; (repeat (first | (with_reducible exact Below.refl _ _) | (with_reducible assumption) | (with_reducible apply bl_alloc) | (with_reducible apply bl_drewN) | (with_reducible apply bl_drew) | (with_reducible refine bl_set ?_ (by first | (simp; done) | (simp; omega)) _) | (with_reducible refine bl_call ?_ (by assumption)))))
        go_wp2_with fail
        generalize ((wr.alloc (.cells #[.int .i64 (nst 11).o, .string (nst 11).s, .int .i64 (nst 11).n, .slice p m c] 25)).alloc (.cells #[.int .i64 6, .string ⟨#[]⟩, .int .i64 0, .slice (some ⟨wr.heap.size, 0, none⟩) 1 1] 25)) = Q at *
        generalize wr.heap.size = g6 at *
        generalize wc.heap.size = g5 at *
        clear hbq hbw hz HN b0 b1 b2 b3 f0 f1 f2 f3
        refine (check_at v_c1 (sz_nst 11) (by rw [nst_cnt]; decide) (F5.out _ (Below.refl _ _)).2).mono ?_
        rintro e q1 ⟨rfl, hq1⟩
        obtain ⟨b0, b1, b2, b3⟩ := (F6.out _ hq1).1
        go_wp2_with fail
        refine (check_at v_c2 (sz_nst 12) (by rw [nst_cnt]; decide) (F6.out _ hq1).2).mono ?_
        rintro e q2 ⟨rfl, hq2⟩
        obtain ⟨d0, d1, d2, d3⟩ := (F6.out q2 (by (repeat (first | (with_reducible exact Below.refl _ _) | (with_reducible assumption) | (with_reducible apply bl_alloc) | (with_reducible apply bl_drewN) | (with_reducible apply bl_drew) | (with_reducible refine bl_set ?_ (by first | (simp; done) | (simp; omega)) _) | (with_reducible refine bl_call ?_ (by assumption)))))).1
        go_wp2_with fail
        refine (depth_at v_d2i (by rw [nst_cnt]; decide) (F6.out q2 (by (repeat (first | (with_reducible exact Below.refl _ _) | (with_reducible assumption) | (with_reducible apply bl_alloc) | (with_reducible apply bl_drewN) | (with_reducible apply bl_drew) | (with_reducible refine bl_set ?_ (by first | (simp; done) | (simp; omega)) _) | (with_reducible refine bl_call ?_ (by assumption)))))).2).mono ?_
        rintro e q3 ⟨rfl, hq3⟩
        go_wp2_with fail
        refine (word_at ⟨#[105, 102]⟩ _).mono ?_
        rintro e q4 ⟨p14, m14, c14, rfl, hi4, hq4⟩
        go_wp2_with fail
        refine (check_at v_if (sz_leaf (by decide)) (by decide) hi4).mono ?_
        rintro e q5 ⟨rfl, hq5⟩
        have hb5 : Below Q.heap.size Q q5 := by (repeat (first | (with_reducible exact Below.refl _ _) | (with_reducible assumption) | (with_reducible apply bl_alloc) | (with_reducible apply bl_drewN) | (with_reducible apply bl_drew) | (with_reducible refine bl_set ?_ (by first | (simp; done) | (simp; omega)) _) | (with_reducible refine bl_call ?_ (by assumption))))
        replace F1 := (F1.out _ hb5).far
        replace F2 := (F2.out _ hb5).far
        replace F3 := (F3.out _ hb5).far
        replace F4 := (F4.out _ hb5).far
        replace HB : Hid (Below w.heap.size w q5) := Lib.hid (by have HBB := HB.out; (repeat (first | (with_reducible exact Below.refl _ _) | (with_reducible assumption) | (with_reducible apply bl_alloc) | (with_reducible apply bl_drewN) | (with_reducible apply bl_drew) | (with_reducible refine bl_set ?_ (by first | (simp; done) | (simp; omega)) _) | (with_reducible refine bl_call ?_ (by assumption)))))
        clear hq1 hq2 hq3 hq4 hq5 hb5 b0 b1 b2 b3 d0 d1 d2 d3 hi4 F5 F6
        obtain ⟨x0, x1, x2, x3⟩ := (F1.out q5 (Below.refl _ _)).1
        obtain ⟨y0, y1, y2, y3⟩ := (F2.out q5 (Below.refl _ _)).1
        obtain ⟨z0, z1, z2, z3⟩ := (F3.out q5 (Below.refl _ _)).1
        obtain ⟨v0, v1, v2, v3⟩ := (F4.out q5 (Below.refl _ _)).1
        go_upto_region 13 with (fail)
        go_region_held3 (fun w' => (w'.cell? ⟨g1, 0, none⟩ = some (.int .i64 exSum.o) ∧ w'.cell? ⟨g1, 1, none⟩ = some (.string exSum.s) ∧ w'.cell? ⟨g1, 2, none⟩ = some (.int .i64 exSum.n) ∧ w'.cell? ⟨g1, 3, none⟩ = some (.slice p2 m2 c2)) ∧ (w'.cell? ⟨g2, 0, none⟩ = some (.int .i64 exFree.o) ∧ w'.cell? ⟨g2, 1, none⟩ = some (.string exFree.s) ∧ w'.cell? ⟨g2, 2, none⟩ = some (.int .i64 exFree.n) ∧ w'.cell? ⟨g2, 3, none⟩ = some (.slice p6 m6 c6)) ∧ (w'.cell? ⟨g3, 0, none⟩ = some (.int .i64 exBy.o) ∧ w'.cell? ⟨g3, 1, none⟩ = some (.string exBy.s) ∧ w'.cell? ⟨g3, 2, none⟩ = some (.int .i64 exBy.n) ∧ w'.cell? ⟨g3, 3, none⟩ = some (.slice p8 m8 c8)) ∧ (w'.cell? ⟨g4, 0, none⟩ = some (.int .i64 exSq.o) ∧ w'.cell? ⟨g4, 1, none⟩ = some (.string exSq.s) ∧ w'.cell? ⟨g4, 2, none⟩ = some (.int .i64 exSq.n) ∧ w'.cell? ⟨g4, 3, none⟩ = some (.slice p4 m4 c4))) (first | (refine keep16 (F1.out _ ?_).1 (F2.out _ ?_).1 (F3.out _ ?_).1 (F4.out _ ?_).1 <;> ((repeat (first | (with_reducible exact Below.refl _ _) | (with_reducible assumption) | (with_reducible apply bl_alloc) | (with_reducible apply bl_drewN) | (with_reducible apply bl_drew) | (with_reducible refine bl_set ?_ (by first | (simp; done) | (simp; omega)) _) | (with_reducible refine bl_call ?_ (by assumption)))); done)) | (go_keep; done)) (first
          | (have t := hr11; go_at_call 20; refine (same_at (e := .mk 2 mE 1 []) (y := .mk 2 mE 1 []) (b := true) (same_self _) (hi20.on (by (repeat (first | (with_reducible exact Below.refl _ _) | (with_reducible assumption) | (with_reducible apply bl_alloc) | (with_reducible apply bl_drewN) | (with_reducible apply bl_drew) | (with_reducible refine bl_set ?_ (by first | (simp; done) | (simp; omega)) _) | (with_reducible refine bl_call ?_ (by assumption)))))) In.leaf).mono ?_; rintro e r12 ⟨rfl, hr12⟩)
          | (go_at_call 31; refine (const_at v_k _).mono ?_; rintro e r11 ⟨p20, m20, c20, rfl, hi20, hr11⟩)
          | (have t := hr9; go_at_call 14; refine (code_at v_cs (sz_leaf (by decide)) (by decide) In.leaf).mono ?_; rintro e r10 ⟨rfl, hr10⟩)
          | (have t := hr8; go_at_call 14; refine (code_at v_ca (sz_leaf (by decide)) (by decide) (hi19.on (by (repeat (first | (with_reducible exact Below.refl _ _) | (with_reducible assumption) | (with_reducible apply bl_alloc) | (with_reducible apply bl_drewN) | (with_reducible apply bl_drew) | (with_reducible refine bl_set ?_ (by first | (simp; done) | (simp; omega)) _) | (with_reducible refine bl_call ?_ (by assumption))))))).mono ?_; rintro e r9 ⟨rfl, hr9⟩)
          | (go_at_call 24; refine (word_at ⟨#[97]⟩ _).mono ?_; rintro e r8 ⟨p19, m19, c19, rfl, hi19, hr8⟩)
          | (go_at_call 12; refine (check_at v_now (sz_leaf (by decide)) (by decide) In.leaf).mono ?_; rintro e r7 ⟨rfl, hr7⟩)
          | (have t := hr5; go_at_call 20; refine (same_at (e := exSq) (y := exSq) (b := true) (same_self _) (F4.out _ (by (repeat (first | (with_reducible exact Below.refl _ _) | (with_reducible assumption) | (with_reducible apply bl_alloc) | (with_reducible apply bl_drewN) | (with_reducible apply bl_drew) | (with_reducible refine bl_set ?_ (by first | (simp; done) | (simp; omega)) _) | (with_reducible refine bl_call ?_ (by assumption)))))).2 (hi18.on (by (repeat (first | (with_reducible exact Below.refl _ _) | (with_reducible assumption) | (with_reducible apply bl_alloc) | (with_reducible apply bl_drewN) | (with_reducible apply bl_drew) | (with_reducible refine bl_set ?_ (by first | (simp; done) | (simp; omega)) _) | (with_reducible refine bl_call ?_ (by assumption))))))).mono ?_; rintro e r6 ⟨rfl, hr6⟩)
          | (go_at_call 34; refine (two_at (x := exBy) (y := exBy) (z := exSq) rfl (F3.out _ (by (repeat (first | (with_reducible exact Below.refl _ _) | (with_reducible assumption) | (with_reducible apply bl_alloc) | (with_reducible apply bl_drewN) | (with_reducible apply bl_drew) | (with_reducible refine bl_set ?_ (by first | (simp; done) | (simp; omega)) _) | (with_reducible refine bl_call ?_ (by assumption)))))).2 (F3.out _ (by (repeat (first | (with_reducible exact Below.refl _ _) | (with_reducible assumption) | (with_reducible apply bl_alloc) | (with_reducible apply bl_drewN) | (with_reducible apply bl_drew) | (with_reducible refine bl_set ?_ (by first | (simp; done) | (simp; omega)) _) | (with_reducible refine bl_call ?_ (by assumption)))))).2).mono ?_; rintro e r5 ⟨p18, m18, c18, rfl, hi18, hr5⟩)
          | (have tt := T; go_at_call 22; refine (texts_at (l := [[97], [98]]) (l2 := [[97], [98]]) (b := true) (by decide) (ht17.on (by (repeat (first | (with_reducible exact Below.refl _ _) | (with_reducible assumption) | (with_reducible apply bl_alloc) | (with_reducible apply bl_drewN) | (with_reducible apply bl_drew) | (with_reducible refine bl_set ?_ (by first | (simp; done) | (simp; omega)) _) | (with_reducible refine bl_call ?_ (by assumption)))))) (T.out _ (by (repeat (first | (with_reducible exact Below.refl _ _) | (with_reducible assumption) | (with_reducible apply bl_alloc) | (with_reducible apply bl_drewN) | (with_reducible apply bl_drew) | (with_reducible refine bl_set ?_ (by first | (simp; done) | (simp; omega)) _) | (with_reducible refine bl_call ?_ (by assumption))))))).mono ?_; rintro e r4 ⟨rfl, hr4⟩)
          | (go_at_call 22; refine (texts_at (l := [[97], [98]]) (l2 := [[97], [98]]) (b := true) (by decide) (ht17.on (by (repeat (first | (with_reducible exact Below.refl _ _) | (with_reducible assumption) | (with_reducible apply bl_alloc) | (with_reducible apply bl_drewN) | (with_reducible apply bl_drew) | (with_reducible refine bl_set ?_ (by first | (simp; done) | (simp; omega)) _) | (with_reducible refine bl_call ?_ (by assumption)))))) txs_two).mono ?_; rintro e r4 ⟨rfl, hr4⟩)
          | (go_at_call 23; refine (names_at v_nm sz_free (by decide) (F2.out _ (by (repeat (first | (with_reducible exact Below.refl _ _) | (with_reducible assumption) | (with_reducible apply bl_alloc) | (with_reducible apply bl_drewN) | (with_reducible apply bl_drew) | (with_reducible refine bl_set ?_ (by first | (simp; done) | (simp; omega)) _) | (with_reducible refine bl_call ?_ (by assumption)))))).2).mono ?_; rintro e r3 ⟨p17, m17, c17, rfl, ht17, hr3⟩; (first | (have T := (txs_two.on hr3).far) | skip))
          | (go_at_call 18; refine (depth_at v_d1i (by decide) (F1.out _ (by (repeat (first | (with_reducible exact Below.refl _ _) | (with_reducible assumption) | (with_reducible apply bl_alloc) | (with_reducible apply bl_drewN) | (with_reducible apply bl_drew) | (with_reducible refine bl_set ?_ (by first | (simp; done) | (simp; omega)) _) | (with_reducible refine bl_call ?_ (by assumption)))))).2).mono ?_; rintro e r2 ⟨rfl, hr2⟩)
          | (go_at_call 16; refine (nodes_at v_n1i sz_sum (by decide) (F1.out _ (by (repeat (first | (with_reducible exact Below.refl _ _) | (with_reducible assumption) | (with_reducible apply bl_alloc) | (with_reducible apply bl_drewN) | (with_reducible apply bl_drew) | (with_reducible refine bl_set ?_ (by first | (simp; done) | (simp; omega)) _) | (with_reducible refine bl_call ?_ (by assumption)))))).2).mono ?_; rintro e r1 ⟨rfl, hr1⟩))
        all_goals
          go_wp2_with fail
          go_ret
          exact ⟨rfl, by have HBB := HB.out; (repeat (first | (with_reducible exact Below.refl _ _) | (with_reducible assumption) | (with_reducible apply bl_alloc) | (with_reducible apply bl_drewN) | (with_reducible apply bl_drew) | (with_reducible refine bl_set ?_ (by first | (simp; done) | (simp; omega)) _) | (with_reducible refine bl_call ?_ (by assumption))))⟩
end Go.Proofs.Ytfkenbdfakjeoaa.Ex
