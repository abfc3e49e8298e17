/-
  Package dist's Draw where it draws; Draw at every distribution and stream.
-/
import Derived.Test.YteapicfobammjaaDoorDDraw
namespace Go.Proofs.YteapicfobammjaaDoor.Di
open Go.RowKit
open St (nextU errS tri nextU_lt okS hasS)
set_option maxHeartbeats 4000000
theorem ne01 {H : Nat} : H ≠ H + 1 := by omega
theorem ne21 {H : Nat} : H + 1 + 1 ≠ H + 1 := by omega
theorem draw_yes (op a b n : Int) (p : Option Addr) (lv c : Nat) (q : Option Addr) (lw f : Nat) (T k P : Nat) (anti : Bool) (g : Nat → Int) (U : Nat → Nat) (w : World) (t1 : 1 ≤ T) (t2 : T ≤ 20) (hP : P + T ≤ 1000000000000) (wt : IntKind.i64.wrap (1000000000000 - (T : Int)) = 1000000000000 - (T : Int)) (ht : decide (1000000000000 - (T : Int) < (P : Int)) = false)
    (CH : Hid (∀ w2, Below w.heap.size w w2 → Calls Tryd.prog 24 #[.agg #[.int .i64 op, .int .i64 a, .int .i64 b, .int .i64 n, .slice p lv c, .slice q lw f]] w2 (Gives (.int .i64 0) w2)))
    (CS : Hid (∀ w2, Calls Tryd.prog 77 #[.agg #[.int .u64 (k : Nat), .int .i64 (P : Nat), .bool anti]] w2 (Gives (.int .i64 0) w2))) (TK : Hid (∀ w2, Calls Tryd.prog 78 #[.agg #[.int .i64 op, .int .i64 a, .int .i64 b, .int .i64 n, .slice p lv c, .slice q lw f]] w2 (Gives (.int .i64 (T : Nat)) w2)))
    (NX : Hid (∀ (Q : Nat), Q < 1000000000000 → ∀ w2, Calls Tryd.prog 79 #[.agg #[.int .u64 (k : Nat), .int .i64 (Q : Nat), .bool anti]] w2 (Gives (.tuple #[.int .u64 (U Q : Nat), .agg #[.int .u64 (k : Nat), .int .i64 ((Q : Int) + 1), .bool anti]]) w2)))
    (SG : Hid (∀ Q w2, Below w.heap.size w w2 → Calls Tryd.prog 72 #[.agg #[.int .i64 op, .int .i64 a, .int .i64 b, .int .i64 n, .slice p lv c, .slice q lw f], .int .u64 (U Q : Nat)] w2 (Gives (.int .i64 (g Q)) w2))) (BD : Hid (∀ Q, 0 ≤ g Q ∧ g Q ≤ 1000000000)) :
    Calls Tryd.prog 36 #[.agg #[.int .i64 op, .int .i64 a, .int .i64 b, .int .i64 n, .slice p lv c, .slice q lw f], .agg #[.int .u64 (k : Nat), .int .i64 (P : Nat), .bool anti]] w (Gives (.tuple #[.int .i64 (drawS g P T), .agg #[.int .u64 (k : Nat), .int .i64 (P + T : Nat), .bool anti], .int .i64 0]) w) := by
  go_enter Tryd.func36, Tryd.ntmps36
  go_wp2_with fail
  refine (CH.out _ (by (repeat (first | (with_reducible exact Below.refl _ _) | (with_reducible assumption) | (with_reducible apply bl_alloc) | (with_reducible apply bl_drewN) | (with_reducible apply bl_drew) | (with_reducible refine bl_set ?_ (by first | (simp; done) | (simp; omega)) _) | (with_reducible refine bl_call ?_ (by assumption)))))).mono ?_
  rintro e w1 ⟨rfl, hb1⟩
  have C1 : tri w1 (w.heap.size + 1 + 1) (.int .u64 0) (.int .i64 0) (.bool false) := St.tri.call (by refine ⟨?_, ?_, ?_, ?_, ?_, ?_, ?_⟩ <;> first | (go_simp; done) | (simp; done) | (simp; omega)) hb1
  have S1 : tri w1 (w.heap.size + 1) (.int .u64 (k : Nat)) (.int .i64 (P : Nat)) (.bool anti) := St.tri.call (by refine ⟨?_, ?_, ?_, ?_, ?_, ?_, ?_⟩ <;> first | (go_simp; done) | (simp; done) | (simp; omega)) hb1
  have D1 := six.on hb1 (six.alloc (o := .cells #[.int .u64 0, .int .i64 0, .bool false] 49) (six.alloc (o := .cells #[.int .u64 (k : Nat), .int .i64 (P : Nat), .bool anti] 49) (six.new (w := w) (t := 36))))
  obtain ⟨s0, s1, s2, s3, s4, s5, s6⟩ := S1
  have S1 : tri _ _ _ _ _ := ⟨s0, s1, s2, s3, s4, s5, s6⟩
  go_wp2_with fail
  refine (CS.out _).mono ?_
  rintro e w2 ⟨rfl, hb2⟩
  have C2 := St.tri.on hb2 C1
  have S2 := St.tri.on hb2 S1
  have D2 := six.on hb2 D1
  clear s0 s1 s2 s3 s4 s5 s6
  obtain ⟨d0, d1, d2, d3, d4, d5, d6⟩ := D2
  have D2 : six _ _ _ _ _ _ _ _ := ⟨d0, d1, d2, d3, d4, d5, d6⟩
  obtain ⟨s0, s1, s2, s3, s4, s5, s6⟩ := S2
  have S2 : tri _ _ _ _ _ := ⟨s0, s1, s2, s3, s4, s5, s6⟩
  go_wp2_with fail
  go_region_held3 (fun w' => w'.cell? ⟨w.heap.size, 0, none⟩ = some (.int .i64 op) ∧ w'.cell? ⟨w.heap.size, 1, none⟩ = some (.int .i64 a) ∧ w'.cell? ⟨w.heap.size, 2, none⟩ = some (.int .i64 b) ∧ w'.cell? ⟨w.heap.size, 3, none⟩ = some (.int .i64 n) ∧ w'.cell? ⟨w.heap.size, 4, none⟩ = some (.slice p lv c) ∧ w'.cell? ⟨w.heap.size, 5, none⟩ = some (.slice q lw f) ∧ w'.cell? ⟨w.heap.size + 1, 1, none⟩ = some (.int .i64 (P : Nat))) (first | (with_reducible exact keep7 D3 S3) | (with_reducible exact keep7 D2.drew S2.drew) | (with_reducible exact keep7 D2 S2) | (go_keep; done)) ((go_at_call 78; refine (TK.out _).mono ?_; rintro e w3 ⟨rfl, hb3⟩; have D3 := six.on hb3 D2.drew; have S3 := St.tri.on hb3 S2.drew; have C3 := St.tri.on hb3 C2.drew))
  all_goals
    clear d0 d1 d2 d3 d4 d5 d6 s0 s1 s2 s3 s4 s5 s6
    obtain ⟨d0, d1, d2, d3, d4, d5, d6⟩ := D3
    have D3 : six _ _ _ _ _ _ _ _ := ⟨d0, d1, d2, d3, d4, d5, d6⟩
    go_wp2_with fail
    refine (TK.out _).mono ?_
    rintro e w4 ⟨rfl, hb4⟩
    have D4 := six.on hb4 D3
    have S4 := St.tri.on hb4 S3
    have C4 := St.tri.on hb4 C3
    have B4 : Below w.heap.size w w4 := by (repeat (first | (with_reducible exact Below.refl _ _) | (with_reducible assumption) | (with_reducible apply bl_alloc) | (with_reducible apply bl_drewN) | (with_reducible apply bl_drew) | (with_reducible refine bl_set ?_ (by first | (simp; done) | (simp; omega)) _) | (with_reducible refine bl_call ?_ (by assumption))))
    clear d0 d1 d2 d3 d4 d5 d6 D1 D2 D3 S1 S2 S3 C1 C2 C3
    go_wp2_with fail
    go_loopw [9, 32] (fun x y wr => ∃ (i Q : Nat) (tot : Int), i ≤ T ∧ x = .int .i64 tot ∧ y = .int .i64 i ∧ 0 ≤ tot ∧ tot ≤ 1000000000 * (i : Int) ∧ Hid (tot = drawS g P i) ∧ Hid (Q = P + i) ∧ six wr w.heap.size (.int .i64 op) (.int .i64 a) (.int .i64 b) (.int .i64 n) (.slice p lv c) (.slice q lw f) ∧
        tri wr (w.heap.size + 1) (.int .u64 (k : Nat)) (.int .i64 (Q : Nat)) (.bool anti) ∧ tri wr (w.heap.size + 1 + 1) (.int .u64 0) (.int .i64 0) (.bool false) ∧ Below w.heap.size w wr) (fun _ y _ => T - (intOf y).toNat)
    case atStart => exact ⟨0, P, 0, Nat.zero_le _, rfl, rfl, by omega, by omega, Lib.hid rfl, Lib.hid rfl, D4, S4, C4, B4⟩
    case round =>
      clear D4 S4 C4 B4
      obtain ⟨i, Q, tot, hi, rfl, rfl, q0, q1, HT, HQ, D5, S5, C5, B5⟩ := hrel
      rcases Nat.lt_or_ge i T with h | h
      · have hq : Q < 1000000000000 := by have := HQ.out; omega
        have c1 : (i : Int) < (T : Int) := by omega
        have N := Lib.hid (NX.out Q hq)
        have G := Lib.hid (SG.out Q)
        obtain ⟨g0, g1⟩ := BD.out Q
        have HT2 : Hid (tot + g Q = drawS g P (i + 1)) := Lib.hid (by rw [HT.out, HQ.out]; rfl)
        have HQ2 : Hid (Q + 1 = P + (i + 1)) := Lib.hid (by rw [HQ.out]; omega)
        obtain ⟨z, ez⟩ : ∃ z, g Q = z := ⟨_, rfl⟩
        obtain ⟨v, ev⟩ : ∃ v, U Q = v := ⟨_, rfl⟩
        rw [ez] at G g0 g1 HT2
        rw [ev] at N G
        clear ez ev hq
        obtain ⟨s0, s1, s2, s3, s4, s5, s6⟩ := S5
        have S5 : tri _ _ _ _ _ := ⟨s0, s1, s2, s3, s4, s5, s6⟩
        go_wp2_with fail
        refine (N.out _).mono ?_
        rintro e w6 ⟨rfl, hb6⟩
        have D6 := six.on hb6 D5
        have S6 := St.tri.on hb6 S5
        have C6 := St.tri.on hb6 C5
        have B6 : Below w.heap.size w w6 := by (repeat (first | (with_reducible exact Below.refl _ _) | (with_reducible assumption) | (with_reducible apply bl_alloc) | (with_reducible apply bl_drewN) | (with_reducible apply bl_drew) | (with_reducible refine bl_set ?_ (by first | (simp; done) | (simp; omega)) _) | (with_reducible refine bl_call ?_ (by assumption))))
        clear s0 s1 s2 s3 s4 s5 s6
        obtain ⟨s0, s1, s2, s3, s4, s5, s6⟩ := S6
        have S6 : tri _ _ _ _ _ := ⟨s0, s1, s2, s3, s4, s5, s6⟩
        have D7 := six.far3 (y0 := .int .u64 (k : Nat)) (y1 := .int .i64 ((Q : Int) + 1)) (y2 := .bool anti) D6 ne01
        have S7 := St.tri.set3 (x2 := .int .u64 (k : Nat)) (y2 := .int .i64 ((Q : Int) + 1)) (z2 := .bool anti) S6
        have C7 := St.tri.far (x2 := .int .u64 (k : Nat)) (y2 := .int .i64 ((Q : Int) + 1)) (z2 := .bool anti) C6 ne21
        obtain ⟨d0, d1, d2, d3, d4, d5, d6⟩ := D7
        have D7 : six _ _ _ _ _ _ _ _ := ⟨d0, d1, d2, d3, d4, d5, d6⟩
        go_wp2_with fail
        refine (G.out _ (by (repeat (first | (with_reducible exact Below.refl _ _) | (with_reducible assumption) | (with_reducible apply bl_alloc) | (with_reducible apply bl_drewN) | (with_reducible apply bl_drew) | (with_reducible refine bl_set ?_ (by first | (simp; done) | (simp; omega)) _) | (with_reducible refine bl_call ?_ (by assumption)))))).mono ?_
        rintro e w8 ⟨rfl, hb8⟩
        go_wp2_with fail
        go_roundw
        case rel => exact ⟨i + 1, Q + 1, tot + z, by omega, rfl, by go_num, by omega, by omega, HT2, HQ2, six.on hb8 D7, St.tri.on hb8 S7, St.tri.on hb8 C7, by (repeat (first | (with_reducible exact Below.refl _ _) | (with_reducible assumption) | (with_reducible apply bl_alloc) | (with_reducible apply bl_drewN) | (with_reducible apply bl_drew) | (with_reducible refine bl_set ?_ (by first | (simp; done) | (simp; omega)) _) | (with_reducible refine bl_call ?_ (by assumption))))⟩
        case measure => simp [intOf]; omega
      · obtain rfl : T = i := by omega
        obtain ⟨s0, s1, s2, s3, s4, s5, s6⟩ := S5
        have S5 : tri _ _ _ _ _ := ⟨s0, s1, s2, s3, s4, s5, s6⟩
        obtain ⟨c0, c1, c2, c3, c4, c5, c6⟩ := C5
        have C5 : tri _ _ _ _ _ := ⟨c0, c1, c2, c3, c4, c5, c6⟩
        go_wp2_with fail
        go_region
        all_goals
          go_wp2_with fail
          exact bodyPost_ret (v := .tuple #[.int .i64 tot, .agg #[.int .u64 (k : Nat), .int .i64 (Q : Nat), .bool anti], .int .i64 0]) (by simp [results, Tryd.results36, go_sem, *]) rfl ⟨by rw [HT.out, HQ.out], by (repeat (first | (with_reducible exact Below.refl _ _) | (with_reducible assumption) | (with_reducible apply bl_alloc) | (with_reducible apply bl_drewN) | (with_reducible apply bl_drew) | (with_reducible refine bl_set ?_ (by first | (simp; done) | (simp; omega)) _) | (with_reducible refine bl_call ?_ (by assumption))))⟩
end Go.Proofs.YteapicfobammjaaDoor.Di
