/-
  The contract of package dist's Draw.
-/
import Derived.Test.YteapicfobammjaaDoorDSingle
import Derived.Test.YteapicfobammjaaDoorStNext
namespace Go.Proofs.YteapicfobammjaaDoor.Di
open Go.RowKit
open St (nextU errS tri nextU_lt)
set_option maxHeartbeats 4000000
theorem six.far3 {w : World} {b g : Nat} {x0 x1 x2 x3 x4 x5 y0 y1 y2 : Value} (h : six w b x0 x1 x2 x3 x4 x5) (hne : b ≠ g) : six (((w.setCell ⟨g, 0, none⟩ y0).setCell ⟨g, 1, none⟩ y1).setCell ⟨g, 2, none⟩ y2) b x0 x1 x2 x3 x4 x5 := by
  obtain ⟨h0, h1, h2, h3, h4, h5, h6⟩ := h
  exact ⟨St.far3 h0 hne, St.far3 h1 hne, St.far3 h2 hne, St.far3 h3 hne, St.far3 h4 hne, St.far3 h5 hne, by simp [World.setCell]; exact h6⟩
/-- The sum of the values of i numbers from a position on. -/
def drawS (g : Nat → Int) (P : Nat) : Nat → Int
  | 0 => 0
  | i + 1 => drawS g P i + g (P + i)
theorem draw_no1 (op a b n : Int) (p : Option Addr) (lv c : Nat) (q : Option Addr) (lw f : Nat) (E : Int) (hE : (E != 0) = true) (k : Nat) (pos : Int) (anti : Bool) (w : World) (CH : Hid (∀ w2, Below w.heap.size w w2 → Calls Tryd.prog 24 #[.agg #[.int .i64 op, .int .i64 a, .int .i64 b, .int .i64 n, .slice p lv c, .slice q lw f]] w2 (Gives (.int .i64 E) w2))) :
    Calls Tryd.prog 36 #[.agg #[.int .i64 op, .int .i64 a, .int .i64 b, .int .i64 n, .slice p lv c, .slice q lw f], .agg #[.int .u64 (k : Nat), .int .i64 pos, .bool anti]] w (Gives (.tuple #[.int .i64 0, .agg #[.int .u64 0, .int .i64 0, .bool false], .int .i64 E]) w) := by
  go_enter Tryd.func36, Tryd.ntmps36
  go_wp2_with fail
  refine (CH.out _ (by (repeat (first | (with_reducible exact Below.refl _ _) | (with_reducible assumption) | (with_reducible apply bl_alloc) | (with_reducible apply bl_drewN) | (with_reducible apply bl_drew) | (with_reducible refine bl_set ?_ (by first | (simp; done) | (simp; omega)) _) | (with_reducible refine bl_call ?_ (by assumption)))))).mono ?_
  rintro e w1 ⟨rfl, hb1⟩
  have C1 : tri w1 (w.heap.size + 1 + 1) (.int .u64 0) (.int .i64 0) (.bool false) := St.tri.call (by refine ⟨?_, ?_, ?_, ?_, ?_, ?_, ?_⟩ <;> first | (go_simp; done) | (simp; done) | (simp; omega)) hb1
  obtain ⟨c0, c1, c2, c3, c4, c5, c6⟩ := C1
  have C1 : tri _ _ _ _ _ := ⟨c0, c1, c2, c3, c4, c5, c6⟩
  go_wp2_with fail
  exact bodyPost_ret (v := .tuple #[.int .i64 0, .agg #[.int .u64 0, .int .i64 0, .bool false], .int .i64 E]) (by simp [results, Tryd.results36, go_sem, *]) rfl ⟨rfl, by (repeat (first | (with_reducible exact Below.refl _ _) | (with_reducible assumption) | (with_reducible apply bl_alloc) | (with_reducible apply bl_drewN) | (with_reducible apply bl_drew) | (with_reducible refine bl_set ?_ (by first | (simp; done) | (simp; omega)) _) | (with_reducible refine bl_call ?_ (by assumption))))⟩
theorem draw_no2 (op a b n : Int) (p : Option Addr) (lv c : Nat) (q : Option Addr) (lw f : Nat) (E : Int) (hE : (E != 0) = true) (k : Nat) (pos : Int) (anti : Bool) (w : World) (CH : Hid (∀ w2, Below w.heap.size w w2 → Calls Tryd.prog 24 #[.agg #[.int .i64 op, .int .i64 a, .int .i64 b, .int .i64 n, .slice p lv c, .slice q lw f]] w2 (Gives (.int .i64 0) w2)))
    (CS : Hid (∀ w2, Calls Tryd.prog 77 #[.agg #[.int .u64 (k : Nat), .int .i64 pos, .bool anti]] w2 (Gives (.int .i64 E) w2))) :
    Calls Tryd.prog 36 #[.agg #[.int .i64 op, .int .i64 a, .int .i64 b, .int .i64 n, .slice p lv c, .slice q lw f], .agg #[.int .u64 (k : Nat), .int .i64 pos, .bool anti]] w (Gives (.tuple #[.int .i64 0, .agg #[.int .u64 0, .int .i64 0, .bool false], .int .i64 E]) w) := by
  go_enter Tryd.func36, Tryd.ntmps36
  go_wp2_with fail
  refine (CH.out _ (by (repeat (first | (with_reducible exact Below.refl _ _) | (with_reducible assumption) | (with_reducible apply bl_alloc) | (with_reducible apply bl_drewN) | (with_reducible apply bl_drew) | (with_reducible refine bl_set ?_ (by first | (simp; done) | (simp; omega)) _) | (with_reducible refine bl_call ?_ (by assumption)))))).mono ?_
  rintro e w1 ⟨rfl, hb1⟩
  have C1 : tri w1 (w.heap.size + 1 + 1) (.int .u64 0) (.int .i64 0) (.bool false) := St.tri.call (by refine ⟨?_, ?_, ?_, ?_, ?_, ?_, ?_⟩ <;> first | (go_simp; done) | (simp; done) | (simp; omega)) hb1
  have S1 : tri w1 (w.heap.size + 1) (.int .u64 (k : Nat)) (.int .i64 pos) (.bool anti) := St.tri.call (by refine ⟨?_, ?_, ?_, ?_, ?_, ?_, ?_⟩ <;> first | (go_simp; done) | (simp; done) | (simp; omega)) hb1
  obtain ⟨s0, s1, s2, s3, s4, s5, s6⟩ := S1
  have S1 : tri _ _ _ _ _ := ⟨s0, s1, s2, s3, s4, s5, s6⟩
  go_wp2_with fail
  refine (CS.out _).mono ?_
  rintro e w2 ⟨rfl, hb2⟩
  have C2 := St.tri.on hb2 C1
  obtain ⟨c0, c1, c2, c3, c4, c5, c6⟩ := C2
  have C2 : tri _ _ _ _ _ := ⟨c0, c1, c2, c3, c4, c5, c6⟩
  go_wp2_with fail
  exact bodyPost_ret (v := .tuple #[.int .i64 0, .agg #[.int .u64 0, .int .i64 0, .bool false], .int .i64 E]) (by simp [results, Tryd.results36, go_sem, *]) rfl ⟨rfl, by (repeat (first | (with_reducible exact Below.refl _ _) | (with_reducible assumption) | (with_reducible apply bl_alloc) | (with_reducible apply bl_drewN) | (with_reducible apply bl_drew) | (with_reducible refine bl_set ?_ (by first | (simp; done) | (simp; omega)) _) | (with_reducible refine bl_call ?_ (by assumption))))⟩
theorem keep7 {w : World} {B C : Nat} {x0 x1 x2 x3 x4 x5 y0 y1 y2 : Value} (h : six w B x0 x1 x2 x3 x4 x5) (g : tri w C y0 y1 y2) : w.cell? ⟨B, 0, none⟩ = some x0 ∧ w.cell? ⟨B, 1, none⟩ = some x1 ∧ w.cell? ⟨B, 2, none⟩ = some x2 ∧ w.cell? ⟨B, 3, none⟩ = some x3 ∧ w.cell? ⟨B, 4, none⟩ = some x4 ∧ w.cell? ⟨B, 5, none⟩ = some x5 ∧ w.cell? ⟨C, 1, none⟩ = some y1 :=
  ⟨h.1, h.2.1, h.2.2.1, h.2.2.2.1, h.2.2.2.2.1, h.2.2.2.2.2.1, g.2.1⟩
theorem draw_no3 (op a b n : Int) (p : Option Addr) (lv c : Nat) (q : Option Addr) (lw f : Nat) (t : Int) (k : Nat) (pos : Int) (anti : Bool) (w : World) (wt : IntKind.i64.wrap (1000000000000 - t) = 1000000000000 - t) (ht : decide (1000000000000 - t < pos) = true) (CH : Hid (∀ w2, Below w.heap.size w w2 → Calls Tryd.prog 24 #[.agg #[.int .i64 op, .int .i64 a, .int .i64 b, .int .i64 n, .slice p lv c, .slice q lw f]] w2 (Gives (.int .i64 0) w2)))
    (CS : Hid (∀ w2, Calls Tryd.prog 77 #[.agg #[.int .u64 (k : Nat), .int .i64 pos, .bool anti]] w2 (Gives (.int .i64 0) w2))) (TK : Hid (∀ w2, Calls Tryd.prog 78 #[.agg #[.int .i64 op, .int .i64 a, .int .i64 b, .int .i64 n, .slice p lv c, .slice q lw f]] w2 (Gives (.int .i64 t) w2))) :
    Calls Tryd.prog 36 #[.agg #[.int .i64 op, .int .i64 a, .int .i64 b, .int .i64 n, .slice p lv c, .slice q lw f], .agg #[.int .u64 (k : Nat), .int .i64 pos, .bool anti]] w (Gives (.tuple #[.int .i64 0, .agg #[.int .u64 0, .int .i64 0, .bool false], .int .i64 2]) w) := by
  go_enter Tryd.func36, Tryd.ntmps36
  go_wp2_with fail
  refine (CH.out _ (by (repeat (first | (with_reducible exact Below.refl _ _) | (with_reducible assumption) | (with_reducible apply bl_alloc) | (with_reducible apply bl_drewN) | (with_reducible apply bl_drew) | (with_reducible refine bl_set ?_ (by first | (simp; done) | (simp; omega)) _) | (with_reducible refine bl_call ?_ (by assumption)))))).mono ?_
  rintro e w1 ⟨rfl, hb1⟩
  have C1 : tri w1 (w.heap.size + 1 + 1) (.int .u64 0) (.int .i64 0) (.bool false) := St.tri.call (by refine ⟨?_, ?_, ?_, ?_, ?_, ?_, ?_⟩ <;> first | (go_simp; done) | (simp; done) | (simp; omega)) hb1
  have S1 : tri w1 (w.heap.size + 1) (.int .u64 (k : Nat)) (.int .i64 pos) (.bool anti) := St.tri.call (by refine ⟨?_, ?_, ?_, ?_, ?_, ?_, ?_⟩ <;> first | (go_simp; done) | (simp; done) | (simp; omega)) hb1
  have D1 := six.on hb1 (six.alloc (o := .cells #[.int .u64 0, .int .i64 0, .bool false] 49) (six.alloc (o := .cells #[.int .u64 (k : Nat), .int .i64 pos, .bool anti] 49) (six.new (w := w) (t := 36))))
  obtain ⟨s0, s1, s2, s3, s4, s5, s6⟩ := S1
  have S1 : tri _ _ _ _ _ := ⟨s0, s1, s2, s3, s4, s5, s6⟩
  go_wp2_with fail
  refine (CS.out _).mono ?_
  rintro e w2 ⟨rfl, hb2⟩
  have C2 := St.tri.on hb2 C1
  have S2 := St.tri.on hb2 S1
  have D2 := six.on hb2 D1
  clear s0 s1 s2 s3 s4 s5 s6
  obtain ⟨d0, d1, d2, d3, d4, d5, d6⟩ := D2
  have D2 : six _ _ _ _ _ _ _ _ := ⟨d0, d1, d2, d3, d4, d5, d6⟩
  obtain ⟨s0, s1, s2, s3, s4, s5, s6⟩ := S2
  have S2 : tri _ _ _ _ _ := ⟨s0, s1, s2, s3, s4, s5, s6⟩
  go_wp2_with fail
  go_region_held3 (fun w' => w'.cell? ⟨w.heap.size, 0, none⟩ = some (.int .i64 op) ∧ w'.cell? ⟨w.heap.size, 1, none⟩ = some (.int .i64 a) ∧ w'.cell? ⟨w.heap.size, 2, none⟩ = some (.int .i64 b) ∧ w'.cell? ⟨w.heap.size, 3, none⟩ = some (.int .i64 n) ∧ w'.cell? ⟨w.heap.size, 4, none⟩ = some (.slice p lv c) ∧ w'.cell? ⟨w.heap.size, 5, none⟩ = some (.slice q lw f) ∧ w'.cell? ⟨w.heap.size + 1, 1, none⟩ = some (.int .i64 pos)) (first | (with_reducible exact keep7 D3 S3) | (with_reducible exact keep7 D2.drew S2.drew) | (with_reducible exact keep7 D2 S2) | (go_keep; done)) ((go_at_call 78; refine (TK.out _).mono ?_; rintro e w3 ⟨rfl, hb3⟩; have D3 := six.on hb3 D2.drew; have S3 := St.tri.on hb3 S2.drew; have C3 := St.tri.on hb3 C2.drew))
  all_goals
    obtain ⟨c0, c1, c2, c3, c4, c5, c6⟩ := C3
    have C3 : tri _ _ _ _ _ := ⟨c0, c1, c2, c3, c4, c5, c6⟩
    go_wp2_with fail
    exact bodyPost_ret (v := .tuple #[.int .i64 0, .agg #[.int .u64 0, .int .i64 0, .bool false], .int .i64 2]) (by simp [results, Tryd.results36, go_sem, *]) rfl ⟨rfl, by (repeat (first | (with_reducible exact Below.refl _ _) | (with_reducible assumption) | (with_reducible apply bl_alloc) | (with_reducible apply bl_drewN) | (with_reducible apply bl_drew) | (with_reducible refine bl_set ?_ (by first | (simp; done) | (simp; omega)) _) | (with_reducible refine bl_call ?_ (by assumption))))⟩
end Go.Proofs.YteapicfobammjaaDoor.Di
