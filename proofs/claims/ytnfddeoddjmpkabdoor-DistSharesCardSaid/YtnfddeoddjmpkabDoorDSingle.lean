/-
  The contracts of single, taken, extreme, At, Least, Most.
-/
import Derived.Test.YtnfddeoddjmpkabDoorDAcc
namespace Go.Proofs.YtnfddeoddjmpkabDoor.Di
open Go.RowKit
open St (hiN hiN_lt)
set_option maxHeartbeats 2000000
theorem sgl1 (a b n : Int) (p : Option Addr) (lv c : Nat) (q : Option Addr) (lw f : Nat) (u : Nat) (w : World) : Calls Tryd.prog 38 #[.agg #[.int .i64 1, .int .i64 a, .int .i64 b, .int .i64 n, .slice p lv c, .slice q lw f], .int .u64 u] w (Gives (.int .i64 a) w) := by
  go_enter Tryd.func38, Tryd.ntmps38
  go_wp2_with fail
  go_ret
  exact ⟨rfl, by (repeat (first | (with_reducible exact Below.refl _ _) | (with_reducible assumption) | (with_reducible apply bl_alloc) | (with_reducible apply bl_drewN) | (with_reducible apply bl_drew) | (with_reducible refine bl_set ?_ (by first | (simp; done) | (simp; omega)) _) | (with_reducible refine bl_call ?_ (by assumption))))⟩
theorem sglU2 (a b n : Int) (p : Option Addr) (lv c : Nat) (q : Option Addr) (lw f : Nat) (u N r : Nat) (w1 : IntKind.i64.wrap (b - a) = b - a) (w2 : IntKind.i64.wrap (b - a + 1) = (N : Int)) (w3 : IntKind.i64.wrap (a + (r : Int)) = a + (r : Int)) (U : Hid (∀ w, Calls Tryd.prog 63 #[.int .u64 u, .int .i64 N] w fun e w' => e = .returned (.int .i64 (r : Nat)) ∧ w = w')) (w : World) :
    Calls Tryd.prog 38 #[.agg #[.int .i64 2, .int .i64 a, .int .i64 b, .int .i64 n, .slice p lv c, .slice q lw f], .int .u64 u] w (Gives (.int .i64 (a + (r : Int))) w) := by
  go_enter Tryd.func38, Tryd.ntmps38
  go_wp2_with fail
  go_quiet ((go_at_call 63; exact quiet_left (U.out _)))
  go_wp2_with fail
  go_ret
  exact ⟨rfl, by (repeat (first | (with_reducible exact Below.refl _ _) | (with_reducible assumption) | (with_reducible apply bl_alloc) | (with_reducible apply bl_drewN) | (with_reducible apply bl_drew) | (with_reducible refine bl_set ?_ (by first | (simp; done) | (simp; omega)) _) | (with_reducible refine bl_call ?_ (by assumption))))⟩
theorem sglU4 (a b n : Int) (p : Option Addr) (lv c : Nat) (q : Option Addr) (lw f : Nat) (u N r : Nat) (w1 : IntKind.i64.wrap (b - a) = b - a) (w2 : IntKind.i64.wrap (b - a + 1) = (N : Int)) (w3 : IntKind.i64.wrap (a + (r : Int)) = a + (r : Int)) (U : Hid (∀ w, Calls Tryd.prog 63 #[.int .u64 u, .int .i64 N] w fun e w' => e = .returned (.int .i64 (r : Nat)) ∧ w = w')) (w : World) :
    Calls Tryd.prog 38 #[.agg #[.int .i64 4, .int .i64 a, .int .i64 b, .int .i64 n, .slice p lv c, .slice q lw f], .int .u64 u] w (Gives (.int .i64 (a + (r : Int))) w) := by
  go_enter Tryd.func38, Tryd.ntmps38
  go_wp2_with fail
  go_quiet ((go_at_call 63; exact quiet_left (U.out _)))
  go_wp2_with fail
  go_ret
  exact ⟨rfl, by (repeat (first | (with_reducible exact Below.refl _ _) | (with_reducible assumption) | (with_reducible apply bl_alloc) | (with_reducible apply bl_drewN) | (with_reducible apply bl_drew) | (with_reducible refine bl_set ?_ (by first | (simp; done) | (simp; omega)) _) | (with_reducible refine bl_call ?_ (by assumption))))⟩
theorem sgl3 (a b n : Int) (p : Option Addr) (lv c : Nat) (q : Option Addr) (lw f : Nat) (u : Nat) (v : Int) (w : World) (T : Hid (∀ w2, Below w.heap.size w w2 → Calls Tryd.prog 61 #[.slice p lv c, .slice q lw f, .int .u64 u] w2 (Gives (.int .i64 v) w2))) : Calls Tryd.prog 38 #[.agg #[.int .i64 3, .int .i64 a, .int .i64 b, .int .i64 n, .slice p lv c, .slice q lw f], .int .u64 u] w (Gives (.int .i64 v) w) := by
  go_enter Tryd.func38, Tryd.ntmps38
  go_wp2_with fail
  refine (T.out _ (by (repeat (first | (with_reducible exact Below.refl _ _) | (with_reducible assumption) | (with_reducible apply bl_alloc) | (with_reducible apply bl_drewN) | (with_reducible apply bl_drew) | (with_reducible refine bl_set ?_ (by first | (simp; done) | (simp; omega)) _) | (with_reducible refine bl_call ?_ (by assumption)))))).mono ?_
  rintro e w1 ⟨rfl, hb1⟩
  go_wp2_with fail
  go_ret
  exact ⟨rfl, by (repeat (first | (with_reducible exact Below.refl _ _) | (with_reducible assumption) | (with_reducible apply bl_alloc) | (with_reducible apply bl_drewN) | (with_reducible apply bl_drew) | (with_reducible refine bl_set ?_ (by first | (simp; done) | (simp; omega)) _) | (with_reducible refine bl_call ?_ (by assumption))))⟩
theorem sgl5 (a b n : Int) (p : Option Addr) (lv c : Nat) (q : Option Addr) (lw f : Nat) (u : Nat) (v : Int) (w : World) (T : Hid (∀ w2, Calls Tryd.prog 62 #[.int .i64 a, .int .i64 b, .int .u64 u] w2 (Quiet (.int .i64 v) w2))) : Calls Tryd.prog 38 #[.agg #[.int .i64 5, .int .i64 a, .int .i64 b, .int .i64 n, .slice p lv c, .slice q lw f], .int .u64 u] w (Gives (.int .i64 v) w) := by
  go_enter Tryd.func38, Tryd.ntmps38
  go_wp2_with fail
  refine (T.out _).mono ?_
  rintro e w1 ⟨rfl, t, rfl⟩
  go_wp2_with fail
  go_ret
  exact ⟨rfl, by (repeat (first | (with_reducible exact Below.refl _ _) | (with_reducible assumption) | (with_reducible apply bl_alloc) | (with_reducible apply bl_drewN) | (with_reducible apply bl_drew) | (with_reducible refine bl_set ?_ (by first | (simp; done) | (simp; omega)) _) | (with_reducible refine bl_call ?_ (by assumption))))⟩
theorem single_any (op a b n : Int) (p : Option Addr) (lv c : Nat) (q : Option Addr) (lw f : Nat) (V W : Nat → Int) (u : Nat) (hu : u < 18446744073709551616) (w : World) (hV : Row w p lv V) (hW : Row w q lw W) (h : Acc op a b n lv lw V W) : Calls Tryd.prog 38 #[.agg #[.int .i64 op, .int .i64 a, .int .i64 b, .int .i64 n, .slice p lv c, .slice q lw f], .int .u64 u] w (Gives (.int .i64 (sglV op a b lv V W u)) w) := by
  unfold sglV
  rcases h with ⟨rfl, h⟩ | ⟨rfl, h⟩ | ⟨rfl, rfl, h2, h3, h4, h5⟩ | ⟨rfl, h⟩ | ⟨rfl, h⟩
  · rw [if_pos rfl]; exact sgl1 a b n p lv c q lw f u w
  · rw [if_neg (by decide), if_neg (by decide), if_neg (by decide)]
    unfold uniV
    obtain ⟨N, eN⟩ : ∃ N, (b - a + 1).toNat = N := ⟨_, rfl⟩
    rw [eN]
    have hl := hiN_lt hu (n := N) (by omega)
    exact sglU2 a b n p lv c q lw f u N _ (by rw [IntKind.wrap_i64]; omega) (by rw [IntKind.wrap_i64]; omega) (by rw [IntKind.wrap_i64]; omega) (Lib.hid (upper_any u N hu (by omega) (by omega))) w
  · rw [if_neg (by decide), if_pos rfl]
    exact sgl3 a b n p _ c q _ f u _ w (Lib.hid fun w2 hb => tval_any p c q f _ u V W w2 (hV.on hb) (hW.on hb) h2 h3 h5 hu)
  · rw [if_neg (by decide), if_neg (by decide), if_neg (by decide)]
    unfold uniV
    obtain ⟨N, eN⟩ : ∃ N, (b - a + 1).toNat = N := ⟨_, rfl⟩
    rw [eN]
    have hl := hiN_lt hu (n := N) (by omega)
    exact sglU4 a b n p lv c q lw f u N _ (by rw [IntKind.wrap_i64]; omega) (by rw [IntKind.wrap_i64]; omega) (by rw [IntKind.wrap_i64]; omega) (Lib.hid (upper_any u N hu (by omega) (by omega))) w
  · rw [if_neg (by decide), if_neg (by decide), if_pos rfl]
    obtain ⟨A, rfl⟩ : ∃ A : Nat, a = (A : Int) := ⟨a.toNat, by omega⟩
    obtain ⟨B, rfl⟩ : ∃ B : Nat, b = (B : Int) := ⟨b.toNat, by omega⟩
    rw [Int.toNat_natCast, Int.toNat_natCast]
    exact sgl5 _ _ n p lv c q lw f u _ w (Lib.hid (geom_any A B u (by omega) (by omega) (by omega) (by omega) hu))
theorem taken_any (op a b n : Int) (p : Option Addr) (lv c : Nat) (q : Option Addr) (lw f : Nat) (w : World) : Calls Tryd.prog 75 #[.agg #[.int .i64 op, .int .i64 a, .int .i64 b, .int .i64 n, .slice p lv c, .slice q lw f]] w (Gives (.int .i64 (tkV op n)) w) := by
  unfold tkV
  by_cases h : op = 4
  · subst h
    rw [if_pos rfl]
    go_enter Tryd.func75, Tryd.ntmps75
    go_wp2_with fail
    go_ret
    exact ⟨rfl, by (repeat (first | (with_reducible exact Below.refl _ _) | (with_reducible assumption) | (with_reducible apply bl_alloc) | (with_reducible apply bl_drewN) | (with_reducible apply bl_drew) | (with_reducible refine bl_set ?_ (by first | (simp; done) | (simp; omega)) _) | (with_reducible refine bl_call ?_ (by assumption))))⟩
  · rw [if_neg h]
    have h2 : (op == 4) = false := by rw [beq_eq_false_iff_ne]; exact h
    clear h
    go_enter Tryd.func75, Tryd.ntmps75
    go_wp2_with fail
    go_ret
    exact ⟨rfl, by (repeat (first | (with_reducible exact Below.refl _ _) | (with_reducible assumption) | (with_reducible apply bl_alloc) | (with_reducible apply bl_drewN) | (with_reducible apply bl_drew) | (with_reducible refine bl_set ?_ (by first | (simp; done) | (simp; omega)) _) | (with_reducible refine bl_call ?_ (by assumption))))⟩
/-- What extreme answers: the value if every random number that is taken is u. -/
def extV (E op a b n : Int) (lv : Nat) (V W : Nat → Int) (u : Nat) : Int := if E = 0 then tkV op n * sglV op a b lv V W u else 0
theorem ext_no (op a b n : Int) (p : Option Addr) (lv c : Nat) (q : Option Addr) (lw f : Nat) (E : Int) (hE : (E != 0) = true) (u : Nat) (w : World) (CH : Hid (∀ w2, Below w.heap.size w w2 → Calls Tryd.prog 10 #[.agg #[.int .i64 op, .int .i64 a, .int .i64 b, .int .i64 n, .slice p lv c, .slice q lw f]] w2 (Gives (.int .i64 E) w2))) : Calls Tryd.prog 60 #[.agg #[.int .i64 op, .int .i64 a, .int .i64 b, .int .i64 n, .slice p lv c, .slice q lw f], .int .u64 u] w (Gives (.int .i64 0) w) := by
  go_enter Tryd.func60, Tryd.ntmps60
  go_wp2_with fail
  refine (CH.out _ (by (repeat (first | (with_reducible exact Below.refl _ _) | (with_reducible assumption) | (with_reducible apply bl_alloc) | (with_reducible apply bl_drewN) | (with_reducible apply bl_drew) | (with_reducible refine bl_set ?_ (by first | (simp; done) | (simp; omega)) _) | (with_reducible refine bl_call ?_ (by assumption)))))).mono ?_
  rintro e w1 ⟨rfl, hb1⟩
  go_wp2_with fail
  go_ret
  exact ⟨rfl, by (repeat (first | (with_reducible exact Below.refl _ _) | (with_reducible assumption) | (with_reducible apply bl_alloc) | (with_reducible apply bl_drewN) | (with_reducible apply bl_drew) | (with_reducible refine bl_set ?_ (by first | (simp; done) | (simp; omega)) _) | (with_reducible refine bl_call ?_ (by assumption))))⟩
theorem ext_yes (op a b n : Int) (p : Option Addr) (lv c : Nat) (q : Option Addr) (lw f : Nat) (u : Nat) (t s r : Int) (w : World) (wr : IntKind.i64.wrap (t * s) = r) (CH : Hid (∀ w2, Below w.heap.size w w2 → Calls Tryd.prog 10 #[.agg #[.int .i64 op, .int .i64 a, .int .i64 b, .int .i64 n, .slice p lv c, .slice q lw f]] w2 (Gives (.int .i64 0) w2)))
    (TK : Hid (∀ w2, Calls Tryd.prog 75 #[.agg #[.int .i64 op, .int .i64 a, .int .i64 b, .int .i64 n, .slice p lv c, .slice q lw f]] w2 (Gives (.int .i64 t) w2))) (SG : Hid (∀ w2, Below w.heap.size w w2 → Calls Tryd.prog 38 #[.agg #[.int .i64 op, .int .i64 a, .int .i64 b, .int .i64 n, .slice p lv c, .slice q lw f], .int .u64 u] w2 (Gives (.int .i64 s) w2))) : Calls Tryd.prog 60 #[.agg #[.int .i64 op, .int .i64 a, .int .i64 b, .int .i64 n, .slice p lv c, .slice q lw f], .int .u64 u] w (Gives (.int .i64 r) w) := by
  go_enter Tryd.func60, Tryd.ntmps60
  go_wp2_with fail
  refine (CH.out _ (by (repeat (first | (with_reducible exact Below.refl _ _) | (with_reducible assumption) | (with_reducible apply bl_alloc) | (with_reducible apply bl_drewN) | (with_reducible apply bl_drew) | (with_reducible refine bl_set ?_ (by first | (simp; done) | (simp; omega)) _) | (with_reducible refine bl_call ?_ (by assumption)))))).mono ?_
  rintro e w1 ⟨rfl, hb1⟩
  have D1 := six.on hb1 six.new
  obtain ⟨d0, d1, d2, d3, d4, d5, d6⟩ := D1
  have D1 : six _ _ _ _ _ _ _ _ := ⟨d0, d1, d2, d3, d4, d5, d6⟩
  go_wp2_with fail
  go_region_held3 (fun w' => w'.cell? ⟨w.heap.size, 0, none⟩ = some (.int .i64 op) ∧ w'.cell? ⟨w.heap.size, 1, none⟩ = some (.int .i64 a) ∧ w'.cell? ⟨w.heap.size, 2, none⟩ = some (.int .i64 b) ∧ w'.cell? ⟨w.heap.size, 3, none⟩ = some (.int .i64 n) ∧ w'.cell? ⟨w.heap.size, 4, none⟩ = some (.slice p lv c) ∧ w'.cell? ⟨w.heap.size, 5, none⟩ = some (.slice q lw f)) (first | (with_reducible exact six.keep D3) | (with_reducible exact six.keep D2) | (with_reducible exact six.keep D1.drew) | (with_reducible exact six.keep D1) | (go_keep; done))
    (first
      | (go_at_call 75; refine (TK.out _).mono ?_; rintro e w2 ⟨rfl, hb2⟩; have D2 := six.on hb2 D1.drew)
      | (go_at_call 38; refine (SG.out _ (by (repeat (first | (with_reducible exact Below.refl _ _) | (with_reducible assumption) | (with_reducible apply bl_alloc) | (with_reducible apply bl_drewN) | (with_reducible apply bl_drew) | (with_reducible refine bl_set ?_ (by first | (simp; done) | (simp; omega)) _) | (with_reducible refine bl_call ?_ (by assumption)))))).mono ?_; rintro e w3 ⟨rfl, hb3⟩; have D3 := six.on hb3 D2))
  all_goals
    go_wp2_with fail
    go_ret
    exact ⟨rfl, by (repeat (first | (with_reducible exact Below.refl _ _) | (with_reducible assumption) | (with_reducible apply bl_alloc) | (with_reducible apply bl_drewN) | (with_reducible apply bl_drew) | (with_reducible refine bl_set ?_ (by first | (simp; done) | (simp; omega)) _) | (with_reducible refine bl_call ?_ (by assumption))))⟩
theorem ext_any (op a b n : Int) (p : Option Addr) (lv c : Nat) (q : Option Addr) (lw f : Nat) (V W : Nat → Int) (u : Nat) (hu : u < 18446744073709551616) (w : World) (hV : Row w p lv V) (hW : Row w q lw W) : Calls Tryd.prog 60 #[.agg #[.int .i64 op, .int .i64 a, .int .i64 b, .int .i64 n, .slice p lv c, .slice q lw f], .int .u64 u] w (Gives (.int .i64 (extV (errD op a b n lv lw V W) op a b n lv V W u)) w) := by
  have CH := Lib.hid fun (w2 : World) (hb : Below w.heap.size w w2) => check_any op a b n p lv c q lw f V W w2 (hV.on hb) (hW.on hb)
  unfold extV
  by_cases hE : errD op a b n lv lw V W = 0
  · rw [if_pos hE]
    have hA := acc_of hE
    rw [hE] at CH
    have hs := sgl_bd hu hA
    have ht := tk_bd hA
    refine ext_yes op a b n p lv c q lw f u _ _ _ w ?_ CH (Lib.hid (taken_any op a b n p lv c q lw f)) (Lib.hid fun w2 hb => single_any op a b n p lv c q lw f V W u hu w2 (hV.on hb) (hW.on hb) hA)
    have h1 : 0 ≤ tkV op n * sglV op a b lv V W u := Int.mul_nonneg (by omega) hs.1
    have h2 : tkV op n * sglV op a b lv V W u ≤ 20 * 1000000000 := Int.mul_le_mul ht.2 hs.2.1 hs.1 (by decide)
    rw [IntKind.wrap_i64]
    omega
  · rw [if_neg hE]
    exact ext_no op a b n p lv c q lw f _ (by rw [bne_iff_ne]; exact hE) u w CH
theorem least_walk (op a b n : Int) (p : Option Addr) (lv c : Nat) (q : Option Addr) (lw f : Nat) (v : Int) (w : World) (X : Hid (∀ w2, Below w.heap.size w w2 → Calls Tryd.prog 60 #[.agg #[.int .i64 op, .int .i64 a, .int .i64 b, .int .i64 n, .slice p lv c, .slice q lw f], .int .u64 0] w2 (Gives (.int .i64 v) w2))) : Calls Tryd.prog 36 #[.agg #[.int .i64 op, .int .i64 a, .int .i64 b, .int .i64 n, .slice p lv c, .slice q lw f]] w (Gives (.int .i64 v) w) := by
  go_enter Tryd.func36, Tryd.ntmps36
  go_wp2_with fail
  refine (X.out _ (by (repeat (first | (with_reducible exact Below.refl _ _) | (with_reducible assumption) | (with_reducible apply bl_alloc) | (with_reducible apply bl_drewN) | (with_reducible apply bl_drew) | (with_reducible refine bl_set ?_ (by first | (simp; done) | (simp; omega)) _) | (with_reducible refine bl_call ?_ (by assumption)))))).mono ?_
  rintro e w1 ⟨rfl, hb1⟩
  go_wp2_with fail
  go_ret
  exact ⟨rfl, by (repeat (first | (with_reducible exact Below.refl _ _) | (with_reducible assumption) | (with_reducible apply bl_alloc) | (with_reducible apply bl_drewN) | (with_reducible apply bl_drew) | (with_reducible refine bl_set ?_ (by first | (simp; done) | (simp; omega)) _) | (with_reducible refine bl_call ?_ (by assumption))))⟩
theorem most_walk (op a b n : Int) (p : Option Addr) (lv c : Nat) (q : Option Addr) (lw f : Nat) (v : Int) (w : World) (X : Hid (∀ w2, Below w.heap.size w w2 → Calls Tryd.prog 60 #[.agg #[.int .i64 op, .int .i64 a, .int .i64 b, .int .i64 n, .slice p lv c, .slice q lw f], .int .u64 18446744073709551615] w2 (Gives (.int .i64 v) w2))) : Calls Tryd.prog 37 #[.agg #[.int .i64 op, .int .i64 a, .int .i64 b, .int .i64 n, .slice p lv c, .slice q lw f]] w (Gives (.int .i64 v) w) := by
  go_enter Tryd.func37, Tryd.ntmps37
  go_wp2_with fail
  refine (X.out _ (by (repeat (first | (with_reducible exact Below.refl _ _) | (with_reducible assumption) | (with_reducible apply bl_alloc) | (with_reducible apply bl_drewN) | (with_reducible apply bl_drew) | (with_reducible refine bl_set ?_ (by first | (simp; done) | (simp; omega)) _) | (with_reducible refine bl_call ?_ (by assumption)))))).mono ?_
  rintro e w1 ⟨rfl, hb1⟩
  go_wp2_with fail
  go_ret
  exact ⟨rfl, by (repeat (first | (with_reducible exact Below.refl _ _) | (with_reducible assumption) | (with_reducible apply bl_alloc) | (with_reducible apply bl_drewN) | (with_reducible apply bl_drew) | (with_reducible refine bl_set ?_ (by first | (simp; done) | (simp; omega)) _) | (with_reducible refine bl_call ?_ (by assumption))))⟩
def lstV (op a b n : Int) (lv lw : Nat) (V W : Nat → Int) : Int := extV (errD op a b n lv lw V W) op a b n lv V W 0
def mstV (op a b n : Int) (lv lw : Nat) (V W : Nat → Int) : Int := extV (errD op a b n lv lw V W) op a b n lv V W 18446744073709551615
theorem least_any (op a b n : Int) (p : Option Addr) (lv c : Nat) (q : Option Addr) (lw f : Nat) (V W : Nat → Int) (w : World) (hV : Row w p lv V) (hW : Row w q lw W) : Calls Tryd.prog 36 #[.agg #[.int .i64 op, .int .i64 a, .int .i64 b, .int .i64 n, .slice p lv c, .slice q lw f]] w (Gives (.int .i64 (lstV op a b n lv lw V W)) w) :=
  least_walk op a b n p lv c q lw f _ w (Lib.hid fun w2 hb => ext_any op a b n p lv c q lw f V W 0 (by decide) w2 (hV.on hb) (hW.on hb))
theorem most_any (op a b n : Int) (p : Option Addr) (lv c : Nat) (q : Option Addr) (lw f : Nat) (V W : Nat → Int) (w : World) (hV : Row w p lv V) (hW : Row w q lw W) : Calls Tryd.prog 37 #[.agg #[.int .i64 op, .int .i64 a, .int .i64 b, .int .i64 n, .slice p lv c, .slice q lw f]] w (Gives (.int .i64 (mstV op a b n lv lw V W)) w) :=
  most_walk op a b n p lv c q lw f _ w (Lib.hid fun w2 hb => ext_any op a b n p lv c q lw f V W 18446744073709551615 (by decide) w2 (hV.on hb) (hW.on hb))
/-- What At answers: has it a value, and which. -/
def atB (E op : Int) : Bool := decide (E = 0 ∧ op ≠ 4)
def atV (E op a b : Int) (lv : Nat) (V W : Nat → Int) (u : Nat) : Int := if atB E op = true then sglV op a b lv V W u else 0
theorem at_no (op a b n : Int) (p : Option Addr) (lv c : Nat) (q : Option Addr) (lw f : Nat) (E : Int) (hE : (E != 0) = true) (u : Nat) (w : World) (CH : Hid (∀ w2, Below w.heap.size w w2 → Calls Tryd.prog 10 #[.agg #[.int .i64 op, .int .i64 a, .int .i64 b, .int .i64 n, .slice p lv c, .slice q lw f]] w2 (Gives (.int .i64 E) w2))) : Calls Tryd.prog 12 #[.agg #[.int .i64 op, .int .i64 a, .int .i64 b, .int .i64 n, .slice p lv c, .slice q lw f], .int .u64 u] w (Gives (.tuple #[.int .i64 0, .bool false]) w) := by
  go_enter Tryd.func12, Tryd.ntmps12
  go_wp2_with fail
  refine (CH.out _ (by (repeat (first | (with_reducible exact Below.refl _ _) | (with_reducible assumption) | (with_reducible apply bl_alloc) | (with_reducible apply bl_drewN) | (with_reducible apply bl_drew) | (with_reducible refine bl_set ?_ (by first | (simp; done) | (simp; omega)) _) | (with_reducible refine bl_call ?_ (by assumption)))))).mono ?_
  rintro e w1 ⟨rfl, hb1⟩
  go_wp2_with fail
  go_ret2
  exact ⟨rfl, by (repeat (first | (with_reducible exact Below.refl _ _) | (with_reducible assumption) | (with_reducible apply bl_alloc) | (with_reducible apply bl_drewN) | (with_reducible apply bl_drew) | (with_reducible refine bl_set ?_ (by first | (simp; done) | (simp; omega)) _) | (with_reducible refine bl_call ?_ (by assumption))))⟩
theorem at_sum (a b n : Int) (p : Option Addr) (lv c : Nat) (q : Option Addr) (lw f : Nat) (u : Nat) (w : World) (CH : Hid (∀ w2, Below w.heap.size w w2 → Calls Tryd.prog 10 #[.agg #[.int .i64 4, .int .i64 a, .int .i64 b, .int .i64 n, .slice p lv c, .slice q lw f]] w2 (Gives (.int .i64 0) w2))) : Calls Tryd.prog 12 #[.agg #[.int .i64 4, .int .i64 a, .int .i64 b, .int .i64 n, .slice p lv c, .slice q lw f], .int .u64 u] w (Gives (.tuple #[.int .i64 0, .bool false]) w) := by
  go_enter Tryd.func12, Tryd.ntmps12
  go_wp2_with fail
  refine (CH.out _ (by (repeat (first | (with_reducible exact Below.refl _ _) | (with_reducible assumption) | (with_reducible apply bl_alloc) | (with_reducible apply bl_drewN) | (with_reducible apply bl_drew) | (with_reducible refine bl_set ?_ (by first | (simp; done) | (simp; omega)) _) | (with_reducible refine bl_call ?_ (by assumption)))))).mono ?_
  rintro e w1 ⟨rfl, hb1⟩
  have D1 := six.on hb1 six.new
  obtain ⟨d0, d1, d2, d3, d4, d5, d6⟩ := D1
  go_wp2_with fail
  go_ret2
  exact ⟨rfl, by (repeat (first | (with_reducible exact Below.refl _ _) | (with_reducible assumption) | (with_reducible apply bl_alloc) | (with_reducible apply bl_drewN) | (with_reducible apply bl_drew) | (with_reducible refine bl_set ?_ (by first | (simp; done) | (simp; omega)) _) | (with_reducible refine bl_call ?_ (by assumption))))⟩
theorem at_yes (op a b n : Int) (p : Option Addr) (lv c : Nat) (q : Option Addr) (lw f : Nat) (h4 : (op == 4) = false) (u : Nat) (s : Int) (w : World) (CH : Hid (∀ w2, Below w.heap.size w w2 → Calls Tryd.prog 10 #[.agg #[.int .i64 op, .int .i64 a, .int .i64 b, .int .i64 n, .slice p lv c, .slice q lw f]] w2 (Gives (.int .i64 0) w2)))
    (SG : Hid (∀ w2, Below w.heap.size w w2 → Calls Tryd.prog 38 #[.agg #[.int .i64 op, .int .i64 a, .int .i64 b, .int .i64 n, .slice p lv c, .slice q lw f], .int .u64 u] w2 (Gives (.int .i64 s) w2))) : Calls Tryd.prog 12 #[.agg #[.int .i64 op, .int .i64 a, .int .i64 b, .int .i64 n, .slice p lv c, .slice q lw f], .int .u64 u] w (Gives (.tuple #[.int .i64 s, .bool true]) w) := by
  go_enter Tryd.func12, Tryd.ntmps12
  go_wp2_with fail
  refine (CH.out _ (by (repeat (first | (with_reducible exact Below.refl _ _) | (with_reducible assumption) | (with_reducible apply bl_alloc) | (with_reducible apply bl_drewN) | (with_reducible apply bl_drew) | (with_reducible refine bl_set ?_ (by first | (simp; done) | (simp; omega)) _) | (with_reducible refine bl_call ?_ (by assumption)))))).mono ?_
  rintro e w1 ⟨rfl, hb1⟩
  have D1 := six.on hb1 six.new
  obtain ⟨d0, d1, d2, d3, d4, d5, d6⟩ := D1
  go_wp2_with fail
  refine (SG.out _ (by (repeat (first | (with_reducible exact Below.refl _ _) | (with_reducible assumption) | (with_reducible apply bl_alloc) | (with_reducible apply bl_drewN) | (with_reducible apply bl_drew) | (with_reducible refine bl_set ?_ (by first | (simp; done) | (simp; omega)) _) | (with_reducible refine bl_call ?_ (by assumption)))))).mono ?_
  rintro e w2 ⟨rfl, hb2⟩
  go_wp2_with fail
  go_ret2
  exact ⟨rfl, by (repeat (first | (with_reducible exact Below.refl _ _) | (with_reducible assumption) | (with_reducible apply bl_alloc) | (with_reducible apply bl_drewN) | (with_reducible apply bl_drew) | (with_reducible refine bl_set ?_ (by first | (simp; done) | (simp; omega)) _) | (with_reducible refine bl_call ?_ (by assumption))))⟩
theorem at_any (op a b n : Int) (p : Option Addr) (lv c : Nat) (q : Option Addr) (lw f : Nat) (V W : Nat → Int) (u : Nat) (hu : u < 18446744073709551616) (w : World) (hV : Row w p lv V) (hW : Row w q lw W) :
    Calls Tryd.prog 12 #[.agg #[.int .i64 op, .int .i64 a, .int .i64 b, .int .i64 n, .slice p lv c, .slice q lw f], .int .u64 u] w (Gives (.tuple #[.int .i64 (atV (errD op a b n lv lw V W) op a b lv V W u), .bool (atB (errD op a b n lv lw V W) op)]) w) := by
  have CH := Lib.hid fun (w2 : World) (hb : Below w.heap.size w w2) => check_any op a b n p lv c q lw f V W w2 (hV.on hb) (hW.on hb)
  by_cases hE : errD op a b n lv lw V W = 0
  · have hA := acc_of hE
    rw [hE] at CH ⊢
    by_cases h4 : op = 4
    · subst h4
      exact at_sum a b n p lv c q lw f u w CH
    · have e1 : atB 0 op = true := by unfold atB; exact decide_eq_true ⟨rfl, h4⟩
      unfold atV
      rw [e1, if_pos rfl]
      exact at_yes op a b n p lv c q lw f (by rw [beq_eq_false_iff_ne]; exact h4) u _ w CH (Lib.hid fun w2 hb => single_any op a b n p lv c q lw f V W u hu w2 (hV.on hb) (hW.on hb) hA)
  · have e1 : atB (errD op a b n lv lw V W) op = false := by unfold atB; exact decide_eq_false (fun h => hE h.1)
    unfold atV
    rw [e1, if_neg (by decide)]
    exact at_no op a b n p lv c q lw f _ (by rw [bne_iff_ne]; exact hE) u w CH
end Go.Proofs.YtnfddeoddjmpkabDoor.Di
