/-
  The contracts of slices.Equal, of the reference's Ints, and of Same, of the package and of the reference.
-/
import Derived.Test.YtmijjpecgcgkgaaGComp
namespace Go.Proofs.Ytmijjpecgcgkgaa.Ag
open Go.RowKit
set_option maxHeartbeats 2000000
def eqTo (V W : Nat → Int) : Nat → Bool
  | 0 => true
  | k + 1 => eqTo V W k && (V k == W k)
def eqL (n m : Nat) (V W : Nat → Int) : Bool := n == m && eqTo V W n
theorem eqTo_false {V W : Nat → Int} {k n : Nat} (h : eqTo V W k = false) (hk : k ≤ n) : eqTo V W n = false := by
  induction n with
  | zero => obtain rfl : k = 0 := by omega
            exact h
  | succ m ih =>
    by_cases e : k = m + 1
    · subst e; exact h
    · show (eqTo V W m && _) = false
      rw [ih (by omega)]; rfl
/-- A slice of ints whose cells lie below the world's top. -/
theorem eqTo_end {V W : Nat → Int} {k n : Nat} (h : k < n) (h2 : (V k == W k) = false) : eqTo V W n = false :=
  eqTo_false (k := k + 1) (by show (_ && _) = false; rw [h2, Bool.and_false]) h
theorem eqTo_next {V W : Nat → Int} {k : Nat} (h1 : eqTo V W k = true) (h2 : (V k == W k) = true) : eqTo V W (k + 1) = true := by
  show (_ && _) = true; rw [h1, h2]; rfl
theorem eqL_same {V W : Nat → Int} {n : Nat} : eqL n n V W = eqTo V W n := by unfold eqL; rw [beq_self_eq_true]; rfl
theorem eqTo_iff {V W : Nat → Int} {n : Nat} : eqTo V W n = true ↔ ∀ i, i < n → V i = W i := by
  induction n with
  | zero => exact ⟨fun _ i hi => absurd hi (Nat.not_lt_zero _), fun _ => rfl⟩
  | succ m ih =>
    show (eqTo V W m && (V m == W m)) = true ↔ _
    rw [Bool.and_eq_true, ih, beq_iff_eq]
    constructor
    · rintro ⟨h1, h2⟩ i hi
      by_cases e : i = m
      · subst e; exact h2
      · exact h1 i (by omega)
    · intro h
      exact ⟨fun i hi => h i (by omega), h m (by omega)⟩
theorem eqL_iff {V W : Nat → Int} {n m : Nat} : eqL n m V W = true ↔ n = m ∧ ∀ i, i < n → V i = W i := by
  unfold eqL; rw [Bool.and_eq_true, beq_iff_eq, eqTo_iff]
theorem equal_any (p q : Option Addr) (n m c f : Nat) (V W : Nat → Int) (w : World) (hp : Row w p n V) (hq : Row w q m W) : Calls Try.prog 29 #[.slice p n c, .slice q m f] w (Quiet (.bool (eqL n m V W)) w) := by
  by_cases hnm : n = m
  · subst hnm
    obtain ⟨hl, h | ⟨b, o, rfl, hb, hc⟩⟩ := hp
    · subst h
      go_enter Try.func29, Try.ntmps29
      go_wp2_with fail
      go_loop [13] (fun i => i = .int .i64 0) (fun _ => 0)
      case atStart => rfl
      case round =>
        obtain rfl := hrel
        go_wp2_with fail
        go_ret
        exact ⟨rfl, 0, rfl⟩
    · obtain ⟨-, h | ⟨b2, o2, rfl, hb2, hc2⟩⟩ := hq
      · subst h
        go_enter Try.func29, Try.ntmps29
        go_wp2_with fail
        go_loop [13] (fun i => i = .int .i64 0) (fun _ => 0)
        case atStart => rfl
        case round =>
          obtain rfl := hrel
          go_wp2_with fail
          go_ret
          exact ⟨rfl, 0, rfl⟩
      rw [eqL_same]
      go_enter Try.func29, Try.ntmps29
      go_wp2_with fail
      go_loopw [13] (fun i wr => ∃ k t : Nat, k ≤ n ∧ i = .int .i64 k ∧ wr = w.drewN t ∧ Hid (eqTo V W k = true)) (fun i _ => n - (intOf i).toNat)
      case atStart => exact ⟨0, 0, Nat.zero_le _, rfl, rfl, Lib.hid rfl⟩
      case round =>
        obtain ⟨k, t, hk, rfl, rfl, HA⟩ := hrel
        rcases Nat.lt_or_ge k n with h | h
        · have e1 := hc.out k h
          have e2 := hc2.out k h
          have c1 : (0 : Int) ≤ (k : Int) := by omega
          have c2 : (k : Int) < (n : Int) := by omega
          have c3 : IntKind.i64.wrap ((k : Int) + 1) = ((k + 1 : Nat) : Int) := by rw [IntKind.wrap_i64]; omega
          cases hi : (V k == W k)
          · have H := Lib.hid hi
            have hx : (V k != W k) = true := by unfold bne; rw [hi]; rfl
            clear hi
            go_wp2_with fail
            go_quiet (fail)
            go_wp2_with fail
            go_ret
            exact ⟨ret_bool (eqTo_end h H.out).symm, _, (by first | rfl | exact World.drewN_drewN _ _ _)⟩
          · have H := Lib.hid hi
            have hx : (V k != W k) = false := by unfold bne; rw [hi]; rfl
            clear hi
            go_wp2_with fail
            go_quiet (fail)
            go_wp2_with fail
            go_roundw
            case rel => exact ⟨k + 1, _, by omega, by go_num, (by first | rfl | exact World.drewN_drewN _ _ _), Lib.hid (eqTo_next HA.out H.out)⟩
            case measure => simp [intOf]; omega
        · obtain rfl : n = k := by omega
          go_wp2_with fail
          go_ret
          exact ⟨ret_bool HA.out.symm, _, rfl⟩
  · have hx : ((n : Int) != (m : Int)) = true := by rw [bne_iff_ne]; omega
    have hx2 : (n != m) = true := by rw [bne_iff_ne]; exact hnm
    have hr : eqL n m V W = false := by unfold eqL; rw [show (n == m) = false from by rw [beq_eq_false_iff_ne]; exact hnm]; rfl
    rw [hr]
    clear hr hp hq
    go_enter Try.func29, Try.ntmps29
    go_wp2_with fail
    go_ret
    exact ⟨rfl, 0, rfl⟩
theorem ints_any (p q : Option Addr) (n m c f : Nat) (V W : Nat → Int) (w : World) (hp : Row w p n V) (hq : Row w q m W) : Calls Try.prog 30 #[.slice p n c, .slice q m f] w (Quiet (.bool (eqL n m V W)) w) := by
  by_cases hnm : n = m
  · subst hnm
    obtain ⟨hl, h | ⟨b, o, rfl, hb, hc⟩⟩ := hp
    · subst h
      go_enter Try.func30, Try.ntmps30
      go_wp2_with fail
      go_loop [5] (fun i => i = .int .i64 0) (fun _ => 0)
      case atStart => rfl
      case round =>
        obtain rfl := hrel
        go_wp2_with fail
        go_ret
        exact ⟨rfl, 0, rfl⟩
    · obtain ⟨-, h | ⟨b2, o2, rfl, hb2, hc2⟩⟩ := hq
      · subst h
        go_enter Try.func30, Try.ntmps30
        go_wp2_with fail
        go_loop [5] (fun i => i = .int .i64 0) (fun _ => 0)
        case atStart => rfl
        case round =>
          obtain rfl := hrel
          go_wp2_with fail
          go_ret
          exact ⟨rfl, 0, rfl⟩
      rw [eqL_same]
      go_enter Try.func30, Try.ntmps30
      go_wp2_with fail
      go_loopw [5] (fun i wr => ∃ k t : Nat, k ≤ n ∧ i = .int .i64 k ∧ wr = w.drewN t ∧ Hid (eqTo V W k = true)) (fun i _ => n - (intOf i).toNat)
      case atStart => exact ⟨0, 0, Nat.zero_le _, rfl, rfl, Lib.hid rfl⟩
      case round =>
        obtain ⟨k, t, hk, rfl, rfl, HA⟩ := hrel
        rcases Nat.lt_or_ge k n with h | h
        · have e1 := hc.out k h
          have e2 := hc2.out k h
          have c1 : (0 : Int) ≤ (k : Int) := by omega
          have c2 : (k : Int) < (n : Int) := by omega
          have c3 : IntKind.i64.wrap ((k : Int) + 1) = ((k + 1 : Nat) : Int) := by rw [IntKind.wrap_i64]; omega
          cases hi : (V k == W k)
          · have H := Lib.hid hi
            have hx : (V k != W k) = true := by unfold bne; rw [hi]; rfl
            clear hi
            go_wp2_with fail
            go_quiet (fail)
            go_wp2_with fail
            go_ret
            exact ⟨ret_bool (eqTo_end h H.out).symm, _, (by first | rfl | exact World.drewN_drewN _ _ _)⟩
          · have H := Lib.hid hi
            have hx : (V k != W k) = false := by unfold bne; rw [hi]; rfl
            clear hi
            go_wp2_with fail
            go_quiet (fail)
            go_wp2_with fail
            go_roundw
            case rel => exact ⟨k + 1, _, by omega, by go_num, (by first | rfl | exact World.drewN_drewN _ _ _), Lib.hid (eqTo_next HA.out H.out)⟩
            case measure => simp [intOf]; omega
        · obtain rfl : n = k := by omega
          go_wp2_with fail
          go_ret
          exact ⟨ret_bool HA.out.symm, _, rfl⟩
  · have hx : ((n : Int) != (m : Int)) = true := by rw [bne_iff_ne]; omega
    have hx2 : (n != m) = true := by rw [bne_iff_ne]; exact hnm
    have hr : eqL n m V W = false := by unfold eqL; rw [show (n == m) = false from by rw [beq_eq_false_iff_ne]; exact hnm]; rfl
    rw [hr]
    clear hr hp hq
    go_enter Try.func30, Try.ntmps30
    go_wp2_with fail
    go_ret
    exact ⟨rfl, 0, rfl⟩
def sameB (x y : Ev) : Bool := (cmpI x y == 0) && ((x.st == y.st) && ((x.k == y.k) && ((x.a == y.a) && ((x.b == y.b) && eqL x.al y.al x.V y.V))))
theorem tieB (x y : Ev) : (cmpI x y == 0) = ((x.t == y.t) && ((x.p == y.p) && ((x.f == y.f) && (x.s == y.s)))) := by
  rw [Bool.eq_iff_iff, beq_iff_eq, cmpI_zero]
  simp only [Bool.and_eq_true, beq_iff_eq]
  exact Iff.rfl
theorem sameR (x y : Ev) : sameB x y = ((x.t == y.t) && ((x.p == y.p) && ((x.f == y.f) && ((x.s == y.s) && ((x.st == y.st) && ((x.k == y.k) && ((x.a == y.a) && ((x.b == y.b) && eqL x.al y.al x.V y.V)))))))) := by
  unfold sameB; rw [tieB]; simp only [Bool.and_assoc]
/-- Two events with the same numbers and the same arguments, wherever these lie. -/
def Eqv (x y : Ev) : Prop := x.t = y.t ∧ x.p = y.p ∧ x.f = y.f ∧ x.s = y.s ∧ x.st = y.st ∧ x.k = y.k ∧ x.a = y.a ∧ x.b = y.b ∧ x.al = y.al ∧ ∀ i, i < x.al → x.V i = y.V i
theorem sameB_iff {x y : Ev} : sameB x y = true ↔ Eqv x y := by
  rw [sameR]
  simp only [Bool.and_eq_true, beq_iff_eq, eqL_iff]
  exact Iff.rfl
theorem Eqv.refl (x : Ev) : Eqv x x := ⟨rfl, rfl, rfl, rfl, rfl, rfl, rfl, rfl, rfl, fun _ _ => rfl⟩
theorem Eqv.symm {x y : Ev} (h : Eqv x y) : Eqv y x := by
  obtain ⟨h0, h1, h2, h3, h4, h5, h6, h7, h8, h9⟩ := h
  exact ⟨h0.symm, h1.symm, h2.symm, h3.symm, h4.symm, h5.symm, h6.symm, h7.symm, h8.symm, fun i hi => (h9 i (by omega)).symm⟩
theorem Eqv.trans {x y z : Ev} (h : Eqv x y) (g : Eqv y z) : Eqv x z := by
  obtain ⟨h0, h1, h2, h3, h4, h5, h6, h7, h8, h9⟩ := h
  obtain ⟨g0, g1, g2, g3, g4, g5, g6, g7, g8, g9⟩ := g
  exact ⟨h0.trans g0, h1.trans g1, h2.trans g2, h3.trans g3, h4.trans g4, h5.trans g5, h6.trans g6, h7.trans g7, h8.trans g8, fun i hi => (h9 i hi).trans (g9 i (by omega))⟩
theorem Eqv.lt {x y x2 y2 : Ev} (h : Eqv x x2) (g : Eqv y y2) : Lt x y ↔ Lt x2 y2 := by
  obtain ⟨h0, h1, h2, h3, -⟩ := h
  obtain ⟨g0, g1, g2, g3, -⟩ := g
  unfold Lt; rw [h0, h1, h2, h3, g0, g1, g2, g3]
theorem Eqv.tie {x y x2 y2 : Ev} (h : Eqv x x2) (g : Eqv y y2) : Tie x y ↔ Tie x2 y2 := by
  obtain ⟨h0, h1, h2, h3, -⟩ := h
  obtain ⟨g0, g1, g2, g3, -⟩ := g
  unfold Tie; rw [h0, h1, h2, h3, g0, g1, g2, g3]
theorem Eqv.toTie {x y : Ev} (h : Eqv x y) : Tie x y := ⟨h.1, h.2.1, h.2.2.1, h.2.2.2.1⟩
theorem same_any (x y : Ev) (w : World) (hx : Row w x.ap x.al x.V) (hy : Row w y.ap y.al y.V) : Calls Try.prog 11 #[.agg #[.int .i64 x.t, .int .i64 x.p, .int .i64 x.f, .int .i64 x.s, .int .i64 x.st, .int .i64 x.k, .int .i64 x.a, .int .i64 x.b, .slice x.ap x.al x.ac], .agg #[.int .i64 y.t, .int .i64 y.p, .int .i64 y.f, .int .i64 y.s, .int .i64 y.st, .int .i64 y.k, .int .i64 y.a, .int .i64 y.b, .slice y.ap y.al y.ac]] w (Gives (.bool (sameB x y)) w) := by
  have A0 : nine ((w.alloc (.cells #[.int .i64 x.t, .int .i64 x.p, .int .i64 x.f, .int .i64 x.s, .int .i64 x.st, .int .i64 x.k, .int .i64 x.a, .int .i64 x.b, .slice x.ap x.al x.ac] 25)).alloc (.cells #[.int .i64 y.t, .int .i64 y.p, .int .i64 y.f, .int .i64 y.s, .int .i64 y.st, .int .i64 y.k, .int .i64 y.a, .int .i64 y.b, .slice y.ap y.al y.ac] 25)) w.heap.size x := nine.new.alloc
  have B0 : nine ((w.alloc (.cells #[.int .i64 x.t, .int .i64 x.p, .int .i64 x.f, .int .i64 x.s, .int .i64 x.st, .int .i64 x.k, .int .i64 x.a, .int .i64 x.b, .slice x.ap x.al x.ac] 25)).alloc (.cells #[.int .i64 y.t, .int .i64 y.p, .int .i64 y.f, .int .i64 y.s, .int .i64 y.st, .int .i64 y.k, .int .i64 y.a, .int .i64 y.b, .slice y.ap y.al y.ac] 25)) (w.alloc (.cells #[.int .i64 x.t, .int .i64 x.p, .int .i64 x.f, .int .i64 x.s, .int .i64 x.st, .int .i64 x.k, .int .i64 x.a, .int .i64 x.b, .slice x.ap x.al x.ac] 25)).heap.size y := nine.new
  rw [show (w.alloc (.cells #[.int .i64 x.t, .int .i64 x.p, .int .i64 x.f, .int .i64 x.s, .int .i64 x.st, .int .i64 x.k, .int .i64 x.a, .int .i64 x.b, .slice x.ap x.al x.ac] 25)).heap.size = w.heap.size + 1 from by simp] at B0
  have hX : Row ((w.alloc (.cells #[.int .i64 x.t, .int .i64 x.p, .int .i64 x.f, .int .i64 x.s, .int .i64 x.st, .int .i64 x.k, .int .i64 x.a, .int .i64 x.b, .slice x.ap x.al x.ac] 25)).alloc (.cells #[.int .i64 y.t, .int .i64 y.p, .int .i64 y.f, .int .i64 y.s, .int .i64 y.st, .int .i64 y.k, .int .i64 y.a, .int .i64 y.b, .slice y.ap y.al y.ac] 25)) x.ap x.al x.V := hx.alloc.alloc
  have hY : Row ((w.alloc (.cells #[.int .i64 x.t, .int .i64 x.p, .int .i64 x.f, .int .i64 x.s, .int .i64 x.st, .int .i64 x.k, .int .i64 x.a, .int .i64 x.b, .slice x.ap x.al x.ac] 25)).alloc (.cells #[.int .i64 y.t, .int .i64 y.p, .int .i64 y.f, .int .i64 y.s, .int .i64 y.st, .int .i64 y.k, .int .i64 y.a, .int .i64 y.b, .slice y.ap y.al y.ac] 25)) y.ap y.al y.V := hy.alloc.alloc
  clear hx hy
  unfold sameB
  cases h0 : (cmpI x y == 0)
  · rw [Bool.false_and]
    obtain ⟨a0, a1, a2, a3, a4, a5, a6, a7, a8, a9⟩ := A0
    have A0 : nine _ _ _ := ⟨a0, a1, a2, a3, a4, a5, a6, a7, a8, a9⟩
    obtain ⟨b0, b1, b2, b3, b4, b5, b6, b7, b8, b9⟩ := B0
    have B0 : nine _ _ _ := ⟨b0, b1, b2, b3, b4, b5, b6, b7, b8, b9⟩
    go_enter Try.func11, Try.ntmps11
    go_wp2_with fail
    refine (compareE_any x y _).mono ?_
    rintro e w1 ⟨rfl, hb1⟩
    have A1 := nine.on hb1 A0
    have B1 := nine.on hb1 B0
    have hX1 := Row.on hb1 hX
    have hY1 := Row.on hb1 hY
    clear a0 a1 a2 a3 a4 a5 a6 a7 a8 a9 b0 b1 b2 b3 b4 b5 b6 b7 b8 b9
    obtain ⟨a0, a1, a2, a3, a4, a5, a6, a7, a8, a9⟩ := A1
    have A1 : nine _ _ _ := ⟨a0, a1, a2, a3, a4, a5, a6, a7, a8, a9⟩
    obtain ⟨b0, b1, b2, b3, b4, b5, b6, b7, b8, b9⟩ := B1
    have B1 : nine _ _ _ := ⟨b0, b1, b2, b3, b4, b5, b6, b7, b8, b9⟩
    go_wp2_with fail
    go_ret
    exact ⟨rfl, by (repeat (first | (with_reducible exact Below.refl _ _) | (with_reducible assumption) | (with_reducible apply bl_alloc) | (with_reducible apply bl_drewN) | (with_reducible apply bl_drew) | (with_reducible refine bl_set ?_ (by first | (simp; done) | (simp; omega)) _) | (with_reducible refine bl_call ?_ (by assumption))))⟩
  rw [Bool.true_and]
  cases h1 : (x.st == y.st)
  · rw [Bool.false_and]
    obtain ⟨a0, a1, a2, a3, a4, a5, a6, a7, a8, a9⟩ := A0
    have A0 : nine _ _ _ := ⟨a0, a1, a2, a3, a4, a5, a6, a7, a8, a9⟩
    obtain ⟨b0, b1, b2, b3, b4, b5, b6, b7, b8, b9⟩ := B0
    have B0 : nine _ _ _ := ⟨b0, b1, b2, b3, b4, b5, b6, b7, b8, b9⟩
    go_enter Try.func11, Try.ntmps11
    go_wp2_with fail
    refine (compareE_any x y _).mono ?_
    rintro e w1 ⟨rfl, hb1⟩
    have A1 := nine.on hb1 A0
    have B1 := nine.on hb1 B0
    have hX1 := Row.on hb1 hX
    have hY1 := Row.on hb1 hY
    clear a0 a1 a2 a3 a4 a5 a6 a7 a8 a9 b0 b1 b2 b3 b4 b5 b6 b7 b8 b9
    obtain ⟨a0, a1, a2, a3, a4, a5, a6, a7, a8, a9⟩ := A1
    have A1 : nine _ _ _ := ⟨a0, a1, a2, a3, a4, a5, a6, a7, a8, a9⟩
    obtain ⟨b0, b1, b2, b3, b4, b5, b6, b7, b8, b9⟩ := B1
    have B1 : nine _ _ _ := ⟨b0, b1, b2, b3, b4, b5, b6, b7, b8, b9⟩
    go_wp2_with fail
    go_ret
    exact ⟨rfl, by (repeat (first | (with_reducible exact Below.refl _ _) | (with_reducible assumption) | (with_reducible apply bl_alloc) | (with_reducible apply bl_drewN) | (with_reducible apply bl_drew) | (with_reducible refine bl_set ?_ (by first | (simp; done) | (simp; omega)) _) | (with_reducible refine bl_call ?_ (by assumption))))⟩
  rw [Bool.true_and]
  cases h2 : (x.k == y.k)
  · rw [Bool.false_and]
    obtain ⟨a0, a1, a2, a3, a4, a5, a6, a7, a8, a9⟩ := A0
    have A0 : nine _ _ _ := ⟨a0, a1, a2, a3, a4, a5, a6, a7, a8, a9⟩
    obtain ⟨b0, b1, b2, b3, b4, b5, b6, b7, b8, b9⟩ := B0
    have B0 : nine _ _ _ := ⟨b0, b1, b2, b3, b4, b5, b6, b7, b8, b9⟩
    go_enter Try.func11, Try.ntmps11
    go_wp2_with fail
    refine (compareE_any x y _).mono ?_
    rintro e w1 ⟨rfl, hb1⟩
    have A1 := nine.on hb1 A0
    have B1 := nine.on hb1 B0
    have hX1 := Row.on hb1 hX
    have hY1 := Row.on hb1 hY
    clear a0 a1 a2 a3 a4 a5 a6 a7 a8 a9 b0 b1 b2 b3 b4 b5 b6 b7 b8 b9
    obtain ⟨a0, a1, a2, a3, a4, a5, a6, a7, a8, a9⟩ := A1
    have A1 : nine _ _ _ := ⟨a0, a1, a2, a3, a4, a5, a6, a7, a8, a9⟩
    obtain ⟨b0, b1, b2, b3, b4, b5, b6, b7, b8, b9⟩ := B1
    have B1 : nine _ _ _ := ⟨b0, b1, b2, b3, b4, b5, b6, b7, b8, b9⟩
    go_wp2_with fail
    go_ret
    exact ⟨rfl, by (repeat (first | (with_reducible exact Below.refl _ _) | (with_reducible assumption) | (with_reducible apply bl_alloc) | (with_reducible apply bl_drewN) | (with_reducible apply bl_drew) | (with_reducible refine bl_set ?_ (by first | (simp; done) | (simp; omega)) _) | (with_reducible refine bl_call ?_ (by assumption))))⟩
  rw [Bool.true_and]
  cases h3 : (x.a == y.a)
  · rw [Bool.false_and]
    obtain ⟨a0, a1, a2, a3, a4, a5, a6, a7, a8, a9⟩ := A0
    have A0 : nine _ _ _ := ⟨a0, a1, a2, a3, a4, a5, a6, a7, a8, a9⟩
    obtain ⟨b0, b1, b2, b3, b4, b5, b6, b7, b8, b9⟩ := B0
    have B0 : nine _ _ _ := ⟨b0, b1, b2, b3, b4, b5, b6, b7, b8, b9⟩
    go_enter Try.func11, Try.ntmps11
    go_wp2_with fail
    refine (compareE_any x y _).mono ?_
    rintro e w1 ⟨rfl, hb1⟩
    have A1 := nine.on hb1 A0
    have B1 := nine.on hb1 B0
    have hX1 := Row.on hb1 hX
    have hY1 := Row.on hb1 hY
    clear a0 a1 a2 a3 a4 a5 a6 a7 a8 a9 b0 b1 b2 b3 b4 b5 b6 b7 b8 b9
    obtain ⟨a0, a1, a2, a3, a4, a5, a6, a7, a8, a9⟩ := A1
    have A1 : nine _ _ _ := ⟨a0, a1, a2, a3, a4, a5, a6, a7, a8, a9⟩
    obtain ⟨b0, b1, b2, b3, b4, b5, b6, b7, b8, b9⟩ := B1
    have B1 : nine _ _ _ := ⟨b0, b1, b2, b3, b4, b5, b6, b7, b8, b9⟩
    go_wp2_with fail
    go_ret
    exact ⟨rfl, by (repeat (first | (with_reducible exact Below.refl _ _) | (with_reducible assumption) | (with_reducible apply bl_alloc) | (with_reducible apply bl_drewN) | (with_reducible apply bl_drew) | (with_reducible refine bl_set ?_ (by first | (simp; done) | (simp; omega)) _) | (with_reducible refine bl_call ?_ (by assumption))))⟩
  rw [Bool.true_and]
  cases h4 : (x.b == y.b)
  · rw [Bool.false_and]
    obtain ⟨a0, a1, a2, a3, a4, a5, a6, a7, a8, a9⟩ := A0
    have A0 : nine _ _ _ := ⟨a0, a1, a2, a3, a4, a5, a6, a7, a8, a9⟩
    obtain ⟨b0, b1, b2, b3, b4, b5, b6, b7, b8, b9⟩ := B0
    have B0 : nine _ _ _ := ⟨b0, b1, b2, b3, b4, b5, b6, b7, b8, b9⟩
    go_enter Try.func11, Try.ntmps11
    go_wp2_with fail
    refine (compareE_any x y _).mono ?_
    rintro e w1 ⟨rfl, hb1⟩
    have A1 := nine.on hb1 A0
    have B1 := nine.on hb1 B0
    have hX1 := Row.on hb1 hX
    have hY1 := Row.on hb1 hY
    clear a0 a1 a2 a3 a4 a5 a6 a7 a8 a9 b0 b1 b2 b3 b4 b5 b6 b7 b8 b9
    obtain ⟨a0, a1, a2, a3, a4, a5, a6, a7, a8, a9⟩ := A1
    have A1 : nine _ _ _ := ⟨a0, a1, a2, a3, a4, a5, a6, a7, a8, a9⟩
    obtain ⟨b0, b1, b2, b3, b4, b5, b6, b7, b8, b9⟩ := B1
    have B1 : nine _ _ _ := ⟨b0, b1, b2, b3, b4, b5, b6, b7, b8, b9⟩
    go_wp2_with fail
    go_ret
    exact ⟨rfl, by (repeat (first | (with_reducible exact Below.refl _ _) | (with_reducible assumption) | (with_reducible apply bl_alloc) | (with_reducible apply bl_drewN) | (with_reducible apply bl_drew) | (with_reducible refine bl_set ?_ (by first | (simp; done) | (simp; omega)) _) | (with_reducible refine bl_call ?_ (by assumption))))⟩
  rw [Bool.true_and]
  obtain ⟨a0, a1, a2, a3, a4, a5, a6, a7, a8, a9⟩ := A0
  have A0 : nine _ _ _ := ⟨a0, a1, a2, a3, a4, a5, a6, a7, a8, a9⟩
  obtain ⟨b0, b1, b2, b3, b4, b5, b6, b7, b8, b9⟩ := B0
  have B0 : nine _ _ _ := ⟨b0, b1, b2, b3, b4, b5, b6, b7, b8, b9⟩
  go_enter Try.func11, Try.ntmps11
  go_wp2_with fail
  refine (compareE_any x y _).mono ?_
  rintro e w1 ⟨rfl, hb1⟩
  have A1 := nine.on hb1 A0
  have B1 := nine.on hb1 B0
  have hX1 := Row.on hb1 hX
  have hY1 := Row.on hb1 hY
  clear a0 a1 a2 a3 a4 a5 a6 a7 a8 a9 b0 b1 b2 b3 b4 b5 b6 b7 b8 b9
  obtain ⟨a0, a1, a2, a3, a4, a5, a6, a7, a8, a9⟩ := A1
  have A1 : nine _ _ _ := ⟨a0, a1, a2, a3, a4, a5, a6, a7, a8, a9⟩
  obtain ⟨b0, b1, b2, b3, b4, b5, b6, b7, b8, b9⟩ := B1
  have B1 : nine _ _ _ := ⟨b0, b1, b2, b3, b4, b5, b6, b7, b8, b9⟩
  go_wp2_with fail
  refine (equal_any x.ap y.ap x.al y.al x.ac y.ac x.V y.V _ hX1 hY1).mono ?_
  rintro e w2 ⟨rfl, t2, rfl⟩
  go_wp2_with fail
  go_ret
  exact ⟨rfl, by (repeat (first | (with_reducible exact Below.refl _ _) | (with_reducible assumption) | (with_reducible apply bl_alloc) | (with_reducible apply bl_drewN) | (with_reducible apply bl_drew) | (with_reducible refine bl_set ?_ (by first | (simp; done) | (simp; omega)) _) | (with_reducible refine bl_call ?_ (by assumption))))⟩
end Go.Proofs.Ytmijjpecgcgkgaa.Ag
