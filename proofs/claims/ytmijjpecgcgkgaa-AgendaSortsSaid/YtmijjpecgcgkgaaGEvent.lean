/-
  The contracts of upTo, inRanges, num.In, of the reference's within and In, and of Event, of the package and of the reference.
-/
import Derived.Test.YtmijjpecgcgkgaaGComp
namespace Go.Proofs.Ytmijjpecgcgkgaa.Ag
open Go.RowKit
set_option maxHeartbeats 2000000
/-- As nine, the address of the arguments given apart. -/
def nineQ (w : World) (g : Nat) (x : Ev) (q : Option Addr) : Prop := w.cell? ⟨g, 0, none⟩ = some (.int .i64 x.t) ∧ w.cell? ⟨g, 1, none⟩ = some (.int .i64 x.p) ∧ w.cell? ⟨g, 2, none⟩ = some (.int .i64 x.f) ∧ w.cell? ⟨g, 3, none⟩ = some (.int .i64 x.s) ∧ w.cell? ⟨g, 4, none⟩ = some (.int .i64 x.st) ∧ w.cell? ⟨g, 5, none⟩ = some (.int .i64 x.k) ∧ w.cell? ⟨g, 6, none⟩ = some (.int .i64 x.a) ∧ w.cell? ⟨g, 7, none⟩ = some (.int .i64 x.b) ∧ w.cell? ⟨g, 8, none⟩ = some (.slice q x.al x.ac) ∧ g < w.heap.size
theorem nineQ.on {w w2 : World} {g : Nat} {x : Ev} {q : Option Addr} (hb : Below w.heap.size w w2) (h : nineQ w g x q) : nineQ w2 g x q := nine.on (x := { x with ap := q }) hb h
theorem nineQ.new {w : World} {x : Ev} {q : Option Addr} : nineQ (w.alloc (.cells #[.int .i64 x.t, .int .i64 x.p, .int .i64 x.f, .int .i64 x.s, .int .i64 x.st, .int .i64 x.k, .int .i64 x.a, .int .i64 x.b, .slice q x.al x.ac] 25)) w.heap.size x q := nine.new (x := { x with ap := q })
def upB (n hi : Int) : Bool := decide (0 ≤ n) && decide (n ≤ hi)
def inI (n : Int) : Bool := decide (-1000000000000 ≤ n) && decide (n ≤ 1000000000000)
def allI (V : Nat → Int) : Nat → Bool
  | 0 => true
  | k + 1 => allI V k && inI (V k)
theorem allI_false {V : Nat → Int} {k n : Nat} (h : allI V k = false) (hk : k ≤ n) : allI V n = false := by
  induction n with
  | zero => obtain rfl : k = 0 := by omega
            exact h
  | succ m ih =>
    by_cases e : k = m + 1
    · subst e; exact h
    · show (allI V m && _) = false
      rw [ih (by omega)]; rfl
theorem allI_end {V : Nat → Int} {k n : Nat} (h : k < n) (h2 : inI (V k) = false) : allI V n = false :=
  allI_false (k := k + 1) (by show (_ && _) = false; rw [h2, Bool.and_false]) h
theorem allI_next {V : Nat → Int} {k : Nat} (h1 : allI V k = true) (h2 : inI (V k) = true) : allI V (k + 1) = true := by
  show (_ && _) = true; rw [h1, h2]; rfl
theorem allI_iff {V : Nat → Int} {n : Nat} : allI V n = true ↔ ∀ i, i < n → inI (V i) = true := by
  induction n with
  | zero => exact ⟨fun _ i hi => absurd hi (Nat.not_lt_zero _), fun _ => rfl⟩
  | succ m ih =>
    show (allI V m && inI (V m)) = true ↔ _
    rw [Bool.and_eq_true, ih]
    constructor
    · rintro ⟨h1, h2⟩ i hi
      by_cases e : i = m
      · subst e; exact h2
      · exact h1 i (by omega)
    · intro h
      exact ⟨fun i hi => h i (by omega), h m (by omega)⟩
theorem upto_any (n hi : Int) (w : World) : Calls Try.prog 44 #[.int .i64 n, .int .i64 hi] w fun e w' => e = .returned (.bool (upB n hi)) ∧ w = w' := by
  by_cases h1 : 0 ≤ n <;> by_cases h2 : n ≤ hi
  all_goals
    go_enter Try.func44, Try.ntmps44
    go_wp2
    go_ret
    exact ⟨ret_bool (by simp [upB, *]), rfl⟩
theorem within_any (n hi : Int) (w : World) : Calls Try.prog 33 #[.int .i64 n, .int .i64 hi] w fun e w' => e = .returned (.bool (upB n hi)) ∧ w = w' := by
  by_cases h1 : 0 ≤ n <;> by_cases h2 : n ≤ hi
  all_goals
    go_enter Try.func33, Try.ntmps33
    go_wp2
    go_ret
    exact ⟨ret_bool (by simp [upB, *]), rfl⟩
theorem in_any (n : Int) (w : World) : Calls Try.prog 32 #[.int .i64 n] w fun e w' => e = .returned (.bool (inI n)) ∧ w = w' := by
  by_cases h1 : -1000000000000 ≤ n <;> by_cases h2 : n ≤ 1000000000000
  all_goals
    go_enter Try.func32, Try.ntmps32
    go_wp2
    go_ret
    exact ⟨ret_bool (by simp [inI, *]), rfl⟩
theorem rin_any (n : Int) (w : World) : Calls Try.prog 34 #[.int .i64 n] w fun e w' => e = .returned (.bool (inI n)) ∧ w = w' := by
  by_cases h1 : -1000000000000 ≤ n <;> by_cases h2 : n ≤ 1000000000000
  all_goals
    go_enter Try.func34, Try.ntmps34
    go_wp2
    go_ret
    exact ⟨ret_bool (by simp [inI, *]), rfl⟩
def rngB (x : Ev) : Bool := upB x.t 1000000000 && (upB x.p 100 && (upB x.f 15 && (upB x.st 15 && (upB x.s 1000000000000 && (upB x.a 1000000000000 && upB x.b 1000000000000)))))
def evE (x : Ev) : Int := if rngB x = true then (if x.k < 1 then 1 else if 5 < x.k then 1 else if 6 < x.al then 6 else if allI x.V x.al = true then 0 else 2) else 2

theorem ranges_q (x : Ev) (q : Option Addr) (w : World) : Calls Try.prog 31 #[.agg #[.int .i64 x.t, .int .i64 x.p, .int .i64 x.f, .int .i64 x.s, .int .i64 x.st, .int .i64 x.k, .int .i64 x.a, .int .i64 x.b, .slice q x.al x.ac]] w (Gives (.bool (rngB x)) w) := by
  have A0 : nineQ (w.alloc (.cells #[.int .i64 x.t, .int .i64 x.p, .int .i64 x.f, .int .i64 x.s, .int .i64 x.st, .int .i64 x.k, .int .i64 x.a, .int .i64 x.b, .slice q x.al x.ac] 25)) w.heap.size x q := nineQ.new
  obtain ⟨a0, a1, a2, a3, a4, a5, a6, a7, a8, a9⟩ := A0
  have A0 : nineQ _ _ _ _ := ⟨a0, a1, a2, a3, a4, a5, a6, a7, a8, a9⟩
  unfold rngB
  cases h0 : upB x.t 1000000000
  · rw [Bool.false_and]
    go_enter Try.func31, Try.ntmps31
    go_wp2_with (go_at_call 44; refine (upto_any _ _ _).mono ?_; rintro e w' ⟨rfl, rfl⟩)
    go_ret
    exact ⟨rfl, by (repeat (first | (with_reducible exact Below.refl _ _) | (with_reducible assumption) | (with_reducible apply bl_alloc) | (with_reducible apply bl_drewN) | (with_reducible apply bl_drew) | (with_reducible refine bl_set ?_ (by first | (simp; done) | (simp; omega)) _) | (with_reducible refine bl_call ?_ (by assumption))))⟩
  rw [Bool.true_and]
  cases h1 : upB x.p 100
  · rw [Bool.false_and]
    go_enter Try.func31, Try.ntmps31
    go_wp2_with (go_at_call 44; refine (upto_any _ _ _).mono ?_; rintro e w' ⟨rfl, rfl⟩)
    go_ret
    exact ⟨rfl, by (repeat (first | (with_reducible exact Below.refl _ _) | (with_reducible assumption) | (with_reducible apply bl_alloc) | (with_reducible apply bl_drewN) | (with_reducible apply bl_drew) | (with_reducible refine bl_set ?_ (by first | (simp; done) | (simp; omega)) _) | (with_reducible refine bl_call ?_ (by assumption))))⟩
  rw [Bool.true_and]
  cases h2 : upB x.f 15
  · rw [Bool.false_and]
    go_enter Try.func31, Try.ntmps31
    go_wp2_with (go_at_call 44; refine (upto_any _ _ _).mono ?_; rintro e w' ⟨rfl, rfl⟩)
    go_ret
    exact ⟨rfl, by (repeat (first | (with_reducible exact Below.refl _ _) | (with_reducible assumption) | (with_reducible apply bl_alloc) | (with_reducible apply bl_drewN) | (with_reducible apply bl_drew) | (with_reducible refine bl_set ?_ (by first | (simp; done) | (simp; omega)) _) | (with_reducible refine bl_call ?_ (by assumption))))⟩
  rw [Bool.true_and]
  cases h3 : upB x.st 15
  · rw [Bool.false_and]
    go_enter Try.func31, Try.ntmps31
    go_wp2_with (go_at_call 44; refine (upto_any _ _ _).mono ?_; rintro e w' ⟨rfl, rfl⟩)
    go_ret
    exact ⟨rfl, by (repeat (first | (with_reducible exact Below.refl _ _) | (with_reducible assumption) | (with_reducible apply bl_alloc) | (with_reducible apply bl_drewN) | (with_reducible apply bl_drew) | (with_reducible refine bl_set ?_ (by first | (simp; done) | (simp; omega)) _) | (with_reducible refine bl_call ?_ (by assumption))))⟩
  rw [Bool.true_and]
  cases h4 : upB x.s 1000000000000
  · rw [Bool.false_and]
    go_enter Try.func31, Try.ntmps31
    go_wp2_with (go_at_call 44; refine (upto_any _ _ _).mono ?_; rintro e w' ⟨rfl, rfl⟩)
    go_ret
    exact ⟨rfl, by (repeat (first | (with_reducible exact Below.refl _ _) | (with_reducible assumption) | (with_reducible apply bl_alloc) | (with_reducible apply bl_drewN) | (with_reducible apply bl_drew) | (with_reducible refine bl_set ?_ (by first | (simp; done) | (simp; omega)) _) | (with_reducible refine bl_call ?_ (by assumption))))⟩
  rw [Bool.true_and]
  cases h5 : upB x.a 1000000000000
  · rw [Bool.false_and]
    go_enter Try.func31, Try.ntmps31
    go_wp2_with (go_at_call 44; refine (upto_any _ _ _).mono ?_; rintro e w' ⟨rfl, rfl⟩)
    go_ret
    exact ⟨rfl, by (repeat (first | (with_reducible exact Below.refl _ _) | (with_reducible assumption) | (with_reducible apply bl_alloc) | (with_reducible apply bl_drewN) | (with_reducible apply bl_drew) | (with_reducible refine bl_set ?_ (by first | (simp; done) | (simp; omega)) _) | (with_reducible refine bl_call ?_ (by assumption))))⟩
  rw [Bool.true_and]
  cases h6 : upB x.b 1000000000000
  · skip
    go_enter Try.func31, Try.ntmps31
    go_wp2_with (go_at_call 44; refine (upto_any _ _ _).mono ?_; rintro e w' ⟨rfl, rfl⟩)
    go_ret
    exact ⟨rfl, by (repeat (first | (with_reducible exact Below.refl _ _) | (with_reducible assumption) | (with_reducible apply bl_alloc) | (with_reducible apply bl_drewN) | (with_reducible apply bl_drew) | (with_reducible refine bl_set ?_ (by first | (simp; done) | (simp; omega)) _) | (with_reducible refine bl_call ?_ (by assumption))))⟩
  go_enter Try.func31, Try.ntmps31
  go_wp2_with (go_at_call 44; refine (upto_any _ _ _).mono ?_; rintro e w' ⟨rfl, rfl⟩)
  go_ret
  exact ⟨rfl, by (repeat (first | (with_reducible exact Below.refl _ _) | (with_reducible assumption) | (with_reducible apply bl_alloc) | (with_reducible apply bl_drewN) | (with_reducible apply bl_drew) | (with_reducible refine bl_set ?_ (by first | (simp; done) | (simp; omega)) _) | (with_reducible refine bl_call ?_ (by assumption))))⟩
theorem evE_rng {x : Ev} (h : rngB x = false) : evE x = 2 := by unfold evE; rw [h]; rfl
theorem evE_k1 {x : Ev} (h : rngB x = true) (h1 : x.k < 1) : evE x = 1 := by unfold evE; rw [if_pos h, if_pos h1]
theorem evE_k2 {x : Ev} (h : rngB x = true) (h1 : ¬ x.k < 1) (h2 : 5 < x.k) : evE x = 1 := by unfold evE; rw [if_pos h, if_neg h1, if_pos h2]
theorem evE_l {x : Ev} (h : rngB x = true) (h1 : ¬ x.k < 1) (h2 : ¬ 5 < x.k) (h3 : 6 < x.al) : evE x = 6 := by unfold evE; rw [if_pos h, if_neg h1, if_neg h2, if_pos h3]
theorem evE_r {x : Ev} (h : rngB x = true) (h1 : ¬ x.k < 1) (h2 : ¬ 5 < x.k) (h3 : ¬ 6 < x.al) : evE x = if allI x.V x.al = true then 0 else 2 := by unfold evE; rw [if_pos h, if_neg h1, if_neg h2, if_neg h3]
theorem evE_a {x : Ev} (h : rngB x = true) (h1 : ¬ x.k < 1) (h2 : ¬ 5 < x.k) (h3 : ¬ 6 < x.al) (h4 : allI x.V x.al = true) : evE x = 0 := by rw [evE_r h h1 h2 h3, if_pos h4]
theorem evE_b {x : Ev} (h : rngB x = true) (h1 : ¬ x.k < 1) (h2 : ¬ 5 < x.k) (h3 : ¬ 6 < x.al) (h4 : allI x.V x.al = false) : evE x = 2 := by rw [evE_r h h1 h2 h3, if_neg (by rw [h4]; decide)]
theorem event_q (x : Ev) (q : Option Addr) (w : World) (hx : Row w q x.al x.V) : Calls Try.prog 14 #[.agg #[.int .i64 x.t, .int .i64 x.p, .int .i64 x.f, .int .i64 x.s, .int .i64 x.st, .int .i64 x.k, .int .i64 x.a, .int .i64 x.b, .slice q x.al x.ac]] w (Gives (.int .i64 (evE x)) w) := by
  have A0 : nineQ (w.alloc (.cells #[.int .i64 x.t, .int .i64 x.p, .int .i64 x.f, .int .i64 x.s, .int .i64 x.st, .int .i64 x.k, .int .i64 x.a, .int .i64 x.b, .slice q x.al x.ac] 25)) w.heap.size x q := nineQ.new
  have hX : Row (w.alloc (.cells #[.int .i64 x.t, .int .i64 x.p, .int .i64 x.f, .int .i64 x.s, .int .i64 x.st, .int .i64 x.k, .int .i64 x.a, .int .i64 x.b, .slice q x.al x.ac] 25)) q x.al x.V := hx.alloc
  clear hx
  cases hr : rngB x
  · rw [evE_rng hr]
    have HR := Lib.hid hr
    clear hr
    obtain ⟨a0, a1, a2, a3, a4, a5, a6, a7, a8, a9⟩ := A0
    have A0 : nineQ _ _ _ _ := ⟨a0, a1, a2, a3, a4, a5, a6, a7, a8, a9⟩
    go_enter Try.func14, Try.ntmps14
    go_wp2_with fail
    refine (ranges_q x q _).mono ?_
    rintro e w1 ⟨rfl, hb1⟩
    rw [HR.out]
    have A1 := nineQ.on hb1 A0
    have hX1 := Row.on hb1 hX
    clear a0 a1 a2 a3 a4 a5 a6 a7 a8 a9
    obtain ⟨a0, a1, a2, a3, a4, a5, a6, a7, a8, a9⟩ := A1
    have A1 : nineQ _ _ _ _ := ⟨a0, a1, a2, a3, a4, a5, a6, a7, a8, a9⟩
    go_wp2_with fail
    go_ret
    exact ⟨rfl, by (repeat (first | (with_reducible exact Below.refl _ _) | (with_reducible assumption) | (with_reducible apply bl_alloc) | (with_reducible apply bl_drewN) | (with_reducible apply bl_drew) | (with_reducible refine bl_set ?_ (by first | (simp; done) | (simp; omega)) _) | (with_reducible refine bl_call ?_ (by assumption))))⟩
  have HR := Lib.hid hr
  clear hr
  by_cases k1 : x.k < 1
  · rw [evE_k1 HR.out k1]
    obtain ⟨a0, a1, a2, a3, a4, a5, a6, a7, a8, a9⟩ := A0
    have A0 : nineQ _ _ _ _ := ⟨a0, a1, a2, a3, a4, a5, a6, a7, a8, a9⟩
    go_enter Try.func14, Try.ntmps14
    go_wp2_with fail
    refine (ranges_q x q _).mono ?_
    rintro e w1 ⟨rfl, hb1⟩
    rw [HR.out]
    have A1 := nineQ.on hb1 A0
    have hX1 := Row.on hb1 hX
    clear a0 a1 a2 a3 a4 a5 a6 a7 a8 a9
    obtain ⟨a0, a1, a2, a3, a4, a5, a6, a7, a8, a9⟩ := A1
    have A1 : nineQ _ _ _ _ := ⟨a0, a1, a2, a3, a4, a5, a6, a7, a8, a9⟩
    go_wp2_with fail
    go_ret
    exact ⟨rfl, by (repeat (first | (with_reducible exact Below.refl _ _) | (with_reducible assumption) | (with_reducible apply bl_alloc) | (with_reducible apply bl_drewN) | (with_reducible apply bl_drew) | (with_reducible refine bl_set ?_ (by first | (simp; done) | (simp; omega)) _) | (with_reducible refine bl_call ?_ (by assumption))))⟩
  by_cases k2 : 5 < x.k
  · rw [evE_k2 HR.out k1 k2]
    obtain ⟨a0, a1, a2, a3, a4, a5, a6, a7, a8, a9⟩ := A0
    have A0 : nineQ _ _ _ _ := ⟨a0, a1, a2, a3, a4, a5, a6, a7, a8, a9⟩
    go_enter Try.func14, Try.ntmps14
    go_wp2_with fail
    refine (ranges_q x q _).mono ?_
    rintro e w1 ⟨rfl, hb1⟩
    rw [HR.out]
    have A1 := nineQ.on hb1 A0
    have hX1 := Row.on hb1 hX
    clear a0 a1 a2 a3 a4 a5 a6 a7 a8 a9
    obtain ⟨a0, a1, a2, a3, a4, a5, a6, a7, a8, a9⟩ := A1
    have A1 : nineQ _ _ _ _ := ⟨a0, a1, a2, a3, a4, a5, a6, a7, a8, a9⟩
    go_wp2_with fail
    go_ret
    exact ⟨rfl, by (repeat (first | (with_reducible exact Below.refl _ _) | (with_reducible assumption) | (with_reducible apply bl_alloc) | (with_reducible apply bl_drewN) | (with_reducible apply bl_drew) | (with_reducible refine bl_set ?_ (by first | (simp; done) | (simp; omega)) _) | (with_reducible refine bl_call ?_ (by assumption))))⟩
  by_cases hl : 6 < x.al
  · rw [evE_l HR.out k1 k2 hl]
    have hl2 : (6 : Int) < (x.al : Int) := by omega
    obtain ⟨a0, a1, a2, a3, a4, a5, a6, a7, a8, a9⟩ := A0
    have A0 : nineQ _ _ _ _ := ⟨a0, a1, a2, a3, a4, a5, a6, a7, a8, a9⟩
    go_enter Try.func14, Try.ntmps14
    go_wp2_with fail
    refine (ranges_q x q _).mono ?_
    rintro e w1 ⟨rfl, hb1⟩
    rw [HR.out]
    have A1 := nineQ.on hb1 A0
    have hX1 := Row.on hb1 hX
    clear a0 a1 a2 a3 a4 a5 a6 a7 a8 a9
    obtain ⟨a0, a1, a2, a3, a4, a5, a6, a7, a8, a9⟩ := A1
    have A1 : nineQ _ _ _ _ := ⟨a0, a1, a2, a3, a4, a5, a6, a7, a8, a9⟩
    go_wp2_with fail
    go_ret
    exact ⟨rfl, by (repeat (first | (with_reducible exact Below.refl _ _) | (with_reducible assumption) | (with_reducible apply bl_alloc) | (with_reducible apply bl_drewN) | (with_reducible apply bl_drew) | (with_reducible refine bl_set ?_ (by first | (simp; done) | (simp; omega)) _) | (with_reducible refine bl_call ?_ (by assumption))))⟩
  have hl2 : (x.al : Int) ≤ 6 := by omega
  have EA := fun h => Lib.hid (evE_a HR.out k1 k2 hl h)
  have EB := fun h => Lib.hid (evE_b HR.out k1 k2 hl h)
  have HE := Lib.hid (rfl : evE x = evE x)
  generalize evE x = E at EA EB ⊢
  have EA := Lib.hid EA
  have EB := Lib.hid EB
  obtain ⟨a0, a1, a2, a3, a4, a5, a6, a7, a8, a9⟩ := A0
  have A0 : nineQ _ _ _ _ := ⟨a0, a1, a2, a3, a4, a5, a6, a7, a8, a9⟩
  go_enter Try.func14, Try.ntmps14
  go_wp2_with fail
  refine (ranges_q x q _).mono ?_
  rintro e w1 ⟨rfl, hb1⟩
  rw [HR.out]
  have A1 := nineQ.on hb1 A0
  have hX1 := Row.on hb1 hX
  clear a0 a1 a2 a3 a4 a5 a6 a7 a8 a9
  obtain ⟨a0, a1, a2, a3, a4, a5, a6, a7, a8, a9⟩ := A1
  have A1 : nineQ _ _ _ _ := ⟨a0, a1, a2, a3, a4, a5, a6, a7, a8, a9⟩
  go_wp2_with fail
  obtain ⟨hln, h | ⟨b, o, rfl, hb, hc⟩⟩ := hX1
  · go_loop [26] (fun i => i = .int .i64 0) (fun _ => 0)
    case atStart => rfl
    case round =>
      obtain rfl := hrel
      have hz : ((x.al : Nat) : Int) = 0 := by omega
      have hz2 : E = 0 := (EA.out (by rw [h]; rfl)).out
      subst hz2
      clear h hln
      go_wp2_with fail
      go_ret
      exact ⟨rfl, by (repeat (first | (with_reducible exact Below.refl _ _) | (with_reducible assumption) | (with_reducible apply bl_alloc) | (with_reducible apply bl_drewN) | (with_reducible apply bl_drew) | (with_reducible refine bl_set ?_ (by first | (simp; done) | (simp; omega)) _) | (with_reducible refine bl_call ?_ (by assumption))))⟩
  · go_loop [26] (fun i => ∃ k : Nat, k ≤ x.al ∧ i = .int .i64 k ∧ Hid (allI x.V k = true)) (fun i => x.al - (intOf i).toNat)
    case atStart => exact ⟨0, Nat.zero_le _, rfl, Lib.hid rfl⟩
    case round =>
      obtain ⟨k, hk, rfl, HA⟩ := hrel
      rcases Nat.lt_or_ge k x.al with h | h
      · have e1 := hc.out k h
        have c1 : (0 : Int) ≤ (k : Int) := by omega
        have c2 : (k : Int) < (x.al : Int) := by omega
        cases hi : inI (x.V k)
        · have H := Lib.hid hi
          have hz : E = 2 := (EB.out (allI_end h hi)).out
          subst hz
          clear hi
          go_wp2_with fail
          refine (in_any _ _).mono ?_
          rintro e w1 ⟨rfl, rfl⟩
          rw [H.out]
          go_wp2_with fail
          go_ret
          exact ⟨rfl, by (repeat (first | (with_reducible exact Below.refl _ _) | (with_reducible assumption) | (with_reducible apply bl_alloc) | (with_reducible apply bl_drewN) | (with_reducible apply bl_drew) | (with_reducible refine bl_set ?_ (by first | (simp; done) | (simp; omega)) _) | (with_reducible refine bl_call ?_ (by assumption))))⟩
        · have H := Lib.hid hi
          clear hi
          go_wp2_with fail
          refine (in_any _ _).mono ?_
          rintro e w1 ⟨rfl, rfl⟩
          rw [H.out]
          go_wp2_with fail
          go_round
          case rel => exact ⟨k + 1, by omega, by go_num, Lib.hid (allI_next HA.out H.out)⟩
          case measure => simp [intOf]; omega
      · have hz : E = 0 := (EA.out (by rw [show x.al = k by omega]; exact HA.out)).out
        subst hz
        have c2 : (x.al : Int) ≤ (k : Int) := by omega
        go_wp2_with fail
        go_ret
        exact ⟨rfl, by (repeat (first | (with_reducible exact Below.refl _ _) | (with_reducible assumption) | (with_reducible apply bl_alloc) | (with_reducible apply bl_drewN) | (with_reducible apply bl_drew) | (with_reducible refine bl_set ?_ (by first | (simp; done) | (simp; omega)) _) | (with_reducible refine bl_call ?_ (by assumption))))⟩
theorem event_any (x : Ev) (w : World) (hx : Row w x.ap x.al x.V) : Calls Try.prog 14 #[.agg #[.int .i64 x.t, .int .i64 x.p, .int .i64 x.f, .int .i64 x.s, .int .i64 x.st, .int .i64 x.k, .int .i64 x.a, .int .i64 x.b, .slice x.ap x.al x.ac]] w (Gives (.int .i64 (evE x)) w) := event_q x x.ap w hx
end Go.Proofs.Ytmijjpecgcgkgaa.Ag
