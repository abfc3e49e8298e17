/-
  The law of the constants, walked.
-/
import Derived.Test.YtfkenbdfakjeoaaEAwB
import Derived.Test.YtfkenbdfakjeoaaELaw1
import Derived.Test.YtfkenbdfakjeoaaERSame
namespace Go.Proofs.Ytfkenbdfakjeoaa.Ex
open Go.RowKit
open Go.Proofs.Ytfkenbdfakjeoaa.Na (bs bs_inj chk)
set_option maxHeartbeats 4000000
set_option linter.unusedVariables false
set_option linter.unusedSimpArgs false
def cv (t n : Int) : Int := if t = 2 then 0 else if t = 1 ∨ t = 3 then (if inI n then 0 else 2) else 1
theorem bad_one {c : Bool} {x : Ex} : bad c [x] = ndE c x := by
  unfold bad bad
  split <;> simp_all
theorem cn_int (c : Bool) (n : Int) : ndE c (.mk 1 mE n []) = if inI n then 0 else 2 := by
  cases c <;> cases h : inI n <;> simp [ndE, nd, badF, badR, known, named, numbered, counted, ari, obj, Ex.o, Ex.s, Ex.n, Ex.l, h, mE, bs]
theorem cn_dur (c : Bool) (x : Ex) : ndE c (.mk 7 mE 0 [x]) = 0 := by
  cases c <;> simp [ndE, nd, badF, badR, known, named, numbered, counted, ari, obj, Ex.o, Ex.s, Ex.n, Ex.l, mE, bs]
theorem cn_bool (c : Bool) (n : Int) : ndE c (.mk 2 mE (b01 n) []) = 0 := by
  unfold b01
  cases c <;> by_cases h : n = 0 <;> simp [ndE, nd, badF, badR, known, named, numbered, counted, ari, obj, Ex.o, Ex.s, Ex.n, Ex.l, mE, bs, h]
theorem cn_zero (c : Bool) : ndE c (.mk 0 mE 0 []) = 1 := by
  cases c <;> simp [ndE, nd, badF, badR, known, named, numbered, counted, ari, obj, Ex.o, Ex.s, Ex.n, Ex.l, mE, bs]
theorem chk_leaf (c : Bool) (o n : Int) (s : ByteArray) : chkE c (.mk o s n []) = ndE c (.mk o s n []) := by
  unfold chkE
  rw [cnt_one, depth_one, cntL, depL, if_neg (by decide), if_neg (by decide), pre_one, preL, bad_one]
theorem chk_cnst (c : Bool) (t n : Int) : chkE c (cnst t n) = cv t n := by
  unfold cnst cv
  by_cases h1 : t = 1
  · subst h1
    rw [if_pos rfl, if_neg (by decide), if_pos (.inl rfl), chk_leaf, cn_int]
  by_cases h2 : t = 2
  · rw [if_neg h1, if_pos h2, if_pos h2, chk_leaf, cn_bool]
  by_cases h3 : t = 3
  · rw [if_neg h1, if_neg h2, if_pos h3, if_neg h2, if_pos (.inr h3)]
    unfold chkE
    rw [cnt_one, depth_one]
    simp only [cntL, depL, cnt_one, depth_one]
    rw [if_neg (by decide), if_neg (by decide), pre_one, preL, preL, pre_one, preL, List.append_nil, bad_yes (cn_dur c _), bad_one, cn_int]
  · rw [if_neg h1, if_neg h2, if_neg h3, if_neg h2, if_neg (by rintro (h | h); exact h1 h; exact h3 h), chk_leaf, cn_zero]
theorem cnst_sz (t n : Int) : Sz (cnst t n) := by
  unfold cnst
  split
  · exact sz_leaf (by decide)
  split
  · exact sz_leaf (by decide)
  split
  · exact sz_one (by decide) (sz_leaf (by decide))
  · exact sz_leaf (by decide)
theorem cnst_cnt (t n : Int) : cnt (cnst t n) ≤ 1000000 := by
  unfold cnst
  split
  · simp only [cnt_one, cntL]; omega
  split
  · simp only [cnt_one, cntL]; omega
  split
  · simp only [cnt_one, cntL]; omega
  · simp only [cnt_one, cntL]; omega
theorem rsame_at {e y : Ex} {b : Bool} (h : same e y = b) {p : Option Addr} {m c : Nat} {p2 : Option Addr} {m2 c2 : Nat} {w : World} (hx : In w e p m) (hy : In w y p2 m2) : Calls Try.prog 21 #[.agg #[.int .i64 e.o, .string e.s, .int .i64 e.n, .slice p m c], .agg #[.int .i64 y.o, .string y.s, .int .i64 y.n, .slice p2 m2 c2]] w (Gives (.bool b) w) := by rw [← h]; exact rsame_any e y p m c p2 m2 c2 w hx hy
set_option maxRecDepth 100000 in
theorem consts_aux (HA : ∀ w, Calls Try.prog 11 #[] w (Gives (.bool true) w)) (t n V : Int) (Z : Ex) (hZ : cnst t n = Z) (h1 : chkE false Z = V) (h2 : chkE true Z = V) (hs : Sz Z) (hc : cnt Z ≤ 1000000)
    (hf : ((t == 2) = true ∧ V = 0) ∨ ((t == 2) = false ∧ (t == 1) = true ∧ decide ((-1000000000000 : Int) ≤ n) = true ∧ decide (n ≤ 1000000000000) = true ∧ V = 0) ∨ ((t == 2) = false ∧ (t == 1) = true ∧ decide ((-1000000000000 : Int) ≤ n) = true ∧ decide (n ≤ 1000000000000) = false ∧ V = 2) ∨ ((t == 2) = false ∧ (t == 1) = true ∧ decide ((-1000000000000 : Int) ≤ n) = false ∧ V = 2) ∨ ((t == 2) = false ∧ (t == 1) = false ∧ (t == 3) = true ∧ decide ((-1000000000000 : Int) ≤ n) = true ∧ decide (n ≤ 1000000000000) = true ∧ V = 0) ∨ ((t == 2) = false ∧ (t == 1) = false ∧ (t == 3) = true ∧ decide ((-1000000000000 : Int) ≤ n) = true ∧ decide (n ≤ 1000000000000) = false ∧ V = 2) ∨ ((t == 2) = false ∧ (t == 1) = false ∧ (t == 3) = true ∧ decide ((-1000000000000 : Int) ≤ n) = false ∧ V = 2) ∨ ((t == 2) = false ∧ (t == 1) = false ∧ (t == 3) = false ∧ V = 1))
    (w : World) : Calls Try.prog 9 #[.int .i64 t, .int .i64 n] w (Gives (.bool true) w) := by
  have HZ := Lib.hid hZ
  have HS := Lib.hid hs
  have HC := Lib.hid hc
  rcases hf with ⟨q1, rfl⟩ | ⟨q1, q2, q3, q4, rfl⟩ | ⟨q1, q2, q3, q4, rfl⟩ | ⟨q1, q2, q3, rfl⟩ | ⟨q1, q2, q3, q4, q5, rfl⟩ | ⟨q1, q2, q3, q4, q5, rfl⟩ | ⟨q1, q2, q3, q4, rfl⟩ | ⟨q1, q2, q3, rfl⟩
  all_goals
    have H1 := Lib.hid h1
    have H2 := Lib.hid h2
    clear h1 h2 hs hc hZ
    go_enter Try.func9, Try.ntmps9
    go_wp2_with fail
    refine (const_at HZ.out _).mono ?_
    rintro e w1 ⟨p1, m1, c1, rfl, hi1, hb1⟩
    have F1 := (var_new (c := c1) hi1).far
    have B1 : Below w.heap.size w (w1.alloc (.cells #[.int .i64 Z.o, .string Z.s, .int .i64 Z.n, .slice p1 m1 c1] 25)) := by (repeat (first | (with_reducible exact Below.refl _ _) | (with_reducible assumption) | (with_reducible apply bl_alloc) | (with_reducible apply bl_drewN) | (with_reducible apply bl_drew) | (with_reducible refine bl_set ?_ (by first | (simp; done) | (simp; omega)) _) | (with_reducible refine bl_call ?_ (by assumption))))
    go_wp2_with fail
    refine (check_at H1.out HS.out HC.out (F1.out _ (Below.refl _ _)).2).mono ?_
    rintro e w2 ⟨rfl, hb2⟩
    obtain ⟨x0, x1, x2, x3⟩ := (F1.out _ hb2).1
    have B2 : Below w.heap.size w w2 := by (repeat (first | (with_reducible exact Below.refl _ _) | (with_reducible assumption) | (with_reducible apply bl_alloc) | (with_reducible apply bl_drewN) | (with_reducible apply bl_drew) | (with_reducible refine bl_set ?_ (by first | (simp; done) | (simp; omega)) _) | (with_reducible refine bl_call ?_ (by assumption))))
    go_wp2_with fail
    refine (code_at H2.out HS.out HC.out (F1.out _ hb2).2).mono ?_
    rintro e w3 ⟨rfl, hb3⟩
    replace F1 := (F1.out w3 (by (repeat (first | (with_reducible exact Below.refl _ _) | (with_reducible assumption) | (with_reducible apply bl_alloc) | (with_reducible apply bl_drewN) | (with_reducible apply bl_drew) | (with_reducible refine bl_set ?_ (by first | (simp; done) | (simp; omega)) _) | (with_reducible refine bl_call ?_ (by assumption)))))).far
    have B3 : Below w.heap.size w w3 := by (repeat (first | (with_reducible exact Below.refl _ _) | (with_reducible assumption) | (with_reducible apply bl_alloc) | (with_reducible apply bl_drewN) | (with_reducible apply bl_drew) | (with_reducible refine bl_set ?_ (by first | (simp; done) | (simp; omega)) _) | (with_reducible refine bl_call ?_ (by assumption))))
    clear x0 x1 x2 x3 hb1 hb2 hb3 B1 B2 hi1
    obtain ⟨x0, x1, x2, x3⟩ := (F1.out _ (Below.refl _ _)).1
    go_upto_region 5 with (fail)
    generalize w1.heap.size = g1 at *
    go_region_held3 (fun w' => w'.cell? ⟨g1, 0, none⟩ = some (.int .i64 Z.o) ∧ w'.cell? ⟨g1, 1, none⟩ = some (.string Z.s) ∧ w'.cell? ⟨g1, 2, none⟩ = some (.int .i64 Z.n) ∧ w'.cell? ⟨g1, 3, none⟩ = some (.slice p1 m1 c1)) (first | (refine box4.seen (F1.out _ ?_).1; (repeat (first | (with_reducible exact Below.refl _ _) | (with_reducible assumption) | (with_reducible apply bl_alloc) | (with_reducible apply bl_drewN) | (with_reducible apply bl_drew) | (with_reducible refine bl_set ?_ (by first | (simp; done) | (simp; omega)) _) | (with_reducible refine bl_call ?_ (by assumption)))); done) | (go_keep; done)) (first
      | (go_at_call 21; refine (rsame_at (same_self Z) (F1.out _ (by (repeat (first | (with_reducible exact Below.refl _ _) | (with_reducible assumption) | (with_reducible apply bl_alloc) | (with_reducible apply bl_drewN) | (with_reducible apply bl_drew) | (with_reducible refine bl_set ?_ (by first | (simp; done) | (simp; omega)) _) | (with_reducible refine bl_call ?_ (by assumption)))))).2 (hi4.on (by (repeat (first | (with_reducible exact Below.refl _ _) | (with_reducible assumption) | (with_reducible apply bl_alloc) | (with_reducible apply bl_drewN) | (with_reducible apply bl_drew) | (with_reducible refine bl_set ?_ (by first | (simp; done) | (simp; omega)) _) | (with_reducible refine bl_call ?_ (by assumption))))))).mono ?_; rintro e w5 ⟨rfl, hb5⟩)
      | (go_at_call 32; refine (rconst_at HZ.out _).mono ?_; rintro e w4 ⟨p4, m4, c4, rfl, hi4, hb4⟩)
      | (go_at_call 11; refine (HA _).mono ?_; rintro e w6 ⟨rfl, hb6⟩))
    all_goals
      go_wp2_with fail
      go_ret
      exact ⟨rfl, by (repeat (first | (with_reducible exact Below.refl _ _) | (with_reducible assumption) | (with_reducible apply bl_alloc) | (with_reducible apply bl_drewN) | (with_reducible apply bl_drew) | (with_reducible refine bl_set ?_ (by first | (simp; done) | (simp; omega)) _) | (with_reducible refine bl_call ?_ (by assumption))))⟩
theorem exprConsts_walk (HA : ∀ w, Calls Try.prog 11 #[] w (Gives (.bool true) w)) (t n : Int) (w : World) : Calls Try.prog 9 #[.int .i64 t, .int .i64 n] w (Gives (.bool true) w) := by
  refine consts_aux HA t n (cv t n) _ rfl (chk_cnst _ _ _) (chk_cnst _ _ _) (cnst_sz _ _) (cnst_cnt _ _) ?_ w
  unfold cv inI
  by_cases h2 : t = 2
  · subst h2; exact .inl ⟨by decide, rfl⟩
  have e2 : (t == 2) = false := beq_eq_false_iff_ne.2 h2
  rw [if_neg h2]
  refine .inr ?_
  by_cases ha : (-1000000000000 : Int) ≤ n <;> by_cases hb : n ≤ (1000000000000 : Int) <;> by_cases h1 : t = 1 <;> by_cases h3 : t = 3 <;> simp [h1, h2, h3, ha, hb] <;> omega
end Go.Proofs.Ytfkenbdfakjeoaa.Ex
