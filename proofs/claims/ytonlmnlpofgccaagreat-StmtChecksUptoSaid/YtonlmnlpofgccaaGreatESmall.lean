/-
  The contracts of the small functions of the program and of the reference: which form has which parts, what is in range.
-/
import Derived.Test.YtonlmnlpofgccaaGreatEBase
namespace Go.Proofs.YtonlmnlpofgccaaGreat.Ex
open Go.RowKit
open Go.Proofs.YtonlmnlpofgccaaGreat.Na (bs bs_inj chk)
set_option maxHeartbeats 1000000
set_option linter.unusedVariables false
set_option linter.unusedSimpArgs false
theorem arity_any (o : Int) (w : World) : Calls Tryz.prog 102 #[.int .i64 o] w fun e w' => e = .returned (.int .i64 (ari o)) ∧ w' = w := by
  unfold ari
  by_cases h1 : o < 1 ∨ 26 < o
  · rw [if_pos h1]
    by_cases g : o < 1
    · clear h1
      go_enter Tryz.func102, Tryz.ntmps102
      go_wp2_with fail
      go_ret
      exact ⟨rfl, rfl⟩
    · have g1 : 26 < o := by omega
      have g2 : 1 ≤ o := by omega
      clear h1 g
      go_enter Tryz.func102, Tryz.ntmps102
      go_wp2_with fail
      go_ret
      exact ⟨rfl, rfl⟩
  · rw [if_neg h1]
    have a1 : 1 ≤ o := by omega
    have a2 : o ≤ 26 := by omega
    clear h1
    by_cases h2 : 5 ≤ o ∧ o ≤ 8
    · rw [if_pos h2]
      obtain ⟨g1, g2⟩ := h2
      go_enter Tryz.func102, Tryz.ntmps102
      go_wp2_with fail
      go_ret
      exact ⟨rfl, rfl⟩
    · rw [if_neg h2]
      by_cases h3 : 9 ≤ o ∧ o ≤ 21
      · rw [if_pos h3]
        obtain ⟨g1, g2⟩ := h3
        have g3 : 8 < o := by omega
        have g4 : 5 ≤ o := by omega
        clear h2
        go_enter Tryz.func102, Tryz.ntmps102
        go_wp2_with fail
        go_ret
        exact ⟨rfl, rfl⟩
      · rw [if_neg h3]
        by_cases h4 : o < 5
        · have g1 : o < 9 := by omega
          clear h2 h3
          go_enter Tryz.func102, Tryz.ntmps102
          go_wp2_with fail
          go_ret
          exact ⟨rfl, rfl⟩
        · have g1 : 5 ≤ o := by omega
          have g2 : 8 < o := by omega
          have g3 : 9 ≤ o := by omega
          have g4 : 21 < o := by omega
          clear h2 h3 h4
          go_enter Tryz.func102, Tryz.ntmps102
          go_wp2_with fail
          go_ret
          exact ⟨rfl, rfl⟩
theorem object_any (o : Int) (w : World) : Calls Tryz.prog 103 #[.int .i64 o] w fun e w' => e = .returned (.bool (obj o)) ∧ w' = w := by
  unfold obj
  by_cases h1 : 22 ≤ o
  · by_cases h2 : o ≤ 24
    · rw [decide_eq_true h1, decide_eq_true h2]
      go_enter Tryz.func103, Tryz.ntmps103
      go_wp2_with fail
      go_ret
      exact ⟨rfl, rfl⟩
    · rw [decide_eq_true h1, decide_eq_false h2]
      have h3 : 24 < o := by omega
      go_enter Tryz.func103, Tryz.ntmps103
      go_wp2_with fail
      go_ret
      exact ⟨rfl, rfl⟩
  · rw [decide_eq_false h1, Bool.false_and]
    have h3 : o < 22 := by omega
    go_enter Tryz.func103, Tryz.ntmps103
    go_wp2_with fail
    go_ret
    exact ⟨rfl, rfl⟩
theorem most_any (o : Int) (w : World) : Calls Tryz.prog 105 #[.int .i64 o] w fun e w' => e = .returned (.int .i64 (most o)) ∧ w' = w := by
  unfold most
  by_cases h1 : o = 25
  · subst h1
    go_enter Tryz.func105, Tryz.ntmps105
    go_wp2_with fail
    go_ret
    exact ⟨rfl, rfl⟩
  · rw [if_neg h1]
    have t1 : (o == 25) = false := beq_eq_false_iff_ne.2 h1
    by_cases h2 : o = 26
    · subst h2
      go_enter Tryz.func105, Tryz.ntmps105
      go_wp2_with fail
      go_ret
      exact ⟨rfl, rfl⟩
    · rw [if_neg h2]
      have t2 : (o == 26) = false := beq_eq_false_iff_ne.2 h2
      clear h1 h2
      go_enter Tryz.func105, Tryz.ntmps105
      go_wp2_with fail
      go_ret
      exact ⟨rfl, rfl⟩
theorem rin_any (n : Int) (w : World) : Calls Tryz.prog 104 #[.int .i64 n] w fun e w' => e = .returned (.bool (inI n)) ∧ w' = w := by
  unfold inI
  by_cases h1 : -1000000000000 ≤ n
  · by_cases h2 : n ≤ 1000000000000
    · rw [decide_eq_true h1, decide_eq_true h2]
      go_enter Tryz.func104, Tryz.ntmps104
      go_wp2_with fail
      go_ret
      exact ⟨rfl, rfl⟩
    · rw [decide_eq_true h1, decide_eq_false h2]
      have h3 : 1000000000000 < n := by omega
      go_enter Tryz.func104, Tryz.ntmps104
      go_wp2_with fail
      go_ret
      exact ⟨rfl, rfl⟩
  · rw [decide_eq_false h1, Bool.false_and]
    have h3 : n < -1000000000000 := by omega
    go_enter Tryz.func104, Tryz.ntmps104
    go_wp2_with fail
    go_ret
    exact ⟨rfl, rfl⟩
theorem in_any (n : Int) (w : World) : Calls Tryz.prog 98 #[.int .i64 n] w fun e w' => e = .returned (.bool (inI n)) ∧ w' = w := by
  unfold inI
  by_cases h1 : -1000000000000 ≤ n
  · by_cases h2 : n ≤ 1000000000000
    · rw [decide_eq_true h1, decide_eq_true h2]
      go_enter Tryz.func98, Tryz.ntmps98
      go_wp2_with fail
      go_ret
      exact ⟨rfl, rfl⟩
    · rw [decide_eq_true h1, decide_eq_false h2]
      have h3 : 1000000000000 < n := by omega
      go_enter Tryz.func98, Tryz.ntmps98
      go_wp2_with fail
      go_ret
      exact ⟨rfl, rfl⟩
  · rw [decide_eq_false h1, Bool.false_and]
    have h3 : n < -1000000000000 := by omega
    go_enter Tryz.func98, Tryz.ntmps98
    go_wp2_with fail
    go_ret
    exact ⟨rfl, rfl⟩
def idx (n z : Int) : Bool := decide (0 ≤ n) && decide (n < z)
theorem index_any (n z : Int) (w : World) : Calls Tryz.prog 99 #[.int .i64 n, .int .i64 z] w fun e w' => e = .returned (.bool (idx n z)) ∧ w' = w := by
  unfold idx
  by_cases h1 : 0 ≤ n
  · by_cases h2 : n < z
    · rw [decide_eq_true h1, decide_eq_true h2]
      go_enter Tryz.func99, Tryz.ntmps99
      go_wp2_with fail
      go_ret
      exact ⟨rfl, rfl⟩
    · rw [decide_eq_true h1, decide_eq_false h2]
      have h3 : z ≤ n := by omega
      go_enter Tryz.func99, Tryz.ntmps99
      go_wp2_with fail
      go_ret
      exact ⟨rfl, rfl⟩
  · rw [decide_eq_false h1, Bool.false_and]
    have h3 : n < 0 := by omega
    go_enter Tryz.func99, Tryz.ntmps99
    go_wp2_with fail
    go_ret
    exact ⟨rfl, rfl⟩
/-- What the nodes of a form use: parts, a name, a number; and whether the form is permitted. -/
def usK (o : Int) : Int := if 5 ≤ o ∧ o ≤ 8 then 1 else if 9 ≤ o ∧ o ≤ 21 then 2 else 0
theorem form_cases (o : Int) : (o = 1 ∨ o = 2 ∨ o = 3 ∨ o = 4 ∨ o = 5 ∨ o = 6 ∨ o = 7 ∨ o = 8 ∨ o = 9 ∨ o = 10 ∨ o = 11 ∨ o = 12 ∨ o = 13 ∨ o = 14 ∨ o = 15 ∨ o = 16 ∨ o = 17 ∨ o = 18 ∨ o = 19 ∨ o = 20 ∨ o = 21 ∨ o = 22 ∨ o = 23 ∨ o = 24 ∨ o = 25 ∨ o = 26) ∨ (o < 1 ∨ 26 < o) := by omega
def usN (c : Bool) (o : Int) : Bool := decide (o = 3) || !c && obj o
def usB (c : Bool) (o : Int) : Bool := decide (o = 1) || decide (o = 2) || c && obj o || decide (o = 25) || decide (o = 26)
def usV (c : Bool) (o : Int) : Value := .tuple #[.agg #[.int .i64 (usK o), .bool (usN c o), .bool (usB c o)], .bool (known c o)]
set_option maxRecDepth 100000 in
theorem usage_any (c : Bool) (o : Int) (w : World) : Calls Tryz.prog 91 #[.int .i64 o, .bool c] w (Gives (usV c o) w) := by
  rcases form_cases o with h | h
  · rcases h with rfl | rfl | rfl | rfl | rfl | rfl | rfl | rfl | rfl | rfl | rfl | rfl | rfl | rfl | rfl | rfl | rfl | rfl | rfl | rfl | rfl | rfl | rfl | rfl | rfl | rfl
    all_goals
      cases c <;>
      · go_enter Tryz.func91, Tryz.ntmps91
        go_wp2_with fail
        exact bodyPost_ret (v := usV _ _) (by simp [results, Tryz.results91, go_sem, usV, usK, usN, usB, known, ari, obj]) rfl ⟨rfl, by (repeat (first | (with_reducible exact Below.refl _ _) | (with_reducible assumption) | (with_reducible apply bl_alloc) | (with_reducible apply bl_drewN) | (with_reducible apply bl_drew) | (with_reducible refine bl_set ?_ (by first | (simp; done) | (simp; omega)) _) | (with_reducible refine bl_call ?_ (by assumption))))⟩
  · have hk : known c o = false := by unfold known ari; rw [if_pos h]; rfl
    have hn : usN c o = false := by unfold usN obj; rw [decide_eq_false (by omega : ¬ o = 3)]; rcases h with h | h <;> simp <;> omega
    have hc : usB c o = false := by unfold usB obj; rcases h with h | h <;> simp <;> omega
    have hu : usK o = 0 := by unfold usK; rw [if_neg (by omega), if_neg (by omega)]
    have HV : Hid (usV c o = .tuple #[.agg #[.int .i64 0, .bool false, .bool false], .bool false]) := Lib.hid (by unfold usV; rw [hk, hn, hc, hu])
    have t1 : (o == 1) = false := beq_eq_false_iff_ne.2 (by omega)
    have t2 : (o == 2) = false := beq_eq_false_iff_ne.2 (by omega)
    have t3 : (o == 3) = false := beq_eq_false_iff_ne.2 (by omega)
    have t4 : (o == 4) = false := beq_eq_false_iff_ne.2 (by omega)
    have t5 : (o == 5) = false := beq_eq_false_iff_ne.2 (by omega)
    have t6 : (o == 6) = false := beq_eq_false_iff_ne.2 (by omega)
    have t7 : (o == 7) = false := beq_eq_false_iff_ne.2 (by omega)
    have t8 : (o == 8) = false := beq_eq_false_iff_ne.2 (by omega)
    have t9 : (o == 9) = false := beq_eq_false_iff_ne.2 (by omega)
    have t10 : (o == 10) = false := beq_eq_false_iff_ne.2 (by omega)
    have t11 : (o == 11) = false := beq_eq_false_iff_ne.2 (by omega)
    have t12 : (o == 12) = false := beq_eq_false_iff_ne.2 (by omega)
    have t13 : (o == 13) = false := beq_eq_false_iff_ne.2 (by omega)
    have t14 : (o == 14) = false := beq_eq_false_iff_ne.2 (by omega)
    have t15 : (o == 15) = false := beq_eq_false_iff_ne.2 (by omega)
    have t16 : (o == 16) = false := beq_eq_false_iff_ne.2 (by omega)
    have t17 : (o == 17) = false := beq_eq_false_iff_ne.2 (by omega)
    have t18 : (o == 18) = false := beq_eq_false_iff_ne.2 (by omega)
    have t19 : (o == 19) = false := beq_eq_false_iff_ne.2 (by omega)
    have t20 : (o == 20) = false := beq_eq_false_iff_ne.2 (by omega)
    have t21 : (o == 21) = false := beq_eq_false_iff_ne.2 (by omega)
    have t22 : (o == 22) = false := beq_eq_false_iff_ne.2 (by omega)
    have t23 : (o == 23) = false := beq_eq_false_iff_ne.2 (by omega)
    have t24 : (o == 24) = false := beq_eq_false_iff_ne.2 (by omega)
    have t25 : (o == 25) = false := beq_eq_false_iff_ne.2 (by omega)
    have t26 : (o == 26) = false := beq_eq_false_iff_ne.2 (by omega)
    clear hk hn hc hu h
    rw [HV.out]
    go_enter Tryz.func91, Tryz.ntmps91
    go_wp2_with fail
    exact bodyPost_ret (v := .tuple #[.agg #[.int .i64 0, .bool false, .bool false], .bool false]) (by simp [results, Tryz.results91, go_sem]) rfl ⟨rfl, by (repeat (first | (with_reducible exact Below.refl _ _) | (with_reducible assumption) | (with_reducible apply bl_alloc) | (with_reducible apply bl_drewN) | (with_reducible apply bl_drew) | (with_reducible refine bl_set ?_ (by first | (simp; done) | (simp; omega)) _) | (with_reducible refine bl_call ?_ (by assumption))))⟩
/-- What inRange says. -/
def rgV (o n : Int) : Bool := if o = 1 then inI n else if o = 2 then idx n 2 else if obj o then idx n 64 else if o = 25 then idx n 16 else if o = 26 then idx n 32 else true
theorem rg_else {o n : Int} (h1 : ¬ o = 1) (h2 : ¬ o = 2) (h3 : ¬ o = 22) (h4 : ¬ o = 23) (h5 : ¬ o = 24) (h6 : ¬ o = 25) (h7 : ¬ o = 26) : rgV o n = true := by
  unfold rgV
  rw [if_neg h1, if_neg h2, if_neg (by unfold obj; simp; omega), if_neg h6, if_neg h7]
set_option maxRecDepth 100000 in
theorem range_any (o : Int) (s : ByteArray) (n : Int) (p : Option Addr) (m c : Nat) (w : World) : Calls Tryz.prog 92 #[.agg #[.int .i64 o, .string s, .int .i64 n, .slice p m c]] w (Gives (.bool (rgV o n)) w) := by
  by_cases h1 : o = 1
  · subst h1
    go_enter Tryz.func92, Tryz.ntmps92
    go_wp2_with fail
    refine (in_any n _).mono ?_
    rintro e w1 ⟨rfl, rfl⟩
    go_wp2_with fail
    go_ret
    exact ⟨rfl, by (repeat (first | (with_reducible exact Below.refl _ _) | (with_reducible assumption) | (with_reducible apply bl_alloc) | (with_reducible apply bl_drewN) | (with_reducible apply bl_drew) | (with_reducible refine bl_set ?_ (by first | (simp; done) | (simp; omega)) _) | (with_reducible refine bl_call ?_ (by assumption))))⟩
  by_cases h2 : o = 2
  · subst h2
    go_enter Tryz.func92, Tryz.ntmps92
    go_wp2_with fail
    refine (index_any n 2 _).mono ?_
    rintro e w1 ⟨rfl, rfl⟩
    go_wp2_with fail
    go_ret
    exact ⟨rfl, by (repeat (first | (with_reducible exact Below.refl _ _) | (with_reducible assumption) | (with_reducible apply bl_alloc) | (with_reducible apply bl_drewN) | (with_reducible apply bl_drew) | (with_reducible refine bl_set ?_ (by first | (simp; done) | (simp; omega)) _) | (with_reducible refine bl_call ?_ (by assumption))))⟩
  by_cases h3 : o = 22
  · subst h3
    go_enter Tryz.func92, Tryz.ntmps92
    go_wp2_with fail
    refine (index_any n 64 _).mono ?_
    rintro e w1 ⟨rfl, rfl⟩
    go_wp2_with fail
    go_ret
    exact ⟨rfl, by (repeat (first | (with_reducible exact Below.refl _ _) | (with_reducible assumption) | (with_reducible apply bl_alloc) | (with_reducible apply bl_drewN) | (with_reducible apply bl_drew) | (with_reducible refine bl_set ?_ (by first | (simp; done) | (simp; omega)) _) | (with_reducible refine bl_call ?_ (by assumption))))⟩
  by_cases h4 : o = 23
  · subst h4
    go_enter Tryz.func92, Tryz.ntmps92
    go_wp2_with fail
    refine (index_any n 64 _).mono ?_
    rintro e w1 ⟨rfl, rfl⟩
    go_wp2_with fail
    go_ret
    exact ⟨rfl, by (repeat (first | (with_reducible exact Below.refl _ _) | (with_reducible assumption) | (with_reducible apply bl_alloc) | (with_reducible apply bl_drewN) | (with_reducible apply bl_drew) | (with_reducible refine bl_set ?_ (by first | (simp; done) | (simp; omega)) _) | (with_reducible refine bl_call ?_ (by assumption))))⟩
  by_cases h5 : o = 24
  · subst h5
    go_enter Tryz.func92, Tryz.ntmps92
    go_wp2_with fail
    refine (index_any n 64 _).mono ?_
    rintro e w1 ⟨rfl, rfl⟩
    go_wp2_with fail
    go_ret
    exact ⟨rfl, by (repeat (first | (with_reducible exact Below.refl _ _) | (with_reducible assumption) | (with_reducible apply bl_alloc) | (with_reducible apply bl_drewN) | (with_reducible apply bl_drew) | (with_reducible refine bl_set ?_ (by first | (simp; done) | (simp; omega)) _) | (with_reducible refine bl_call ?_ (by assumption))))⟩
  by_cases h6 : o = 25
  · subst h6
    go_enter Tryz.func92, Tryz.ntmps92
    go_wp2_with fail
    refine (index_any n 16 _).mono ?_
    rintro e w1 ⟨rfl, rfl⟩
    go_wp2_with fail
    go_ret
    exact ⟨rfl, by (repeat (first | (with_reducible exact Below.refl _ _) | (with_reducible assumption) | (with_reducible apply bl_alloc) | (with_reducible apply bl_drewN) | (with_reducible apply bl_drew) | (with_reducible refine bl_set ?_ (by first | (simp; done) | (simp; omega)) _) | (with_reducible refine bl_call ?_ (by assumption))))⟩
  by_cases h7 : o = 26
  · subst h7
    go_enter Tryz.func92, Tryz.ntmps92
    go_wp2_with fail
    refine (index_any n 32 _).mono ?_
    rintro e w1 ⟨rfl, rfl⟩
    go_wp2_with fail
    go_ret
    exact ⟨rfl, by (repeat (first | (with_reducible exact Below.refl _ _) | (with_reducible assumption) | (with_reducible apply bl_alloc) | (with_reducible apply bl_drewN) | (with_reducible apply bl_drew) | (with_reducible refine bl_set ?_ (by first | (simp; done) | (simp; omega)) _) | (with_reducible refine bl_call ?_ (by assumption))))⟩
  rw [rg_else h1 h2 h3 h4 h5 h6 h7]
  have t1 : (o == 1) = false := beq_eq_false_iff_ne.2 h1
  have t2 : (o == 2) = false := beq_eq_false_iff_ne.2 h2
  have t3 : (o == 22) = false := beq_eq_false_iff_ne.2 h3
  have t4 : (o == 23) = false := beq_eq_false_iff_ne.2 h4
  have t5 : (o == 24) = false := beq_eq_false_iff_ne.2 h5
  have t6 : (o == 25) = false := beq_eq_false_iff_ne.2 h6
  have t7 : (o == 26) = false := beq_eq_false_iff_ne.2 h7
  clear h1 h2 h3 h4 h5 h6 h7
  go_enter Tryz.func92, Tryz.ntmps92
  go_wp2_with fail
  go_ret
  exact ⟨rfl, by (repeat (first | (with_reducible exact Below.refl _ _) | (with_reducible assumption) | (with_reducible apply bl_alloc) | (with_reducible apply bl_drewN) | (with_reducible apply bl_drew) | (with_reducible refine bl_set ?_ (by first | (simp; done) | (simp; omega)) _) | (with_reducible refine bl_call ?_ (by assumption))))⟩
theorem kids_ari {c : Bool} {o : Int} (h : known c o = true) : ari o = usK o := by
  unfold known at h
  unfold ari at h ⊢
  unfold usK
  by_cases g : o < 1 ∨ 26 < o
  · rw [if_pos g] at h; cases h
  · rw [if_neg g]
theorem us_named {c : Bool} {o : Int} (h : known c o = true) : usN c o = named c o := by
  unfold known at h
  unfold usN named
  cases c
  · simp
  · by_cases g : o = 3
    · subst g; revert h; decide
    · simp [g]
theorem us_numbered {c : Bool} {o : Int} (h : known c o = true) : usB c o = numbered c o := by
  unfold known at h
  unfold usB numbered counted
  cases c
  · have h2 : o ≤ 24 := by
      simp at h
      exact h.2
    have g1 : ¬ o = 25 := by omega
    have g2 : ¬ o = 26 := by omega
    simp [g1, g2]
  · simp [Bool.or_assoc]
theorem rg_bad {c : Bool} {o n : Int} {s : List UInt8} {m : Nat} (h : badF c o s n m = false) : rgV o n = !badR c o n := by
  unfold badF at h
  simp only [Bool.or_eq_false_iff] at h
  obtain ⟨⟨⟨hk, -⟩, hn⟩, -⟩ := h
  have hk : known c o = true := by simpa using hk
  rcases form_cases o with h | h
  · rcases h with rfl | rfl | rfl | rfl | rfl | rfl | rfl | rfl | rfl | rfl | rfl | rfl | rfl | rfl | rfl | rfl | rfl | rfl | rfl | rfl | rfl | rfl | rfl | rfl | rfl | rfl
    all_goals cases c
    all_goals
      simp [known, ari, numbered, counted, obj, rgV, badR, idx, most] at hk hn ⊢
    all_goals first | done | (subst hn; decide) | (by_cases a1 : 0 ≤ n <;> by_cases a2 : n < 2 <;> simp [a1, a2] <;> omega) | (by_cases a1 : 0 ≤ n <;> by_cases a2 : n < 64 <;> simp [a1, a2] <;> omega) | (by_cases a1 : 0 ≤ n <;> by_cases a2 : n < 16 <;> simp [a1, a2] <;> omega) | (by_cases a1 : 0 ≤ n <;> by_cases a2 : n < 32 <;> simp [a1, a2] <;> omega) | trace_state
  · unfold known ari at hk
    rw [if_pos h] at hk
    cases hk
end Go.Proofs.YtonlmnlpofgccaaGreat.Ex
