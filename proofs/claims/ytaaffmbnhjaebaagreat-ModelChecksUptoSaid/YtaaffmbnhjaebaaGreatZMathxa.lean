/-
  Parts of this proof: Plain facts about fractions, about division by digits of 32 bits and bit by bit, and about the order of fractions. The contracts of package frac's small functions. Words for slices of ints in memory; the contracts of package dist's between, allBetween, sum, weighted, of slices.Equal, and of the referenc. Mathematics of statements. Mathematics of models. The records of a model in memory. The contracts of the small functions. The contracts of letter and digit, of the library and of the reference. The contract of Check. The contracts of the small functions of the program and of the reference. The contracts of the reference's unused, table, Check. The contracts of the reference's table and Check. The contract of the reference's Check. The contracts of the reference's Same and Check of a distribution as they stand in a model, and of sameResource.
-/
import Derived.Test.YtaaffmbnhjaebaaGreatZQFlt
namespace Go.Proofs.YtaaffmbnhjaebaaGreat
def both (a b c d : Int) (o : Option (Int × Int)) : Option (Int × Int) := if okF a b && okF c d then o else none
theorem both_no1 {a b c d : Int} {o : Option (Int × Int)} (h1 : okF a b = false) : both a b c d o = none := by
 unfold both; rw [h1]; rfl
theorem both_no2 {a b c d : Int} {o : Option (Int × Int)} (h1 : okF c d = false) : both a b c d o = none := by
 unfold both; rw [h1, Bool.and_false]; rfl
end Go.Proofs.YtaaffmbnhjaebaaGreat
namespace Go.Proofs.YtaaffmbnhjaebaaGreat
open Go.RowKit
set_option maxHeartbeats 400000
theorem keep_alloc {w : World} {b o : Nat} {v : Value} {x : Obj} (h : w.cell? ⟨b, o, none⟩ = some v) (hb : b < w.heap.size) : (w.alloc x).cell? ⟨b, o, none⟩ = some v :=
 (World.cell?_alloc_lt w x ⟨b, o, none⟩ hb).trans h
end Go.Proofs.YtaaffmbnhjaebaaGreat
namespace Go.Proofs.YtaaffmbnhjaebaaGreat.Di
open Go.RowKit
set_option maxHeartbeats 1000000
theorem rbtw_any (y x z : Int) (w : World) : Calls Tryz.prog 159 #[.int .i64 y, .int .i64 x, .int .i64 z] w fun e w' => e = .returned (.bool (inB x y z)) ∧ w = w' := by
 by_cases h1 : x ≤ y <;> by_cases h2 : y ≤ z
 all_goals
  go_enter Tryz.func159, Tryz.ntmps159
  go_wp2
  go_ret
  exact ⟨ret_bool (by simp [inB, *]), rfl⟩
end Go.Proofs.YtaaffmbnhjaebaaGreat.Di
namespace Go.Proofs.YtaaffmbnhjaebaaGreat.Sm
open Go.Proofs.YtaaffmbnhjaebaaGreat.Ex (take_one)
set_option linter.unusedVariables false
theorem dpL_take {l : List St} {k : Nat} {x : St} (h : l[k]? = some x) : dpL (l.take (k + 1)) = max (dpL (l.take k)) (dp x) := by rw [take_one h, dpL_app]; simp [dpL]
end Go.Proofs.YtaaffmbnhjaebaaGreat.Sm
namespace Go.Proofs.YtaaffmbnhjaebaaGreat.Md
open Go.Proofs.YtaaffmbnhjaebaaGreat.Sm (orE orE_no orE_yes orE_right orE_assoc)
set_option linter.unusedVariables false
theorem frE_app {α : Type} {f : α → Int} : ∀ {a b : List α}, frE f (a ++ b) = orE (frE f a) (frE f b)
 | [], b => orE_yes.symm
 | x :: t, b => by rw [List.cons_append, frE, frE, frE_app, orE_assoc]
theorem frE_take {α : Type} {f : α → Int} {l : List α} {k : Nat} {x : α} (hx : l[k]? = some x) : frE f (l.take (k + 1)) = orE (frE f (l.take k)) (f x) := by
 rw [Go.Proofs.YtaaffmbnhjaebaaGreat.Ex.take_one hx, frE_app]; simp [frE, orE_right]
theorem frE_stop {α : Type} {f : α → Int} {l : List α} {k : Nat} {x : α} (hx : l[k]? = some x) (h : frE f (l.take k) = 0) (h1 : ¬ f x = 0) : frE f l = f x := by
 have h2 := frE_app (f := f) (a := l.take (k + 1)) (b := l.drop (k + 1))
 rw [List.take_append_drop, frE_take hx, h, orE_yes, orE_no h1] at h2
 exact h2
theorem frE_next {α : Type} {f : α → Int} {l : List α} {k : Nat} {x : α} (hx : l[k]? = some x) (h : frE f (l.take k) = 0) (h1 : f x = 0) : frE f (l.take (k + 1)) = 0 := by
 rw [frE_take hx, h, orE_yes, h1]
def unl (b : Bool) (e : Int) : Int := if b then 0 else e
end Go.Proofs.YtaaffmbnhjaebaaGreat.Md
namespace Go.Proofs.YtaaffmbnhjaebaaGreat.Md
open Go.RowKit
set_option maxHeartbeats 1000000
set_option linter.unusedVariables false
theorem cChg0 (x : Chg) : (cChg x)[0]? = some (.int .i64 x.t) := rfl
theorem cChg1 (x : Chg) : (cChg x)[1]? = some (.int .i64 x.u) := rfl
end Go.Proofs.YtaaffmbnhjaebaaGreat.Md
namespace Go.Proofs.YtaaffmbnhjaebaaGreat.Md
open Go.RowKit
open Go.Proofs.YtaaffmbnhjaebaaGreat.Sm (orE orE_no orE_yes)
set_option maxHeartbeats 2000000
set_option linter.unusedVariables false
theorem zQSmla_0 {p : Prop} (h : p := by
 go_wp2_with fail
 go_ret
 exact ⟨rfl, rfl⟩
 ) : p := h
theorem typed_any (t : Int) (w : World) : Calls Tryz.prog 65 #[.int .i64 t] w (Stay (.bool (typ t)) w) := by
 rcases ty_cases t with rfl | rfl | rfl | ⟨e1, e2, e3, h1, h2, h3⟩
 · go_enter Tryz.func65, Tryz.ntmps65
   exact zQSmla_0
 · go_enter Tryz.func65, Tryz.ntmps65
   exact zQSmla_0
 · go_enter Tryz.func65, Tryz.ntmps65
   exact zQSmla_0
 · have hz : typ t = false := by unfold typ; rw [decide_eq_false h1, decide_eq_false h2, decide_eq_false h3]; rfl
   rw [hz]
   clear hz h1 h2 h3
   go_enter Tryz.func65, Tryz.ntmps65
   exact zQSmla_0
theorem rin_any (n : Int) (w : World) : Calls Tryz.prog 117 #[.int .i64 n] w (Stay (.bool (btw (-1000000000000) n 1000000000000)) w) := by
 unfold btw
 by_cases h1 : -1000000000000 ≤ n
 · by_cases h2 : n ≤ 1000000000000
   · have d1 := decide_eq_true h1
     have d2 := decide_eq_true h2
     rw [d1, d2]
     go_enter Tryz.func117, Tryz.ntmps117
     exact zQSmla_0
   · have d1 := decide_eq_true h1
     have d2 := decide_eq_false h2
     rw [d1, d2]
     go_enter Tryz.func117, Tryz.ntmps117
     exact zQSmla_0
 · have d1 := decide_eq_false h1
   rw [d1]
   go_enter Tryz.func117, Tryz.ntmps117
   exact zQSmla_0
theorem within_any (lo n hi : Int) (w : World) : Calls Tryz.prog 70 #[.int .i64 n, .int .i64 lo, .int .i64 hi] w (Stay (.bool (btw lo n hi)) w) := by
 unfold btw
 by_cases h1 : lo ≤ n
 · by_cases h2 : n ≤ hi
   · have d1 := decide_eq_true h1
     have d2 := decide_eq_true h2
     rw [d1, d2]
     go_enter Tryz.func70, Tryz.ntmps70
     exact zQSmla_0
   · have d1 := decide_eq_true h1
     have d2 := decide_eq_false h2
     rw [d1, d2]
     go_enter Tryz.func70, Tryz.ntmps70
     exact zQSmla_0
 · have d1 := decide_eq_false h1
   rw [d1]
   go_enter Tryz.func70, Tryz.ntmps70
   exact zQSmla_0
theorem rfits_any (t n : Int) (w : World) : Calls Tryz.prog 66 #[.int .i64 t, .int .i64 n] w (Stay (.bool (fits t n)) w) := by
 rcases ty_cases t with rfl | rfl | rfl | ⟨e1, e2, e3, h1, h2, h3⟩
 · go_enter Tryz.func66, Tryz.ntmps66
   go_wp2_with fail
   refine (rin_any n w).mono ?_
   rintro e w1 ⟨rfl, rfl⟩
   exact zQSmla_0
 · have hz : fits 2 n = (decide (n = 0) || decide (n = 1)) := by
    show btw 0 n 1 = _
    unfold btw
    by_cases a : n = 0
    · subst a; rfl
    by_cases b : n = 1
    · subst b; rfl
    rw [decide_eq_false a, decide_eq_false b]
    by_cases c : 0 ≤ n
    · rw [decide_eq_true c, decide_eq_false (by omega)]; rfl
    · rw [decide_eq_false c]; rfl
   rw [hz]
   by_cases a : n = 0
   · subst a
     go_enter Tryz.func66, Tryz.ntmps66
     exact zQSmla_0
   by_cases b : n = 1
   · subst b
     go_enter Tryz.func66, Tryz.ntmps66
     exact zQSmla_0
   rw [decide_eq_false a, decide_eq_false b]
   have a1 : (n == 0) = false := beq_eq_false_iff_ne.2 a
   have b1 : (n == 1) = false := beq_eq_false_iff_ne.2 b
   clear a b hz
   go_enter Tryz.func66, Tryz.ntmps66
   exact zQSmla_0
 · go_enter Tryz.func66, Tryz.ntmps66
   go_wp2_with fail
   refine (within_any 0 n 1000000000 w).mono ?_
   rintro e w1 ⟨rfl, rfl⟩
   exact zQSmla_0
 · have hz : fits t n = false := by unfold fits; rw [if_neg h1, if_neg h2, if_neg h3]
   rw [hz]
   clear hz h1 h2 h3
   go_enter Tryz.func66, Tryz.ntmps66
   exact zQSmla_0
theorem first_any (a b : Int) (w : World) : Calls Tryz.prog 32 #[.int .i64 a, .int .i64 b] w (Stay (.int .i64 (orE a b)) w) := by
 by_cases h : a = 0
 · subst h
   rw [orE_yes]
   go_enter Tryz.func32, Tryz.ntmps32
   exact zQSmla_0
 · have h1 : (a != 0) = true := bne_iff_ne.2 h
   rw [orE_no h]
   clear h
   go_enter Tryz.func32, Tryz.ntmps32
   exact zQSmla_0
theorem unless_any (b : Bool) (v : Int) (w : World) : Calls Tryz.prog 34 #[.bool b, .int .i64 v] w (Stay (.int .i64 (unl b v)) w) := by
 cases b
 · go_enter Tryz.func34, Tryz.ntmps34
   exact zQSmla_0
 · go_enter Tryz.func34, Tryz.ntmps34
   exact zQSmla_0
end Go.Proofs.YtaaffmbnhjaebaaGreat.Md
namespace Go.Proofs.YtaaffmbnhjaebaaGreat.Na
open Go.RowKit
set_option maxHeartbeats 1000000
theorem zNmLeta_0 {p : Prop} (h : p := by
 go_enter Tryz.func63, Tryz.ntmps63
 go_wp2_with fail
 go_ret
 exact ⟨rfl, rfl⟩
 ) : p := h
theorem rletter_any (x : Int) (w : World) : Calls Tryz.prog 63 #[.int .u8 x] w fun e w' => e = .returned (.bool (ltrI x)) ∧ w' = w := by
 unfold ltrI
 by_cases h1 : 97 ≤ x
 · have t1 : decide (97 ≤ x) = true := decide_eq_true h1
   by_cases h2 : x ≤ 122
   · have t2 : decide (x ≤ 122) = true := decide_eq_true h2
     rw [t1, t2]
     exact zNmLeta_0
   · have t2 : decide (x ≤ 122) = false := decide_eq_false h2
     rw [t1, t2]
     exact zNmLeta_0
 · have t1 : decide (97 ≤ x) = false := decide_eq_false h1
   rw [t1, Bool.false_and]
   exact zNmLeta_0
theorem rletter_at {x : Int} {b : Bool} (h : ltrI x = b) (w : World) : Calls Tryz.prog 63 #[.int .u8 x] w fun e w' => e = .returned (.bool b) ∧ w' = w := by rw [← h]; exact rletter_any x w
end Go.Proofs.YtaaffmbnhjaebaaGreat.Na
namespace Go.Proofs.YtaaffmbnhjaebaaGreat.Na
open Go.RowKit
set_option maxHeartbeats 2000000
theorem good_zero {l : List UInt8} : Good l 0 := fun _ hj => absurd hj (Nat.not_lt_zero _)
end Go.Proofs.YtaaffmbnhjaebaaGreat.Na
namespace Go.Proofs.YtaaffmbnhjaebaaGreat.Ex
open Go.RowKit
set_option maxHeartbeats 1000000
set_option linter.unusedVariables false
set_option linter.unusedSimpArgs false
theorem zESmalla_0 {p : Prop} (h : p := by
 go_wp2_with fail
 go_ret
 exact ⟨rfl, rfl⟩
 ) : p := h
theorem zESmalla_1 {p : Prop} (h : p := by
 go_enter Tryz.func202, Tryz.ntmps202
 exact zESmalla_0
 ) : p := h
theorem arity_any (o : Int) (w : World) : Calls Tryz.prog 202 #[.int .i64 o] w fun e w' => e = .returned (.int .i64 (ari o)) ∧ w' = w := by
 unfold ari
 by_cases h1 : o < 1 ∨ 26 < o
 · rw [if_pos h1]
   by_cases g : o < 1
   · clear h1
     exact zESmalla_1
   · have g1 : 26 < o := by omega
     have g2 : 1 ≤ o := by omega
     clear h1 g
     exact zESmalla_1
 · rw [if_neg h1]
   have a1 : 1 ≤ o := by omega
   have a2 : o ≤ 26 := by omega
   clear h1
   by_cases h2 : 5 ≤ o ∧ o ≤ 8
   · rw [if_pos h2]
     obtain ⟨g1, g2⟩ := h2
     exact zESmalla_1
   · rw [if_neg h2]
     by_cases h3 : 9 ≤ o ∧ o ≤ 21
     · rw [if_pos h3]
       obtain ⟨g1, g2⟩ := h3
       have g3 : 8 < o := by omega
       have g4 : 5 ≤ o := by omega
       clear h2
       exact zESmalla_1
     · rw [if_neg h3]
       by_cases h4 : o < 5
       · have g1 : o < 9 := by omega
         clear h2 h3
         exact zESmalla_1
       · have g1 : 5 ≤ o := by omega
         have g2 : 8 < o := by omega
         have g3 : 9 ≤ o := by omega
         have g4 : 21 < o := by omega
         clear h2 h3 h4
         exact zESmalla_1
theorem object_any (o : Int) (w : World) : Calls Tryz.prog 203 #[.int .i64 o] w fun e w' => e = .returned (.bool (obj o)) ∧ w' = w := by
 unfold obj
 by_cases h1 : 22 ≤ o
 · by_cases h2 : o ≤ 24
   · rw [decide_eq_true h1, decide_eq_true h2]
     go_enter Tryz.func203, Tryz.ntmps203
     exact zESmalla_0
   · rw [decide_eq_true h1, decide_eq_false h2]
     have h3 : 24 < o := by omega
     go_enter Tryz.func203, Tryz.ntmps203
     exact zESmalla_0
 · rw [decide_eq_false h1, Bool.false_and]
   have h3 : o < 22 := by omega
   go_enter Tryz.func203, Tryz.ntmps203
   exact zESmalla_0
theorem most_any (o : Int) (w : World) : Calls Tryz.prog 204 #[.int .i64 o] w fun e w' => e = .returned (.int .i64 (most o)) ∧ w' = w := by
 unfold most
 by_cases h1 : o = 25
 · subst h1
   go_enter Tryz.func204, Tryz.ntmps204
   exact zESmalla_0
 · rw [if_neg h1]
   have t1 : (o == 25) = false := beq_eq_false_iff_ne.2 h1
   by_cases h2 : o = 26
   · subst h2
     go_enter Tryz.func204, Tryz.ntmps204
     exact zESmalla_0
   · rw [if_neg h2]
     have t2 : (o == 26) = false := beq_eq_false_iff_ne.2 h2
     clear h1 h2
     go_enter Tryz.func204, Tryz.ntmps204
     exact zESmalla_0
theorem rin_any (n : Int) (w : World) : Calls Tryz.prog 117 #[.int .i64 n] w fun e w' => e = .returned (.bool (inI n)) ∧ w' = w := by
 unfold inI
 by_cases h1 : -1000000000000 ≤ n
 · by_cases h2 : n ≤ 1000000000000
   · rw [decide_eq_true h1, decide_eq_true h2]
     go_enter Tryz.func117, Tryz.ntmps117
     exact zESmalla_0
   · rw [decide_eq_true h1, decide_eq_false h2]
     have h3 : 1000000000000 < n := by omega
     go_enter Tryz.func117, Tryz.ntmps117
     exact zESmalla_0
 · rw [decide_eq_false h1, Bool.false_and]
   have h3 : n < -1000000000000 := by omega
   go_enter Tryz.func117, Tryz.ntmps117
   exact zESmalla_0
end Go.Proofs.YtaaffmbnhjaebaaGreat.Ex
namespace Go.Proofs.YtaaffmbnhjaebaaGreat.Di
open Go.RowKit
set_option maxHeartbeats 2000000
theorem len0 {m : Nat} (h : m ≠ 0) : ((m : Int) == 0) = false := by rw [beq_eq_false_iff_ne]; omega
theorem lists2 (m l : Nat) : (m = 0 ∧ l = 0) ∨ (m = 0 ∧ l ≠ 0 ∧ ((l : Int) == 0) = false) ∨ (m ≠ 0 ∧ ((m : Int) == 0) = false) := by
 by_cases h : m = 0
 · by_cases h2 : l = 0
   · exact .inl ⟨h, h2⟩
   · exact .inr (.inl ⟨h, h2, len0 h2⟩)
 · exact .inr (.inr ⟨h, len0 h⟩)
theorem runused_any (op a b n : Int) (p : Option Addr) (lv c : Nat) (q : Option Addr) (lw f : Nat) (w : World) : Calls Tryz.prog 158 #[.agg #[.int .i64 op, .int .i64 a, .int .i64 b, .int .i64 n, .slice p lv c, .slice q lw f]] w (Gives (.bool (unB op a b n lv lw)) w) := by
 have hop : op = 1 ∨ op = 2 ∨ op = 3 ∨ op = 4 ∨ op = 5 ∨ ((op == 1) = false ∧ (op == 2) = false ∧ (op == 3) = false ∧ (op == 4) = false ∧ (op == 5) = false ∧ unB op a b n lv lw = false) := by
  by_cases h : op = 1 ∨ op = 2 ∨ op = 3 ∨ op = 4 ∨ op = 5
  · rcases h with h | h | h | h | h <;> simp [h]
  · refine .inr (.inr (.inr (.inr (.inr ⟨?_, ?_, ?_, ?_, ?_, ?_⟩))))
    all_goals first | (rw [beq_eq_false_iff_ne]; omega) | (unfold unB; rw [if_neg (by omega), if_neg (by omega), if_neg (by omega), if_neg (by omega), if_neg (by omega)])
 rcases lists2 lv lw with ⟨rfl, rfl⟩ | ⟨rfl, h1, h2⟩ | ⟨h1, h2⟩
 all_goals
  rcases hop with rfl | rfl | rfl | rfl | rfl | ⟨e1, e2, e3, e4, e5, e6⟩
  · cases hb : (b == 0) <;> cases hn : (n == 0)
    all_goals
     go_enter Tryz.func158, Tryz.ntmps158
     go_wp2_with fail
     go_ret
     exact ⟨ret_bool (by simp [unB, *]), bd⟩
  · cases hn : (n == 0)
    all_goals
     go_enter Tryz.func158, Tryz.ntmps158
     go_wp2_with fail
     go_ret
     exact ⟨ret_bool (by simp [unB, *]), bd⟩
  · cases ha : (a == 0) <;> cases hb : (b == 0) <;> cases hn : (n == 0)
    all_goals
     go_enter Tryz.func158, Tryz.ntmps158
     go_wp2_with fail
     go_ret
     exact ⟨ret_bool (by simp [unB, *]), bd⟩
  · go_enter Tryz.func158, Tryz.ntmps158
    go_wp2_with fail
    go_ret
    exact ⟨ret_bool (by simp [unB, *]), bd⟩
  · cases hn : (n == 0)
    all_goals
     go_enter Tryz.func158, Tryz.ntmps158
     go_wp2_with fail
     go_ret
     exact ⟨ret_bool (by simp [unB, *]), bd⟩
  · rw [e6]
    clear e6
    go_enter Tryz.func158, Tryz.ntmps158
    go_wp2_with fail
    go_ret
    exact ⟨rfl, bd⟩
end Go.Proofs.YtaaffmbnhjaebaaGreat.Di
namespace Go.Proofs.YtaaffmbnhjaebaaGreat.Di
open Go.RowKit
set_option maxHeartbeats 2000000
def bE (x : Bool) : Int := if x = true then 0 else 2
def tabE (lv lw : Nat) (V W : Nat → Int) : Int := if lenE lv lw = 0 then bE (allB 0 1000000000 V lv && allB 1 1000 W lw) else lenE lv lw
theorem both_no1 {V W : Nat → Int} {k n : Nat} (h : k < n) (h2 : inB 0 (V k) 1000000000 = false) : (allB 0 1000000000 V n && allB 1 1000 W n) = false := by rw [← allB_end h h2]; rfl
theorem both_no2 {V W : Nat → Int} {k n : Nat} (h : k < n) (h2 : inB 1 (W k) 1000 = false) : (allB 0 1000000000 V n && allB 1 1000 W n) = false := by rw [← allB_end (V := W) h h2, Bool.and_false]
theorem rtable_any (x0 a b n : Int) (p : Option Addr) (lv c : Nat) (q : Option Addr) (lw f : Nat) (V W : Nat → Int) (w : World) (hV : Row w p lv V) (hW : Row w q lw W) :
 Calls Tryz.prog 160 #[.agg #[.int .i64 x0, .int .i64 a, .int .i64 b, .int .i64 n, .slice p lv c, .slice q lw f]] w (Gives (.int .i64 (tabE lv lw V W)) w) := by
 by_cases h : lv = lw
 · subst h
   by_cases h0 : lv = 0
   · subst h0
     go_enter Tryz.func160, Tryz.ntmps160
     go_wp2_with fail
     go_ret
     exact ⟨rfl, bd⟩
   · have h1 : ((lv : Int) == 0) = false := by rw [beq_eq_false_iff_ne]; omega
     by_cases h2 : 20 < lv
     · have hr : tabE lv lv V W = 6 := by unfold tabE lenE; rw [if_pos rfl, if_neg h0, if_pos h2]; rfl
       rw [hr]
       have h3 : (20 : Int) < (lv : Int) := by omega
       clear h0 hr
       go_enter Tryz.func160, Tryz.ntmps160
       go_wp2_with fail
       go_ret
       exact ⟨rfl, bd⟩
     · have hr : tabE lv lv V W = bE (allB 0 1000000000 V lv && allB 1 1000 W lv) := by unfold tabE lenE; rw [if_pos rfl, if_neg h0, if_neg h2]; rfl
       rw [hr]
       have h3 : decide ((20 : Int) < (lv : Int)) = false := decide_eq_false (by omega)
       obtain ⟨hl, hv | ⟨b1, o1, rfl, hb1, hc1⟩⟩ := hV
       · exact absurd hv h0
       obtain ⟨-, hw | ⟨b2, o2, rfl, hb2, hc2⟩⟩ := hW
       · exact absurd hw h0
       clear h0 hr h2
       go_enter Tryz.func160, Tryz.ntmps160
       go_wp2_with fail
       go_loop [3] (fun i => ∃ k : Nat, k ≤ lv ∧ i = .int .i64 k ∧ Hid (allB 0 1000000000 V k = true) ∧ Hid (allB 1 1000 W k = true)) (fun i => lv - (intOf i).toNat)
       case atStart => exact ⟨0, Nat.zero_le _, rfl, Lib.hid rfl, Lib.hid rfl⟩
       case round =>
        obtain ⟨k, hk, rfl, HA, HB⟩ := hrel
        rcases Nat.lt_or_ge k lv with h | h
        · have e1 := (keep_alloc (x := .cells #[.int .i64 x0, .int .i64 a, .int .i64 b, .int .i64 n, .slice (some ⟨b1, o1, none⟩) lv c, .slice (some ⟨b2, o2, none⟩) lv f] 88) (hc1.out k h) hb1)
          have e2 := (keep_alloc (x := .cells #[.int .i64 x0, .int .i64 a, .int .i64 b, .int .i64 n, .slice (some ⟨b1, o1, none⟩) lv c, .slice (some ⟨b2, o2, none⟩) lv f] 88) (hc2.out k h) hb2)
          have c1 : (0 : Int) ≤ (k : Int) := by omega
          have c2 : (k : Int) < (lv : Int) := by omega
          cases hi' : inB 0 (V k) 1000000000
          · have H := Lib.hid hi'
            have hz := Lib.hid (both_no1 (W := W) h hi')
            clear hi'
            go_wp2_with fail
            refine (rbtw_any _ _ _ _).mono ?_
            rintro e w1 ⟨rfl, rfl⟩
            rw [H.out]
            go_wp2_with fail
            go_ret
            exact ⟨by rw [hz.out]; rfl, bd⟩
          · have H := Lib.hid hi'
            clear hi'
            cases hj' : inB 1 (W k) 1000
            · have J := Lib.hid hj'
              have hz := Lib.hid (both_no2 (V := V) h hj')
              clear hj'
              go_wp2_with fail
              refine (rbtw_any _ _ _ _).mono ?_
              rintro e w1 ⟨rfl, rfl⟩
              rw [H.out]
              go_wp2_with fail
              refine (rbtw_any _ _ _ _).mono ?_
              rintro e w1 ⟨rfl, rfl⟩
              rw [J.out]
              go_wp2_with fail
              go_ret
              exact ⟨by rw [hz.out]; rfl, bd⟩
            · have J := Lib.hid hj'
              clear hj'
              go_wp2_with fail
              refine (rbtw_any _ _ _ _).mono ?_
              rintro e w1 ⟨rfl, rfl⟩
              rw [H.out]
              go_wp2_with fail
              refine (rbtw_any _ _ _ _).mono ?_
              rintro e w1 ⟨rfl, rfl⟩
              rw [J.out]
              go_wp2_with fail
              go_round
              case rel => exact ⟨k + 1, by omega, by go_num, Lib.hid (allB_next HA.out H.out), Lib.hid (allB_next HB.out J.out)⟩
              case measure => simp [intOf]; omega
        · obtain rfl : lv = k := by omega
          go_wp2_with fail
          go_ret
          exact ⟨by rw [HA.out, HB.out]; rfl, bd⟩
 · have hr : tabE lv lw V W = 8 := by unfold tabE lenE; rw [if_neg h]; rfl
   rw [hr]
   have h1 : ((lv : Int) != (lw : Int)) = true := by rw [bne_iff_ne]; omega
   have h2 : (lv != lw) = true := by rw [bne_iff_ne]; exact h
   clear hr
   go_enter Tryz.func160, Tryz.ntmps160
   go_wp2_with fail
   go_ret
   exact ⟨rfl, bd⟩
end Go.Proofs.YtaaffmbnhjaebaaGreat.Di
namespace Go.Proofs.YtaaffmbnhjaebaaGreat.Di
open Go.RowKit
set_option maxHeartbeats 2000000
theorem err_no {op a b n : Int} {lv lw : Nat} {V W : Nat → Int} (h : unB op a b n lv lw = false) : errD op a b n lv lw V W = 1 := by unfold errD errW; rw [h]; rfl
theorem err_yes {op a b n : Int} {lv lw : Nat} {V W : Nat → Int} (h : unB op a b n lv lw = true) (h3 : op ≠ 3) : errD op a b n lv lw V W = bE (rngB op a b n lv lw V W) := by unfold errD errW; rw [h, if_pos rfl, if_neg h3]; rfl
theorem err_three {a b n : Int} {lv lw : Nat} {V W : Nat → Int} (h : unB 3 a b n lv lw = true) : errD 3 a b n lv lw V W = tabE lv lw V W := by unfold errD errW; rw [h, if_pos rfl, if_pos rfl]; rfl
theorem rc1 (a b n : Int) (p : Option Addr) (lv c : Nat) (q : Option Addr) (lw f : Nat) (w : World) (HU : Hid (unB 1 a b n lv lw = true)) :
 Calls Tryz.prog 142 #[.agg #[.int .i64 1, .int .i64 a, .int .i64 b, .int .i64 n, .slice p lv c, .slice q lw f]] w (Gives (.int .i64 (bE (inB 0 a 1000000000))) w) := by
 cases h : inB 0 a 1000000000
 all_goals
  have H := Lib.hid h
  clear h
  go_enter Tryz.func142, Tryz.ntmps142
  go_wp2_with fail
  refine (runused_any _ _ _ _ _ _ _ _ _ _ _).mono ?_
  rintro e w1 ⟨rfl, hb1⟩
  rw [HU.out]
  have D1 := six.on hb1 six.new
  obtain ⟨d0, d1, d2, d3, d4, d5, d6⟩ := D1
  go_wp2_with fail
  refine (rbtw_any _ _ _ _).mono ?_
  rintro e w2 ⟨rfl, rfl⟩
  rw [H.out]
  go_wp2_with fail
  (go_ret; exact ⟨rfl, bd⟩)
theorem zDRefCheck2a_0 {p : Prop} (h : p := by
 go_enter Tryz.func142, Tryz.ntmps142
 go_wp2_with fail
 refine (runused_any _ _ _ _ _ _ _ _ _ _ _).mono ?_
 rintro e w1 ⟨rfl, hb1⟩
 rw [HU.out]
 have D1 := six.on hb1 six.new
 obtain ⟨d0, d1, d2, d3, d4, d5, d6⟩ := D1
 go_wp2_with fail
 refine (rbtw_any _ _ _ _).mono ?_
 rintro e w2 ⟨rfl, rfl⟩
 rw [H.out]
 go_wp2_with fail
 (go_ret; exact ⟨rfl, bd⟩)
 ) : p := h
theorem rc2 (a b n : Int) (p : Option Addr) (lv c : Nat) (q : Option Addr) (lw f : Nat) (w : World) (HU : Hid (unB 2 a b n lv lw = true)) :
 Calls Tryz.prog 142 #[.agg #[.int .i64 2, .int .i64 a, .int .i64 b, .int .i64 n, .slice p lv c, .slice q lw f]] w (Gives (.int .i64 (bE (inB 0 a b && decide (b ≤ 1000000000)))) w) := by
 cases h : inB 0 a b
 · have H := Lib.hid h
   clear h
   rw [Bool.false_and]
   exact zDRefCheck2a_0
 · cases h2 : decide (b ≤ 1000000000)
   all_goals
    have H := Lib.hid h
    clear h
    rw [Bool.true_and]
    go_enter Tryz.func142, Tryz.ntmps142
    go_wp2_with fail
    refine (runused_any _ _ _ _ _ _ _ _ _ _ _).mono ?_
    rintro e w1 ⟨rfl, hb1⟩
    rw [HU.out]
    have D1 := six.on hb1 six.new
    obtain ⟨d0, d1, d2, d3, d4, d5, d6⟩ := D1
    go_wp2_with fail
    refine (rbtw_any _ _ _ _).mono ?_
    rintro e w2 ⟨rfl, rfl⟩
    rw [H.out]
    go_wp2_with fail
    (go_ret; exact ⟨rfl, bd⟩)
theorem rc4 (a b n : Int) (p : Option Addr) (lv c : Nat) (q : Option Addr) (lw f : Nat) (w : World) (HU : Hid (unB 4 a b n lv lw = true)) :
 Calls Tryz.prog 142 #[.agg #[.int .i64 4, .int .i64 a, .int .i64 b, .int .i64 n, .slice p lv c, .slice q lw f]] w (Gives (.int .i64 (bE (inB 1 n 20 && inB 0 a b && decide (b ≤ 1000000)))) w) := by
 cases h0 : inB 1 n 20
 · have H := Lib.hid h0
   clear h0
   rw [Bool.false_and, Bool.false_and]
   exact zDRefCheck2a_0
 have G := Lib.hid h0
 clear h0
 rw [Bool.true_and]
 cases h : inB 0 a b
 · have H := Lib.hid h
   clear h
   rw [Bool.false_and]
   go_enter Tryz.func142, Tryz.ntmps142
   go_wp2_with fail
   refine (runused_any _ _ _ _ _ _ _ _ _ _ _).mono ?_
   rintro e w1 ⟨rfl, hb1⟩
   rw [HU.out]
   have D1 := six.on hb1 six.new
   obtain ⟨d0, d1, d2, d3, d4, d5, d6⟩ := D1
   go_wp2_with fail
   refine (rbtw_any _ _ _ _).mono ?_
   rintro e w2 ⟨rfl, rfl⟩
   rw [G.out]
   go_wp2_with fail
   refine (rbtw_any _ _ _ _).mono ?_
   rintro e w2 ⟨rfl, rfl⟩
   rw [H.out]
   go_wp2_with fail
   (go_ret; exact ⟨rfl, bd⟩)
 · cases h2 : decide (b ≤ 1000000)
   all_goals
    have H := Lib.hid h
    clear h
    rw [Bool.true_and]
    go_enter Tryz.func142, Tryz.ntmps142
    go_wp2_with fail
    refine (runused_any _ _ _ _ _ _ _ _ _ _ _).mono ?_
    rintro e w1 ⟨rfl, hb1⟩
    rw [HU.out]
    have D1 := six.on hb1 six.new
    obtain ⟨d0, d1, d2, d3, d4, d5, d6⟩ := D1
    go_wp2_with fail
    refine (rbtw_any _ _ _ _).mono ?_
    rintro e w2 ⟨rfl, rfl⟩
    rw [G.out]
    go_wp2_with fail
    refine (rbtw_any _ _ _ _).mono ?_
    rintro e w2 ⟨rfl, rfl⟩
    rw [H.out]
    go_wp2_with fail
    (go_ret; exact ⟨rfl, bd⟩)
theorem rc5 (a b n : Int) (p : Option Addr) (lv c : Nat) (q : Option Addr) (lw f : Nat) (w : World) (HU : Hid (unB 5 a b n lv lw = true)) :
 Calls Tryz.prog 142 #[.agg #[.int .i64 5, .int .i64 a, .int .i64 b, .int .i64 n, .slice p lv c, .slice q lw f]] w (Gives (.int .i64 (bE (inB 1 a 1000 && inB 1 b 1000))) w) := by
 cases h : inB 1 a 1000
 · have H := Lib.hid h
   clear h
   rw [Bool.false_and]
   exact zDRefCheck2a_0
 · cases h2 : inB 1 b 1000
   all_goals
    have H := Lib.hid h
    have H2 := Lib.hid h2
    clear h h2
    rw [Bool.true_and]
    go_enter Tryz.func142, Tryz.ntmps142
    go_wp2_with fail
    refine (runused_any _ _ _ _ _ _ _ _ _ _ _).mono ?_
    rintro e w1 ⟨rfl, hb1⟩
    rw [HU.out]
    have D1 := six.on hb1 six.new
    obtain ⟨d0, d1, d2, d3, d4, d5, d6⟩ := D1
    go_wp2_with fail
    refine (rbtw_any _ _ _ _).mono ?_
    rintro e w2 ⟨rfl, rfl⟩
    rw [H.out]
    go_wp2_with fail
    refine (rbtw_any _ _ _ _).mono ?_
    rintro e w2 ⟨rfl, rfl⟩
    rw [H2.out]
    go_wp2_with fail
    (go_ret; exact ⟨rfl, bd⟩)
theorem rc3 (a b n : Int) (p : Option Addr) (lv c : Nat) (q : Option Addr) (lw f : Nat) (V W : Nat → Int) (w : World) (hV : Row w p lv V) (hW : Row w q lw W) (HU : Hid (unB 3 a b n lv lw = true)) :
 Calls Tryz.prog 142 #[.agg #[.int .i64 3, .int .i64 a, .int .i64 b, .int .i64 n, .slice p lv c, .slice q lw f]] w (Gives (.int .i64 (tabE lv lw V W)) w) := by
 go_enter Tryz.func142, Tryz.ntmps142
 go_wp2_with fail
 refine (runused_any _ _ _ _ _ _ _ _ _ _ _).mono ?_
 rintro e w1 ⟨rfl, hb1⟩
 rw [HU.out]
 have D1 := six.on hb1 six.new
 obtain ⟨d0, d1, d2, d3, d4, d5, d6⟩ := D1
 go_wp2_with fail
 refine (rtable_any _ _ _ _ _ _ _ _ _ _ V W _ (hV.alloc.on hb1) (hW.alloc.on hb1)).mono ?_
 rintro e w2 ⟨rfl, hb2⟩
 go_wp2_with fail
 (go_ret; exact ⟨rfl, bd⟩)
theorem rcheck_any (op a b n : Int) (p : Option Addr) (lv c : Nat) (q : Option Addr) (lw f : Nat) (V W : Nat → Int) (w : World) (hV : Row w p lv V) (hW : Row w q lw W) : Calls Tryz.prog 142 #[.agg #[.int .i64 op, .int .i64 a, .int .i64 b, .int .i64 n, .slice p lv c, .slice q lw f]] w (Gives (.int .i64 (errD op a b n lv lw V W)) w) := by
 cases hu : unB op a b n lv lw
 · rw [err_no hu]
   have HU := Lib.hid hu
   clear hu
   go_enter Tryz.func142, Tryz.ntmps142
   go_wp2_with fail
   refine (runused_any _ _ _ _ _ _ _ _ _ _ _).mono ?_
   rintro e w1 ⟨rfl, hb1⟩
   rw [HU.out]
   go_wp2_with fail
   (go_ret; exact ⟨rfl, bd⟩)
 · have h : op = 1 ∨ op = 2 ∨ op = 3 ∨ op = 4 ∨ op = 5 := by
    by_cases h1 : op = 1; · exact .inl h1
    by_cases h2 : op = 2; · exact .inr (.inl h2)
    by_cases h3 : op = 3; · exact .inr (.inr (.inl h3))
    by_cases h4 : op = 4; · exact .inr (.inr (.inr (.inl h4)))
    by_cases h5 : op = 5; · exact .inr (.inr (.inr (.inr h5)))
    unfold unB at hu
    rw [if_neg h1, if_neg h2, if_neg h3, if_neg h4, if_neg h5] at hu
    cases hu
   rcases h with rfl | rfl | rfl | rfl | rfl
   · rw [err_yes hu (by decide)]; exact rc1 a b n p lv c q lw f w (Lib.hid hu)
   · rw [err_yes hu (by decide)]; exact rc2 a b n p lv c q lw f w (Lib.hid hu)
   · rw [err_three hu]; exact rc3 a b n p lv c q lw f V W w hV hW (Lib.hid hu)
   · rw [err_yes hu (by decide)]; exact rc4 a b n p lv c q lw f w (Lib.hid hu)
   · rw [err_yes hu (by decide)]; exact rc5 a b n p lv c q lw f w (Lib.hid hu)
end Go.Proofs.YtaaffmbnhjaebaaGreat.Di
namespace Go.Proofs.YtaaffmbnhjaebaaGreat.Md
open Go.RowKit
open Go.Proofs.YtaaffmbnhjaebaaGreat.Sm (Dt dtE Ints)
open Go.Proofs.YtaaffmbnhjaebaaGreat.Ex (Gives)
set_option maxHeartbeats 4000000
set_option linter.unusedVariables false
theorem rdcheck_at {G : Nat → Prop} {w : World} (d : Dt) (vp : Option Addr) (vm vc : Nat) (wp : Option Addr) (wm wc : Nat) (h1 : Ints G w d.vs vp vm) (h2 : Ints G w d.ws wp wm) : Calls Tryz.prog 142 #[dv d vp vm vc wp wm wc] w (Gives (.int .i64 (dtE d)) w) := by
 have h := Di.rcheck_any d.op d.a d.b d.n vp d.vs.length vc wp d.ws.length wc _ _ w h1.row h2.row
 rw [show dtE d = Di.errD d.op d.a d.b d.n d.vs.length d.ws.length (fun i => d.vs.getD i 0) (fun i => d.ws.getD i 0) from rfl]
 rw [h1.1, h2.1] at h ⊢
 exact h
end Go.Proofs.YtaaffmbnhjaebaaGreat.Md
