/-
  The contracts of the reference's object and Uses.
-/
import Derived.Test.YtonlmnlpofgccaaPWith
namespace Go.Proofs.Ytonlmnlpofgccaa.Sm
open Go.RowKit
open Go.Proofs.Ytonlmnlpofgccaa.Na (bs bs_inj chk)
open Go.Proofs.Ytonlmnlpofgccaa.Ex (Ex Nm Kin In Sz Lo Gives bl_alloc bl_drewN bl_drew bl_set bl_call block_lt Txs OwnT tbs tb bs_tb tb_bs eq_yes eq_no take_one take_snoc ins ins_is ins_old Inc insA insA_inc insA_len insA_app insA_take inc_unique inc_ins mem_ins inc_nil str_info)
set_option maxHeartbeats 2000000
set_option linter.unusedVariables false
attribute [local go_sem] cs0 cs1 cs2 cs3 cs4 cs5 cs6 cs7 cs8 cs9 cs10 cs11 cs12 cs13 cs14 cs15 cs16 cs17 cs18 cs19 cs20
theorem rwith_any (l : List Nm) (v : Value) (s : ByteArray) (lo : Nat) (w : World) (hi : Inc l) (ho : OwnT lo w v l) (hn : l.length ≤ 900000) (hlo : lo ≤ w.heap.size) : Calls Try.prog 28 #[v, .string s] w (GivesO lo (ins l (bs s)) w) := by
  rcases own_opts ho with ⟨rfl, rfl⟩ | ⟨g, cap, rfl, h1, h2, h3, h4, h5⟩
  · exact with_nil s lo w hlo
  · exact with_some l g cap s lo w hi ho hn hlo h3 h4 h2 h5
theorem rwith_gives {l : List Nm} {x : Nm} {O : List Nm} (h : ins l x = O) {v : Value} {lo : Nat} {w : World} (hi : Inc l) (ho : OwnT lo w v l) (hn : l.length ≤ 900000) (hlo : lo ≤ w.heap.size) : Calls Try.prog 28 #[v, .string (tb x)] w (GivesO lo O w) := by
  subst h
  exact rwith_any l v (tb x) lo w hi ho hn hlo
def objB (x : St) : Bool := oN x.o || decide (x.o = 2)
def objS (x : St) : ByteArray := if oN x.o then x.nm else if x.o = 2 then x.f else nE
theorem use_obj (x : St) : use x = if objB x then [bs (objS x)] else [] := by
  unfold use objB objS
  cases oN x.o with
  | true => rfl
  | false =>
    by_cases h : x.o = 2
    · rw [decide_eq_true h]; simp [h]
    · rw [decide_eq_false h]; simp [h]
set_option maxRecDepth 100000 in
theorem robject_any (x : St) (P : Pl) (w : World) : Calls Try.prog 27 #[.agg (cs x P)] w (fun e w' => e = .returned (.tuple #[.string (objS x), .bool (objB x)]) ∧ Below w.heap.size w w') := by
  cases ho : oN x.o with
  | true =>
    have h1 : objS x = x.nm := by unfold objS; rw [ho]; rfl
    have h2 : objB x = true := by unfold objB; rw [ho]; rfl
    rw [h1, h2]
    clear h1 h2
    obtain h | h | h | h | h | h | h | h | h | h : x.o = 6 ∨ x.o = 7 ∨ x.o = 8 ∨ x.o = 9 ∨ x.o = 10 ∨ x.o = 11 ∨ x.o = 12 ∨ x.o = 15 ∨ x.o = 16 ∨ x.o = 17 := by simpa [oN] using ho
    all_goals
      clear ho
      go_enter Try.func27, Try.ntmps27
      go_wp2_with fail
      go_ret2
      exact ⟨rfl, by (repeat (first | (with_reducible exact Below.refl _ _) | (with_reducible assumption) | (with_reducible apply bl_alloc) | (with_reducible apply bl_drewN) | (with_reducible apply bl_drew) | (with_reducible refine bl_set ?_ (by first | (simp; done) | (simp; omega)) _) | (with_reducible refine bl_call ?_ (by assumption))))⟩
  | false =>
    have n6 := beq_eq_false_iff_ne.2 (show ¬ x.o = 6 from fun e => by rw [e] at ho; cases ho)
    have n7 := beq_eq_false_iff_ne.2 (show ¬ x.o = 7 from fun e => by rw [e] at ho; cases ho)
    have n8 := beq_eq_false_iff_ne.2 (show ¬ x.o = 8 from fun e => by rw [e] at ho; cases ho)
    have n9 := beq_eq_false_iff_ne.2 (show ¬ x.o = 9 from fun e => by rw [e] at ho; cases ho)
    have n10 := beq_eq_false_iff_ne.2 (show ¬ x.o = 10 from fun e => by rw [e] at ho; cases ho)
    have n11 := beq_eq_false_iff_ne.2 (show ¬ x.o = 11 from fun e => by rw [e] at ho; cases ho)
    have n12 := beq_eq_false_iff_ne.2 (show ¬ x.o = 12 from fun e => by rw [e] at ho; cases ho)
    have n15 := beq_eq_false_iff_ne.2 (show ¬ x.o = 15 from fun e => by rw [e] at ho; cases ho)
    have n16 := beq_eq_false_iff_ne.2 (show ¬ x.o = 16 from fun e => by rw [e] at ho; cases ho)
    have n17 := beq_eq_false_iff_ne.2 (show ¬ x.o = 17 from fun e => by rw [e] at ho; cases ho)
    by_cases h2 : x.o = 2
    · have h3 : objS x = x.f := by unfold objS; rw [ho, if_pos h2]; rfl
      have h4 : objB x = true := by unfold objB; rw [ho, decide_eq_true h2]; rfl
      rw [h3, h4]
      clear h3 h4 ho
      have n2 : (x.o == 2) = true := beq_iff_eq.2 h2
      clear h2
      go_enter Try.func27, Try.ntmps27
      go_wp2_with fail
      go_ret2
      exact ⟨rfl, by (repeat (first | (with_reducible exact Below.refl _ _) | (with_reducible assumption) | (with_reducible apply bl_alloc) | (with_reducible apply bl_drewN) | (with_reducible apply bl_drew) | (with_reducible refine bl_set ?_ (by first | (simp; done) | (simp; omega)) _) | (with_reducible refine bl_call ?_ (by assumption))))⟩
    · have h3 : objS x = nE := by unfold objS; rw [ho, if_neg h2]; rfl
      have h4 : objB x = false := by unfold objB; rw [ho, decide_eq_false h2]; rfl
      rw [h3, h4]
      clear h3 h4 ho
      have n2 := beq_eq_false_iff_ne.2 h2
      clear h2
      go_enter Try.func27, Try.ntmps27
      go_wp2_with fail
      go_ret2
      exact ⟨rfl, by (repeat (first | (with_reducible exact Below.refl _ _) | (with_reducible assumption) | (with_reducible apply bl_alloc) | (with_reducible apply bl_drewN) | (with_reducible apply bl_drew) | (with_reducible refine bl_set ?_ (by first | (simp; done) | (simp; omega)) _) | (with_reducible refine bl_call ?_ (by assumption))))⟩
abbrev usL (l : List St) : List Nm := insA [] (uses (ordL l))
theorem usL_inc (l : List St) : Inc (usL l) := (insA_inc (l := uses (ordL l)) inc_nil).1
theorem usL_len (l : List St) : (usL l).length ≤ cnL l := by
  have h1 := insA_len (uses (ordL l)) []
  have h2 := uses_len (ordL l)
  rw [ordL_len] at h2
  simp at h1
  unfold usL
  omega
theorem usL_take {l : List St} {k : Nat} {x : St} (h : l[k]? = some x) : usL (l.take (k + 1)) = insA (insA (usL (l.take k)) (use x)) (usL x.bo ++ usL x.el) := by
  have i0 := usL_inc (l.take k)
  have i1 := insA_inc (l := use x) i0
  have i2 := insA_inc (l := usL x.bo ++ usL x.el) i1.1
  refine inc_unique (usL_inc _) i2.1 fun y => ?_
  rw [i2.2, i1.2, List.mem_append, (insA_inc (l := uses (ordL (l.take (k + 1)))) inc_nil).2, (insA_inc (l := uses (ordL (l.take k))) inc_nil).2, (insA_inc (l := uses (ordL x.bo)) inc_nil).2, (insA_inc (l := uses (ordL x.el)) inc_nil).2, ordL_take h, uses_app, uses_ord, List.mem_append, List.mem_append, List.mem_append]
  simp only [List.not_mem_nil, false_or, or_assoc]
end Go.Proofs.Ytonlmnlpofgccaa.Sm
