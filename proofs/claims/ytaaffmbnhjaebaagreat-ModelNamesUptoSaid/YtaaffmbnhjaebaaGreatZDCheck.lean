/-
  Parts of this proof: The contracts of package dist's unused, checkLengths, inRanges, Check.
-/
import Derived.Test.YtaaffmbnhjaebaaGreatZNmMath
namespace Go.Proofs.YtaaffmbnhjaebaaGreat.Di
open Go.RowKit
set_option maxHeartbeats 2000000
def six (w : World) (b : Nat) (x0 x1 x2 x3 x4 x5 : Value) : Prop :=
 w.cell? ⟨b, 0, none⟩ = some x0 ∧ w.cell? ⟨b, 1, none⟩ = some x1 ∧ w.cell? ⟨b, 2, none⟩ = some x2 ∧ w.cell? ⟨b, 3, none⟩ = some x3 ∧ w.cell? ⟨b, 4, none⟩ = some x4 ∧ w.cell? ⟨b, 5, none⟩ = some x5 ∧ b < w.heap.size
section
variable {w w2 : World} {b : Nat} {x0 x1 x2 x3 x4 x5 : Value}
theorem six.call (h : six w b x0 x1 x2 x3 x4 x5) (hb : Below w.heap.size w w2) : six w2 b x0 x1 x2 x3 x4 x5 := by
 obtain ⟨h0, h1, h2, h3, h4, h5, h6⟩ := h
 exact ⟨(hb.cell (p := ⟨b, 0, none⟩) h6).trans h0, (hb.cell (p := ⟨b, 1, none⟩) h6).trans h1, (hb.cell (p := ⟨b, 2, none⟩) h6).trans h2, (hb.cell (p := ⟨b, 3, none⟩) h6).trans h3,
  (hb.cell (p := ⟨b, 4, none⟩) h6).trans h4, (hb.cell (p := ⟨b, 5, none⟩) h6).trans h5, Nat.lt_of_lt_of_le h6 hb.size⟩
theorem six.on (hb : Below w.heap.size w w2) (h : six w b x0 x1 x2 x3 x4 x5) : six w2 b x0 x1 x2 x3 x4 x5 := h.call hb
theorem six.drew (h : six w b x0 x1 x2 x3 x4 x5) : six w.drew b x0 x1 x2 x3 x4 x5 := h
theorem six.drewN (h : six w b x0 x1 x2 x3 x4 x5) (n : Nat) : six (w.drewN n) b x0 x1 x2 x3 x4 x5 := h
theorem six.alloc {o : Obj} (h : six w b x0 x1 x2 x3 x4 x5) : six (w.alloc o) b x0 x1 x2 x3 x4 x5 := h.call ((Below.refl _ _).alloc (Nat.le_refl _) o)
theorem six.new {t : TypeId} : six (w.alloc (.cells #[x0, x1, x2, x3, x4, x5] t)) w.heap.size x0 x1 x2 x3 x4 x5 := by
 refine ⟨?_, ?_, ?_, ?_, ?_, ?_, ?_⟩ <;> first | (go_simp; done) | (simp; done) | (simp; omega)
theorem six.keep (h : six w b x0 x1 x2 x3 x4 x5) : w.cell? ⟨b, 0, none⟩ = some x0 ∧ w.cell? ⟨b, 1, none⟩ = some x1 ∧ w.cell? ⟨b, 2, none⟩ = some x2 ∧ w.cell? ⟨b, 3, none⟩ = some x3 ∧ w.cell? ⟨b, 4, none⟩ = some x4 ∧ w.cell? ⟨b, 5, none⟩ = some x5 :=
 ⟨h.1, h.2.1, h.2.2.1, h.2.2.2.1, h.2.2.2.2.1, h.2.2.2.2.2.1⟩
end
theorem zDCheck_4 {p : Prop} (h : p := by simp [results, Tryz.results166, go_sem, *]) : p := h
theorem unused1 (a b n : Int) (p : Option Addr) (lv c : Nat) (q : Option Addr) (lw f : Nat) (w : World) : Calls Tryz.prog 166 #[.agg #[.int .i64 1, .int .i64 a, .int .i64 b, .int .i64 n, .slice p lv c, .slice q lw f]] w (Gives (.agg #[.int .i64 1, .int .i64 0, .int .i64 b, .int .i64 n, .slice p lv c, .slice q lw f]) w) := by
 go_enter Tryz.func166, Tryz.ntmps166
 go_wp2_with fail
 exact bodyPost_ret (v := .agg #[.int .i64 1, .int .i64 0, .int .i64 b, .int .i64 n, .slice p lv c, .slice q lw f]) zDCheck_4 rfl ⟨rfl, bd⟩
theorem unused2 (a b n : Int) (p : Option Addr) (lv c : Nat) (q : Option Addr) (lw f : Nat) (w : World) : Calls Tryz.prog 166 #[.agg #[.int .i64 2, .int .i64 a, .int .i64 b, .int .i64 n, .slice p lv c, .slice q lw f]] w (Gives (.agg #[.int .i64 2, .int .i64 0, .int .i64 0, .int .i64 n, .slice p lv c, .slice q lw f]) w) := by
 go_enter Tryz.func166, Tryz.ntmps166
 go_wp2_with fail
 exact bodyPost_ret (v := .agg #[.int .i64 2, .int .i64 0, .int .i64 0, .int .i64 n, .slice p lv c, .slice q lw f]) zDCheck_4 rfl ⟨rfl, bd⟩
theorem unused3 (a b n : Int) (p : Option Addr) (lv c : Nat) (q : Option Addr) (lw f : Nat) (w : World) : Calls Tryz.prog 166 #[.agg #[.int .i64 3, .int .i64 a, .int .i64 b, .int .i64 n, .slice p lv c, .slice q lw f]] w (Gives (.agg #[.int .i64 3, .int .i64 a, .int .i64 b, .int .i64 n, .slice none 0 0, .slice none 0 0]) w) := by
 go_enter Tryz.func166, Tryz.ntmps166
 go_wp2_with fail
 exact bodyPost_ret (v := .agg #[.int .i64 3, .int .i64 a, .int .i64 b, .int .i64 n, .slice none 0 0, .slice none 0 0]) zDCheck_4 rfl ⟨rfl, bd⟩
theorem unused4 (a b n : Int) (p : Option Addr) (lv c : Nat) (q : Option Addr) (lw f : Nat) (w : World) : Calls Tryz.prog 166 #[.agg #[.int .i64 4, .int .i64 a, .int .i64 b, .int .i64 n, .slice p lv c, .slice q lw f]] w (Gives (.agg #[.int .i64 4, .int .i64 0, .int .i64 0, .int .i64 0, .slice p lv c, .slice q lw f]) w) := by
 go_enter Tryz.func166, Tryz.ntmps166
 go_wp2_with fail
 exact bodyPost_ret (v := .agg #[.int .i64 4, .int .i64 0, .int .i64 0, .int .i64 0, .slice p lv c, .slice q lw f]) zDCheck_4 rfl ⟨rfl, bd⟩
theorem unused5 (a b n : Int) (p : Option Addr) (lv c : Nat) (q : Option Addr) (lw f : Nat) (w : World) : Calls Tryz.prog 166 #[.agg #[.int .i64 5, .int .i64 a, .int .i64 b, .int .i64 n, .slice p lv c, .slice q lw f]] w (Gives (.agg #[.int .i64 5, .int .i64 0, .int .i64 0, .int .i64 n, .slice p lv c, .slice q lw f]) w) := by
 go_enter Tryz.func166, Tryz.ntmps166
 go_wp2_with fail
 exact bodyPost_ret (v := .agg #[.int .i64 5, .int .i64 0, .int .i64 0, .int .i64 n, .slice p lv c, .slice q lw f]) zDCheck_4 rfl ⟨rfl, bd⟩
def lenE (n m : Nat) : Int := if n = m then (if n = 0 then 7 else if 20 < n then 6 else 0) else 8
theorem zDCheck_3 {p : Prop} (h : p := by
 go_enter Tryz.func167, Tryz.ntmps167
 go_wp2_with fail
 go_ret
 exact ⟨rfl, rfl⟩
 ) : p := h
theorem lens_any (n m : Nat) (w : World) : Calls Tryz.prog 167 #[.int .i64 n, .int .i64 m] w fun e w' => e = .returned (.int .i64 (lenE n m)) ∧ w = w' := by
 unfold lenE
 by_cases h : n = m
 · subst h
   rw [if_pos rfl]
   by_cases h0 : n = 0
   · subst h0
     rw [if_pos rfl]
     exact zDCheck_3
   · rw [if_neg h0]
     have h1 : ((n : Int) == 0) = false := by rw [beq_eq_false_iff_ne]; omega
     by_cases h2 : 20 < n
     · rw [if_pos h2]
       have h3 : (20 : Int) < (n : Int) := by omega
       clear h0
       exact zDCheck_3
     · rw [if_neg h2]
       have h3 : (n : Int) ≤ 20 := by omega
       clear h0
       exact zDCheck_3
 · rw [if_neg h]
   have h1 : ((n : Int) != (m : Int)) = true := by rw [bne_iff_ne]; omega
   have h2 : (n != m) = true := by rw [bne_iff_ne]; exact h
   exact zDCheck_3
theorem zDCheck_1 {p : Prop} (h : p := by
 go_wp2_with fail
 (go_ret; exact ⟨rfl, bd⟩)
 ) : p := h
theorem rng1 (a : Int) (x2 x3 x4 x5 : Value) (w : World) : Calls Tryz.prog 168 #[.agg #[.int .i64 1, .int .i64 a, x2, x3, x4, x5]] w (Gives (.bool (inB 0 a 1000000000)) w) := by
 go_enter Tryz.func168, Tryz.ntmps168
 go_wp2_with fail
 refine (btw_any _ _ _ _).mono ?_
 rintro e w1 ⟨rfl, rfl⟩
 exact zDCheck_1
theorem zDCheck_0 {p : Prop} (h : p := by
 go_enter Tryz.func168, Tryz.ntmps168
 go_wp2_with fail
 refine (btw_any _ _ _ _).mono ?_
 rintro e w1 ⟨rfl, rfl⟩
 rw [H.out]
 exact zDCheck_1
 ) : p := h
theorem rng2 (a b : Int) (x3 x4 x5 : Value) (w : World) : Calls Tryz.prog 168 #[.agg #[.int .i64 2, .int .i64 a, .int .i64 b, x3, x4, x5]] w (Gives (.bool (inB 0 a b && decide (b ≤ 1000000000))) w) := by
 cases h : inB 0 a b
 · have H := Lib.hid h
   clear h
   rw [Bool.false_and]
   exact zDCheck_0
 · have H := Lib.hid h
   clear h
   rw [Bool.true_and]
   exact zDCheck_0
theorem rng3 (x1 x2 x3 : Value) (p : Option Addr) (lv c : Nat) (q : Option Addr) (lw f : Nat) (V W : Nat → Int) (w : World) (hV : Row w p lv V) (hW : Row w q lw W) :
 Calls Tryz.prog 168 #[.agg #[.int .i64 3, x1, x2, x3, .slice p lv c, .slice q lw f]] w (Gives (.bool (allB 0 1000000000 V lv && allB 1 1000 W lw)) w) := by
 cases h : allB 0 1000000000 V lv
 · have H := Lib.hid h
   clear h
   rw [Bool.false_and]
   go_enter Tryz.func168, Tryz.ntmps168
   go_wp2_with fail
   refine (allb_any _ _ _ _ _ V _ hV.alloc).mono ?_
   rintro e w1 ⟨rfl, rfl⟩
   rw [H.out]
   exact zDCheck_1
 · have H := Lib.hid h
   clear h
   rw [Bool.true_and]
   go_enter Tryz.func168, Tryz.ntmps168
   go_wp2_with fail
   refine (allb_any _ _ _ _ _ V _ hV.alloc).mono ?_
   rintro e w1 ⟨rfl, rfl⟩
   rw [H.out]
   go_wp2_with fail
   refine (allb_any _ _ _ _ _ W _ hW.alloc).mono ?_
   rintro e w1 ⟨rfl, rfl⟩
   exact zDCheck_1
theorem zDCheck_2 {p : Prop} (h : p := by
 go_enter Tryz.func168, Tryz.ntmps168
 go_wp2_with fail
 refine (btw_any _ _ _ _).mono ?_
 rintro e w1 ⟨rfl, rfl⟩
 rw [H.out]
 go_wp2_with fail
 refine (btw_any _ _ _ _).mono ?_
 rintro e w1 ⟨rfl, rfl⟩
 rw [H2.out]
 exact zDCheck_1
 ) : p := h
theorem rng4 (a b n : Int) (x4 x5 : Value) (w : World) : Calls Tryz.prog 168 #[.agg #[.int .i64 4, .int .i64 a, .int .i64 b, .int .i64 n, x4, x5]] w (Gives (.bool (inB 1 n 20 && inB 0 a b && decide (b ≤ 1000000))) w) := by
 cases h : inB 1 n 20
 · have H := Lib.hid h
   clear h
   rw [Bool.false_and, Bool.false_and]
   exact zDCheck_0
 · have H := Lib.hid h
   clear h
   rw [Bool.true_and]
   cases h2 : inB 0 a b
   · have H2 := Lib.hid h2
     clear h2
     rw [Bool.false_and]
     exact zDCheck_2
   · have H2 := Lib.hid h2
     clear h2
     rw [Bool.true_and]
     exact zDCheck_2
theorem rng5 (a b : Int) (x3 x4 x5 : Value) (w : World) : Calls Tryz.prog 168 #[.agg #[.int .i64 5, .int .i64 a, .int .i64 b, x3, x4, x5]] w (Gives (.bool (inB 1 a 1000 && inB 1 b 1000)) w) := by
 cases h : inB 1 a 1000
 · have H := Lib.hid h
   clear h
   rw [Bool.false_and]
   exact zDCheck_0
 · have H := Lib.hid h
   clear h
   rw [Bool.true_and]
   go_enter Tryz.func168, Tryz.ntmps168
   go_wp2_with fail
   refine (btw_any _ _ _ _).mono ?_
   rintro e w1 ⟨rfl, rfl⟩
   rw [H.out]
   go_wp2_with fail
   refine (btw_any _ _ _ _).mono ?_
   rintro e w1 ⟨rfl, rfl⟩
   exact zDCheck_1
theorem check_out (op : Int) (x1 x2 x3 x4 x5 : Value) (h : op < 1 ∨ 5 < op) (w : World) : Calls Tryz.prog 149 #[.agg #[.int .i64 op, x1, x2, x3, x4, x5]] w (Gives (.int .i64 1) w) := by
 rcases h with h | h
 · have k1 : decide (op < 1) = true := decide_eq_true h
   go_enter Tryz.func149, Tryz.ntmps149
   go_wp2_with fail
   go_quiet (fail)
   exact zDCheck_1
 · have k1 : decide (op < 1) = false := decide_eq_false (by omega)
   have k2 : decide (5 < op) = true := decide_eq_true h
   go_enter Tryz.func149, Tryz.ntmps149
   go_wp2_with fail
   go_quiet (fail)
   exact zDCheck_1
end Go.Proofs.YtaaffmbnhjaebaaGreat.Di
