/-
  The contract of the reference's check of a node and its parts, and of the reference's Check and CheckCode.
-/
import Derived.Test.YtfkenbdfakjeoaaESmall
import Derived.Test.YtfkenbdfakjeoaaERNode
import Derived.Test.YtfkenbdfakjeoaaNmRCheck
namespace Go.Proofs.Ytfkenbdfakjeoaa.Ex
open Go.RowKit
open Go.Proofs.Ytfkenbdfakjeoaa.Na (bs bs_inj chk)
set_option maxHeartbeats 4000000
set_option linter.unusedVariables false
theorem bad_mk {c : Bool} {o n : Int} {s : ByteArray} {l : List Ex} : bad c (pre (.mk o s n l)) = if nd c o (bs s) n l.length = 0 then bad c (preL l) else nd c o (bs s) n l.length := by rw [pre_one, bad]; rfl
theorem badL_step {c : Bool} {l : List Ex} {k : Nat} {x : Ex} (hx : l[k]? = some x) (h : bad c (preL (l.take k)) = 0) : bad c (preL (l.take (k + 1))) = bad c (pre x) := by rw [preL_take hx, bad_app_yes h]
theorem badL_stop {c : Bool} {l : List Ex} {k : Nat} {x : Ex} (hx : l[k]? = some x) (h : bad c (preL (l.take k)) = 0) (g : ¬ bad c (pre x) = 0) : bad c (preL l) = bad c (pre x) := by
  have h1 := badL_step hx h
  have h2 := preL_app (l.take (k + 1)) (l.drop (k + 1))
  rw [List.take_append_drop] at h2
  rw [h2, bad_app_no (by rw [h1]; exact g), h1]
theorem emp_no' {s : ByteArray} (h : ¬ bs s = []) : s.toList.isEmpty = false := by
  rw [Lib.toList_data]
  show (bs s).isEmpty = false
  cases g : bs s with
  | nil => exact absurd g h
  | cons x t => rfl
theorem emp_yes' {s : ByteArray} (h : bs s = []) : s.toList.isEmpty = true := by
  rw [Lib.toList_data]
  show (bs s).isEmpty = true
  rw [h]; rfl
theorem box4_drewN {w : World} {g : Nat} {o : Int} {s : ByteArray} {n : Int} {p : Option Addr} {m c : Nat} (h : box4 w g o s n p m c) (k : Nat) : box4 (w.drewN k) g o s n p m c := h
theorem arity_gives {o x : Int} (h : ari o = x) (w : World) : Calls Try.prog 58 #[.int .i64 o] w fun e w' => e = .returned (.int .i64 x) ∧ w' = w := by rw [← h]; exact arity_any o w
theorem object_gives {o : Int} {x : Bool} (h : obj o = x) (w : World) : Calls Try.prog 53 #[.int .i64 o] w fun e w' => e = .returned (.bool x) ∧ w' = w := by rw [← h]; exact object_any o w
theorem rcheck_gives {s : ByteArray} {x : Int} (h : chk (bs s) = x) (hs : s.size ≤ 9223372036854775807) (w : World) : Calls Try.prog 61 #[.string s] w (Gives (.int .i64 x) w) := by rw [← h]; exact Na.rcheck_any s w hs
theorem most_gives {o x : Int} (h : most o = x) (w : World) : Calls Try.prog 60 #[.int .i64 o] w fun e w' => e = .returned (.int .i64 x) ∧ w' = w := by rw [← h]; exact most_any o w
theorem rin_gives {n : Int} {x : Bool} (h : inI n = x) (w : World) : Calls Try.prog 59 #[.int .i64 n] w fun e w' => e = .returned (.bool x) ∧ w' = w := by rw [← h]; exact rin_any n w
section
variable {c : Bool} {o n : Int} {s : List UInt8} {m : Nat}
theorem nb_bad (h : badF c o s n m = true) : nd c o s n m = 1 := by unfold nd; rw [if_pos h]
theorem nb_kn (h : known c o = false) : nd c o s n m = 1 := nb_bad (by unfold badF; rw [h]; simp)
theorem nb_s (h : named c o = false) (g : ¬ s = []) : nd c o s n m = 1 := nb_bad (by unfold badF; rw [h, decide_eq_false g]; simp)
theorem nb_n (h : numbered c o = false) (g : ¬ n = 0) : nd c o s n m = 1 := nb_bad (by unfold badF; rw [h, decide_eq_false g]; simp)
theorem nb_m {A : Int} (h : ari o = A) (g : ¬ (m : Int) = A) : nd c o s n m = 1 := nb_bad (by unfold badF; rw [h, decide_eq_false g]; simp)
theorem nb_fair {a b : Bool} {A : Int} (h : known c o = true) (hn : named c o = a) (hb : numbered c o = b) (hA : ari o = A) (h1 : a = true ∨ s = []) (h2 : b = true ∨ n = 0) (h3 : (m : Int) = A) : nd c o s n m = if badR c o n then 2 else if a then chk s else 0 := by
  have hf : badF c o s n m = false := by
    unfold badF
    rw [h, hn, hb, hA, decide_eq_true h3]
    rcases h1 with h1 | h1 <;> rcases h2 with h2 | h2 <;> simp [h1, h2]
  unfold nd
  rw [if_neg (by rw [hf]; decide), hn]
end
def IHn (cc : Bool) (l : List Ex) : Prop := ∀ x ∈ l, ∀ (p : Option Addr) (m c : Nat) (w : World), In w x p m → Sz x → Calls Try.prog 48 #[.agg #[.int .i64 x.o, .string x.s, .int .i64 x.n, .slice p m c], .bool cc] w (Gives (.int .i64 (bad cc (pre x))) w)
end Go.Proofs.Ytfkenbdfakjeoaa.Ex
