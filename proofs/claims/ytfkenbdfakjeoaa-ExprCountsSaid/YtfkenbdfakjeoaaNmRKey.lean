/-
  The contract of the reference's Keyword.
-/
import Derived.Test.YtfkenbdfakjeoaaNmFind
namespace Go.Proofs.Ytfkenbdfakjeoaa.Na
open Go.RowKit
set_option maxHeartbeats 2000000
def sv (l : List ByteArray) : List Value := l.map Value.string
theorem sv_get {l : List ByteArray} {i : Nat} (h : i < l.length) : (sv l)[i]? = some (.string (l[i])) := by unfold sv; simp [h]
theorem strs_lit {w : World} {l : List ByteArray} {cs : Array Value} (h : (sv l).toArray = cs) (hl : l.length ≤ 9223372036854775807) : Strs (w.alloc (.cells cs 9)) (some ⟨w.heap.size, 0, none⟩) l.length l := by
  subst h
  refine ⟨rfl, hl, .inr ⟨_, _, rfl, by simp, Lib.hid fun i hi => ?_⟩⟩
  rw [World.cell?_alloc_mark, Nat.zero_add, List.getElem?_toArray]
  exact sv_get hi
def mkS (l : List UInt8) : ByteArray := ⟨l.toArray⟩
theorem bs_mk (l : List UInt8) : bs (mkS l) = l := rfl
def kwS : List ByteArray := kwl.map mkS
theorem fst_has (s : ByteArray) : ∀ L : List (List UInt8), decide (0 ≤ fst (L.map mkS) s) = L.contains (bs s)
  | [] => rfl
  | x :: t => by
    have ih := fst_has s t
    have h0 : (fst ((x :: t).map mkS) s) = if x = bs s then 0 else if fst (t.map mkS) s = -1 then -1 else fst (t.map mkS) s + 1 := rfl
    rw [h0, List.contains_cons, ← ih]
    by_cases h : x = bs s
    · rw [if_pos h, h]; simp
    · rw [if_neg h]
      have hb : (bs s == x) = false := beq_eq_false_iff_ne.2 fun g => h g.symm
      rw [hb, Bool.false_or]
      have := fst_ge s (t.map mkS)
      by_cases h2 : fst (t.map mkS) s = -1
      · rw [if_pos h2, h2]
      · rw [if_neg h2]
        rw [decide_eq_decide]
        omega
theorem fst_kw (s : ByteArray) : decide (0 ≤ fst kwS s) = isKw (bs s) := fst_has s kwl
set_option maxRecDepth 100000 in
theorem keywords_any (w : World) : Calls Try.prog 87 #[] w fun e w' => e = .returned (.slice (some ⟨w.heap.size, 0, none⟩) 73 73) ∧ Strs w' (some ⟨w.heap.size, 0, none⟩) 73 kwS ∧ Below w.heap.size w w' := by
  go_enter Try.func87, Try.ntmps87
  go_wp2_with fail
  go_ret
  exact ⟨rfl, strs_lit (l := kwS) (by kernel_rfl) (by decide), bl_alloc (Below.refl _ _)⟩
theorem rkeyword_any (s : ByteArray) (w : World) : Calls Try.prog 79 #[.string s] w (Gives (.bool (isKw (bs s))) w) := by
  have HR := Lib.hid (fst_kw s)
  go_enter Try.func79, Try.ntmps79
  go_wp2_with fail
  refine (keywords_any w).mono ?_
  rintro e w1 ⟨rfl, hs, hb1⟩
  have I1 := rfind_any (some ⟨w.heap.size, 0, none⟩) 73 73 kwS s w1 hs
  obtain ⟨x, hx⟩ : ∃ x, fst kwS s = x := ⟨_, rfl⟩
  rw [hx] at I1 HR
  clear hs hx
  go_wp2_with fail
  refine I1.mono ?_
  rintro e w2 ⟨rfl, rfl⟩
  clear I1
  by_cases h : 0 ≤ x
  · have t : decide (0 ≤ x) = true := decide_eq_true h
    rw [t] at HR
    go_wp2_with fail
    go_ret
    exact ⟨ret_bool HR.out, hb1⟩
  · have t : decide (0 ≤ x) = false := decide_eq_false h
    rw [t] at HR
    go_wp2_with fail
    go_ret
    exact ⟨ret_bool HR.out, hb1⟩
end Go.Proofs.Ytfkenbdfakjeoaa.Na
